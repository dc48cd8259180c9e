import Derived.Test.YtlbpnlngckgcbaaGreatDoorNeeds
import Derived.Test.YtlbpnlngckgcbaaGreatDoorFR
import Derived.Laws.StructEq
namespace Go.Proofs.YtlbpnlngckgcbaaGreatDoor
open Go.RowKit Go.PlainAid
set_option linter.unusedSimpArgs false
set_option linter.unusedVariables false

def needsAtP (ts : List Ty) (s : Sp) : List Sp := match findTy ts s.1 with
  | none => []
  | some t => match findRl t s.2 with
    | none => []
    | some r => needsP ts t r r.body

set_option maxHeartbeats 2000000 in
set_option maxRecDepth 100000 in
theorem needsAt_any (b : Nat) (sv : Value) (ts : List Ty) (tl : List (Ty × Value)) (s1 s2 : ByteArray) (w : World) (h : MC b w sv ts tl) :
    Calls Tryz.prog 209 #[.agg #[sv], .agg #[.string s1, .string s2]] w fun e' w' => ∃ sv, e' = .returned sv ∧ Below w.heap.size w w' ∧ RepSp w.heap.size w' sv (needsAtP ts (s1, s2)) := by
  obtain ⟨ma, mn, mc, rfl⟩ := h.form
  have W0 : Below w.heap.size w ((w.alloc (.cells #[.slice ma mn mc] 75)).alloc (.cells #[.string s1, .string s2] 291)) := ((Below.refl _ _).alloc (Nat.le_refl _) _).alloc (by simp) _
  have HM0 := hide (h.below W0)
  have MB := hide ((Blk.new w #[.slice ma mn mc] 75).alloc (.cells #[.string s1, .string s2] 291))
  have SB := hide (Blk.new' (w.alloc (.cells #[.slice ma mn mc] 75)) #[.string s1, .string s2] 291 (w.heap.size + 1) (by simp))
  have HW0 := hide W0
  clear W0 h
  unfold needsAtP
  cases hf : findTy ts s1 with
  | none =>
    have C := hide (findR_none b _ ts tl s1 s2 _ (unhide HM0) hf)
    clear hf
    simp only
    go_enter Tryz.func209, Tryz.ntmps209
    go_wp2_with fail
    refine (unhide C).mono ?_
    rintro e w1 ⟨rfl, hb1⟩
    have B1 := hide ((unhide HW0).trans (hb1.mono (unhide HW0).size))
    have sz := (unhide B1).size
    clear hb1
    unfold errv
    go_wp2
    go_ret
    exact ⟨_, rfl, (by repeat (first | with_reducible exact unhide B1 | with_reducible refine Below.drew ?_ | (with_reducible refine Below.setCell ?_ ?_ _; rotate_left; exact (by first | omega | (simp; omega) | simp | (simp; done))) | (with_reducible refine Below.alloc ?_ ?_ _; rotate_left; exact (by first | omega | (simp; omega) | simp | (simp; done))))), RepSp.nil _ _⟩
  | some t =>
    simp only
    cases hq : findRl t s2 with
    | none =>
      obtain ⟨va, vn, vc, hcall⟩ := findR_miss b _ ts tl s1 s2 _ (unhide HM0) t hf hq
      have C := hide hcall
      clear hf hq hcall
      simp only
      go_enter Tryz.func209, Tryz.ntmps209
      go_wp2_with fail
      refine (unhide C).mono ?_
      rintro e w1 ⟨rfl, hb1⟩
      have B1 := hide ((unhide HW0).trans (hb1.mono (unhide HW0).size))
      have sz := (unhide B1).size
      clear hb1
      unfold errv
      go_wp2
      go_ret
      exact ⟨_, rfl, (by repeat (first | with_reducible exact unhide B1 | with_reducible refine Below.drew ?_ | (with_reducible refine Below.setCell ?_ ?_ _; rotate_left; exact (by first | omega | (simp; omega) | simp | (simp; done))) | (with_reducible refine Below.alloc ?_ ?_ _; rotate_left; exact (by first | omega | (simp; omega) | simp | (simp; done))))), RepSp.nil _ _⟩
    | some r =>
      obtain ⟨va, vn, vc, rl, ra, rv, hmem, hrc, hrep, hcall⟩ := findR_yes b _ ts tl s1 s2 _ (unhide HM0) t hf r hq
      have C := hide hcall
      have okp := hrc.okp r hmem
      have HRC := hide hrc
      have HREP := hide hrep
      have HMEM := hide hmem
      clear hf hq hcall hrc hrep hmem
      simp only
      go_enter Tryz.func209, Tryz.ntmps209
      go_wp2_with fail
      refine (unhide C).mono ?_
      rintro e w1 ⟨rfl, hb1⟩
      have b1 := hb1.alloc hb1.size (.cells #[.int .i64 t.place, .string t.name, .slice va vn vc] 110)
      have b2 := b1.alloc b1.size (.cells #[.int .i64 r.place, .string r.name, .iface ra rv] 159)
      have B2 := hide ((unhide HW0).trans (b2.mono (unhide HW0).size))
      have RC2 := hide ((unhide HRC).below b2)
      have HM2 := hide ((unhide HM0).below b2)
      have X2 := hide ((unhide HREP).but (But.of_below b2))
      have m0 : w1.cell? ⟨w.heap.size, 0, none⟩ = some (.slice ma mn mc) := ((unhide MB).below hb1).cell rfl
      have ml := ((unhide MB).below hb1).lt
      have sz2 := (unhide B2).size
      clear hb1 b1 b2 C
      go_wp2_with fail
      refine (needs_any b _ ts tl t _ rl r _ r.body _ _ (unhide HM2) (unhide RC2) (unhide X2) (unhide HMEM) (unhide X2) okp).mono ?_
      rintro e w3 ⟨sv3, rfl, hb3, hrs⟩
      have B3 := hide ((unhide B2).trans (hb3.mono (unhide B2).size))
      have S3 := hide (hrs.base sz2)
      clear hb3 hrs
      go_wp2
      go_ret
      exact ⟨_, rfl, unhide B3, unhide S3⟩

def eqSp (a c : Sp) : Bool := eqs a.1 c.1 && eqs a.2 c.2

theorem eqSpot (a c x y : ByteArray) (w : World) : (Op.equalIn 10000 291 (.agg #[.string a, .string c]) (.agg #[.string x, .string y])).run Tryz.prog w = .ok (eqSp (a, c) (x, y)) w := by
  have u9 := Tryz.underlying9
  rw [show (10000 : Nat) = 9999 + 1 from rfl, run_equalIn_agg w 9999 291 _ _ (by kernel_rfl) (by kernel_rfl)]
  simp only [Program.fieldsOf, Tryz.underlying291]
  go_simp
  rw [show eqSp (a, c) (x, y) = (decide (a.toList = x.toList) && decide (c.toList = y.toList)) from by
    unfold eqSp eqs
    rw [toList_lst, toList_lst, toList_lst, toList_lst]
    simp [Bool.beq_eq_decide_eq]]
  by_cases h1 : a.toList = x.toList <;> by_cases h2 : c.toList = y.toList <;> simp [h1, h2]
theorem drewN_heap (w : World) : ∀ n, (w.drewN n).heap = w.heap
  | 0 => rfl
  | n + 1 => rfl
theorem Blk.drewN {w : World} {g : Nat} {cs : Array Value} {T : TypeId} (h : Blk w g cs T) (n : Nat) : Blk (w.drewN n) g cs T := by unfold Blk; rw [drewN_heap]; exact h
theorem guardSpot (x y : Operand) (xs ys : Array Value) (w : World) : (eqGuard .eql 291 x y (.agg xs) (.agg ys)).run Tryz.prog w = .ok () w := run_eqGuard_agg w .eql 291 x y xs ys (by kernel_rfl)

set_option maxHeartbeats 2000000 in
set_option maxRecDepth 100000 in
theorem indexSp (base : Nat) (v : Value) (l : List Sp) (x : Sp) (w : World) (hl : l.length ≤ 10000000000000) (h : w.ownsRow base 291 2 v l.length (spCells l)) :
    Calls Tryz.prog 224 #[v, .agg #[.string x.1, .string x.2]] w fun e w' => ∃ n : Int, e = .returned (.int .i64 n) ∧ decide (0 ≤ n) = l.any (fun y => eqSp x y) ∧ Below w.heap.size w w' := by
  obtain ⟨sa, sc, rfl⟩ := own_form h
  have H := hide h
  have eqs0 := eqSpot
  have gds0 := guardSpot
  clear h
  go_enter Tryz.func224, Tryz.ntmps224
  go_wp2
  go_loopw [5, 8] (fun u i wr => ∃ k : Nat, k ≤ l.length ∧ i = .int .i64 k ∧ Below w.heap.size w wr ∧ Blk wr w.heap.size #[.string x.1, .string x.2] 291 ∧ Hid (∀ j, (h : j < l.length) → j < k → eqSp x l[j] = false)) (fun _ i _ => l.length - (intOf i).toNat)
  case atStart => exact ⟨0, by omega, rfl, (Below.refl _ _).alloc (Nat.le_refl _) _, Blk.new _ _ _, hide (fun j e h => by omega)⟩
  case round =>
    obtain ⟨k, hk, rfl, hb, hbx, Hall⟩ := hrel
    have HB := hide hb
    have HBX := hide hbx
    by_cases hlt : k < l.length
    · obtain ⟨g, c, e1, k0, k1⟩ := Row2.cell (ownsRow_frame (w' := wr) (unhide H) (fun g cs f _ hh => hb.block g (lt_of_some hh))) k l[k] (List.getElem?_eq_getElem hlt)
      simp only [Value.slice.injEq] at e1
      obtain ⟨rfl, _, rfl⟩ := e1
      obtain ⟨b0, b1⟩ := hbx.two
      have hkn : (k : Int) < (l.length : Int) := by omega
      have hk0 : (0 : Int) ≤ (k : Int) := by omega
      clear hb hbx
      cases he : eqSp x l[k]
      · have he' : eqSp (x.1, x.2) (l[k].1, l[k].2) = false := he
        have Hn := hide (show ∀ j, (h : j < l.length) → j < k + 1 → eqSp x l[j] = false from fun j h h' => by
          by_cases e : j = k
          · subst e; exact he
          · exact unhide Hall j h (by omega))
        clear he
        go_wp2
        go_quiet (fail)
        go_wp2
        go_roundw
        case rel => exact ⟨k + 1, by omega, by go_num, below_drewN (unhide HB) _, (unhide HBX).drewN _, Hn⟩
        case measure => simp [intOf]; omega
      · have he' : eqSp (x.1, x.2) (l[k].1, l[k].2) = true := he
        have Hfin := hide (show l.any (fun y => eqSp x y) = true from List.any_eq_true.2 ⟨l[k], List.getElem_mem hlt, he⟩)
        clear he
        go_wp2
        go_quiet (fail)
        go_wp2
        go_ret
        exact ⟨k, rfl, by rw [unhide Hfin]; simp, below_drewN (unhide HB) _⟩
    · have Hfin := hide (show l.any (fun y => eqSp x y) = false from by
        rw [List.any_eq_false]
        intro y hy
        obtain ⟨j, hj, rfl⟩ := List.getElem_of_mem hy
        rw [unhide Hall j hj (by omega)]; simp)
      have hkn : ¬ ((k : Int) < (l.length : Int)) := by omega
      clear hb hbx
      go_wp2
      go_ret
      exact ⟨-1, rfl, by rw [unhide Hfin]; decide, unhide HB⟩

set_option maxHeartbeats 1000000 in
set_option maxRecDepth 100000 in
theorem containsSp (base : Nat) (v : Value) (l : List Sp) (x : Sp) (w : World) (hl : l.length ≤ 10000000000000) (h : w.ownsRow base 291 2 v l.length (spCells l)) :
    Calls Tryz.prog 176 #[v, .agg #[.string x.1, .string x.2]] w fun e w' => e = .returned (.bool (l.any (fun y => eqSp x y))) ∧ Below w.heap.size w w' := by
  have C := hide (fun w' (hb : Below w.heap.size w w') => indexSp base v l x w' hl (ownsRow_frame h (fun g cs f _ hh => hb.block g (lt_of_some hh))))
  obtain ⟨sa, sc, rfl⟩ := own_form h
  clear h
  go_enter Tryz.func176, Tryz.ntmps176
  go_wp2_with fail
  refine (unhide C _ ((Below.refl _ _).alloc (Nat.le_refl _) _)).mono ?_
  rintro e w1 ⟨n, rfl, hn, hb1⟩
  have B1 := hide (((Below.refl _ w).alloc (Nat.le_refl _) (.cells #[.string x.1, .string x.2] 291)).trans (hb1.mono (by simp)))
  have HN := hide hn
  clear hn hb1
  go_wp2
  go_ret
  exact ⟨by rw [← unhide HN]; rfl, unhide B1⟩

/-! What hangs on what. -/
theorem eqs_iff (a c : ByteArray) : eqs a c = true ↔ a = c := by
  unfold eqs
  rw [beq_iff_eq]
  constructor
  · intro h; rw [← mk_lst a, ← mk_lst c, h]
  · rintro rfl; rfl
theorem eqSp_iff (a c : Sp) : eqSp a c = true ↔ a = c := by
  unfold eqSp
  rw [Bool.and_eq_true, eqs_iff, eqs_iff]
  obtain ⟨a1, a2⟩ := a
  obtain ⟨c1, c2⟩ := c
  simp
end Go.Proofs.YtlbpnlngckgcbaaGreatDoor
