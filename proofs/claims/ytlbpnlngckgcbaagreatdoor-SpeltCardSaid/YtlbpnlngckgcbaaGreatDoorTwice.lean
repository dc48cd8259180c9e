import Derived.Test.YtlbpnlngckgcbaaGreatDoorFind2
namespace Go.Proofs.YtlbpnlngckgcbaaGreatDoor
open Go.RowKit Go.PlainAid
set_option linter.unusedSimpArgs false
set_option linter.unusedVariables false

/-- An error with its place. -/
def placed (p c : Nat) : Value := .iface 147 (.agg #[.int .i64 p, errv c])
def errO (c : Nat) : Option Nat → Value
  | none => .nilIface
  | some p => placed p c
set_option maxHeartbeats 400000 in
theorem wrap_err (p c : Nat) (w : World) : Calls Tryz.prog 73 #[.int .i64 p, .iface 134 (.int .i64 c)] w fun e w' => e = .returned (placed p c) ∧ w' = w := by
  go_enter Tryz.func73, Tryz.ntmps73
  go_wp2
  go_ret
  exact ⟨rfl, rfl⟩
set_option maxHeartbeats 400000 in
theorem wrap_nil (p : Nat) (w : World) : Calls Tryz.prog 73 #[.int .i64 p, .nilIface] w fun e w' => e = .returned .nilIface ∧ w' = w := by
  go_enter Tryz.func73, Tryz.ntmps73
  go_wp2
  go_ret
  exact ⟨rfl, rfl⟩

def twice3 : List E3 → List E3 → Option Nat
  | _, [] => none
  | ah, e :: r => if (find3 e.2.1 ah).isSome then some e.1 else twice3 (ah ++ [e]) r
theorem twice3_step (l : List E3) (k : Nat) (hk : k < l.length) : twice3 (l.take k) (l.drop k) = if (find3 l[k].2.1 (l.take k)).isSome then some l[k].1 else twice3 (l.take (k + 1)) (l.drop (k + 1)) := by
  rw [List.drop_eq_getElem_cons hk, twice3, List.take_succ_eq_append_getElem hk]
theorem c3_take (l : List E3) (k : Nat) (hk : k < l.length) : (l.take (k + 1)).flatMap c3 = (l.take k).flatMap c3 ++ c3 l[k] := by
  rw [List.take_succ_eq_append_getElem hk, List.flatMap_append]; simp

set_option maxHeartbeats 2000000 in
set_option maxRecDepth 100000 in
theorem twiceR_any (pp : Nat) (nn : ByteArray) (v : Value) (l : List E3) (w : World) (hn : l.length ≤ 1000) (h : Row3 w 159 v l) (hi3 : ∀ e ∈ l, ∃ t x, e.2.2 = .iface t x) :
    Calls Tryz.prog 173 #[.agg #[.int .i64 pp, .string nn, v]] w fun e w' => e = .returned (errO 4 (twice3 [] l)) ∧ Below w.heap.size w w' := by
  obtain ⟨i0, hi, hz0, hz1, hz2⟩ := info_parts Tryz.info159
  have HI := hide hi
  have HZ0 := hide hz0
  have HZ1 := hide hz1
  have HZ2 := hide hz2
  clear hi hz0 hz1 hz2
  obtain ⟨oa, oc, rfl⟩ := own_form h
  have H := hide h
  have HI3 := hide hi3
  generalize hR : twice3 [] l = R
  have HRR := hide hR
  clear hR h hi3
  go_enter Tryz.func173, Tryz.ntmps173
  go_wp2_with fail
  go_loopw [11] (fun u wr => ∃ (k : Nat) (sv : Value), k ≤ l.length ∧ u = .int .i64 k ∧ Below w.heap.size w wr ∧ Blk wr (w.heap.size + 1) #[.int .i64 0, .string ⟨#[]⟩, sv] 110 ∧ wr.ownsRow w.heap.size 159 3 sv k ((l.take k).flatMap c3) ∧ Hid (twice3 (l.take k) (l.drop k) = R)) (fun u _ => l.length - (intOf u).toNat)
  case atStart => exact ⟨0, _, by omega, rfl, ((Below.refl _ _).alloc (Nat.le_refl _) _).alloc (by simp) _, Blk.new' (w.alloc _) _ _ _ (by simp), World.ownsRow_nil _ _ _ _, HRR⟩
  case round =>
    obtain ⟨k, sv, hk, rfl, hb, hbl, ho, HQ⟩ := hrel
    obtain ⟨sa, sc, rfl⟩ := own_form ho
    have HB := hide hb
    have HL := hide hbl
    have HO := hide ho
    obtain ⟨b0, b1, b2⟩ := hbl.three
    have zb := hbl.fz
    have lb := hbl.lt
    by_cases hlt : k < l.length
    · have hR := unhide HQ
      rw [twice3_step l k hlt] at hR
      obtain ⟨g, c, e1, k0, k1, k2⟩ := ((unhide H).below hb).cell k hlt
      simp only [Value.slice.injEq] at e1
      obtain ⟨rfl, _, rfl⟩ := e1
      obtain ⟨ua, un, hu⟩ := unhide HI3 l[k] (List.getElem_mem hlt)
      have hct := c3_take l k hlt
      generalize hy : l[k] = y at *
      obtain ⟨p, n, u⟩ := y
      simp only at k0 k1 k2 hu hR
      subst hu
      have hgl : g < w.heap.size := by
        obtain ⟨g', c', e1, k0', _⟩ := (unhide H).cell k hlt
        simp only [Value.slice.injEq, Option.some.injEq, Addr.mk.injEq] at e1
        obtain ⟨⟨rfl, _⟩, _⟩ := e1
        exact lt_of_cell k0'
      have Hct := hide hct
      have HF := hide (show Row3 (wr.alloc (.cells #[.int .i64 p, .string n, .iface ua un] 159)) 159 (.slice sa k sc) (l.take k) from by
        have := ownsRow_base (ho.alloc (.cells #[.int .i64 p, .string n, .iface ua un] 159)) (Nat.zero_le _)
        unfold Row3
        rw [List.length_take, Nat.min_eq_left hk]
        exact this)
      clear hy hct hb hbl ho
      cases hf : find3 n (l.take k) with
      | some y =>
        have hy1 : ∃ a x, y.2.2 = .iface a x := unhide HI3 y (List.mem_of_mem_take (List.mem_of_find?_eq_some hf))
        rw [hf] at hR
        simp only [Option.isSome_some, if_true] at hR
        have HR2 := hide hR
        have C := hide (find_yes_R 0 ⟨#[]⟩ (.slice sa k sc) (l.take k) n _ (by rw [List.length_take]; omega) (unhide HF) y hf hy1)
        obtain ⟨yp, yn, yu⟩ := y
        obtain ⟨ya, yx, hyu⟩ := hy1
        simp only at hyu
        subst hyu
        clear hR hf
        go_wp2_with fail
        refine (unhide C).mono ?_
        rintro e w2 ⟨rfl, hb2⟩
        have B2 := hide (((unhide HB).alloc (unhide HB).size (.cells #[.int .i64 p, .string n, .iface ua un] 159)).trans (hb2.mono (by have := (unhide HB).size; simp; omega)))
        have E2 := (Blk.new wr #[.int .i64 p, .string n, .iface ua un] 159).below hb2
        obtain ⟨q0, q1, q2⟩ := E2.three
        have ql := E2.lt
        clear hb2 E2
        go_wp2_with (go_at_call 73; refine (wrap_err _ 4 _).mono ?_; rintro e w3 ⟨rfl, rfl⟩)
        go_ret
        rw [← unhide HR2]
        exact ⟨rfl, (by repeat (first | with_reducible exact unhide B2 | with_reducible refine Below.drew ?_ | (with_reducible refine Below.setCell ?_ ?_ _; rotate_left; exact (by first | omega | (simp; omega) | simp | (simp; done))) | (with_reducible refine Below.alloc ?_ ?_ _; rotate_left; exact (by first | omega | (simp; omega) | simp | (simp; done)))))⟩
      | none =>
        rw [hf] at hR
        simp only [Option.isSome_none, Bool.false_eq_true, if_false] at hR
        have HR2 := hide hR
        have C := hide (find_no_R 0 ⟨#[]⟩ (.slice sa k sc) (l.take k) n _ (by rw [List.length_take]; omega) (unhide HF) hf)
        clear hR hf
        go_wp2_with fail
        refine (unhide C).mono ?_
        rintro e w2 ⟨rfl, hb2⟩
        have hbb : Below wr.heap.size wr w2 := ((Below.refl _ _).alloc (Nat.le_refl _) (.cells #[.int .i64 p, .string n, .iface ua un] 159)).trans (hb2.mono (by simp))
        have B2 := hide ((unhide HB).trans (hbb.mono (unhide HB).size))
        have E2 := (Blk.new wr #[.int .i64 p, .string n, .iface ua un] 159).below hb2
        obtain ⟨q0, q1, q2⟩ := E2.three
        have ql := E2.lt
        have L2 := (unhide HL).below hbb
        have HL2 := hide L2
        obtain ⟨m0, m1, m2⟩ := L2.three
        have zm := L2.fz
        have ml := L2.lt
        have O2 := hide (ownsRow_frame (unhide HO) (fun g cs f _ hh => hbb.block g (lt_of_some hh)))
        have sz2 := (unhide HB).size
        clear hb2 E2 L2 hbb b0 b1 b2 zb
        unfold errv
        go_wp2_with (at_builtin; go_must (refine wpList_append_lies _ rfl _ _ 108 rfl w.heap.size 159 i0 _ 3 40 Tryz.underlying108 (unhide HI) (unhide HZ0) (unhide HZ1) (unhide HZ2) rfl (by decide) (.slice sa k sc) k ((l.take k).flatMap c3) rfl ?hown ⟨w2.heap.size + 1, 0, none⟩ 1 1 (c3 (p, n, .iface ua un)) rfl rfl ?hnews ?hone (by decide) ?h63 ?hbytes ?hbase (w2.heap.size + 2) ?hH ?hrest))
        case hown => exact ((unhide O2).alloc _).alloc _
        case hnews => exact World.news_of_block (B := w2.heap.size + 1) (cs := #[.int .i64 p, .string n, .iface ua un]) (t := 159) (fr := (0, 0)) (Blk.new' (w2.alloc _) _ _ _ (by simp))
        case hone =>
          intro u hu
          simp [c3] at hu
          rcases hu with rfl | rfl | rfl <;> rfl
        case h63 => unfold maxLen; omega
        case hbytes => omega
        case hbase => simp; omega
        case hH => simp
        case hrest =>
          intro g5 cap5 w5 hown5 hgrow5 hat5 hgl5
          have b0 : Below w2.heap.size w2 ((w2.alloc (.cells #[.int .i64 0, .string ⟨#[]⟩, .nilIface] 159)).alloc (.cells #[.int .i64 p, .string n, .iface ua un] 159)) := ((Below.refl _ _).alloc (Nat.le_refl _) _).alloc (by simp) _
          have L4' := (unhide HL2).below b0
          have O4' := ((unhide O2).alloc (.cells #[.int .i64 0, .string ⟨#[]⟩, .nilIface] 159)).alloc (.cells #[.int .i64 p, .string n, .iface ua un] 159)
          have HL5 := hide (show Blk w5 (w.heap.size + 1) #[.int .i64 0, .string ⟨#[]⟩, .slice sa k sc] 110 from (hgrow5.block _ L4'.lt (own_ne O4' L4' (by decide))).trans L4')
          have B5 := hide (Below.grown ((unhide B2).trans (b0.mono (unhide B2).size)) hgrow5 (by have := (unhide B2).size; simp; omega) (fun k hk => (O4'.lt k hk).1))
          have O5 := hide hown5
          obtain ⟨n0, n1, n2⟩ := (unhide HL5).three
          have zn := (unhide HL5).fz
          have nl := (unhide HL5).lt
          clear b0 L4' O4' hown5 hgrow5 hat5 m0 m1 m2 zm q0 q1 q2
          go_wp2
          go_roundw
          case rel => exact ⟨k + 1, _, by omega, by go_num, (by repeat (first | with_reducible exact unhide B5 | with_reducible refine Below.drew ?_ | (with_reducible refine Below.setCell ?_ ?_ _; rotate_left; exact (by first | omega | (simp; omega) | simp | (simp; done))) | (with_reducible refine Below.alloc ?_ ?_ _; rotate_left; exact (by first | omega | (simp; omega) | simp | (simp; done))))), (unhide HL5).set 2 _, by rw [unhide Hct]; exact own_set (unhide O5) (unhide HL5) (by decide) 2 _, HR2⟩
          case measure => simp [intOf]; omega
    · have hR := unhide HQ
      rw [List.drop_of_length_le (by omega)] at hR
      have HR2 := hide hR
      clear hb hbl ho hR
      go_wp2
      go_ret
      rw [← unhide HR2]
      exact ⟨rfl, unhide HB⟩
end Go.Proofs.YtlbpnlngckgcbaaGreatDoor
