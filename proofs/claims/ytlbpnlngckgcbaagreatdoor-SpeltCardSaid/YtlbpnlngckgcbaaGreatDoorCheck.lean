import Derived.Test.YtlbpnlngckgcbaaGreatDoorEach
namespace Go.Proofs.YtlbpnlngckgcbaaGreatDoor
open Go.RowKit Go.PlainAid
set_option linter.unusedSimpArgs false
set_option linter.unusedVariables false

theorem own_inj {w : World} {b1 b2 : Nat} {e : TypeId} {size : Nat} {v : Value} {n1 n2 : Nat} {x1 x2 : List Value} (h1 : w.ownsRow b1 e size v n1 x1) (h2 : w.ownsRow b2 e size v n2 x2) : n1 = n2 ∧ x1 = x2 := by
  have hn : n1 = n2 := by
    obtain ⟨a, c, rfl⟩ := own_form h1
    obtain ⟨a', c', e⟩ := own_form h2
    simp only [Value.slice.injEq] at e
    exact e.2.1
  subst hn
  refine ⟨rfl, List.ext_getElem? fun k => ?_⟩
  have hl : x1.length = x2.length := h1.1.trans h2.1.symm
  rcases Nat.lt_or_ge k x1.length with h | h
  · obtain ⟨g, c, e1, c1⟩ := own_cell h1 k _ (List.getElem?_eq_getElem h)
    obtain ⟨g', c', e2, c2⟩ := own_cell h2 k _ (List.getElem?_eq_getElem (show k < x2.length by omega))
    rw [e1] at e2
    simp only [Value.slice.injEq, Option.some.injEq, Addr.mk.injEq] at e2
    obtain ⟨⟨rfl, _⟩, _⟩ := e2
    rw [c1] at c2
    rw [List.getElem?_eq_getElem h, List.getElem?_eq_getElem (show k < x2.length by omega)]
    exact c2
  · rw [List.getElem?_eq_none h, List.getElem?_eq_none (by omega)]
theorem c3_inj : ∀ (a c : List E3), a.flatMap c3 = c.flatMap c3 → a = c
  | [], [], _ => rfl
  | [], e :: c, h => by simp [c3] at h
  | e :: a, [], h => by simp [c3] at h
  | (p, n, v) :: a, (p', n', v') :: c, h => by
    simp only [List.flatMap_cons, c3, List.cons_append, List.nil_append, List.cons.injEq, Value.int.injEq, Value.string.injEq, true_and] at h
    obtain ⟨h1, h2, h3, h4⟩ := h
    rw [c3_inj a c h4, h2, h3, show p = p' by omega]
theorem Row3.inj {w : World} {T : TypeId} {v : Value} {l1 l2 : List E3} (h1 : Row3 w T v l1) (h2 : Row3 w T v l2) : l1 = l2 := c3_inj _ _ (own_inj h1 h2).2

/-- P4: of names and their places: the place of the first that was there ahead. -/
def twN : List ByteArray → List (ByteArray × Nat) → Option Nat
  | _, [] => none
  | ah, (n, p) :: r => if ah.any (fun m => eqs m n) then some p else twN (ah ++ [n]) r
theorem find3_any (n : ByteArray) (l : List E3) : (find3 n l).isSome = (l.map fun e => e.2.1).any (fun m => eqs m n) := by
  unfold find3
  rw [List.any_map, Bool.eq_iff_iff, List.any_eq_true, List.find?_isSome]
  rfl
theorem twice3_tw : ∀ (l ah : List E3), twice3 ah l = twN (ah.map fun e => e.2.1) (l.map fun e => (e.2.1, e.1))
  | [], ah => rfl
  | e :: l, ah => by
    have := twice3_tw l (ah ++ [e])
    simp only [twice3, List.map_cons, twN, find3_any]
    rw [this, List.map_append]
    rfl
def twR (rs : List Rl) : Option Nat := twN [] (rs.map fun r => (r.name, r.place))
def twT : List ByteArray → List Ty → Option Nat
  | _, [] => none
  | ah, t :: r => if ah.any (fun m => eqs m t.name) then some t.place else match twR t.rels with
    | some p => some p
    | none => twT (ah ++ [t.name]) r
theorem twiceT3_tw (inn : E3 → Option Nat) : ∀ (l al : List (Ty × Value)), (∀ p ∈ l, inn (t3 p) = twR p.1.rels) → twiceT3 inn (al.map t3) (l.map t3) = twT (al.map fun p => p.1.name) (l.map Prod.fst)
  | [], al, _ => rfl
  | p :: l, al, h => by
    have ih := twiceT3_tw inn l (al ++ [p]) (fun q hq => h q (by simp [hq]))
    have hp := h p (by simp)
    simp only [List.map_cons, twiceT3, twT, find3_any, hp]
    rw [List.map_append, List.map_append] at ih
    simp only [List.map_cons, List.map_nil] at ih
    rw [ih, List.map_map]
    rfl
theorem inn_ex (w : World) : ∃ inn : E3 → Option Nat, ∀ e l, Row3 w 159 e.2.2 l → inn e = twice3 [] l := by
  classical
  refine ⟨fun e => if h : ∃ l : List E3, Row3 w 159 e.2.2 l then twice3 [] h.choose else none, ?_⟩
  intro e l h
  have hx : ∃ l : List E3, Row3 w 159 e.2.2 l := ⟨l, h⟩
  simp only
  rw [dif_pos hx, Row3.inj hx.choose_spec h]

theorem mtwice_any (b : Nat) (sv : Value) (ts : List Ty) (tl : List (Ty × Value)) (w : World) (h : MC b w sv ts tl) :
    Calls Tryz.prog 115 #[.agg #[sv]] w fun e w' => e = .returned (errO 4 (twT [] ts)) ∧ Below w.heap.size w w' := by
  obtain ⟨inn, hinn⟩ := inn_ex w
  have key : twiceT3 inn [] (tl.map t3) = twT [] ts := by
    have := twiceT3_tw inn tl [] (fun p hp => by
      obtain ⟨rl, hr⟩ := h.rels p hp
      rw [hinn (t3 p) _ hr.row, twice3_tw, twR, ← hr.fst, List.map_map, List.map_map]
      rfl)
    rw [h.fst] at this
    exact this
  rw [← key]
  refine twiceT_any inn sv (tl.map t3) w h.llen h.row ?_ ?_
  · intro e he
    rw [List.mem_map] at he
    obtain ⟨p, hp, rfl⟩ := he
    obtain ⟨rl, hr⟩ := h.rels p hp
    exact hr.form
  · intro e he w' hb
    rw [List.mem_map] at he
    obtain ⟨p, hp, rfl⟩ := he
    obtain ⟨rl, hr⟩ := h.rels p hp
    rw [hinn (t3 p) _ hr.row]
    refine twiceR_any _ _ _ _ w' hr.llen (hr.row.below hb) ?_
    intro e he
    rw [List.mem_map] at he
    obtain ⟨q, hq, rfl⟩ := he
    exact (hr.ex q hq).isI

/-- P4: what is wrong with a model that reads well: place and number. -/
def checkP (ts : List Ty) : Option (Nat × Nat) := match twT [] ts with
  | some p => some (p, 4)
  | none => match eachN (namesP ts) ts with
    | some p => some (p, 5)
    | none => match eachN (loopsP ts) ts with
      | some p => some (p, 6)
      | none => none
def errQ : Option (Nat × Nat) → Value
  | none => .nilIface
  | some (p, c) => placed p c

set_option maxHeartbeats 1000000 in
set_option maxRecDepth 100000 in
theorem check_any (b : Nat) (sv : Value) (ts : List Ty) (tl : List (Ty × Value)) (w : World) (h : MC b w sv ts tl) :
    Calls Tryz.prog 74 #[.agg #[sv]] w fun e w' => e = .returned (errQ (checkP ts)) ∧ Below w.heap.size w w' := by
  obtain ⟨ma, mn, mc, rfl⟩ := h.form
  have W0 : Below w.heap.size w (w.alloc (.cells #[.slice ma mn mc] 75)) := (Below.refl _ _).alloc (Nat.le_refl _) _
  have HW0 := hide W0
  have HM0 := hide (h.below W0)
  have MB := hide (Blk.new w #[.slice ma mn mc] 75)
  have C0 := hide (mtwice_any b _ ts tl _ (unhide HM0))
  have C1 := hide (fun w' (hw : Below w.heap.size w w') => each_names b 5 _ ts tl (namesP ts) w' (h.below hw) (fun w'' t tv rl r bv h1 h2 h3 h4 => checkNames_any b _ ts tl t tv rl r bv w'' h1 h2 h3 h4))
  have C2 := hide (fun w' (hw : Below w.heap.size w w') => each_loops b 6 _ ts tl (loopsP ts) w' (h.below hw) (fun w'' t tv rl r bv h1 h2 h3 h4 => checkLoops_any b _ ts tl t tv rl r bv w'' h1 h2 h3 h4))
  unfold checkP
  clear W0 h
  cases h1 : twT [] ts with
  | some p =>
    rw [h1] at C0
    clear h1
    simp only [errQ]
    go_enter Tryz.func74, Tryz.ntmps74
    go_wp2_with fail
    refine (unhide C0).mono ?_
    rintro e w2 ⟨rfl, hb2⟩
    have B2 := hide ((unhide HW0).trans (hb2.mono (unhide HW0).size))
    clear hb2
    unfold errO placed
    go_wp2
    go_ret
    exact ⟨rfl, unhide B2⟩
  | none =>
    rw [h1] at C0
    clear h1
    simp only
    cases h2 : eachN (namesP ts) ts with
    | some p =>
      rw [h2] at C1
      clear h2
      simp only [errQ]
      go_enter Tryz.func74, Tryz.ntmps74
      go_wp2_with fail
      refine (unhide C0).mono ?_
      rintro e w2 ⟨rfl, hb2⟩
      have B2 := hide ((unhide HW0).trans (hb2.mono (unhide HW0).size))
      have m0 : w2.cell? ⟨w.heap.size, 0, none⟩ = some (.slice ma mn mc) := ((unhide MB).below hb2).cell rfl
      have ml := ((unhide MB).below hb2).lt
      clear hb2
      unfold errO
      go_wp2_with fail
      refine (unhide C1 _ (unhide B2)).mono ?_
      rintro e w3 ⟨rfl, hb3⟩
      have B3 := hide ((unhide B2).trans (hb3.mono (unhide B2).size))
      clear hb3
      unfold errO placed
      go_wp2
      go_ret
      exact ⟨rfl, unhide B3⟩
    | none =>
      rw [h2] at C1
      clear h2
      simp only
      cases h3 : eachN (loopsP ts) ts with
      | some p =>
        rw [h3] at C2
        clear h3
        simp only [errQ]
        go_enter Tryz.func74, Tryz.ntmps74
        go_wp2_with fail
        refine (unhide C0).mono ?_
        rintro e w2 ⟨rfl, hb2⟩
        have B2 := hide ((unhide HW0).trans (hb2.mono (unhide HW0).size))
        have m0 : w2.cell? ⟨w.heap.size, 0, none⟩ = some (.slice ma mn mc) := ((unhide MB).below hb2).cell rfl
        have ml := ((unhide MB).below hb2).lt
        have MB2 := hide ((unhide MB).below hb2)
        clear hb2
        unfold errO
        go_wp2_with fail
        refine (unhide C1 _ (unhide B2)).mono ?_
        rintro e w3 ⟨rfl, hb3⟩
        have B3 := hide ((unhide B2).trans (hb3.mono (unhide B2).size))
        have m1 : w3.cell? ⟨w.heap.size, 0, none⟩ = some (.slice ma mn mc) := ((unhide MB2).below hb3).cell rfl
        have ml1 := ((unhide MB2).below hb3).lt
        clear hb3
        unfold errO
        go_wp2_with fail
        refine (unhide C2 _ (unhide B3)).mono ?_
        rintro e w4 ⟨rfl, hb4⟩
        have B4 := hide ((unhide B3).trans (hb4.mono (unhide B3).size))
        clear hb4
        unfold errO placed
        go_wp2
        go_ret
        exact ⟨rfl, unhide B4⟩
      | none =>
        rw [h3] at C2
        clear h3
        simp only [errQ]
        go_enter Tryz.func74, Tryz.ntmps74
        go_wp2_with fail
        refine (unhide C0).mono ?_
        rintro e w2 ⟨rfl, hb2⟩
        have B2 := hide ((unhide HW0).trans (hb2.mono (unhide HW0).size))
        have m0 : w2.cell? ⟨w.heap.size, 0, none⟩ = some (.slice ma mn mc) := ((unhide MB).below hb2).cell rfl
        have ml := ((unhide MB).below hb2).lt
        have MB2 := hide ((unhide MB).below hb2)
        clear hb2
        unfold errO
        go_wp2_with fail
        refine (unhide C1 _ (unhide B2)).mono ?_
        rintro e w3 ⟨rfl, hb3⟩
        have B3 := hide ((unhide B2).trans (hb3.mono (unhide B2).size))
        have m1 : w3.cell? ⟨w.heap.size, 0, none⟩ = some (.slice ma mn mc) := ((unhide MB2).below hb3).cell rfl
        have ml1 := ((unhide MB2).below hb3).lt
        clear hb3
        unfold errO
        go_wp2_with fail
        refine (unhide C2 _ (unhide B3)).mono ?_
        rintro e w4 ⟨rfl, hb4⟩
        have B4 := hide ((unhide B3).trans (hb4.mono (unhide B3).size))
        clear hb4
        unfold errO
        go_wp2
        go_ret
        exact ⟨rfl, unhide B4⟩
end Go.Proofs.YtlbpnlngckgcbaaGreatDoor
