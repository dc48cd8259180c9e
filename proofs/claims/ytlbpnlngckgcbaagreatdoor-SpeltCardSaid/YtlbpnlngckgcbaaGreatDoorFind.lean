import Derived.Test.YtlbpnlngckgcbaaGreatDoorModel
namespace Go.Proofs.YtlbpnlngckgcbaaGreatDoor
open Go.RowKit Go.PlainAid
set_option linter.unusedSimpArgs false
set_option linter.unusedVariables false

/-- An element of three cells: a place, a name, a third value. -/
abbrev E3 := Nat × ByteArray × Value
def c3 (e : E3) : List Value := [.int .i64 e.1, .string e.2.1, e.2.2]
def Row3 (w : World) (T : TypeId) (v : Value) (l : List E3) : Prop := w.ownsRow 0 T 3 v l.length (l.flatMap c3)
theorem flat3_length : ∀ l : List E3, (l.flatMap c3).length = l.length * 3
  | [] => rfl
  | e :: l => by simp [List.flatMap_cons, flat3_length l, c3]; omega
theorem flat3_get (e : E3) : ∀ (l : List E3) (i : Nat), l[i]? = some e → (l.flatMap c3)[i * 3]? = some (.int .i64 e.1) ∧ (l.flatMap c3)[i * 3 + 1]? = some (.string e.2.1) ∧ (l.flatMap c3)[i * 3 + 2]? = some e.2.2
  | [], i, h => by simp at h
  | e' :: l, 0, h => by simp at h; subst h; simp [List.flatMap_cons, c3]
  | e' :: l, i + 1, h => by
    have := flat3_get e l i (by simpa using h)
    rw [List.flatMap_cons, show (i + 1) * 3 = i * 3 + 3 by omega]
    simpa [c3] using this
theorem own_cell {w : World} {base : Nat} {e : TypeId} {size : Nat} {v : Value} {n : Nat} {xs : List Value} (h : w.ownsRow base e size v n xs) (k : Nat) (u : Value) (hu : xs[k]? = some u) : ∃ g c, v = .slice (some ⟨g, 0, none⟩) n c ∧ w.cell? ⟨g, k, none⟩ = some u := by
  have hk : k < xs.length := by
    rcases Nat.lt_or_ge k xs.length with h | h
    · exact h
    · rw [List.getElem?_eq_none h] at hu; cases hu
  rcases h with ⟨h1, ⟨rfl, rfl⟩ | ⟨g, cap, cur, rfl, hg, hh, h3, h4, h5, h6⟩⟩
  · simp at h1; rw [h1] at hk; simp at hk
  · refine ⟨g, cap, rfl, ?_⟩
    rw [← h6] at hu
    have hk2 : k < n * size := by omega
    rw [List.getElem?_take_of_lt hk2] at hu
    simpa [World.cell?, hh] using hu
theorem Row3.cell {w : World} {T : TypeId} {v : Value} {l : List E3} (h : Row3 w T v l) (i : Nat) (hi : i < l.length) :
    ∃ g c, v = .slice (some ⟨g, 0, none⟩) l.length c ∧ w.cell? ⟨g, i * 3, none⟩ = some (.int .i64 l[i].1) ∧ w.cell? ⟨g, i * 3 + 1, none⟩ = some (.string l[i].2.1) ∧ w.cell? ⟨g, i * 3 + 2, none⟩ = some l[i].2.2 := by
  obtain ⟨h0, h1, h2⟩ := flat3_get l[i] l i (List.getElem?_eq_getElem hi)
  obtain ⟨g, c, rfl, e0⟩ := own_cell h _ _ h0
  obtain ⟨g', c', e', e1⟩ := own_cell h _ _ h1
  obtain ⟨g'', c'', e'', e2⟩ := own_cell h _ _ h2
  simp only [Value.slice.injEq, Option.some.injEq, Addr.mk.injEq] at e' e''
  obtain ⟨⟨rfl, _⟩, _⟩ := e'
  obtain ⟨⟨rfl, _⟩, _⟩ := e''
  exact ⟨g, c, rfl, e0, e1, e2⟩
theorem Row3.below {w w' : World} {T : TypeId} {v : Value} {l : List E3} (h : Row3 w T v l) (k : Below w.heap.size w w') : Row3 w' T v l :=
  ownsRow_frame h fun g cs f _ hh => k.block g (lt_of_some hh)
/-- Where an element of this name first stands; -1: nowhere. -/
def idx3 (x : ByteArray) (l : List E3) : Int := match l.findIdx? (fun e => eqs e.2.1 x) with
  | some k => k
  | none => -1

theorem idx3_yes (x : ByteArray) (l : List E3) (k : Nat) (hk : k < l.length) (he : eqs l[k].2.1 x = true) (hall : ∀ j, (h : j < l.length) → j < k → eqs l[j].2.1 x = false) : idx3 x l = k := by
  have : l.findIdx? (fun e => eqs e.2.1 x) = some k := by
    rw [List.findIdx?_eq_some_iff_getElem]
    exact ⟨hk, he, fun j hj => by rw [hall j (by omega) hj]; decide⟩
  simp [idx3, this]
theorem idx3_no (x : ByteArray) (l : List E3) (hall : ∀ j, (h : j < l.length) → eqs l[j].2.1 x = false) : idx3 x l = -1 := by
  have : l.findIdx? (fun e => eqs e.2.1 x) = none := by
    rw [List.findIdx?_eq_none_iff]
    intro e he
    obtain ⟨j, hj, rfl⟩ := List.getElem_of_mem he
    exact hall j hj
  simp [idx3, this]

set_option maxHeartbeats 1000000 in
set_option maxRecDepth 100000 in
theorem find1_T (p : Nat) (n x : ByteArray) (v : Value) (q : Nat) (w : World) (hx : Blk w q #[.string x] 9) :
    Calls Tryz.prog 96 #[.agg #[.int .i64 p, .string n, v], .pointer (some ⟨q, 0, none⟩)] w fun e w' => e = .returned (.bool (eqs n x)) ∧ Below w.heap.size w w' := by
  have c0 : w.cell? ⟨q, 0, none⟩ = some (.string x) := hx.cell rfl
  have hl := hx.lt
  have he : (n.toList == x.toList) = eqs n x := by rw [toList_lst, toList_lst]; rfl
  clear hx
  go_enter Tryz.func96, Tryz.ntmps96
  go_wp2
  go_ret
  exact ⟨rfl, (Below.refl _ _).alloc (Nat.le_refl _) _⟩

set_option maxHeartbeats 1000000 in
set_option maxRecDepth 100000 in
theorem indexFunc_T (v : Value) (l : List E3) (x : ByteArray) (q : Nat) (w : World) (hn : l.length ≤ 1000) (h : Row3 w 110 v l) (hx : Blk w q #[.string x] 9) :
    Calls Tryz.prog 95 #[v, .func (.func 96) #[] #[.pointer (some ⟨q, 0, none⟩)]] w fun e w' => e = .returned (.int .i64 (idx3 x l)) ∧ Below w.heap.size w w' := by
  obtain ⟨sa, sc, rfl⟩ := own_form h
  have H := hide h
  have HX := hide hx
  clear h hx
  go_enter Tryz.func95, Tryz.ntmps95
  go_wp2
  go_loopw [5, 8] (fun u i wr => ∃ k : Nat, k ≤ l.length ∧ i = .int .i64 k ∧ Below w.heap.size w wr ∧ Hid (∀ j, (h : j < l.length) → j < k → eqs l[j].2.1 x = false)) (fun _ i _ => l.length - (intOf i).toNat)
  case atStart => exact ⟨0, by omega, rfl, Below.refl _ _, hide (fun j e h => by omega)⟩
  case round =>
    obtain ⟨k, hk, rfl, hb, Hall⟩ := hrel
    have HB := hide hb
    by_cases hlt : k < l.length
    · obtain ⟨g, c, e1, k0, k1, k2⟩ := ((unhide H).below hb).cell k hlt
      simp only [Value.slice.injEq] at e1
      obtain ⟨rfl, _, rfl⟩ := e1
      have HX' := hide ((unhide HX).below hb)
      clear hb
      cases he : eqs l[k].2.1 x
      · have Hn := hide (show ∀ j, (h : j < l.length) → j < k + 1 → eqs l[j].2.1 x = false from fun j h h' => by
          by_cases e : j = k
          · subst e; exact he
          · exact unhide Hall j h (by omega))
        have He := hide he
        clear he
        go_wp2_with fail
        refine (find1_T _ _ _ _ _ _ (unhide HX')).mono ?_
        rintro e w2 ⟨rfl, hb2⟩
        rw [unhide He]
        have HB2 := hide ((unhide HB).trans (hb2.mono (unhide HB).size))
        clear hb2
        go_wp2
        go_roundw
        case rel => exact ⟨k + 1, by omega, by go_num, unhide HB2, Hn⟩
        case measure => simp [intOf]; omega
      · have Hfin := hide (idx3_yes x l k hlt he (unhide Hall))
        have He := hide he
        clear he
        go_wp2_with fail
        refine (find1_T _ _ _ _ _ _ (unhide HX')).mono ?_
        rintro e w2 ⟨rfl, hb2⟩
        rw [unhide He]
        have HB2 := hide ((unhide HB).trans (hb2.mono (unhide HB).size))
        clear hb2
        go_wp2
        go_ret
        exact ⟨by rw [unhide Hfin]; rfl, unhide HB2⟩
    · have Hfin := hide (idx3_no x l (fun j h => unhide Hall j h (by omega)))
      clear hb
      go_wp2
      go_ret
      exact ⟨by rw [unhide Hfin]; rfl, unhide HB⟩

set_option maxHeartbeats 1000000 in
set_option maxRecDepth 100000 in
theorem find1_R (p : Nat) (n x : ByteArray) (v : Value) (q : Nat) (w : World) (hx : Blk w q #[.string x] 9) :
    Calls Tryz.prog 206 #[.agg #[.int .i64 p, .string n, v], .pointer (some ⟨q, 0, none⟩)] w fun e w' => e = .returned (.bool (eqs n x)) ∧ Below w.heap.size w w' := by
  have c0 : w.cell? ⟨q, 0, none⟩ = some (.string x) := hx.cell rfl
  have hl := hx.lt
  have he : (n.toList == x.toList) = eqs n x := by rw [toList_lst, toList_lst]; rfl
  clear hx
  go_enter Tryz.func206, Tryz.ntmps206
  go_wp2
  go_ret
  exact ⟨rfl, (Below.refl _ _).alloc (Nat.le_refl _) _⟩

set_option maxHeartbeats 1000000 in
set_option maxRecDepth 100000 in
theorem indexFunc_R (v : Value) (l : List E3) (x : ByteArray) (q : Nat) (w : World) (hn : l.length ≤ 1000) (h : Row3 w 159 v l) (hx : Blk w q #[.string x] 9) :
    Calls Tryz.prog 205 #[v, .func (.func 206) #[] #[.pointer (some ⟨q, 0, none⟩)]] w fun e w' => e = .returned (.int .i64 (idx3 x l)) ∧ Below w.heap.size w w' := by
  obtain ⟨sa, sc, rfl⟩ := own_form h
  have H := hide h
  have HX := hide hx
  clear h hx
  go_enter Tryz.func205, Tryz.ntmps205
  go_wp2
  go_loopw [5, 8] (fun u i wr => ∃ k : Nat, k ≤ l.length ∧ i = .int .i64 k ∧ Below w.heap.size w wr ∧ Hid (∀ j, (h : j < l.length) → j < k → eqs l[j].2.1 x = false)) (fun _ i _ => l.length - (intOf i).toNat)
  case atStart => exact ⟨0, by omega, rfl, Below.refl _ _, hide (fun j e h => by omega)⟩
  case round =>
    obtain ⟨k, hk, rfl, hb, Hall⟩ := hrel
    have HB := hide hb
    by_cases hlt : k < l.length
    · obtain ⟨g, c, e1, k0, k1, k2⟩ := ((unhide H).below hb).cell k hlt
      simp only [Value.slice.injEq] at e1
      obtain ⟨rfl, _, rfl⟩ := e1
      have HX' := hide ((unhide HX).below hb)
      clear hb
      cases he : eqs l[k].2.1 x
      · have Hn := hide (show ∀ j, (h : j < l.length) → j < k + 1 → eqs l[j].2.1 x = false from fun j h h' => by
          by_cases e : j = k
          · subst e; exact he
          · exact unhide Hall j h (by omega))
        have He := hide he
        clear he
        go_wp2_with fail
        refine (find1_R _ _ _ _ _ _ (unhide HX')).mono ?_
        rintro e w2 ⟨rfl, hb2⟩
        rw [unhide He]
        have HB2 := hide ((unhide HB).trans (hb2.mono (unhide HB).size))
        clear hb2
        go_wp2
        go_roundw
        case rel => exact ⟨k + 1, by omega, by go_num, unhide HB2, Hn⟩
        case measure => simp [intOf]; omega
      · have Hfin := hide (idx3_yes x l k hlt he (unhide Hall))
        have He := hide he
        clear he
        go_wp2_with fail
        refine (find1_R _ _ _ _ _ _ (unhide HX')).mono ?_
        rintro e w2 ⟨rfl, hb2⟩
        rw [unhide He]
        have HB2 := hide ((unhide HB).trans (hb2.mono (unhide HB).size))
        clear hb2
        go_wp2
        go_ret
        exact ⟨by rw [unhide Hfin]; rfl, unhide HB2⟩
    · have Hfin := hide (idx3_no x l (fun j h => unhide Hall j h (by omega)))
      clear hb
      go_wp2
      go_ret
      exact ⟨by rw [unhide Hfin]; rfl, unhide HB⟩
end Go.Proofs.YtlbpnlngckgcbaaGreatDoor
