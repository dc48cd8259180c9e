import Derived.Test.YtlbpnlngckgcbaaGreatDoorBase
namespace Go.Proofs.YtlbpnlngckgcbaaGreatDoor
open Go.RowKit Go.PlainAid
set_option linter.unusedSimpArgs false
set_option linter.unusedVariables false

def eqs (a b : ByteArray) : Bool := lst a == lst b
def anyEq (t : ByteArray) (l : List ByteArray) : Bool := l.any fun x => eqs t x

theorem anyEq_false (t : ByteArray) (l : List ByteArray) (h : ∀ j, j < l.length → eqs t (l.getD j ByteArray.empty) = false) : anyEq t l = false := by
  unfold anyEq
  rw [List.any_eq_false]
  intro x hx
  obtain ⟨j, hj, rfl⟩ := List.getElem_of_mem hx
  have := h j hj
  simp [List.getD_eq_getElem?_getD, List.getElem?_eq_getElem hj] at this
  simp [this]
theorem anyEq_true (t : ByteArray) (l : List ByteArray) (j : Nat) (hj : j < l.length) (h : eqs t (l.getD j ByteArray.empty) = true) : anyEq t l = true := by
  unfold anyEq
  rw [List.any_eq_true]
  refine ⟨l[j], List.getElem_mem _, ?_⟩
  simpa [List.getD_eq_getElem?_getD, List.getElem?_eq_getElem hj] using h

set_option maxHeartbeats 400000 in
theorem index_any (g cap : Nat) (l : List ByteArray) (t : ByteArray) (w : World) (hn : l.length ≤ maxLen)
    (hc : ∀ i, i < l.length → w.cell? ⟨g, i, none⟩ = some (.string (l.getD i ByteArray.empty))) :
    Calls Tryz.prog 219 #[.slice (some ⟨g, 0, none⟩) l.length cap, .string t] w fun e w' => (∃ n : Int, e = .returned (.int .i64 n) ∧ decide (0 ≤ n) = anyEq t l) ∧ w' = w := by
  unfold maxLen at hn
  generalize hN : l.length = N at *
  have HN := hide hN
  clear hN
  generalize hL : (fun i => l.getD i ByteArray.empty) = L at *
  have HL := hide hL
  have hc' : ∀ i, i < N → w.cell? ⟨g, i, none⟩ = some (.string (L i)) := fun i hi => by rw [hc i hi, ← hL]
  clear hc hL
  go_enter Tryz.func219, Tryz.ntmps219
  go_wp2
  go_loop [5, 8] (fun u i => ∃ k : Nat, k ≤ N ∧ i = .int .i64 k ∧ Hid (∀ j, j < k → eqs t (L j) = false)) (fun _ i => N - (intOf i).toNat)
  case atStart => exact ⟨0, by omega, rfl, hide (fun j h => by omega)⟩
  case round =>
    obtain ⟨k, hk, rfl, Hall⟩ := hrel
    by_cases hlt : k < N
    · have hck := hc' k hlt
      cases he : eqs t (L k)
      · have he' : (t.toList == (L k).toList) = false := by rw [toList_lst, toList_lst]; exact he
        have Hn := hide (show ∀ j, j < k + 1 → eqs t (L j) = false from fun j h => by
          by_cases e : j = k
          · rw [e, he]
          · exact unhide Hall j (by omega))
        clear he
        go_wp2
        go_round
        case rel => exact ⟨k + 1, by omega, by go_num, Hn⟩
        case measure => simp [intOf]; omega
      · have he' : (t.toList == (L k).toList) = true := by rw [toList_lst, toList_lst]; exact he
        have Hfin := hide (anyEq_true t l k (by rw [unhide HN]; exact hlt) (by have this : l.getD k ByteArray.empty = L k := congrFun (unhide HL) k; rw [this]; exact he))
        clear he
        go_wp2
        go_ret
        exact ⟨⟨k, rfl, by rw [unhide Hfin]; simp⟩, rfl⟩
    · have Hfin := hide (anyEq_false t l (fun j hj => by have this : l.getD j ByteArray.empty = L j := congrFun (unhide HL) j; rw [this]; exact unhide Hall j (by rw [unhide HN] at hj; omega)))
      go_wp2
      go_ret
      exact ⟨⟨-1, rfl, by rw [unhide Hfin]; decide⟩, rfl⟩

set_option maxHeartbeats 400000 in
theorem contains_any (g cap : Nat) (l : List ByteArray) (t : ByteArray) (w : World) (hn : l.length ≤ maxLen)
    (hc : ∀ i, i < l.length → w.cell? ⟨g, i, none⟩ = some (.string (l.getD i ByteArray.empty))) :
    Calls Tryz.prog 168 #[.slice (some ⟨g, 0, none⟩) l.length cap, .string t] w fun e w' => e = .returned (.bool (anyEq t l)) ∧ w' = w := by
  have h := index_any g cap l t w hn hc
  have H := hide h
  clear h hc
  go_enter Tryz.func168, Tryz.ntmps168
  go_wp2_with fail
  refine (unhide H).mono ?_
  rintro e w' ⟨⟨n, rfl, hn⟩, rfl⟩
  have HN := hide hn
  clear hn
  go_wp2
  go_ret
  exact ⟨by rw [← unhide HN]; rfl, rfl⟩

set_option maxHeartbeats 400000 in
theorem rat_any (b : Nat) (s : ByteArray) (p : Nat) (t : ByteArray) (d : Nat) (g cap : Nat) (l : List ByteArray) (w : World) (h : Rd w b s p t d) (hn : l.length ≤ maxLen)
    (hc : ∀ i, i < l.length → w.cell? ⟨g, i, none⟩ = some (.string (l.getD i ByteArray.empty))) :
    Calls Tryz.prog 113 #[.pointer (some ⟨b, 0, none⟩), .slice (some ⟨g, 0, none⟩) l.length cap] w fun e w' => e = .returned (.bool (anyEq t l)) ∧ w' = w := by
  have H := hide (contains_any g cap l t w hn hc)
  clear hc
  have h2 := h.c2
  clear h
  go_enter Tryz.func113, Tryz.ntmps113
  go_wp2_with fail
  refine (unhide H).mono ?_
  rintro e w' ⟨rfl, rfl⟩
  go_wp2
  go_ret
  exact ⟨rfl, rfl⟩
end Go.Proofs.YtlbpnlngckgcbaaGreatDoor
