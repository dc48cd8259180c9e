import Derived.Test.YtlbpnlngckgcbaaGreatDoorPart
namespace Go.Proofs.YtlbpnlngckgcbaaGreatDoor
open Go.RowKit Go.PlainAid
set_option linter.unusedSimpArgs false
set_option linter.unusedVariables false

set_option maxHeartbeats 1000000 in
set_option maxRecDepth 100000 in
theorem join_any (p : Int) (t : ByteArray) (x y : Value) (hx : IsI x) (hy : IsI y) (w : World) :
    Calls Tryz.prog 263 #[.agg #[.int .i64 p, .string t], x, y] w fun e w' => e = .returned (.iface (tyOf (kindOf t)) (.agg #[.int .i64 p, x, y])) ∧ Below w.heap.size w w' := by
  have hk : ∀ a b, (t.toList == [124]) = a → (t.toList == [38]) = b → kindOf t = if a then 3 else if b then 4 else 5 := by
    intro a b h1 h2
    unfold kindOf eqs
    rw [← toList_lst, show lst (sg 124) = [124] from rfl, show lst (sg 38) = [38] from rfl, h1, h2]
  cases h1 : (t.toList == [124])
  · cases h2 : (t.toList == [38])
    all_goals
      rw [hk _ _ h1 h2]
      clear hk
      rcases hx with rfl | ⟨tx, vx, rfl⟩ <;> rcases hy with rfl | ⟨ty, vy, rfl⟩
      all_goals
        go_enter Tryz.func263, Tryz.ntmps263
        go_wp2
        go_ret
        exact ⟨rfl, ((Below.refl _ _).alloc (Nat.le_refl _) _).alloc (by simp) _⟩
  · rw [hk _ _ h1 rfl]
    clear hk
    rcases hx with rfl | ⟨tx, vx, rfl⟩ <;> rcases hy with rfl | ⟨ty, vy, rfl⟩
    all_goals
      go_enter Tryz.func263, Tryz.ntmps263
      go_wp2
      go_ret
      exact ⟨rfl, ((Below.refl _ _).alloc (Nat.le_refl _) _).alloc (by simp) _⟩
end Go.Proofs.YtlbpnlngckgcbaaGreatDoor
