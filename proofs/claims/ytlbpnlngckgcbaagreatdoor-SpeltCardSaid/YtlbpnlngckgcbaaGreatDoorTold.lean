import Derived.Test.YtlbpnlngckgcbaaGreatDoorAs3
namespace Go.Proofs.YtlbpnlngckgcbaaGreatDoor
open Go.RowKit Go.PlainAid
set_option linter.unusedSimpArgs false
set_option linter.unusedVariables false

/-- The variable errors.errorType is as the program lays it. -/
def Laid (w : World) : Prop := w.cell? ⟨0, 0, none⟩ = some (.iface 325 (.agg #[.pointer (some ⟨5, 77, none⟩)]))
theorem Laid.lt {w : World} (h : Laid w) : 0 < w.heap.size := by
  rcases Nat.eq_zero_or_pos w.heap.size with h0 | h'
  · unfold Laid at h; simp [World.cell?, h0] at h
  · exact h'
theorem Laid.below {w w' : World} {B : Nat} (h : Laid w) (k : Below B w w') (hB : 0 < B) : Laid w' := (World.cell?_of_block (w := w) (k.block 0 hB)).trans h
theorem Laid.but {w w' : World} {b : Nat} (h : Laid w) (k : But b w w') (hb : b ≠ 0) : Laid w' := (k.cell (a := ⟨0, 0, none⟩) h.lt (fun e => hb e.symm)).trans h

theorem told_nil (w : World) : Calls Tryz.prog 41 #[.nilIface] w fun e w' => e = .returned (.tuple #[.int .i64 0, .int .i64 0]) ∧ Below w.heap.size w w' := by
  go_enter Tryz.func41, Tryz.ntmps41
  go_wp2_with fail
  refine (as_nil _ _).mono ?_
  rintro e w2 ⟨rfl, rfl⟩
  go_wp2
  go_ret2
  exact ⟨rfl, (Below.refl _ _).alloc (Nat.le_refl _) _⟩

set_option maxHeartbeats 1000000 in
set_option maxRecDepth 100000 in
theorem told_fault (c : Nat) (w : World) (hg : Laid w) : Calls Tryz.prog 41 #[errv c] w fun e w' => e = .returned (.tuple #[.int .i64 c, .int .i64 0]) ∧ Below w.heap.size w w' := by
  have hl := hg.lt
  have L1 := hide (hg.below ((Below.refl w.heap.size w).alloc (Nat.le_refl _) (.cells #[.int .i64 0] 134)) hl)
  clear hg
  unfold errv
  go_enter Tryz.func41, Tryz.ntmps41
  go_wp2_with fail
  refine (as_58 c w.heap.size _ _ (unhide L1) (Blk.new w _ _)).mono ?_
  rintro e w2 ⟨rfl, b2, k2⟩
  have B2 := hide (((Below.refl w.heap.size w).alloc (Nat.le_refl _) (.cells #[.int .i64 0] 134)).trans (b2.below (Nat.le_refl _) (by simp)))
  have L2 := hide ((unhide L1).but b2 (by omega))
  have K2 := hide k2
  have sz := k2.lt
  clear b2 k2
  have L3 := hide ((unhide L2).below ((Below.refl w2.heap.size w2).alloc (Nat.le_refl _) (.cells #[.int .i64 0, .nilIface] 147)) (by omega))
  go_wp2_with fail
  refine (as_no c w2.heap.size _ _ _ (unhide L3) (Blk.new w2 _ _)).mono ?_
  rintro e w3 ⟨rfl, hb3⟩
  have K3 := ((unhide K2).alloc (.cells #[.int .i64 0, .nilIface] 147)).below hb3
  have k0 : w3.cell? ⟨w.heap.size, 0, none⟩ = some (.int .i64 c) := K3.cell rfl
  have B3 := hide (((unhide B2).alloc (unhide B2).size (.cells #[.int .i64 0, .nilIface] 147)).trans (hb3.mono (by simp; omega)))
  clear hb3 K3
  go_wp2
  go_ret2
  exact ⟨rfl, unhide B3⟩

set_option maxHeartbeats 1000000 in
set_option maxRecDepth 100000 in
theorem told_placed (p c : Nat) (w : World) (hg : Laid w) : Calls Tryz.prog 41 #[placed p c] w fun e w' => e = .returned (.tuple #[.int .i64 c, .int .i64 p]) ∧ Below w.heap.size w w' := by
  have hl := hg.lt
  have L1 := hide (hg.below ((Below.refl w.heap.size w).alloc (Nat.le_refl _) (.cells #[.int .i64 0] 134)) hl)
  clear hg
  unfold placed errv
  go_enter Tryz.func41, Tryz.ntmps41
  go_wp2_with fail
  refine (as_71 p c w.heap.size _ _ (unhide L1) (Blk.new w _ _)).mono ?_
  rintro e w2 ⟨rfl, b2, k2⟩
  have B2 := hide (((Below.refl w.heap.size w).alloc (Nat.le_refl _) (.cells #[.int .i64 0] 134)).trans (b2.below (Nat.le_refl _) (by simp)))
  have L2 := hide ((unhide L1).but b2 (by omega))
  have K2 := hide k2
  have sz := k2.lt
  clear b2 k2
  have L3 := hide ((unhide L2).below ((Below.refl w2.heap.size w2).alloc (Nat.le_refl _) (.cells #[.int .i64 0, .nilIface] 147)) (by omega))
  go_wp2_with fail
  refine (as_72 p _ _ w2.heap.size _ _ _ (unhide L3) (Blk.new w2 _ _)).mono ?_
  rintro e w3 ⟨rfl, b3, k3⟩
  have K3 := ((unhide K2).alloc (.cells #[.int .i64 0, .nilIface] 147)).but b3 (by omega)
  have k0 : w3.cell? ⟨w.heap.size, 0, none⟩ = some (.int .i64 c) := K3.cell rfl
  have k1 : w3.cell? ⟨w2.heap.size, 0, none⟩ = some (.int .i64 p) := k3.cell rfl
  have B3 := hide (((unhide B2).alloc (unhide B2).size (.cells #[.int .i64 0, .nilIface] 147)).trans (b3.below (by omega) (by simp; omega)))
  have hx : Calls Tryz.prog 76 #[.int .i64 p] w3 fun e w' => e = .returned (.int .i64 p) ∧ w' = w3 := at_any p w3
  clear b3 k3 K3 hx
  go_wp2
  go_region_held3 (fun w' => w'.cell? ⟨w.heap.size, 0, none⟩ = some (.int .i64 c) ∧ w'.cell? ⟨w2.heap.size, 0, none⟩ = some (.int .i64 p)) (go_keep)
    ((go_at_call 76; refine (at_any _ _).mono ?_; rintro e w' ⟨rfl, rfl⟩))
  go_wp2
  go_ret2
  exact ⟨rfl, (unhide B3).drew⟩
end Go.Proofs.YtlbpnlngckgcbaaGreatDoor
