import Derived.Test.YtlbpnlngckgcbaaGreatDoorAsserts
namespace Go.Proofs.YtlbpnlngckgcbaaGreatDoor
open Go.RowKit Go.PlainAid
set_option linter.unusedSimpArgs false
set_option linter.unusedVariables false

def sd0 : Array Value := #[.int .i64 0, .nilIface, .nilIface]

set_option maxHeartbeats 1000000 in
set_option maxRecDepth 100000 in
theorem sides_Either (p : Nat) (ta : TypeId) (va : Value) (tb : TypeId) (vb : Value) (w : World) :
    Calls Tryz.prog 212 #[.iface 244 (.agg #[.int .i64 p, .iface ta va, .iface tb vb])] w fun e w' => e = .returned (.tuple #[.agg #[.int .i64 p, .iface ta va, .iface tb vb], .bool true]) ∧ Below w.heap.size w w' := by
  have B0 := hide (Below.refl w.heap.size w)
  have f0 := ta_Either_Either
  go_enter Tryz.func212, Tryz.ntmps212
  go_wp2
  refine bodyPost_ret (v := .tuple #[.agg #[.int .i64 p, .iface ta va, .iface tb vb], .bool true]) (res_cc Tryz.results212 _ _ w.heap.size _ 242 _ _ rfl rfl ?hB Tryz.underlying242 rfl (by kernel_rfl)) rfl ?post
  case hB => exact ⟨_, (by first | exact Blk.alloc (Blk.new _ _ _) _ | exact Blk.new _ _ _), by rfl⟩
  case post => exact ⟨rfl, (by repeat (first | with_reducible exact unhide B0 | with_reducible refine Below.drew ?_ | (with_reducible refine Below.setCell ?_ ?_ _; rotate_left; exact (by first | omega | (simp; omega) | simp | (simp; done))) | (with_reducible refine Below.alloc ?_ ?_ _; rotate_left; exact (by first | omega | (simp; omega) | simp | (simp; done)))))⟩

set_option maxHeartbeats 1000000 in
set_option maxRecDepth 100000 in
theorem sides_Both (p : Nat) (ta : TypeId) (va : Value) (tb : TypeId) (vb : Value) (w : World) :
    Calls Tryz.prog 212 #[.iface 245 (.agg #[.int .i64 p, .iface ta va, .iface tb vb])] w fun e w' => e = .returned (.tuple #[.agg #[.int .i64 p, .iface ta va, .iface tb vb], .bool true]) ∧ Below w.heap.size w w' := by
  have B0 := hide (Below.refl w.heap.size w)
  have f0 := ta_Both_Either
  have f1 := ta_Both_Both
  go_enter Tryz.func212, Tryz.ntmps212
  go_wp2
  refine bodyPost_ret (v := .tuple #[.agg #[.int .i64 p, .iface ta va, .iface tb vb], .bool true]) (res_cc Tryz.results212 _ _ w.heap.size _ 242 _ _ rfl rfl ?hB Tryz.underlying242 rfl (by kernel_rfl)) rfl ?post
  case hB => exact ⟨_, (by first | exact Blk.alloc (Blk.new _ _ _) _ | exact Blk.new _ _ _), by rfl⟩
  case post => exact ⟨rfl, (by repeat (first | with_reducible exact unhide B0 | with_reducible refine Below.drew ?_ | (with_reducible refine Below.setCell ?_ ?_ _; rotate_left; exact (by first | omega | (simp; omega) | simp | (simp; done))) | (with_reducible refine Below.alloc ?_ ?_ _; rotate_left; exact (by first | omega | (simp; omega) | simp | (simp; done)))))⟩

set_option maxHeartbeats 1000000 in
set_option maxRecDepth 100000 in
theorem sides_Less (p : Nat) (ta : TypeId) (va : Value) (tb : TypeId) (vb : Value) (w : World) :
    Calls Tryz.prog 212 #[.iface 246 (.agg #[.int .i64 p, .iface ta va, .iface tb vb])] w fun e w' => e = .returned (.tuple #[.agg #[.int .i64 p, .iface ta va, .iface tb vb], .bool true]) ∧ Below w.heap.size w w' := by
  have B0 := hide (Below.refl w.heap.size w)
  have f0 := ta_Less_Either
  have f1 := ta_Less_Both
  have f2 := ta_Less_Less
  go_enter Tryz.func212, Tryz.ntmps212
  go_wp2
  refine bodyPost_ret (v := .tuple #[.agg #[.int .i64 p, .iface ta va, .iface tb vb], .bool true]) (res_cc Tryz.results212 _ _ w.heap.size _ 242 _ _ rfl rfl ?hB Tryz.underlying242 rfl (by kernel_rfl)) rfl ?post
  case hB => exact ⟨_, (by first | exact Blk.alloc (Blk.new _ _ _) _ | exact Blk.new _ _ _), by rfl⟩
  case post => exact ⟨rfl, (by repeat (first | with_reducible exact unhide B0 | with_reducible refine Below.drew ?_ | (with_reducible refine Below.setCell ?_ ?_ _; rotate_left; exact (by first | omega | (simp; omega) | simp | (simp; done))) | (with_reducible refine Below.alloc ?_ ?_ _; rotate_left; exact (by first | omega | (simp; omega) | simp | (simp; done)))))⟩

set_option maxHeartbeats 1000000 in
set_option maxRecDepth 100000 in
theorem sides_List (x : Value) (w : World) :
    Calls Tryz.prog 212 #[.iface 236 x] w fun e w' => e = .returned (.tuple #[.agg sd0, .bool false]) ∧ Below w.heap.size w w' := by
  have B0 := hide (Below.refl w.heap.size w)
  have f0 := ta_List_Either
  have f1 := ta_List_Both
  have f2 := ta_List_Less
  go_enter Tryz.func212, Tryz.ntmps212
  go_wp2
  refine bodyPost_ret (v := .tuple #[.agg sd0, .bool false]) (res_cc Tryz.results212 _ _ w.heap.size _ 242 _ _ rfl rfl ?hB Tryz.underlying242 rfl (by kernel_rfl)) rfl ?post
  case hB => exact ⟨_, (by first | exact Blk.alloc (Blk.new _ _ _) _ | exact Blk.new _ _ _), by rfl⟩
  case post => exact ⟨rfl, (by repeat (first | with_reducible exact unhide B0 | with_reducible refine Below.drew ?_ | (with_reducible refine Below.setCell ?_ ?_ _; rotate_left; exact (by first | omega | (simp; omega) | simp | (simp; done))) | (with_reducible refine Below.alloc ?_ ?_ _; rotate_left; exact (by first | omega | (simp; omega) | simp | (simp; done)))))⟩

set_option maxHeartbeats 1000000 in
set_option maxRecDepth 100000 in
theorem sides_Own (x : Value) (w : World) :
    Calls Tryz.prog 212 #[.iface 238 x] w fun e w' => e = .returned (.tuple #[.agg sd0, .bool false]) ∧ Below w.heap.size w w' := by
  have B0 := hide (Below.refl w.heap.size w)
  have f0 := ta_Own_Either
  have f1 := ta_Own_Both
  have f2 := ta_Own_Less
  go_enter Tryz.func212, Tryz.ntmps212
  go_wp2
  refine bodyPost_ret (v := .tuple #[.agg sd0, .bool false]) (res_cc Tryz.results212 _ _ w.heap.size _ 242 _ _ rfl rfl ?hB Tryz.underlying242 rfl (by kernel_rfl)) rfl ?post
  case hB => exact ⟨_, (by first | exact Blk.alloc (Blk.new _ _ _) _ | exact Blk.new _ _ _), by rfl⟩
  case post => exact ⟨rfl, (by repeat (first | with_reducible exact unhide B0 | with_reducible refine Below.drew ?_ | (with_reducible refine Below.setCell ?_ ?_ _; rotate_left; exact (by first | omega | (simp; omega) | simp | (simp; done))) | (with_reducible refine Below.alloc ?_ ?_ _; rotate_left; exact (by first | omega | (simp; omega) | simp | (simp; done)))))⟩

set_option maxHeartbeats 1000000 in
set_option maxRecDepth 100000 in
theorem sides_Tie (x : Value) (w : World) :
    Calls Tryz.prog 212 #[.iface 240 x] w fun e w' => e = .returned (.tuple #[.agg sd0, .bool false]) ∧ Below w.heap.size w w' := by
  have B0 := hide (Below.refl w.heap.size w)
  have f0 := ta_Tie_Either
  have f1 := ta_Tie_Both
  have f2 := ta_Tie_Less
  go_enter Tryz.func212, Tryz.ntmps212
  go_wp2
  refine bodyPost_ret (v := .tuple #[.agg sd0, .bool false]) (res_cc Tryz.results212 _ _ w.heap.size _ 242 _ _ rfl rfl ?hB Tryz.underlying242 rfl (by kernel_rfl)) rfl ?post
  case hB => exact ⟨_, (by first | exact Blk.alloc (Blk.new _ _ _) _ | exact Blk.new _ _ _), by rfl⟩
  case post => exact ⟨rfl, (by repeat (first | with_reducible exact unhide B0 | with_reducible refine Below.drew ?_ | (with_reducible refine Below.setCell ?_ ?_ _; rotate_left; exact (by first | omega | (simp; omega) | simp | (simp; done))) | (with_reducible refine Below.alloc ?_ ?_ _; rotate_left; exact (by first | omega | (simp; omega) | simp | (simp; done)))))⟩
end Go.Proofs.YtlbpnlngckgcbaaGreatDoor
