import Derived.Test.YtlbpnlngckgcbaaGreatDoorM42
import Derived.Test.YtlbpnlngckgcbaaGreatDoorM38
namespace Go.Proofs.YtlbpnlngckgcbaaGreatDoor
open Go.RowKit Go.PlainAid
set_option linter.unusedSimpArgs false
set_option linter.unusedVariables false
/-- The variable errors.errorType is as the program lays it. -/
def Laid (w : World) : Prop := w.cell? ⟨0, 0, none⟩ = some (.iface 325 (.agg #[.pointer (some ⟨5, 77, none⟩)]))
theorem Laid.lt {w : World} (h : Laid w) : 0 < w.heap.size := by
 rcases Nat.eq_zero_or_pos w.heap.size with h0 | h'
 ·unfold Laid at h; simp [World.cell?, h0] at h
 ·exact h'
theorem Laid.below {w w' : World} {B : Nat} (h : Laid w) (k : Below B w w') (hB : 0 < B) : Laid w' := (World.cell?_of_block (w := w) (k.block 0 hB)).trans h
theorem Laid.but {w w' : World} {b : Nat} (h : Laid w) (k : But b w w') (hb : b ≠ 0) : Laid w' := (k.cell (a := ⟨0, 0, none⟩) h.lt (fun e => hb e.symm)).trans h
theorem told_nil (w : World) : Calls Tryz.prog 41 #[.nilIface] w fun e w' => e = .returned (.tuple #[.int .i64 0, .int .i64 0]) ∧ Below w.heap.size w w' := by
 go_enter Tryz.func41, Tryz.ntmps41
 go_wp2_with fail
 refine (as_nil _ _).mono ?_
 rintro e w2 ⟨rfl, rfl⟩
 go_wp2
 go_ret2
 exact ⟨rfl, (Below.refl _ _).alloc (Nat.le_refl _) _⟩
set_option maxHeartbeats 1000000 in
set_option maxRecDepth 100000 in
theorem told_fault (c : Nat) (w : World) (hg : Laid w) : Calls Tryz.prog 41 #[errv c] w fun e w' => e = .returned (.tuple #[.int .i64 c, .int .i64 0]) ∧ Below w.heap.size w w' := by
 have hl := hg.lt
 have L1 := hide (hg.below ((Below.refl w.heap.size w).alloc (Nat.le_refl _) (.cells #[.int .i64 0] 134)) hl)
 clear hg
 unfold errv
 go_enter Tryz.func41, Tryz.ntmps41
 go_wp2_with fail
 refine (as_58 c w.heap.size _ _ (uh L1) (Blk.new w _ _)).mono ?_
 rintro e w2 ⟨rfl, b2, k2⟩
 have B2 := hide (((Below.refl w.heap.size w).alloc (Nat.le_refl _) (.cells #[.int .i64 0] 134)).trans (b2.below (Nat.le_refl _) (by simp)))
 have L2 := hide ((uh L1).but b2 (by omega))
 have K2 := hide k2
 have sz := k2.lt
 clear b2 k2
 have L3 := hide ((uh L2).below ((Below.refl w2.heap.size w2).alloc (Nat.le_refl _) (.cells #[.int .i64 0, .nilIface] 147)) (by omega))
 go_wp2_with fail
 refine (as_no c w2.heap.size _ _ _ (uh L3) (Blk.new w2 _ _)).mono ?_
 rintro e w3 ⟨rfl, hb3⟩
 have K3 := ((uh K2).alloc (.cells #[.int .i64 0, .nilIface] 147)).below hb3
 have k0 : w3.cell? ⟨w.heap.size, 0, none⟩ = some (.int .i64 c) := K3.cell rfl
 have B3 := hide (((uh B2).alloc (uh B2).size (.cells #[.int .i64 0, .nilIface] 147)).trans (hb3.mono (by simp; omega)))
 clear hb3 K3
 go_wp2
 go_ret2
 exact ⟨rfl, uh B3⟩
set_option maxHeartbeats 1000000 in
set_option maxRecDepth 100000 in
theorem told_placed (p c : Nat) (w : World) (hg : Laid w) : Calls Tryz.prog 41 #[placed p c] w fun e w' => e = .returned (.tuple #[.int .i64 c, .int .i64 p]) ∧ Below w.heap.size w w' := by
 have hl := hg.lt
 have L1 := hide (hg.below ((Below.refl w.heap.size w).alloc (Nat.le_refl _) (.cells #[.int .i64 0] 134)) hl)
 clear hg
 unfold placed errv
 go_enter Tryz.func41, Tryz.ntmps41
 go_wp2_with fail
 refine (as_71 p c w.heap.size _ _ (uh L1) (Blk.new w _ _)).mono ?_
 rintro e w2 ⟨rfl, b2, k2⟩
 have B2 := hide (((Below.refl w.heap.size w).alloc (Nat.le_refl _) (.cells #[.int .i64 0] 134)).trans (b2.below (Nat.le_refl _) (by simp)))
 have L2 := hide ((uh L1).but b2 (by omega))
 have K2 := hide k2
 have sz := k2.lt
 clear b2 k2
 have L3 := hide ((uh L2).below ((Below.refl w2.heap.size w2).alloc (Nat.le_refl _) (.cells #[.int .i64 0, .nilIface] 147)) (by omega))
 go_wp2_with fail
 refine (as_72 p _ _ w2.heap.size _ _ _ (uh L3) (Blk.new w2 _ _)).mono ?_
 rintro e w3 ⟨rfl, b3, k3⟩
 have K3 := ((uh K2).alloc (.cells #[.int .i64 0, .nilIface] 147)).but b3 (by omega)
 have k0 : w3.cell? ⟨w.heap.size, 0, none⟩ = some (.int .i64 c) := K3.cell rfl
 have k1 : w3.cell? ⟨w2.heap.size, 0, none⟩ = some (.int .i64 p) := k3.cell rfl
 have B3 := hide (((uh B2).alloc (uh B2).size (.cells #[.int .i64 0, .nilIface] 147)).trans (b3.below (by omega) (by simp; omega)))
 have hx : Calls Tryz.prog 76 #[.int .i64 p] w3 fun e w' => e = .returned (.int .i64 p) ∧ w' = w3 := at_any p w3
 clear b3 k3 K3 hx
 go_wp2
 go_region_held3 (fun w' => w'.cell? ⟨w.heap.size, 0, none⟩ = some (.int .i64 c) ∧ w'.cell? ⟨w2.heap.size, 0, none⟩ = some (.int .i64 p)) (go_keep)
  ((go_at_call 76; refine (at_any _ _).mono ?_; rintro e w' ⟨rfl, rfl⟩))
 go_wp2
 go_ret2
 exact ⟨rfl, (uh B3).drew⟩
theorem writeString (B b : Nat) (bs : List Value) (s : ByteArray) (w : World) (h : Lib.IsBuilder 153 5 B b bs w) (hlen : bs.length + s.size ≤ 140737488355328) (hBw : B ≤ w.heap.size) :
  Calls Tryz.prog 77 #[.pointer (some ⟨b, 0, none⟩), .string s] w fun e w' => e = .returned (.tuple #[.int .i64 s.size, .nilIface]) ∧ (Lib.BuilderAt 153 5 B b (.pointer (some ⟨b, 0, none⟩)) (bs ++ Lib.strCells s) w' ∧ Below B w w') :=
 Any.Builder_WriteString { Tryz.lays156 with } Tryz.Builder_Extra_156 B b bs s w h hlen hBw
/-- P5: what is written of a grant. -/
def grantW (g : Gr) : ByteArray := if g.reach = 1 then g.ty ++ sg 42 else if g.reach = 2 then (g.ty ++ sg 35) ++ g.rel else g.ty
set_option maxHeartbeats 1000000 in
set_option maxRecDepth 100000 in
theorem grantW_any (g : Gr) (w : World) (h1 : g.ty.size ≤ 1000) (h2 : g.rel.size ≤ 1000) :
  Calls Tryz.prog 182 #[.agg #[.int .i64 g.tp, .string g.ty, .int .i64 g.reach, .int .i64 g.rp, .string g.rel]] w fun e w' => e = .returned (.string (grantW g)) ∧ Below w.heap.size w w' := by
 unfold grantW
 by_cases k1 : g.reach = 1
 ·have e1 : ((g.reach : Int) == 1) = true := by rw [k1]; rfl
  rw [if_pos k1]
  go_enter Tryz.func182, Tryz.ntmps182
  go_wp2
  go_ret
  exact ⟨rfl, (Below.refl _ _).alloc (Nat.le_refl _) _⟩
 ·have e1 : ((g.reach : Int) == 1) = false := by rw [beq_eq_false_iff_ne]; omega
  rw [if_neg k1]
  by_cases k2 : g.reach = 2
  ·have e2 : ((g.reach : Int) == 2) = true := by rw [k2]; rfl
   rw [if_pos k2]
   go_enter Tryz.func182, Tryz.ntmps182
   go_wp2
   go_ret
   exact ⟨rfl, (Below.refl _ _).alloc (Nat.le_refl _) _⟩
  ·have e2 : ((g.reach : Int) == 2) = false := by rw [beq_eq_false_iff_ne]; omega
   rw [if_neg k2]
   go_enter Tryz.func182, Tryz.ntmps182
   go_wp2
   go_ret
   exact ⟨rfl, (Below.refl _ _).alloc (Nat.le_refl _) _⟩
def bindN (e : Ex) : Nat := match e.l with
 | none => 2
 | some _ => if e.nd.kind = 3 then 0 else 1
set_option maxHeartbeats 1000000 in
set_option maxRecDepth 100000 in
theorem binding_any (b : Nat) (e : Ex) (v : Value) (w : World) (h : RepEx b w e v) :
  Calls Tryz.prog 227 #[v] w fun e' w' => e' = .returned (.int .i64 (bindN e)) ∧ w' = w := by
 have f0 := ta_List_Either
 have f1 := ta_Own_Either
 have f2 := ta_Tie_Either
 have f3 := ta_Either_Either
 have f4 := ta_Both_Either
 have f5 := ta_Less_Either
 have g0 := ta_List_Both
 have g1 := ta_Own_Both
 have g2 := ta_Tie_Both
 have g4 := ta_Both_Both
 have g5 := ta_Less_Both
 have h0 := ta_List_Less
 have h1 := ta_Own_Less
 have h2 := ta_Tie_Less
 have h4 := ta_Both_Less
 have h5 := ta_Less_Less
 match e, h with
 | ⟨nq, some xq, some yq⟩, ⟨vx, vy, hv, rx, ry⟩ =>
  subst hv
  unfold bindN tyOf
  clear rx ry
  by_cases k3 : nq.kind = 3
  ·simp only [k3, if_true]
   go_enter Tryz.func227, Tryz.ntmps227
   go_wp2
   go_ret
   exact ⟨rfl, rfl⟩
  ·simp only [k3, if_false]
   by_cases k4 : nq.kind = 4
   ·simp only [k4, if_true]
    go_enter Tryz.func227, Tryz.ntmps227
    go_wp2
    go_ret
    exact ⟨rfl, rfl⟩
   ·simp only [k4, if_false]
    go_enter Tryz.func227, Tryz.ntmps227
    go_wp2
    go_ret
    exact ⟨rfl, rfl⟩
 | ⟨nq, none, rq⟩, h =>
  rcases h with ⟨_, gv, hv, _⟩ | ⟨_, hv⟩ | ⟨_, hv⟩
  all_goals
   subst hv
   go_enter Tryz.func227, Tryz.ntmps227
   go_wp2
   go_ret
   exact ⟨rfl, rfl⟩
 | ⟨nq, some xq, none⟩, h => exact h.elim
end Go.Proofs.YtlbpnlngckgcbaaGreatDoor
