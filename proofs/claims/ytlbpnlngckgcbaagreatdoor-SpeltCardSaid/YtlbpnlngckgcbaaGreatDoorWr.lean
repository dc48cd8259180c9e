import Derived.Test.YtlbpnlngckgcbaaGreatDoorTold
import Derived.Test.YtlbpnlngckgcbaaGreatDoorShelf
namespace Go.Proofs.YtlbpnlngckgcbaaGreatDoor
open Go.RowKit Go.PlainAid
set_option linter.unusedSimpArgs false
set_option linter.unusedVariables false

theorem writeString (B b : Nat) (bs : List Value) (s : ByteArray) (w : World) (h : Lib.IsBuilder 153 5 B b bs w) (hlen : bs.length + s.size ≤ 140737488355328) (hBw : B ≤ w.heap.size) :
    Calls Tryz.prog 77 #[.pointer (some ⟨b, 0, none⟩), .string s] w fun e w' => e = .returned (.tuple #[.int .i64 s.size, .nilIface]) ∧ (Lib.BuilderAt 153 5 B b (.pointer (some ⟨b, 0, none⟩)) (bs ++ Lib.strCells s) w' ∧ Below B w w') :=
  Any.Builder_WriteString { Tryz.lays156 with } Tryz.Builder_Extra_156 B b bs s w h hlen hBw

/-- P5: what is written of a grant. -/
def grantW (g : Gr) : ByteArray := if g.reach = 1 then g.ty ++ sg 42 else if g.reach = 2 then (g.ty ++ sg 35) ++ g.rel else g.ty

set_option maxHeartbeats 1000000 in
set_option maxRecDepth 100000 in
theorem grantW_any (g : Gr) (w : World) (h1 : g.ty.size ≤ 1000) (h2 : g.rel.size ≤ 1000) :
    Calls Tryz.prog 182 #[.agg #[.int .i64 g.tp, .string g.ty, .int .i64 g.reach, .int .i64 g.rp, .string g.rel]] w fun e w' => e = .returned (.string (grantW g)) ∧ Below w.heap.size w w' := by
  unfold grantW
  by_cases k1 : g.reach = 1
  · have e1 : ((g.reach : Int) == 1) = true := by rw [k1]; rfl
    rw [if_pos k1]
    go_enter Tryz.func182, Tryz.ntmps182
    go_wp2
    go_ret
    exact ⟨rfl, (Below.refl _ _).alloc (Nat.le_refl _) _⟩
  · have e1 : ((g.reach : Int) == 1) = false := by rw [beq_eq_false_iff_ne]; omega
    rw [if_neg k1]
    by_cases k2 : g.reach = 2
    · have e2 : ((g.reach : Int) == 2) = true := by rw [k2]; rfl
      rw [if_pos k2]
      go_enter Tryz.func182, Tryz.ntmps182
      go_wp2
      go_ret
      exact ⟨rfl, (Below.refl _ _).alloc (Nat.le_refl _) _⟩
    · have e2 : ((g.reach : Int) == 2) = false := by rw [beq_eq_false_iff_ne]; omega
      rw [if_neg k2]
      go_enter Tryz.func182, Tryz.ntmps182
      go_wp2
      go_ret
      exact ⟨rfl, (Below.refl _ _).alloc (Nat.le_refl _) _⟩

def bindN (e : Ex) : Nat := match e.l with
  | none => 2
  | some _ => if e.nd.kind = 3 then 0 else 1
set_option maxHeartbeats 1000000 in
set_option maxRecDepth 100000 in
theorem binding_any (b : Nat) (e : Ex) (v : Value) (w : World) (h : RepEx b w e v) :
    Calls Tryz.prog 227 #[v] w fun e' w' => e' = .returned (.int .i64 (bindN e)) ∧ w' = w := by
  have f0 := ta_List_Either
  have f1 := ta_Own_Either
  have f2 := ta_Tie_Either
  have f3 := ta_Either_Either
  have f4 := ta_Both_Either
  have f5 := ta_Less_Either
  have g0 := ta_List_Both
  have g1 := ta_Own_Both
  have g2 := ta_Tie_Both
  have g4 := ta_Both_Both
  have g5 := ta_Less_Both
  have h0 := ta_List_Less
  have h1 := ta_Own_Less
  have h2 := ta_Tie_Less
  have h4 := ta_Both_Less
  have h5 := ta_Less_Less
  match e, h with
  | ⟨nq, some xq, some yq⟩, ⟨vx, vy, hv, rx, ry⟩ =>
    subst hv
    unfold bindN tyOf
    clear rx ry
    by_cases k3 : nq.kind = 3
    · simp only [k3, if_true]
      go_enter Tryz.func227, Tryz.ntmps227
      go_wp2
      go_ret
      exact ⟨rfl, rfl⟩
    · simp only [k3, if_false]
      by_cases k4 : nq.kind = 4
      · simp only [k4, if_true]
        go_enter Tryz.func227, Tryz.ntmps227
        go_wp2
        go_ret
        exact ⟨rfl, rfl⟩
      · simp only [k4, if_false]
        go_enter Tryz.func227, Tryz.ntmps227
        go_wp2
        go_ret
        exact ⟨rfl, rfl⟩
  | ⟨nq, none, rq⟩, h =>
    rcases h with ⟨_, gv, hv, _⟩ | ⟨_, hv⟩ | ⟨_, hv⟩
    all_goals
      subst hv
      go_enter Tryz.func227, Tryz.ntmps227
      go_wp2
      go_ret
      exact ⟨rfl, rfl⟩
  | ⟨nq, some xq, none⟩, h => exact h.elim
end Go.Proofs.YtlbpnlngckgcbaaGreatDoor
