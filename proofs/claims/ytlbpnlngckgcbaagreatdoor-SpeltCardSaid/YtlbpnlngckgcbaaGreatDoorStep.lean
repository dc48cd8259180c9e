import Derived.Test.YtlbpnlngckgcbaaGreatDoorBase
import Derived.Deep.DrawnRows
namespace Go.Proofs.YtlbpnlngckgcbaaGreatDoor
open Go.RowKit Go.PlainAid
set_option linter.unusedSimpArgs false
set_option linter.unusedVariables false
attribute [local go_sem ↓] Go.wp_at_zero Go.wp_at_succ

set_option maxRecDepth 100000 in
set_option maxHeartbeats 4000000 in
theorem step_any (b : Nat) (s : ByteArray) (p : Nat) (t : ByteArray) (d : Nat) (w : World) (hs : s.size ≤ maxLen) (h : Rd w b s p t d) (hf : p + t.size ≤ s.size) :
    Calls Tryz.prog 220 #[.pointer (some ⟨b, 0, none⟩)] w fun e w' => e = .returned (.tuple #[]) ∧ Rd w' b s (tokP s (p + t.size)) (tokT s (p + t.size)) d ∧ But b w w' := by
  have Hs := hide hs
  unfold maxLen at hs
  have H := hide h
  have h0 := h.c0
  have h1 := h.c1
  have h2 := h.c2
  have hz := h.fz
  have hlt := h.lt
  clear h
  have hwr : IntKind.i64.wrap ((p : Int) + (t.size : Int)) = (p : Int) + (t.size : Int) := IntWalk.i64_in _ ⟨by omega, by omega⟩
  go_enter Tryz.func220, Tryz.ntmps220
  go_wp2
  go_region_with
    (first | (go_at_call 76; refine (at_any _ _).mono ?_; rintro e w' ⟨rfl, rfl⟩) | (go_at_call 71; refine (tokenFrom_int s (p + t.size) _ _ (unhide Hs) hf ?_).mono ?_; (omega); rintro e w' ⟨rfl, hb⟩; have R' := (unhide H).drew.below hb; have k0 := R'.c0; have k1 := R'.c1; have k2 := R'.c2; have kz := R'.fz; have HR := hide R'; clear R'))
  all_goals (go_end0; exact ⟨rfl, (unhide HR).now _ _, (((But.refl b w).drew.trans (But.of_below hb)).setCell 1 _).setCell 2 _⟩)
end Go.Proofs.YtlbpnlngckgcbaaGreatDoor
