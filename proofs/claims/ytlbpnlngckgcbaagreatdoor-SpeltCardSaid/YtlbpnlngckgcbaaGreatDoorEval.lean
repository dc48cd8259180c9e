import Derived.Test.YtlbpnlngckgcbaaGreatDoorLex
import Derived.KernelRfl
namespace Go.Proofs.YtlbpnlngckgcbaaGreatDoor
open Go.RowKit Go.PlainAid
set_option linter.unusedSimpArgs false
set_option linter.unusedVariables false

/-! The statement's own model: its tokens, and what is read of them. -/
def tokA : List (List UInt8) := [[116, 121, 112, 101], [117, 115, 101, 114], [123], [125], [116, 121, 112, 101], [100, 111, 99], [123], [111, 119, 110, 101, 114], [58], [91], [117, 115, 101, 114], [44], [117, 115, 101, 114], [42], [44], [100, 111, 99], [35], [111, 119, 110, 101, 114], [93], [59], [117, 112], [58], [91], [100, 111, 99], [93], [59], [101, 100, 105, 116], [58]]
def tokMore : List (List UInt8) := [[40], [111, 119, 110, 101, 114], [124], [40], [117, 112], [46], [101, 100, 105, 116], [41], [41], [59], [115, 101, 101], [58], [40], [40], [111, 119, 110, 101, 114], [124], [101, 100, 105, 116], [41], [38], [101, 100, 105, 116], [41], [45], [40], [40], [117, 112], [46], [111, 119, 110, 101, 114], [41], [38], [111, 119, 110, 101, 114], [41], [59], [125]]
def tokLess : List (List UInt8) := [[111, 119, 110, 101, 114], [124], [117, 112], [46], [101, 100, 105, 116], [59], [115, 101, 101], [58], [40], [111, 119, 110, 101, 114], [124], [101, 100, 105, 116], [41], [38], [101, 100, 105, 116], [45], [40], [117, 112], [46], [111, 119, 110, 101, 114], [38], [111, 119, 110, 101, 114], [41], [59], [125]]
def tokM (m : Bool) : List (List UInt8) := tokA ++ (if m then tokMore else tokLess)
def wantL : List UInt8 := [116, 121, 112, 101, 32, 117, 115, 101, 114, 32, 123, 10, 125, 10, 116, 121, 112, 101, 32, 100, 111, 99, 32, 123, 10, 9, 111, 119, 110, 101, 114, 58, 32, 91, 117, 115, 101, 114, 44, 32, 117, 115, 101, 114, 42, 44, 32, 100, 111, 99, 35, 111, 119, 110, 101, 114, 93, 59, 10, 9, 117, 112, 58, 32, 91, 100, 111, 99, 93, 59, 10, 9, 101, 100, 105, 116, 58, 32, 111, 119, 110, 101, 114, 32, 124, 32, 117, 112, 46, 101, 100, 105, 116, 59, 10, 9, 115, 101, 101, 58, 32, 40, 111, 119, 110, 101, 114, 32, 124, 32, 101, 100, 105, 116, 41, 32, 38, 32, 101, 100, 105, 116, 32, 45, 32, 40, 117, 112, 46, 111, 119, 110, 101, 114, 32, 38, 32, 111, 119, 110, 101, 114, 41, 59, 10, 125, 10]
def wantP : List (List UInt8 × List UInt8) := [([], [116, 121, 112, 101]), ([32], [117, 115, 101, 114]), ([32], [123]), ([10], [125]), ([10], [116, 121, 112, 101]), ([32], [100, 111, 99]), ([32], [123]), ([10, 9], [111, 119, 110, 101, 114]), ([], [58]), ([32], [91]), ([], [117, 115, 101, 114]), ([], [44]), ([32], [117, 115, 101, 114]), ([], [42]), ([], [44]), ([32], [100, 111, 99]), ([], [35]), ([], [111, 119, 110, 101, 114]), ([], [93]), ([], [59]), ([10, 9], [117, 112]), ([], [58]), ([32], [91]), ([], [100, 111, 99]), ([], [93]), ([], [59]), ([10, 9], [101, 100, 105, 116]), ([], [58]), ([32], [111, 119, 110, 101, 114]), ([32], [124]), ([32], [117, 112]), ([], [46]), ([], [101, 100, 105, 116]), ([], [59]), ([10, 9], [115, 101, 101]), ([], [58]), ([32], [40]), ([], [111, 119, 110, 101, 114]), ([32], [124]), ([32], [101, 100, 105, 116]), ([], [41]), ([32], [38]), ([32], [101, 100, 105, 116]), ([32], [45]), ([32], [40]), ([], [117, 112]), ([], [46]), ([], [111, 119, 110, 101, 114]), ([32], [38]), ([32], [111, 119, 110, 101, 114]), ([], [41]), ([], [59]), ([10], [125])]
def Tof (l : List (List UInt8)) : Nat → ByteArray := fun i => (l.map mk).getD i em
def evalOk (r : Res (List Ty)) : Option (List UInt8) := match r with
  | .ok (ts, _) => (match checkP ts with
    | none => some (modelT ts)
    | some _ => none)
  | .error _ => none
def badOk (r : Res (List Ty)) (b : Nat) : Bool := match r with
  | .error (c, j) => c == 2 && j == b
  | _ => false
def tokB (l : List (List UInt8)) (b : Nat) : List (List UInt8) := l.take b ++ [37] :: l.drop b
theorem ev_more (P : Nat → Nat) : evalOk (modelR (Tof (tokM true)) P) = some wantL := by kernel_rfl
theorem ev_less (P : Nat → Nat) : evalOk (modelR (Tof (tokM false)) P) = some wantL := by kernel_rfl
theorem bad_more (P : Nat → Nat) : (List.range (tokM true).length).all (fun b => badOk (modelR (Tof (tokB (tokM true) b)) P) b) = true := by kernel_rfl
theorem bad_less (P : Nat → Nat) : (List.range (tokM false).length).all (fun b => badOk (modelR (Tof (tokB (tokM false) b)) P) b) = true := by kernel_rfl
theorem want_flat : wantL = flat wantP ++ [10] := by kernel_rfl
theorem want_good : GoodP [10] wantP = true := by kernel_rfl
theorem want_toks : wantP.map Prod.snd = tokM false := by kernel_rfl
end Go.Proofs.YtlbpnlngckgcbaaGreatDoor
