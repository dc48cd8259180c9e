import Derived.Test.YtlbpnlngckgcbaaGreatDoorRows
import Derived.Test.YtlbpnlngckgcbaaGreatDoorM46
import Derived.ChangeSame
import Derived.DataShut
import Derived.OpenShut
import Derived.ChangeVars
import Derived.ChangeSlices
import Derived.SliceStrings
import Derived.Carry
import Derived.JoinedOf
import Derived.RowKit
import Derived.RowKitTokens
import Derived.LaidLaws
import Derived.LaidHandle
import Derived.LaidMore
import Derived.LaidSub
import Derived.Stop.Joined
namespace Go.Proofs.YtlbpnlngckgcbaaGreatDoor
open Go.ChangeShapes Go.WideShapes Go.RowKit
set_option linter.unusedSimpArgs false
set_option linter.unusedVariables false

theorem own : ownKnob Tryz.prog.godebug = none := by kernel_rfl
theorem laidVar : Tryz.prog.globalNamed "errors.errorType" = some 0 := by kernel_rfl
theorem laidRt : (Tryz.prog.cutTypes.find? (·.1 == "internal/reflectlite.rtype")).map (·.2) = some 325 := by kernel_rfl
theorem laidSize : Tryz.prog.types.size = 445 := by kernel_rfl
theorem laidOne : ((List.range 445).filter fun t => Tryz.prog.rowNamed t [101, 114, 114, 111, 114]) = [77] := by kernel_rfl
theorem cellsStr : Tryz.prog.cellsOf 9 = 1 := by kernel_rfl
theorem laidOutM : laidOutB Tryz.prog = true := by kernel_rfl

/-- What the row's condition gives: the variable's one cell. -/
theorem laid_of {W : World} (h : laidMetH Tryz.prog Rows.modelsRow.laid W) : Laid W := by
 obtain ⟨_, hh⟩ := laidMetH_iff.1 h
 obtain ⟨name, u, ty, e1, e2, e3, e4, e5⟩ := hh ("errors.errorType", Rows.laid_errors_errorType) (List.mem_filter.2 ⟨.tail _ (.tail _ (.tail _ (.head _))), by kernel_rfl⟩)
 have en : name = [101, 114, 114, 111, 114] := (Option.some.inj e1).symm
 subst en
 obtain rfl := Option.some.inj (laidRt.symm.trans e2)
 have hm : ty ∈ (List.range 445).filter fun t => Tryz.prog.rowNamed t [101, 114, 114, 111, 114] := List.mem_filter.2 ⟨List.mem_range.2 (by rw [← laidSize]; exact e3), e4⟩
 rw [laidOne] at hm
 obtain rfl := List.mem_singleton.1 hm
 have hh : typeHandle Tryz.prog 77 = .pointer (some ⟨5, 77, none⟩) := by kernel_rfl
 rw [hh] at e5
 unfold Laid
 simpa using World.var?_cell laidVar e5 0

theorem laidWorld_met (os : Os) (args : Array Value) : laidMetH Tryz.prog Rows.modelsRow.laid ((World.doorLaid Tryz.prog 31 os).forCall (fun _ _ => 0) ⟨#[], args, []⟩).memory :=
 laidMetH_of_parts3 (fuel := 8) (laidMet_of_run' 8 (by kernel_rfl) (by kernel_rfl)) (by kernel_rfl) (by kernel_rfl)

set_option maxRecDepth 100000 in
theorem models_lifted (os : Os) (started : os.Started) (H : Type) (enc : TypeId × Value → H) :
  ReturnsInHanded {} Tryz.checked os 3 .any (fun w args => (Rows.modelsSpec.pre enc Tryz.prog Tryz.f3 [] false w args ∧ laidMetH Tryz.prog Rows.modelsRow.laid w) ∧ sizedMet enc Tryz.prog Tryz.f3 (OpenSpec.ofChange Rows.modelsSpec) false w args)
   (Rows.modelsSpec.post enc Tryz.prog Tryz.f3 false true false false) := by
 refine returnsInHanded_of_change_and (C := Tryz.checked) (X := fun w _ => laidMetH Tryz.prog Rows.modelsRow.laid w) (fun _ _ _ hh h => h.of_heap hh) own started (by kernel_rfl) Tryz.func3
  (ChangeSpec.witness_shaped (enc := enc) (C := Tryz.checked) (os := os) (X := fun w _ => laidMetH Tryz.prog Rows.modelsRow.laid w) false (World.doorLaid Tryz.prog 31 os) #[.slice none 0 0] 8 rfl (World.shaped_of_RefB (by kernel_rfl) (by kernel_rfl)) (by kernel_rfl) (by kernel_rfl) (by kernel_rfl) (laidWorld_met os _)) ?_
 intro W base args ds gs before hval0 hW _ _ hL _
 have hval : ∀ (j : Nat) t v, Tryz.f3.params[j]? = some t → args[j]? = some v → Value.okWide Tryz.prog W .any base t v := hval0
 have hW' := hW
 obtain ⟨p, q, hA0, hV0, rfl, hfz, hnd⟩ := hW
 have hA : DataW.TrodAll enc Tryz.prog W 0 (fun _ => true) true Tryz.f3.params.toList args.toList ds p := hA0
 have hV : DataW.TrodVars enc Tryz.prog W (fun _ => true) [] gs q := hV0
 rw [Tryz.params3] at hA hval
 obtain ⟨v0, vs0, d0, ds0, p0, q0, hargs, rfl, rfl, h0, r0⟩ := trodAll_cons hA
 obtain ⟨rfl, rfl, rfl⟩ := trodAll_nil r0
 obtain rfl : args = #[v0] := by cases args; simp_all
 have hg := laid_of hL
 obtain ⟨rfl, rfl⟩ : gs = [] ∧ q = [] := by
  cases gs with
  | nil => exact ⟨rfl, hV⟩
  | cons g r => exact absurd hV (by intro h; cases h)
 obtain ⟨a0, len, cap, rfl⟩ := okWide_slice Tryz.underlying22 (hval 0 22 v0 rfl rfl)
 have h0k := h0
 obtain ⟨fuel, hf⟩ := h0
 clear hA0 hval0
 simp only [List.append_nil] at hW'
 rcases open_strings Tryz.underlying22 Tryz.underlying9 cellsStr hf with ⟨hcs, hx⟩ | ⟨a, len', cap', ss, hcs, _, hl, hm, hz, hx, hcell, hws⟩
 ·simp [Value.cells] at hcs
  obtain ⟨rfl, rfl, rfl⟩ := hcs
  simp only [Prod.mk.injEq] at hx
  obtain ⟨rfl, rfl⟩ := hx
  refine (models_law _ 0 W (.inl ⟨rfl, rfl⟩) hg).mono fun e W' ⟨he, hb⟩ => ?_
  subst he
  exact ⟨_, rfl, _, _, _, [], [], [], hW', trodAll_mk1 (shut_bool Tryz.underlying4 true), trodAll_cons_mk (shut_slice_nil Tryz.underlying22) trodAll_mk0, rfl, hb.frame _, fun h => by cases h⟩
 ·simp [Value.cells] at hcs
  obtain ⟨rfl, rfl, rfl⟩ := hcs
  simp only [Prod.mk.injEq] at hx
  obtain ⟨rfl, rfl⟩ := hx
  simp only [if_true] at hz
  have hraw : RawS W (.slice (some a) len cap) len := .inr ⟨a, cap, fun j => ss.getD j ByteArray.empty, rfl, hl, hm, fun j hj => hcell j (by omega)⟩
  have hlt : ∀ x ∈ MemPlace.row a ss.length, x.block < W.heap.size := fun x hx => by
   obtain ⟨i, hi, rfl⟩ := MemPlace.mem_row.1 hx
   have := World.block_lt_of_cell? W _ (hcell i hi)
   have hb0 : (a.add i).block = a.block := by unfold Addr.add; split <;> rfl
   rw [hb0] at this
   exact this
  refine (models_law _ len W hraw hg).mono fun e W' ⟨he, hb⟩ => ?_
  subst he
  exact ⟨_, rfl, _, _, _, [], MemPlace.row a ss.length, [], hW', trodAll_mk1 (shut_bool Tryz.underlying4 true), by
   have := trodAll_cons_mk (Below.trod laidOutM (by kernel_rfl) (of_decide_eq_true (by kernel_rfl)) h0k hb hlt) trodAll_mk0
   simp only [List.append_nil] at this
   exact this, rfl, hb.frame _, fun h => by cases h⟩

theorem cf1 : (Rows.modelsRow.inPlace == Tryz.prog.inPlace 3) = true := by kernel_rfl
theorem cf2 : (Rows.modelsRow.unfollowed == Tryz.prog.unfollowed 3) = true := by kernel_rfl
theorem cf3 : (Rows.modelsRow.recurses == Tryz.prog.recurses 3) = true := by kernel_rfl
theorem cf4 : (Rows.modelsRow.named == Tryz.prog.varsNamed 3) = true := by kernel_rfl
theorem cf : joinedFacts Tryz.prog 3 Tryz.f3 Rows.modelsSpec Rows.modelsRow = true := by
 unfold joinedFacts
 rw [cf1, cf2, cf3, cf4]
 kernel_rfl
theorem models_row : Rows.ModelsSaid :=
 OpenClaim.holds_of_wide 3 Tryz.f3 rfl rfl rfl rfl rfl rfl rfl ⟨rfl, rfl, rfl, rfl, rfl⟩ rfl rfl rfl rfl rfl (by kernel_rfl) Tryz.func3 cf
  (of_decide_eq_true (by kernel_rfl)) (by unfold Func.isWrapper; rw [if_neg (of_decide_eq_false (by kernel_rfl))]; exact ⟨rfl, rfl⟩)
  (fun os started H enc _ => models_lifted os started H enc)
end Go.Proofs.YtlbpnlngckgcbaaGreatDoor
