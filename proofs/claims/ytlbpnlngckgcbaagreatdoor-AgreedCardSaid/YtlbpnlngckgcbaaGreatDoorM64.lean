import Derived.Test.YtlbpnlngckgcbaaGreatDoorM63
import Derived.Test.YtlbpnlngckgcbaaGreatDoorRows
import Derived.Test.YtlbpnlngckgcbaaGreatDoorTie
import Derived.Test.YtlbpnlngckgcbaaGreatDoorCards
set_option linter.all false
set_option maxHeartbeats 20000000
set_option maxRecDepth 100000
namespace Go.Proofs.YtlbpnlngckgcbaaGreatDoor
open Go.ChangeShapes Go.WideShapes Go.RowKit
theorem qOwn : ownKnob Tryz.prog.godebug = none := by kernel_rfl
theorem qVar : Tryz.prog.globalNamed "errors.errorType" = some 0 := by kernel_rfl
theorem qRt : (Tryz.prog.cutTypes.find? (·.1 == "internal/reflectlite.rtype")).map (·.2) = some 325 := by kernel_rfl
theorem qSize : Tryz.prog.types.size = 445 := by kernel_rfl
theorem qOne : ((List.range 445).filter fun t => Tryz.prog.rowNamed t [101, 114, 114, 111, 114]) = [77] := by kernel_rfl
theorem qLaid : laidOutB Tryz.prog = true := by kernel_rfl
theorem KQ : Tryz.prog.globals.size = 5 := by kernel_rfl
theorem qFour : ((begin Tryz.prog (fun _ _ => 0) default).world.heap[4]?).bind Obj.row? = some ((((begin Tryz.prog (fun _ _ => 0) default).world.heap[4]?).bind Obj.row?).getD (#[], 0)) := by kernel_rfl
theorem vY {H : Type} {enc : TypeId × Value → H} {a : Assume} {C : Checked} {os : Os} {f : FuncId} {fn : Func} {s : ChangeSpec} {conds : List PathCond} {apart fresh handsOn again : Bool} {X : World → Array Value → Prop}
    (hX : ∀ (w w' : World) (args : Array Value), w.heap = w'.heap → X w args → X w' args)
    (own : ownKnob C.prog.godebug = none) (started : os.Started) (noInit : C.prog.inits.idxOf? f = none) (hfn : C.prog.funcs[f]? = some fn)
    (witness : ∃ (w : World) (tape : Tape) (i : Input), w.os = os ∧ (w.forCall tape i).Shaped C.prog ∧ i.vars = [] ∧ Input.okWide C.prog (w.forCall tape i) .any w.heap.size f i ∧
      ((s.pre enc C.prog fn conds apart (w.forCall tape i).memory i.args ∧ X (w.forCall tape i).memory i.args) ∧ sizedMet enc C.prog fn (OpenSpec.ofChange s) apart (w.forCall tape i).memory i.args) ∧ a.holds C.prog (lone (Frame.enter C.prog f i.args .normal) [] (w.forCall tape i)))
    (contract : ∀ (W : World) (base : Nat) (args : Array Value) (ds gs : List (DataW H)) (before : List MemPlace),
      (∀ (j : Nat) t v, fn.params[j]? = some t → args[j]? = some v → Value.okWide C.prog W .any base t v) →
      DataW.Whole enc C.prog fn.params.toList s.vars apart W args.toList ds gs before →
      conds.all (PathCond.test C.prog ⟨fn.params.toList, ds, s.plain.varTypes C.prog, gs⟩) = true →
      (DataW.weightsEach C.prog (fn.params.toList ++ s.plain.varTypes C.prog) (ds ++ gs)).all (· ≤ reachBytes) = true → W.ShapedOpen C.prog → X W args →
      a.holds C.prog (lone (Frame.enter C.prog f args .normal) [] W) →
      Calls C.prog f args W fun e W' => ∃ v, e = .returned v ∧ s.post enc C.prog fn apart fresh handsOn again W args v W') :
    ReturnsInHanded a C os f .any (fun w args => (s.pre enc C.prog fn conds apart w args ∧ X w args) ∧ sizedMet enc C.prog fn (OpenSpec.ofChange s) apart w args) (s.post enc C.prog fn apart fresh handsOn again) := by
  refine returnsInHanded_of_calls own started noInit witness ?_
  intro w tape i _ hsh _ hok hpre hholds
  obtain ⟨_, _, _, fn', hfn', _, _, _, _, hval⟩ := hok
  have e : fn' = fn := Option.some.inj (hfn'.symm.trans hfn)
  subst e
  obtain ⟨⟨⟨ds, gs, before, hw, hc⟩, hx⟩, hz⟩ := hpre
  have hw' := DataW.Whole.of_heap (w' := w.forCall tape i) (by rfl) hw
  refine (contract (w.forCall tape i) w.heap.size i.args ds gs before hval hw' hc (hz.weights hw) hsh (hX _ _ _ (by rfl) hx) hholds).mono fun e W' ⟨v, he, hp⟩ => ?_
  subst he
  exact ChangeSpec.post_blind hp
theorem env_agreed {W : World} (h : laidMetH Tryz.prog Rows.agreedRow.laid W) (hs : W.ShapedOpen Tryz.prog) : yN W := by
  have h' : laidMet Tryz.prog [] W ∧ handlesMet Tryz.prog Rows.agreedRow.laid W := h
  refine ⟨?_, ?_, ?_⟩
  · obtain ⟨name, u, ty, e1, e2, e3, e4, e5⟩ := h'.2 _ (List.mem_singleton.2 rfl)
    have en : name = [101, 114, 114, 111, 114] := (Option.some.inj e1).symm
    subst en
    obtain rfl := Option.some.inj (qRt.symm.trans e2)
    have hm : ty ∈ (List.range 445).filter fun t => Tryz.prog.rowNamed t [101, 114, 114, 111, 114] := List.mem_filter.2 ⟨List.mem_range.2 (by rw [← qSize]; exact e3), e4⟩
    rw [qOne] at hm
    obtain rfl := List.mem_singleton.1 hm
    have hh : typeHandle Tryz.prog 77 = .pointer (some ⟨5, 77, none⟩) := by kernel_rfl
    rw [hh] at e5
    unfold Laid
    simpa using World.var?_cell qVar e5 0
  · exact cell_of_shapedOpen_int (t := 3) (zero := #[.int .i64 0]) (k := .i64) hs (by rw [KQ]; decide) (by kernel_rfl) rfl (by kernel_rfl) (by kernel_rfl) Tryz.underlying3
  · obtain ⟨cs, hc, _⟩ := hs.1 4 _ _ (by rw [KQ]; decide) qFour
    exact lt_of_some hc
theorem met_agreed (os : Os) (args : Array Value) : laidMetH Tryz.prog Rows.agreedRow.laid ((World.doorLaid Tryz.prog 31 os).forCall (fun _ _ => 0) ⟨#[], args, []⟩).memory :=
  laidMetH_of_parts (laidMet_nil _ _) (by kernel_rfl)
theorem lifted_agreed (os : Os) (started : os.Started) (H : Type) (enc : TypeId × Value → H) :
    ReturnsInHanded {} Tryz.checked os 10 .any (fun w args => (Rows.agreedSpec.pre enc Tryz.prog Tryz.f10 [] false w args ∧ laidMetH Tryz.prog Rows.agreedRow.laid w) ∧ sizedMet enc Tryz.prog Tryz.f10 (OpenSpec.ofChange Rows.agreedSpec) false w args)
      (Rows.agreedSpec.post enc Tryz.prog Tryz.f10 false true false false) := by
  refine vY (C := Tryz.checked) (X := fun w _ => laidMetH Tryz.prog Rows.agreedRow.laid w) (fun _ _ _ hh h => h.of_heap hh) qOwn started (by kernel_rfl) Tryz.func10
    (ChangeSpec.witness_shaped (enc := enc) (C := Tryz.checked) (os := os) (X := fun w _ => laidMetH Tryz.prog Rows.agreedRow.laid w) false (World.doorLaid Tryz.prog 31 os) #[.slice none 0 0, .int .i64 0] 8 rfl (World.shaped_of_RefB (by kernel_rfl) (by kernel_rfl)) (by kernel_rfl) (by kernel_rfl) (by kernel_rfl) (met_agreed os _)) ?_
  intro W base args ds gs before KR hW _ hwt hsh hL _
  have hval : ∀ (j : Nat) t v, Tryz.f10.params[j]? = some t → args[j]? = some v → Value.okWide Tryz.prog W .any base t v := KR
  have hW' := hW
  obtain ⟨p, q, hA0, hV0, rfl, hfz, hnd⟩ := hW
  have hA : DataW.TrodAll enc Tryz.prog W 0 (fun _ => true) true Tryz.f10.params.toList args.toList ds p := hA0
  have hV : DataW.TrodVars enc Tryz.prog W (fun _ => true) [] gs q := hV0
  rw [Tryz.params10] at hA hval
  obtain ⟨v0, vs0, d0, ds0, p0, q0, hargs, rfl, rfl, h0, r0⟩ := trodAll_cons hA
  obtain ⟨v1, vs1, d1, ds1, p1, q1, rfl, rfl, rfl, h1, r1⟩ := trodAll_cons r0
  obtain ⟨rfl, rfl, rfl⟩ := trodAll_nil r1
  obtain rfl : args = #[v0, v1] := by cases args; simp_all
  obtain ⟨bad, rfl, rfl, rfl, hwb⟩ := open_int Tryz.underlying3 (hval 1 3 v1 rfl rfl) h1
  have hE := env_agreed hL hsh
  obtain ⟨rfl, rfl⟩ : gs = [] ∧ q = [] := by
    cases gs with
    | nil => exact ⟨rfl, hV⟩
    | cons g r => exact absurd hV (by intro h; cases h)
  obtain ⟨a0, len, cap, rfl⟩ := okWide_slice Tryz.underlying44 (hval 0 44 v0 rfl rfl)
  clear hA0 KR
  simp only [List.append_nil] at hW' hwt
  obtain ⟨n, hraw, hlt, hd⟩ := J4 h0
  have hn : n ≤ 4398046511104 := by
    rcases hd with ⟨_, rfl⟩ | ⟨el, sp, rfl, rfl⟩
    · omega
    · have hb : (el.length + sp.length) * Tryz.prog.bytesOf 50 ≤ reachBytes := sized_slice (j := 0) (t := 44) hwt (by
        show (Tryz.f10.params.toList ++ [])[0]? = _
        rw [Tryz.params10]
        rfl) rfl Tryz.underlying44
      rw [J3] at hb
      have : reachBytes = 140737488351232 := rfl
      omega
  refine (agreed_law _ n bad W hraw hn (vW hwb) hE).mono fun e W' ⟨he, hb⟩ => ?_
  subst he
  exact ⟨_, rfl, _, _, _, [], p0, [], hW', trodAll_mk1 (shut_bool Tryz.underlying4 true), by
    have := trodAll_cons_mk (Below.trod qLaid (by kernel_rfl) (of_decide_eq_true (by kernel_rfl)) h0 hb hlt) (trodAll_cons_mk (shut_int Tryz.underlying3 hwb) trodAll_mk0)
    simp only [List.append_nil] at this
    exact this, rfl, hb.frame _, fun h => by cases h⟩
theorem cf1_agreed : (Rows.agreedRow.inPlace == Tryz.prog.inPlace 10) = true := by kernel_rfl
theorem cf2_agreed : (Rows.agreedRow.unfollowed == Tryz.prog.unfollowed 10) = true := by kernel_rfl
theorem cf3_agreed : (Rows.agreedRow.recurses == Tryz.prog.recurses 10) = true := by kernel_rfl
theorem cf4_agreed : (Rows.agreedRow.named == Tryz.prog.varsNamed 10) = true := by kernel_rfl
theorem cf_agreed : joinedFacts Tryz.prog 10 Tryz.f10 Rows.agreedSpec Rows.agreedRow = true := by
  unfold joinedFacts
  rw [cf1_agreed, cf2_agreed, cf3_agreed, cf4_agreed]
  kernel_rfl
theorem agreed_row : Rows.AgreedSaid :=
  OpenClaim.holds_of_wide 10 Tryz.f10 rfl rfl rfl rfl rfl rfl rfl ⟨rfl, rfl, rfl, rfl, rfl⟩ rfl rfl rfl rfl rfl (by kernel_rfl) Tryz.func10 cf_agreed
    (of_decide_eq_true (by kernel_rfl)) (by unfold Func.isWrapper; rw [if_neg (of_decide_eq_false (by kernel_rfl))]; exact ⟨rfl, rfl⟩)
    (fun os started H enc _ => lifted_agreed os started H enc)
theorem agreed_card : Rows.AgreedCardSaid :=
  Claim7.holds_tied_plain_at .later [] [.handle] true (true, "fd20d6c549d17d85a810cd82a604e0c889f018ff3c871702bc764961d7eacfa8") true
    agreed_row (fun _ h => by cases h) (by kernel_rfl) (fun _ h => by cases h) agreed_row_tie rfl ⟨rfl, rfl⟩ (by kernel_rfl) rfl
    (fun f fn hf hfn => by
      obtain rfl : f = 10 := Option.some.inj ((show Tryz.prog.funcNamed Tryz.f10.name = some 10 by kernel_rfl).symm.trans hf) |>.symm
      obtain rfl : fn = Tryz.f10 := (Option.some.inj (Tryz.func10.symm.trans hfn)).symm
      exact ⟨by kernel_rfl, fun j t ht => by
        rw [Tryz.params10] at ht
        have h3 : t = 44 ∨ t = 3 := by
          rcases j with _ | _ | j
          · exact .inl (by simpa using ht.symm)
          · exact .inr (by simpa using ht.symm)
          · simp at ht
        rcases h3 with rfl | rfl
        · exact (show Tryz.prog.wantsStandIn 44 = false by kernel_rfl)
        · exact (show Tryz.prog.wantsStandIn 3 = false by kernel_rfl)⟩)
    (by kernel_rfl)
#print axioms agreed_card
end Go.Proofs.YtlbpnlngckgcbaaGreatDoor

