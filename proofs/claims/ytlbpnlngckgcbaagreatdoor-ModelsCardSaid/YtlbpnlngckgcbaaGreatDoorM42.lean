import Derived.Test.YtlbpnlngckgcbaaGreatDoorM41
namespace Go.Proofs.YtlbpnlngckgcbaaGreatDoor
open Go.RowKit Go.PlainAid Go.Extern.Stop Go.Stop Go.Extern
set_option linter.unusedSimpArgs false
set_option linter.unusedVariables false

theorem ta_Placed_As (x : Value) (w : World) : (Instr.typeAssert (.iface 147 x) 77 330 true).run Tryz.prog w = .ok (.tuple #[.nilIface, .bool false]) w := run_typeAssert_lacksB Tryz.underlying330 (by kernel_rfl) (by kernel_rfl) x 77 w
theorem ta_Placed_Un (x : Value) (w : World) : (Instr.typeAssert (.iface 147 x) 77 333 true).run Tryz.prog w = .ok (.tuple #[.iface 147 x, .bool true]) w := by kernel_rfl
theorem ta_Fault_As (x : Value) (w : World) : (Instr.typeAssert (.iface 134 x) 77 330 true).run Tryz.prog w = .ok (.tuple #[.nilIface, .bool false]) w := run_typeAssert_lacksB Tryz.underlying330 (by kernel_rfl) (by kernel_rfl) x 77 w
theorem ta_Fault_Un (x : Value) (w : World) : (Instr.typeAssert (.iface 134 x) 77 333 true).run Tryz.prog w = .ok (.tuple #[.nilIface, .bool false]) w := run_typeAssert_lacksB Tryz.underlying333 (by kernel_rfl) (by kernel_rfl) x 77 w
theorem ta_Fault_Uns (x : Value) (w : World) : (Instr.typeAssert (.iface 134 x) 77 334 true).run Tryz.prog w = .ok (.tuple #[.nilIface, .bool false]) w := run_typeAssert_lacksB Tryz.underlying334 (by kernel_rfl) (by kernel_rfl) x 77 w
theorem rv_set71 (ta b : Nat) (p : Int) (ft : TypeId) (fv : Value) (o1 o2 : Value) (W : World) (hb : Blk W b #[.int .i64 p, .iface ft fv] 147) (ht : Blk W ta #[o1, o2] 147) :
  (ReflectliteValue.set #[.agg #[.pointer (some ⟨5, 147, none⟩), .pointer (some ⟨ta, 0, none⟩), .int .u64 409], .agg #[.pointer (some ⟨5, 147, none⟩), .pointer (some ⟨b, 0, none⟩), .int .u64 153]]).run Tryz.prog W
   = .ok (.tuple #[]) ((W.setCell ⟨ta, 0, none⟩ (.int .i64 p)).setCell ⟨ta, 1, none⟩ (.iface ft fv)) := by
 have hl := run_loadVar_row (P := Tryz.prog) W b 147 147 #[.int .i64 p, .iface ft fv] (0, 0) _ hb Tryz.underlying147 rfl (by kernel_rfl)
 have c0 : W.cell? ⟨ta, 0, none⟩ = some o1 := ht.cell rfl
 have c1 : W.cell? ⟨ta, 1, none⟩ = some o2 := ht.cell rfl
 have f0 := ht.fz 0
 have f1 := ht.fz 1
 refine Eq.trans (congrArg (fun z : Sem Value => z.run Tryz.prog W) (show ReflectliteValue.set _ = ReflectliteValue.parts _ >>= _ from rfl)) ?_
 simp only [lit20, lit21, Sem.run_bind, rv_parts71a, rv_parts71, Result.andThen, hl]
 simp [ReflectliteValue.flagAddr, hl, Result.andThen, rv_direct71, storeVar, Value.cells, storeCells, Addr.add]
 rw [run_store Tryz.prog W ⟨ta, 0, none⟩ _ _ (by rfl)]
 simp only [c0, f0]
 have ht2 := ht.set 0 (.int .i64 p)
 have d1 : (W.setCell ⟨ta, 0, none⟩ (.int .i64 p)).cell? ⟨ta, 1, none⟩ = some o2 := ht2.cell rfl
 have d2 := ht2.fz 1
 simp only [Bool.false_eq_true, if_false]
 rw [run_store Tryz.prog (W.setCell ⟨ta, 0, none⟩ (.int .i64 p)) ⟨ta, 1, none⟩ _ _ (by rfl)]
 simp [d1, d2]

set_option maxHeartbeats 4000000 in
set_option maxRecDepth 100000 in
theorem as_71 (p c : Int) (tb : Nat) (old : Value) (w : World) (hg : w.cell? ⟨0, 0, none⟩ = some (.iface 325 (.agg #[.pointer (some ⟨5, 77, none⟩)]))) (hT : Blk w tb #[old] 134) :
  Calls Tryz.prog 75 #[.iface 147 (.agg #[.int .i64 p, .iface 134 (.int .i64 c)]), .iface 145 (.pointer (some ⟨tb, 0, none⟩))] w fun ev w' => ev = .returned (.bool true) ∧ But tb w w' ∧ Blk w' tb #[.int .i64 c] 134 := by
 have x54 := @run_callFunc_extern Tryz.prog 119 _ (fun args => ReflectliteValue.unpack (args.getD 0 (.tuple #[]))) Tryz.func119 (by kernel_rfl) (by kernel_rfl) (by kernel_rfl) (by kernel_rfl)
 have x55 := @run_callFunc_extern Tryz.prog 120 _ (ReflectliteValue.methodAny (ReflectliteValue.valueError "reflectlite.Value.Type" 0) (fun t _ _ _ => ReflectliteType.toType t)) Tryz.func120 (by kernel_rfl) (by kernel_rfl) (by kernel_rfl) (by kernel_rfl)
 have x56 := @run_callFunc_extern Tryz.prog 121 _ (ReflectliteValue.method (ReflectliteValue.valueError "reflectlite.Value.IsNil" 0) ReflectliteValue.isNil) Tryz.func121 (by kernel_rfl) (by kernel_rfl) (by kernel_rfl) (by kernel_rfl)
 have xK := @run_callFunc_extern Tryz.prog 292 _ (ReflectliteType.abiMethod fun t => do pure (.int .u8 (← Rtype.kind t))) Tryz.func292 (by kernel_rfl) (by kernel_rfl) (by kernel_rfl) (by kernel_rfl)
 have xE := @run_callFunc_extern Tryz.prog 305 _ (ReflectliteType.method ReflectliteType.elem) Tryz.func305 (by kernel_rfl) (by kernel_rfl) (by kernel_rfl) (by kernel_rfl)
 have xI := @run_callFunc_extern Tryz.prog 306 _ (ReflectliteType.relation "Implements" ReflectliteType.implements_) Tryz.func306 (by kernel_rfl) (by kernel_rfl) (by kernel_rfl) (by kernel_rfl)
 have xT := @run_callFunc_extern Tryz.prog 178 _ ReflectliteType.typeOf Tryz.func178 (by kernel_rfl) (by kernel_rfl) (by kernel_rfl) (by kernel_rfl)
 have xA := @run_callFunc_extern Tryz.prog 303 _ (ReflectliteType.relation "AssignableTo" ReflectliteType.assignableTo) Tryz.func303 (by kernel_rfl) (by kernel_rfl) (by kernel_rfl) (by kernel_rfl)
 have xV := @run_callFunc_extern Tryz.prog 179 _ (ReflectliteValue.method (ReflectliteValue.valueError "reflectlite.Value.Elem" 0) ReflectliteValue.elem) Tryz.func179 (by kernel_rfl) (by kernel_rfl) (by kernel_rfl) (by kernel_rfl)
 have xS := @run_callFunc_extern Tryz.prog 180 _ ReflectliteValue.set Tryz.func180 (by kernel_rfl) (by kernel_rfl) (by kernel_rfl) (by kernel_rfl)
 have mK := rv_mKind
 have mE := rv_mElem
 have mI := rv_mImpl
 have mA := rv_mAssign
 have f6 := rv_of69
 have f7 := rv_type69
 have kp := rv_kind69
 have ke := rv_kind58
 have e27 := rv_elem69
 have i25 := rv_impl58
 have n8 := rv_nil69 ⟨w.heap.size, 0, none⟩ ⟨tb, 0, none⟩ ((w.alloc (.cells #[.pointer (some ⟨tb, 0, none⟩)] 145)).alloc (.cells #[.pointer (some ⟨5, 145, none⟩), .pointer (some ⟨w.heap.size, 0, none⟩), .int .u64 150] 226)) (by simp)
 have hlt : 0 < w.heap.size := by
  rcases Nat.eq_zero_or_pos w.heap.size with h0 | h
  ·simp [World.cell?, h0] at hg
  ·exact h
 have hg2 : ((w.alloc (.cells #[.pointer (some ⟨tb, 0, none⟩)] 145)).alloc (.cells #[.pointer (some ⟨5, 145, none⟩), .pointer (some ⟨w.heap.size, 0, none⟩), .int .u64 150] 226)).cell? ⟨0, 0, none⟩ = some (.iface 325 (.agg #[.pointer (some ⟨5, 77, none⟩)])) := by
  rw [World.cell?_alloc_lt _ _ ⟨0, 0, none⟩ (by simp), World.cell?_alloc_lt _ _ ⟨0, 0, none⟩ hlt]; exact hg
 have htl := hT.lt
 have tO := rv_typeOf58
 have tO' := rv_typeOf71
 have a25 := rv_as58_58
 have a26 := rv_as71_58
 have v25 := rv_of58
 have g1 := ta_Placed_As
 have g2 := ta_Placed_Un
 have g3 := rv_mUnwrap
 have el := rv_elemV69 ⟨w.heap.size, 0, none⟩ ⟨tb, 0, none⟩ ((((w.alloc (.cells #[.pointer (some ⟨tb, 0, none⟩)] 145)).alloc (.cells #[.pointer (some ⟨5, 145, none⟩), .pointer (some ⟨w.heap.size, 0, none⟩), .int .u64 150] 226)).alloc (.cells #[.pointer (some ⟨5, 145, none⟩), .pointer (some ⟨w.heap.size, 0, none⟩), .int .u64 150] 226)).alloc (.cells #[.int .i64 p, .iface 134 (.int .i64 c)] 147)) (by rw [World.cell?_alloc_lt _ _ ⟨w.heap.size, 0, none⟩ (by simp; omega), World.cell?_alloc_lt _ _ ⟨w.heap.size, 0, none⟩ (by simp; omega)]; simp)
 have st := rv_set58 ⟨tb, 0, none⟩ ⟨w.heap.size + 1 + 1 + 1 + 1, 0, none⟩ c old (((((w.alloc (.cells #[.pointer (some ⟨tb, 0, none⟩)] 145)).alloc (.cells #[.pointer (some ⟨5, 145, none⟩), .pointer (some ⟨w.heap.size, 0, none⟩), .int .u64 150] 226)).alloc (.cells #[.pointer (some ⟨5, 145, none⟩), .pointer (some ⟨w.heap.size, 0, none⟩), .int .u64 150] 226)).alloc (.cells #[.int .i64 p, .iface 134 (.int .i64 c)] 147)).alloc (.cells #[.int .i64 c] 134))
  (by rw [World.cell?_alloc_at _ _ _ _ (by simp)]; rfl)
  ((((((hT.alloc _).alloc _).alloc _).alloc _).alloc _).cell rfl)
  ((((((hT.alloc _).alloc _).alloc _).alloc _).alloc _).fz 0)
 have HT := hide hT
 clear hT
 go_enter Tryz.func75, Tryz.ntmps75
 go_wp2
 refine wp_loop_rounds 2 ?_
 rw [rounds_succ]
 go_wp2
 rw [rounds_succ]
 go_wp2
 go_ret
 exact ⟨rfl, (((((((But.refl tb w).alloc _).alloc _).alloc _).alloc _).alloc _).setCell 0 _), (((((((uh HT).alloc _).alloc _).alloc _).alloc _).alloc _).set 0 _)⟩

set_option maxHeartbeats 4000000 in
set_option maxRecDepth 100000 in
theorem as_72 (p : Int) (ft : TypeId) (fv : Value) (tb : Nat) (o1 o2 : Value) (w : World) (hg : w.cell? ⟨0, 0, none⟩ = some (.iface 325 (.agg #[.pointer (some ⟨5, 77, none⟩)]))) (hT : Blk w tb #[o1, o2] 147) :
  Calls Tryz.prog 75 #[.iface 147 (.agg #[.int .i64 p, .iface ft fv]), .iface 148 (.pointer (some ⟨tb, 0, none⟩))] w fun ev w' => ev = .returned (.bool true) ∧ But tb w w' ∧ Blk w' tb #[.int .i64 p, .iface ft fv] 147 := by
 have x54 := @run_callFunc_extern Tryz.prog 119 _ (fun args => ReflectliteValue.unpack (args.getD 0 (.tuple #[]))) Tryz.func119 (by kernel_rfl) (by kernel_rfl) (by kernel_rfl) (by kernel_rfl)
 have x55 := @run_callFunc_extern Tryz.prog 120 _ (ReflectliteValue.methodAny (ReflectliteValue.valueError "reflectlite.Value.Type" 0) (fun t _ _ _ => ReflectliteType.toType t)) Tryz.func120 (by kernel_rfl) (by kernel_rfl) (by kernel_rfl) (by kernel_rfl)
 have x56 := @run_callFunc_extern Tryz.prog 121 _ (ReflectliteValue.method (ReflectliteValue.valueError "reflectlite.Value.IsNil" 0) ReflectliteValue.isNil) Tryz.func121 (by kernel_rfl) (by kernel_rfl) (by kernel_rfl) (by kernel_rfl)
 have xK := @run_callFunc_extern Tryz.prog 292 _ (ReflectliteType.abiMethod fun t => do pure (.int .u8 (← Rtype.kind t))) Tryz.func292 (by kernel_rfl) (by kernel_rfl) (by kernel_rfl) (by kernel_rfl)
 have xE := @run_callFunc_extern Tryz.prog 305 _ (ReflectliteType.method ReflectliteType.elem) Tryz.func305 (by kernel_rfl) (by kernel_rfl) (by kernel_rfl) (by kernel_rfl)
 have xI := @run_callFunc_extern Tryz.prog 306 _ (ReflectliteType.relation "Implements" ReflectliteType.implements_) Tryz.func306 (by kernel_rfl) (by kernel_rfl) (by kernel_rfl) (by kernel_rfl)
 have xT := @run_callFunc_extern Tryz.prog 178 _ ReflectliteType.typeOf Tryz.func178 (by kernel_rfl) (by kernel_rfl) (by kernel_rfl) (by kernel_rfl)
 have xA := @run_callFunc_extern Tryz.prog 303 _ (ReflectliteType.relation "AssignableTo" ReflectliteType.assignableTo) Tryz.func303 (by kernel_rfl) (by kernel_rfl) (by kernel_rfl) (by kernel_rfl)
 have xV := @run_callFunc_extern Tryz.prog 179 _ (ReflectliteValue.method (ReflectliteValue.valueError "reflectlite.Value.Elem" 0) ReflectliteValue.elem) Tryz.func179 (by kernel_rfl) (by kernel_rfl) (by kernel_rfl) (by kernel_rfl)
 have xS := @run_callFunc_extern Tryz.prog 180 _ ReflectliteValue.set Tryz.func180 (by kernel_rfl) (by kernel_rfl) (by kernel_rfl) (by kernel_rfl)
 have mK := rv_mKind
 have mE := rv_mElem
 have mI := rv_mImpl
 have mA := rv_mAssign
 have f6 := rv_of72
 have f7 := rv_type72
 have kp := rv_kind72
 have ke := rv_kind71
 have e27 := rv_elem72
 have i25 := rv_impl71
 have n8 := rv_nil72 ⟨w.heap.size, 0, none⟩ ⟨tb, 0, none⟩ ((w.alloc (.cells #[.pointer (some ⟨tb, 0, none⟩)] 148)).alloc (.cells #[.pointer (some ⟨5, 148, none⟩), .pointer (some ⟨w.heap.size, 0, none⟩), .int .u64 150] 226)) (by simp)
 have hlt : 0 < w.heap.size := by
  rcases Nat.eq_zero_or_pos w.heap.size with h0 | h
  ·simp [World.cell?, h0] at hg
  ·exact h
 have hg2 : ((w.alloc (.cells #[.pointer (some ⟨tb, 0, none⟩)] 148)).alloc (.cells #[.pointer (some ⟨5, 148, none⟩), .pointer (some ⟨w.heap.size, 0, none⟩), .int .u64 150] 226)).cell? ⟨0, 0, none⟩ = some (.iface 325 (.agg #[.pointer (some ⟨5, 77, none⟩)])) := by
  rw [World.cell?_alloc_lt _ _ ⟨0, 0, none⟩ (by simp), World.cell?_alloc_lt _ _ ⟨0, 0, none⟩ hlt]; exact hg
 have htl := hT.lt
 have tO := rv_typeOf71
 have a25 := rv_as71_71
 have v25 := rv_of71
 have el := rv_elemV72 ⟨w.heap.size, 0, none⟩ ⟨tb, 0, none⟩ (((w.alloc (.cells #[.pointer (some ⟨tb, 0, none⟩)] 148)).alloc (.cells #[.pointer (some ⟨5, 148, none⟩), .pointer (some ⟨w.heap.size, 0, none⟩), .int .u64 150] 226)).alloc (.cells #[.pointer (some ⟨5, 148, none⟩), .pointer (some ⟨w.heap.size, 0, none⟩), .int .u64 150] 226)) (by rw [World.cell?_alloc_lt _ _ ⟨w.heap.size, 0, none⟩ (by simp; omega)]; simp)
 have st := rv_set71 tb (w.heap.size + 1 + 1 + 1) p ft fv o1 o2 ((((w.alloc (.cells #[.pointer (some ⟨tb, 0, none⟩)] 148)).alloc (.cells #[.pointer (some ⟨5, 148, none⟩), .pointer (some ⟨w.heap.size, 0, none⟩), .int .u64 150] 226)).alloc (.cells #[.pointer (some ⟨5, 148, none⟩), .pointer (some ⟨w.heap.size, 0, none⟩), .int .u64 150] 226)).alloc (.cells #[.int .i64 p, .iface ft fv] 147))
  (Blk.new' _ _ _ _ (by simp)) ((((hT.alloc _).alloc _).alloc _).alloc _)
 have HT := hide hT
 clear hT
 go_enter Tryz.func75, Tryz.ntmps75
 go_wp2
 refine wp_loop_rounds 1 ?_
 rw [rounds_succ]
 go_wp2
 go_ret
 exact ⟨rfl, (((((((But.refl tb w).alloc _).alloc _).alloc _).alloc _).setCell 0 _).setCell 1 _), (((((((uh HT).alloc _).alloc _).alloc _).alloc _).set 0 _).set 1 _)⟩

set_option maxHeartbeats 4000000 in
set_option maxRecDepth 100000 in
theorem as_no (c : Int) (tb : Nat) (o1 o2 : Value) (w : World) (hg : w.cell? ⟨0, 0, none⟩ = some (.iface 325 (.agg #[.pointer (some ⟨5, 77, none⟩)]))) (hT : Blk w tb #[o1, o2] 147) :
  Calls Tryz.prog 75 #[.iface 134 (.int .i64 c), .iface 148 (.pointer (some ⟨tb, 0, none⟩))] w fun ev w' => ev = .returned (.bool false) ∧ Below w.heap.size w w' := by
 have x54 := @run_callFunc_extern Tryz.prog 119 _ (fun args => ReflectliteValue.unpack (args.getD 0 (.tuple #[]))) Tryz.func119 (by kernel_rfl) (by kernel_rfl) (by kernel_rfl) (by kernel_rfl)
 have x55 := @run_callFunc_extern Tryz.prog 120 _ (ReflectliteValue.methodAny (ReflectliteValue.valueError "reflectlite.Value.Type" 0) (fun t _ _ _ => ReflectliteType.toType t)) Tryz.func120 (by kernel_rfl) (by kernel_rfl) (by kernel_rfl) (by kernel_rfl)
 have x56 := @run_callFunc_extern Tryz.prog 121 _ (ReflectliteValue.method (ReflectliteValue.valueError "reflectlite.Value.IsNil" 0) ReflectliteValue.isNil) Tryz.func121 (by kernel_rfl) (by kernel_rfl) (by kernel_rfl) (by kernel_rfl)
 have xK := @run_callFunc_extern Tryz.prog 292 _ (ReflectliteType.abiMethod fun t => do pure (.int .u8 (← Rtype.kind t))) Tryz.func292 (by kernel_rfl) (by kernel_rfl) (by kernel_rfl) (by kernel_rfl)
 have xE := @run_callFunc_extern Tryz.prog 305 _ (ReflectliteType.method ReflectliteType.elem) Tryz.func305 (by kernel_rfl) (by kernel_rfl) (by kernel_rfl) (by kernel_rfl)
 have xI := @run_callFunc_extern Tryz.prog 306 _ (ReflectliteType.relation "Implements" ReflectliteType.implements_) Tryz.func306 (by kernel_rfl) (by kernel_rfl) (by kernel_rfl) (by kernel_rfl)
 have xT := @run_callFunc_extern Tryz.prog 178 _ ReflectliteType.typeOf Tryz.func178 (by kernel_rfl) (by kernel_rfl) (by kernel_rfl) (by kernel_rfl)
 have xA := @run_callFunc_extern Tryz.prog 303 _ (ReflectliteType.relation "AssignableTo" ReflectliteType.assignableTo) Tryz.func303 (by kernel_rfl) (by kernel_rfl) (by kernel_rfl) (by kernel_rfl)
 have xV := @run_callFunc_extern Tryz.prog 179 _ (ReflectliteValue.method (ReflectliteValue.valueError "reflectlite.Value.Elem" 0) ReflectliteValue.elem) Tryz.func179 (by kernel_rfl) (by kernel_rfl) (by kernel_rfl) (by kernel_rfl)
 have xS := @run_callFunc_extern Tryz.prog 180 _ ReflectliteValue.set Tryz.func180 (by kernel_rfl) (by kernel_rfl) (by kernel_rfl) (by kernel_rfl)
 have mK := rv_mKind
 have mE := rv_mElem
 have mI := rv_mImpl
 have mA := rv_mAssign
 have f6 := rv_of72
 have f7 := rv_type72
 have kp := rv_kind72
 have ke := rv_kind71
 have e27 := rv_elem72
 have i25 := rv_impl71
 have n8 := rv_nil72 ⟨w.heap.size, 0, none⟩ ⟨tb, 0, none⟩ ((w.alloc (.cells #[.pointer (some ⟨tb, 0, none⟩)] 148)).alloc (.cells #[.pointer (some ⟨5, 148, none⟩), .pointer (some ⟨w.heap.size, 0, none⟩), .int .u64 150] 226)) (by simp)
 have hlt : 0 < w.heap.size := by
  rcases Nat.eq_zero_or_pos w.heap.size with h0 | h
  ·simp [World.cell?, h0] at hg
  ·exact h
 have hg2 : ((w.alloc (.cells #[.pointer (some ⟨tb, 0, none⟩)] 148)).alloc (.cells #[.pointer (some ⟨5, 148, none⟩), .pointer (some ⟨w.heap.size, 0, none⟩), .int .u64 150] 226)).cell? ⟨0, 0, none⟩ = some (.iface 325 (.agg #[.pointer (some ⟨5, 77, none⟩)])) := by
  rw [World.cell?_alloc_lt _ _ ⟨0, 0, none⟩ (by simp), World.cell?_alloc_lt _ _ ⟨0, 0, none⟩ hlt]; exact hg
 have htl := hT.lt
 have tO := rv_typeOf58
 have a25 := rv_as58_71
 have g1 := ta_Fault_As
 have g2 := ta_Fault_Un
 have g3 := ta_Fault_Uns
 have HT := hide hT
 clear hT
 go_enter Tryz.func75, Tryz.ntmps75
 go_wp2
 refine wp_loop_rounds 1 ?_
 rw [rounds_succ]
 go_wp2
 go_ret
 exact ⟨rfl, (((Below.refl _ w).alloc (Nat.le_refl _) _).alloc (by simp) _).alloc (by simp; omega) _⟩
end Go.Proofs.YtlbpnlngckgcbaaGreatDoor
