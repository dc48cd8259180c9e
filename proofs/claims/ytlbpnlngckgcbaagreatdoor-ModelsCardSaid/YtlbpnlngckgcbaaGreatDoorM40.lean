import Derived.Test.YtlbpnlngckgcbaaGreatDoorM39
import Derived.LaidEql
import Derived.Stop.Asserts
import Derived.RowKitTokens
namespace Go.Proofs.YtlbpnlngckgcbaaGreatDoor
open Go.RowKit Go.PlainAid Go.Extern.Stop Go.Stop Go.Extern
set_option linter.unusedSimpArgs false
set_option linter.unusedVariables false

theorem lit1 (u : Value) (h : (#[u] : Array Value).size = 1) (k : 0 < 1) : Array.getLit (n := 1) #[u] 0 h k = u := rfl
theorem lit20 (u v : Value) (h : (#[u, v] : Array Value).size = 2) (k : 0 < 2) : Array.getLit (n := 2) #[u, v] 0 h k = u := rfl
theorem lit21 (u v : Value) (h : (#[u, v] : Array Value).size = 2) (k : 1 < 2) : Array.getLit (n := 2) #[u, v] 1 h k = v := rfl
/-! Closed facts on the model's entries for reflectlite, at this program's types. -/
theorem rv_of69 (t : Addr) (w : World) : (ReflectliteValue.unpack (.iface 145 (.pointer (some t)))).run Tryz.prog w
  = .ok (.agg #[.pointer (some ⟨5, 145, none⟩), .pointer (some ⟨w.heap.size, 0, none⟩), .int .u64 150]) (w.alloc (.cells #[.pointer (some t)] 145)) := by kernel_rfl
theorem rv_of72 (t : Addr) (w : World) : (ReflectliteValue.unpack (.iface 148 (.pointer (some t)))).run Tryz.prog w
  = .ok (.agg #[.pointer (some ⟨5, 148, none⟩), .pointer (some ⟨w.heap.size, 0, none⟩), .int .u64 150]) (w.alloc (.cells #[.pointer (some t)] 148)) := by kernel_rfl
theorem rv_of58 (c : Int) (w : World) : (ReflectliteValue.unpack (.iface 134 (.int .i64 c))).run Tryz.prog w
  = .ok (.agg #[.pointer (some ⟨5, 134, none⟩), .pointer (some ⟨w.heap.size, 0, none⟩), .int .u64 130]) (w.alloc (.cells #[.int .i64 c] 134)) := by kernel_rfl
theorem rv_of71 (p : Int) (e : Value) (w : World) : (ReflectliteValue.unpack (.iface 147 (.agg #[.int .i64 p, e]))).run Tryz.prog w
  = .ok (.agg #[.pointer (some ⟨5, 147, none⟩), .pointer (some ⟨w.heap.size, 0, none⟩), .int .u64 153]) (w.alloc (.cells #[.int .i64 p, e] 147)) := by kernel_rfl
theorem rv_type69 (a : Addr) (w : World) : (ReflectliteValue.methodAny (ReflectliteValue.valueError "reflectlite.Value.Type" 0) (fun t _ _ _ => ReflectliteType.toType t) #[.agg #[.pointer (some ⟨5, 145, none⟩), .pointer (some a), .int .u64 150]]).run Tryz.prog w
  = .ok (.iface 325 (.agg #[.pointer (some ⟨5, 145, none⟩)])) w := by kernel_rfl
theorem rv_type72 (a : Addr) (w : World) : (ReflectliteValue.methodAny (ReflectliteValue.valueError "reflectlite.Value.Type" 0) (fun t _ _ _ => ReflectliteType.toType t) #[.agg #[.pointer (some ⟨5, 148, none⟩), .pointer (some a), .int .u64 150]]).run Tryz.prog w
  = .ok (.iface 325 (.agg #[.pointer (some ⟨5, 148, none⟩)])) w := by kernel_rfl
theorem rv_mKind (h : Value) (w : World) : (Go.method 545 325 (.agg #[h]) "Kind").run Tryz.prog w = .ok (292, h) w := by kernel_rfl
theorem rv_kind69 (w : World) : ((ReflectliteType.abiMethod fun t => Functor.map (fun a : Nat => Value.int IntKind.u8 (a : Int)) (Rtype.kind t)) #[.pointer (some ⟨5, 145, none⟩)]).run Tryz.prog w = .ok (.int .u8 22) w := by kernel_rfl
theorem rv_kind72 (w : World) : ((ReflectliteType.abiMethod fun t => Functor.map (fun a : Nat => Value.int IntKind.u8 (a : Int)) (Rtype.kind t)) #[.pointer (some ⟨5, 148, none⟩)]).run Tryz.prog w = .ok (.int .u8 22) w := by kernel_rfl
theorem rv_kind58 (w : World) : ((ReflectliteType.abiMethod fun t => Functor.map (fun a : Nat => Value.int IntKind.u8 (a : Int)) (Rtype.kind t)) #[.pointer (some ⟨5, 134, none⟩)]).run Tryz.prog w = .ok (.int .u8 2) w := by kernel_rfl
theorem rv_kind71 (w : World) : ((ReflectliteType.abiMethod fun t => Functor.map (fun a : Nat => Value.int IntKind.u8 (a : Int)) (Rtype.kind t)) #[.pointer (some ⟨5, 147, none⟩)]).run Tryz.prog w = .ok (.int .u8 25) w := by kernel_rfl
theorem rv_parts69 (a : Addr) (w : World) : (ReflectliteValue.parts (.agg #[.pointer (some ⟨5, 145, none⟩), .pointer (some a), .int .u64 150])).run Tryz.prog w = .ok (some (145, a, 150)) w := by kernel_rfl
theorem rv_parts72 (a : Addr) (w : World) : (ReflectliteValue.parts (.agg #[.pointer (some ⟨5, 148, none⟩), .pointer (some a), .int .u64 150])).run Tryz.prog w = .ok (some (148, a, 150)) w := by kernel_rfl
theorem rv_nil69 (a p : Addr) (W : World) (ha : W.cell? a = some (.pointer (some p))) :
  (ReflectliteValue.method (ReflectliteValue.valueError "reflectlite.Value.IsNil" 0) ReflectliteValue.isNil #[.agg #[.pointer (some ⟨5, 145, none⟩), .pointer (some a), .int .u64 150]]).run Tryz.prog W = .ok (.bool false) W := by
 refine Eq.trans (congrArg (fun z : Sem Value => z.run Tryz.prog W) (show ReflectliteValue.method _ _ _ = ReflectliteValue.parts _ >>= _ from rfl)) ?_
 simp only [lit1, Sem.run_bind, rv_parts69, Result.andThen]
 simp [ReflectliteValue.isNil, loadVar, isAgg, underlying, Tryz.underlying145, ha, Result.andThen]
theorem rv_nil72 (a p : Addr) (W : World) (ha : W.cell? a = some (.pointer (some p))) :
  (ReflectliteValue.method (ReflectliteValue.valueError "reflectlite.Value.IsNil" 0) ReflectliteValue.isNil #[.agg #[.pointer (some ⟨5, 148, none⟩), .pointer (some a), .int .u64 150]]).run Tryz.prog W = .ok (.bool false) W := by
 refine Eq.trans (congrArg (fun z : Sem Value => z.run Tryz.prog W) (show ReflectliteValue.method _ _ _ = ReflectliteValue.parts _ >>= _ from rfl)) ?_
 simp only [lit1, Sem.run_bind, rv_parts72, Result.andThen]
 simp [ReflectliteValue.isNil, loadVar, isAgg, underlying, Tryz.underlying148, ha, Result.andThen]
theorem rv_mElem (h : Value) (w : World) : (Go.method 545 325 (.agg #[h]) "Elem").run Tryz.prog w = .ok (305, .agg #[h]) w := by kernel_rfl
theorem rv_mImpl (h : Value) (w : World) : (Go.method 545 325 (.agg #[h]) "Implements").run Tryz.prog w = .ok (306, .agg #[h]) w := by kernel_rfl
theorem rv_mAssign (h : Value) (w : World) : (Go.method 545 325 (.agg #[h]) "AssignableTo").run Tryz.prog w = .ok (303, .agg #[h]) w := by kernel_rfl
theorem rv_mUnwrap (p : Int) (h : Value) (w : World) : (Go.method 545 147 (.agg #[.int .i64 p, h]) "Unwrap").run Tryz.prog w = .ok (297, .agg #[.int .i64 p, h]) w := by kernel_rfl
theorem rv_elem69 (w : World) : (ReflectliteType.method ReflectliteType.elem #[.agg #[.pointer (some ⟨5, 145, none⟩)]]).run Tryz.prog w = .ok (.iface 325 (.agg #[.pointer (some ⟨5, 134, none⟩)])) w := by kernel_rfl
theorem rv_elem72 (w : World) : (ReflectliteType.method ReflectliteType.elem #[.agg #[.pointer (some ⟨5, 148, none⟩)]]).run Tryz.prog w = .ok (.iface 325 (.agg #[.pointer (some ⟨5, 147, none⟩)])) w := by kernel_rfl
theorem rv_impl58 (w : World) : (ReflectliteType.relation "Implements" ReflectliteType.implements_ #[.agg #[.pointer (some ⟨5, 134, none⟩)], .iface 325 (.agg #[.pointer (some ⟨5, 77, none⟩)])]).run Tryz.prog w = .ok (.bool true) w := by kernel_rfl
theorem rv_impl71 (w : World) : (ReflectliteType.relation "Implements" ReflectliteType.implements_ #[.agg #[.pointer (some ⟨5, 147, none⟩)], .iface 325 (.agg #[.pointer (some ⟨5, 77, none⟩)])]).run Tryz.prog w = .ok (.bool true) w := by kernel_rfl
theorem rv_typeOf58 (v : Value) (w : World) : (ReflectliteType.typeOf #[.iface 134 v]).run Tryz.prog w = .ok (.iface 325 (.agg #[.pointer (some ⟨5, 134, none⟩)])) w := by kernel_rfl
theorem rv_typeOf71 (v : Value) (w : World) : (ReflectliteType.typeOf #[.iface 147 v]).run Tryz.prog w = .ok (.iface 325 (.agg #[.pointer (some ⟨5, 147, none⟩)])) w := by kernel_rfl
theorem rv_as58_58 (w : World) : (ReflectliteType.relation "AssignableTo" ReflectliteType.assignableTo #[.agg #[.pointer (some ⟨5, 134, none⟩)], .iface 325 (.agg #[.pointer (some ⟨5, 134, none⟩)])]).run Tryz.prog w = .ok (.bool true) w := by kernel_rfl
theorem rv_as71_58 (w : World) : (ReflectliteType.relation "AssignableTo" ReflectliteType.assignableTo #[.agg #[.pointer (some ⟨5, 147, none⟩)], .iface 325 (.agg #[.pointer (some ⟨5, 134, none⟩)])]).run Tryz.prog w = .ok (.bool false) w := by kernel_rfl
theorem rv_as58_71 (w : World) : (ReflectliteType.relation "AssignableTo" ReflectliteType.assignableTo #[.agg #[.pointer (some ⟨5, 134, none⟩)], .iface 325 (.agg #[.pointer (some ⟨5, 147, none⟩)])]).run Tryz.prog w = .ok (.bool false) w := by kernel_rfl
theorem rv_as71_71 (w : World) : (ReflectliteType.relation "AssignableTo" ReflectliteType.assignableTo #[.agg #[.pointer (some ⟨5, 147, none⟩)], .iface 325 (.agg #[.pointer (some ⟨5, 147, none⟩)])]).run Tryz.prog w = .ok (.bool true) w := by kernel_rfl
theorem rv_elemOf69 (w : World) : (Rtype.elem? 145).run Tryz.prog w = .ok (some 134) w := by kernel_rfl
theorem rv_elemOf72 (w : World) : (Rtype.elem? 148).run Tryz.prog w = .ok (some 147) w := by kernel_rfl
theorem rv_mk58 (p : Addr) (w : World) : (ReflectliteValue.mk 134 p ReflectliteValue.flagAddr).run Tryz.prog w = .ok (.agg #[.pointer (some ⟨5, 134, none⟩), .pointer (some p), .int .u64 386]) w := by kernel_rfl
theorem rv_mk71 (p : Addr) (w : World) : (ReflectliteValue.mk 147 p ReflectliteValue.flagAddr).run Tryz.prog w = .ok (.agg #[.pointer (some ⟨5, 147, none⟩), .pointer (some p), .int .u64 409]) w := by kernel_rfl
theorem rv_elemV69 (a p : Addr) (W : World) (ha : W.cell? a = some (.pointer (some p))) :
  (ReflectliteValue.method (ReflectliteValue.valueError "reflectlite.Value.Elem" 0) ReflectliteValue.elem #[.agg #[.pointer (some ⟨5, 145, none⟩), .pointer (some a), .int .u64 150]]).run Tryz.prog W
   = .ok (.agg #[.pointer (some ⟨5, 134, none⟩), .pointer (some p), .int .u64 386]) W := by
 refine Eq.trans (congrArg (fun z : Sem Value => z.run Tryz.prog W) (show ReflectliteValue.method _ _ _ = ReflectliteValue.parts _ >>= _ from rfl)) ?_
 simp only [lit1, Sem.run_bind, rv_parts69, Result.andThen]
 simp [ReflectliteValue.elem, loadVar, isAgg, underlying, Tryz.underlying145, ha, Result.andThen, rv_elemOf69, rv_mk58]
theorem rv_elemV72 (a p : Addr) (W : World) (ha : W.cell? a = some (.pointer (some p))) :
  (ReflectliteValue.method (ReflectliteValue.valueError "reflectlite.Value.Elem" 0) ReflectliteValue.elem #[.agg #[.pointer (some ⟨5, 148, none⟩), .pointer (some a), .int .u64 150]]).run Tryz.prog W
   = .ok (.agg #[.pointer (some ⟨5, 147, none⟩), .pointer (some p), .int .u64 409]) W := by
 refine Eq.trans (congrArg (fun z : Sem Value => z.run Tryz.prog W) (show ReflectliteValue.method _ _ _ = ReflectliteValue.parts _ >>= _ from rfl)) ?_
 simp only [lit1, Sem.run_bind, rv_parts72, Result.andThen]
 simp [ReflectliteValue.elem, loadVar, isAgg, underlying, Tryz.underlying148, ha, Result.andThen, rv_elemOf72, rv_mk71]
theorem rv_parts58a (a : Addr) (w : World) : (ReflectliteValue.parts (.agg #[.pointer (some ⟨5, 134, none⟩), .pointer (some a), .int .u64 386])).run Tryz.prog w = .ok (some (134, a, 386)) w := by kernel_rfl
theorem rv_parts58 (a : Addr) (w : World) : (ReflectliteValue.parts (.agg #[.pointer (some ⟨5, 134, none⟩), .pointer (some a), .int .u64 130])).run Tryz.prog w = .ok (some (134, a, 130)) w := by kernel_rfl
theorem rv_parts71a (a : Addr) (w : World) : (ReflectliteValue.parts (.agg #[.pointer (some ⟨5, 147, none⟩), .pointer (some a), .int .u64 409])).run Tryz.prog w = .ok (some (147, a, 409)) w := by kernel_rfl
theorem rv_parts71 (a : Addr) (w : World) : (ReflectliteValue.parts (.agg #[.pointer (some ⟨5, 147, none⟩), .pointer (some a), .int .u64 153])).run Tryz.prog w = .ok (some (147, a, 153)) w := by kernel_rfl
theorem rv_direct58 (w : World) : (Rtype.directlyAssignable 134 134).run Tryz.prog w = .ok true w := by kernel_rfl
theorem rv_direct71 (w : World) : (Rtype.directlyAssignable 147 147).run Tryz.prog w = .ok true w := by kernel_rfl
theorem rv_set58 (ta b : Addr) (c : Int) (old : Value) (W : World) (hb : W.cell? b = some (.int .i64 c)) (ht : W.cell? ta = some old) (hf : W.frozen? ta = false) :
  (ReflectliteValue.set #[.agg #[.pointer (some ⟨5, 134, none⟩), .pointer (some ta), .int .u64 386], .agg #[.pointer (some ⟨5, 134, none⟩), .pointer (some b), .int .u64 130]]).run Tryz.prog W
   = .ok (.tuple #[]) (W.setCell ta (.int .i64 c)) := by
 refine Eq.trans (congrArg (fun z : Sem Value => z.run Tryz.prog W) (show ReflectliteValue.set _ = ReflectliteValue.parts _ >>= _ from rfl)) ?_
 simp only [lit20, lit21, Sem.run_bind, rv_parts58a, rv_parts58, Result.andThen]
 simp [ReflectliteValue.flagAddr, loadVar, isAgg, underlying, Tryz.underlying134, hb, Result.andThen, rv_direct58, storeVar, Value.cells, storeCells, Addr.add]
 rw [run_store Tryz.prog W ta _ _ (by rfl)]
 simp [ht, hf]
end Go.Proofs.YtlbpnlngckgcbaaGreatDoor
