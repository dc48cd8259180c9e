import Derived.Test.YtlbpnlngckgcbaaGreatDoorM17
import Derived.LaidEql
import Derived.Stop.Asserts
import Derived.RowKitTokens
set_option linter.all false
set_option maxHeartbeats 4000000
set_option maxRecDepth 100000
namespace Go.Proofs.YtlbpnlngckgcbaaGreatDoor
open Go.RowKit Go.PlainAid Go.Extern.Stop Go.Stop Go.Extern
theorem KH (u:Value) (h:(#[u]:Array Value).size=1) (k:0<1):Array.getLit (n:=1) #[u] 0 h k=u:=rfl
theorem lit20 (u v:Value) (h:(#[u,v]:Array Value).size=2) (k:0<2):Array.getLit (n:=2) #[u,v] 0 h k=u:=rfl
theorem lit21 (u v:Value) (h:(#[u,v]:Array Value).size=2) (k:1<2):Array.getLit (n:=2) #[u,v] 1 h k=v:=rfl
theorem H8 (t:Addr) (w:World):(ReflectliteValue.unpack (.iface 145 (.pointer (some t)))).run Tryz.prog w
  =.ok (.agg #[.pointer (some ⟨5,145,none⟩),.pointer (some ⟨w.heap.size,0,none⟩),.int .u64 150]) (w.alloc (.cells #[.pointer (some t)] 145)):=by kernel_rfl
theorem H9 (t:Addr) (w:World):(ReflectliteValue.unpack (.iface 148 (.pointer (some t)))).run Tryz.prog w
  =.ok (.agg #[.pointer (some ⟨5,148,none⟩),.pointer (some ⟨w.heap.size,0,none⟩),.int .u64 150]) (w.alloc (.cells #[.pointer (some t)] 148)):=by kernel_rfl
theorem Ia (c:Int) (w:World):(ReflectliteValue.unpack (.iface 134 (.int .i64 c))).run Tryz.prog w
  =.ok (.agg #[.pointer (some ⟨5,134,none⟩),.pointer (some ⟨w.heap.size,0,none⟩),.int .u64 130]) (w.alloc (.cells #[.int .i64 c] 134)):=by kernel_rfl
theorem Cg (a:Addr) (w:World):(ReflectliteValue.methodAny (ReflectliteValue.valueError "reflectlite.Value.Type" 0) (fun t _ _ _=>ReflectliteType.toType t) #[.agg #[.pointer (some ⟨5,145,none⟩),.pointer (some a),.int .u64 150]]).run Tryz.prog w
  =.ok (.iface 325 (.agg #[.pointer (some ⟨5,145,none⟩)])) w:=by kernel_rfl
theorem Ch (a:Addr) (w:World):(ReflectliteValue.methodAny (ReflectliteValue.valueError "reflectlite.Value.Type" 0) (fun t _ _ _=>ReflectliteType.toType t) #[.agg #[.pointer (some ⟨5,148,none⟩),.pointer (some a),.int .u64 150]]).run Tryz.prog w
  =.ok (.iface 325 (.agg #[.pointer (some ⟨5,148,none⟩)])) w:=by kernel_rfl
theorem wH (h:Value) (w:World):(Go.method 545 325 (.agg #[h]) "Kind").run Tryz.prog w=.ok (292,h) w:=by kernel_rfl
theorem Ci (w:World):((ReflectliteType.abiMethod fun t=>Functor.map (fun a:Nat=>Value.int IntKind.u8 (a:Int)) (Rtype.kind t)) #[.pointer (some ⟨5,145,none⟩)]).run Tryz.prog w=.ok (.int .u8 22) w:=by kernel_rfl
theorem Cj (w:World):((ReflectliteType.abiMethod fun t=>Functor.map (fun a:Nat=>Value.int IntKind.u8 (a:Int)) (Rtype.kind t)) #[.pointer (some ⟨5,148,none⟩)]).run Tryz.prog w=.ok (.int .u8 22) w:=by kernel_rfl
theorem Ck (w:World):((ReflectliteType.abiMethod fun t=>Functor.map (fun a:Nat=>Value.int IntKind.u8 (a:Int)) (Rtype.kind t)) #[.pointer (some ⟨5,134,none⟩)]).run Tryz.prog w=.ok (.int .u8 2) w:=by kernel_rfl
theorem Cm (w:World):((ReflectliteType.abiMethod fun t=>Functor.map (fun a:Nat=>Value.int IntKind.u8 (a:Int)) (Rtype.kind t)) #[.pointer (some ⟨5,147,none⟩)]).run Tryz.prog w=.ok (.int .u8 25) w:=by kernel_rfl
theorem qG (a:Addr) (w:World):(ReflectliteValue.parts (.agg #[.pointer (some ⟨5,145,none⟩),.pointer (some a),.int .u64 150])).run Tryz.prog w=.ok (some (145,a,150)) w:=by kernel_rfl
theorem zI (a:Addr) (w:World):(ReflectliteValue.parts (.agg #[.pointer (some ⟨5,148,none⟩),.pointer (some a),.int .u64 150])).run Tryz.prog w=.ok (some (148,a,150)) w:=by kernel_rfl
theorem EI (a p:Addr) (W:World) (ha:W.cell? a=some (.pointer (some p))):
  (ReflectliteValue.method (ReflectliteValue.valueError "reflectlite.Value.IsNil" 0) ReflectliteValue.isNil #[.agg #[.pointer (some ⟨5,145,none⟩),.pointer (some a),.int .u64 150]]).run Tryz.prog W=.ok (.bool false) W:=by
 refine Eq.trans (congrArg (fun z:Sem Value=>z.run Tryz.prog W) (show ReflectliteValue.method _ _ _=ReflectliteValue.parts _ >>= _ from rfl)) ?_;simp only [KH,Sem.run_bind,qG,Result.andThen];simp [ReflectliteValue.isNil,loadVar,isAgg,underlying,Tryz.underlying145,ha,Result.andThen]
theorem EJ (a p:Addr) (W:World) (ha:W.cell? a=some (.pointer (some p))):
  (ReflectliteValue.method (ReflectliteValue.valueError "reflectlite.Value.IsNil" 0) ReflectliteValue.isNil #[.agg #[.pointer (some ⟨5,148,none⟩),.pointer (some a),.int .u64 150]]).run Tryz.prog W=.ok (.bool false) W:=by
 refine Eq.trans (congrArg (fun z:Sem Value=>z.run Tryz.prog W) (show ReflectliteValue.method _ _ _=ReflectliteValue.parts _ >>= _ from rfl)) ?_;simp only [KH,Sem.run_bind,zI,Result.andThen];simp [ReflectliteValue.isNil,loadVar,isAgg,underlying,Tryz.underlying148,ha,Result.andThen]
theorem wI (h:Value) (w:World):(Go.method 545 325 (.agg #[h]) "Elem").run Tryz.prog w=.ok (305,.agg #[h]) w:=by kernel_rfl
theorem wJ (h:Value) (w:World):(Go.method 545 325 (.agg #[h]) "Implements").run Tryz.prog w=.ok (306,.agg #[h]) w:=by kernel_rfl
theorem qH (h:Value) (w:World):(Go.method 545 325 (.agg #[h]) "AssignableTo").run Tryz.prog w=.ok (303,.agg #[h]) w:=by kernel_rfl
theorem Co (w:World):(ReflectliteType.method ReflectliteType.elem #[.agg #[.pointer (some ⟨5,145,none⟩)]]).run Tryz.prog w=.ok (.iface 325 (.agg #[.pointer (some ⟨5,134,none⟩)])) w:=by kernel_rfl
theorem Cs (w:World):(ReflectliteType.method ReflectliteType.elem #[.agg #[.pointer (some ⟨5,148,none⟩)]]).run Tryz.prog w=.ok (.iface 325 (.agg #[.pointer (some ⟨5,147,none⟩)])) w:=by kernel_rfl
theorem Ct (w:World):(ReflectliteType.relation "Implements" ReflectliteType.implements_ #[.agg #[.pointer (some ⟨5,134,none⟩)],.iface 325 (.agg #[.pointer (some ⟨5,77,none⟩)])]).run Tryz.prog w=.ok (.bool true) w:=by kernel_rfl
theorem Cu (w:World):(ReflectliteType.relation "Implements" ReflectliteType.implements_ #[.agg #[.pointer (some ⟨5,147,none⟩)],.iface 325 (.agg #[.pointer (some ⟨5,77,none⟩)])]).run Tryz.prog w=.ok (.bool true) w:=by kernel_rfl
theorem oU (v:Value) (w:World):(ReflectliteType.typeOf #[.iface 134 v]).run Tryz.prog w=.ok (.iface 325 (.agg #[.pointer (some ⟨5,134,none⟩)])) w:=by kernel_rfl
theorem zJ (w:World):(ReflectliteType.relation "AssignableTo" ReflectliteType.assignableTo #[.agg #[.pointer (some ⟨5,134,none⟩)],.iface 325 (.agg #[.pointer (some ⟨5,134,none⟩)])]).run Tryz.prog w=.ok (.bool true) w:=by kernel_rfl
theorem zK (w:World):(ReflectliteType.relation "AssignableTo" ReflectliteType.assignableTo #[.agg #[.pointer (some ⟨5,134,none⟩)],.iface 325 (.agg #[.pointer (some ⟨5,147,none⟩)])]).run Tryz.prog w=.ok (.bool false) w:=by kernel_rfl
theorem wK (w:World):(Rtype.elem? 145).run Tryz.prog w=.ok (some 134) w:=by kernel_rfl
theorem Ib (p:Addr) (w:World):(ReflectliteValue.mk 134 p ReflectliteValue.flagAddr).run Tryz.prog w=.ok (.agg #[.pointer (some ⟨5,134,none⟩),.pointer (some p),.int .u64 386]) w:=by kernel_rfl
theorem zM (a p:Addr) (W:World) (ha:W.cell? a=some (.pointer (some p))):
  (ReflectliteValue.method (ReflectliteValue.valueError "reflectlite.Value.Elem" 0) ReflectliteValue.elem #[.agg #[.pointer (some ⟨5,145,none⟩),.pointer (some a),.int .u64 150]]).run Tryz.prog W
   =.ok (.agg #[.pointer (some ⟨5,134,none⟩),.pointer (some p),.int .u64 386]) W:=by
 refine Eq.trans (congrArg (fun z:Sem Value=>z.run Tryz.prog W) (show ReflectliteValue.method _ _ _=ReflectliteValue.parts _ >>= _ from rfl)) ?_;simp only [KH,Sem.run_bind,qG,Result.andThen];simp [ReflectliteValue.elem,loadVar,isAgg,underlying,Tryz.underlying145,ha,Result.andThen,wK,Ib]
theorem wL (a:Addr) (w:World):(ReflectliteValue.parts (.agg #[.pointer (some ⟨5,134,none⟩),.pointer (some a),.int .u64 386])).run Tryz.prog w=.ok (some (134,a,386)) w:=by kernel_rfl
theorem zN (a:Addr) (w:World):(ReflectliteValue.parts (.agg #[.pointer (some ⟨5,134,none⟩),.pointer (some a),.int .u64 130])).run Tryz.prog w=.ok (some (134,a,130)) w:=by kernel_rfl
theorem wM (w:World):(Rtype.directlyAssignable 134 134).run Tryz.prog w=.ok true w:=by kernel_rfl
theorem EK (ta b:Addr) (c:Int) (old:Value) (W:World) (hb:W.cell? b=some (.int .i64 c)) (ht:W.cell? ta=some old) (hf:W.frozen? ta=false):
  (ReflectliteValue.set #[.agg #[.pointer (some ⟨5,134,none⟩),.pointer (some ta),.int .u64 386],.agg #[.pointer (some ⟨5,134,none⟩),.pointer (some b),.int .u64 130]]).run Tryz.prog W
   =.ok (.tuple #[]) (W.setCell ta (.int .i64 c)):=by
 refine Eq.trans (congrArg (fun z:Sem Value=>z.run Tryz.prog W) (show ReflectliteValue.set _=ReflectliteValue.parts _ >>= _ from rfl)) ?_;simp only [lit20,lit21,Sem.run_bind,wL,zN,Result.andThen];simp [ReflectliteValue.flagAddr,loadVar,isAgg,underlying,Tryz.underlying134,hb,Result.andThen,wM,storeVar,Value.cells,storeCells,Addr.add];rw [run_store Tryz.prog W ta _ _ (by rfl)];simp [ht,hf]
end Go.Proofs.YtlbpnlngckgcbaaGreatDoor
namespace Go.Proofs.YtlbpnlngckgcbaaGreatDoor
open Go.RowKit Go.PlainAid Go.Extern.Stop Go.Stop Go.Extern
theorem KI (t:Value) (w:World):Calls Tryz.prog 75 #[.nilIface,t] w fun e w'=>e=.returned (.bool false)∧w'=w:=by
 go_enter Tryz.func75,Tryz.ntmps75;go_wp2;go_ret;exact ⟨rfl,rfl⟩
theorem as_58 (c:Int) (tb:Nat) (old:Value) (w:World) (hg:w.cell? ⟨0,0,none⟩=some (.iface 325 (.agg #[.pointer (some ⟨5,77,none⟩)]))) (hT:ag w tb #[old] 134):
  Calls Tryz.prog 75 #[.iface 134 (.int .i64 c),.iface 145 (.pointer (some ⟨tb,0,none⟩))] w fun ev w'=>ev=.returned (.bool true)∧But tb w w'∧ag w' tb #[.int .i64 c] 134:=by
 have x54:=@run_callFunc_extern Tryz.prog 119 _ (fun args=>ReflectliteValue.unpack (args.getD 0 (.tuple #[]))) Tryz.func119 (by kernel_rfl) (by kernel_rfl) (by kernel_rfl) (by kernel_rfl);have x55:=@run_callFunc_extern Tryz.prog 120 _ (ReflectliteValue.methodAny (ReflectliteValue.valueError "reflectlite.Value.Type" 0) (fun t _ _ _=>ReflectliteType.toType t)) Tryz.func120 (by kernel_rfl) (by kernel_rfl) (by kernel_rfl) (by kernel_rfl);have x56:=@run_callFunc_extern Tryz.prog 121 _ (ReflectliteValue.method (ReflectliteValue.valueError "reflectlite.Value.IsNil" 0) ReflectliteValue.isNil) Tryz.func121 (by kernel_rfl) (by kernel_rfl) (by kernel_rfl) (by kernel_rfl);have xK:=@run_callFunc_extern Tryz.prog 292 _ (ReflectliteType.abiMethod fun t=>do pure (.int .u8 (←Rtype.kind t))) Tryz.func292 (by kernel_rfl) (by kernel_rfl) (by kernel_rfl) (by kernel_rfl);have xE:=@run_callFunc_extern Tryz.prog 305 _ (ReflectliteType.method ReflectliteType.elem) Tryz.func305 (by kernel_rfl) (by kernel_rfl) (by kernel_rfl) (by kernel_rfl);have xI:=@run_callFunc_extern Tryz.prog 306 _ (ReflectliteType.relation "Implements" ReflectliteType.implements_) Tryz.func306 (by kernel_rfl) (by kernel_rfl) (by kernel_rfl) (by kernel_rfl);have xT:=@run_callFunc_extern Tryz.prog 178 _ ReflectliteType.typeOf Tryz.func178 (by kernel_rfl) (by kernel_rfl) (by kernel_rfl) (by kernel_rfl);have xA:=@run_callFunc_extern Tryz.prog 303 _ (ReflectliteType.relation "AssignableTo" ReflectliteType.assignableTo) Tryz.func303 (by kernel_rfl) (by kernel_rfl) (by kernel_rfl) (by kernel_rfl);have xV:=@run_callFunc_extern Tryz.prog 179 _ (ReflectliteValue.method (ReflectliteValue.valueError "reflectlite.Value.Elem" 0) ReflectliteValue.elem) Tryz.func179 (by kernel_rfl) (by kernel_rfl) (by kernel_rfl) (by kernel_rfl);have xS:=@run_callFunc_extern Tryz.prog 180 _ ReflectliteValue.set Tryz.func180 (by kernel_rfl) (by kernel_rfl) (by kernel_rfl) (by kernel_rfl);have mK:=wH;have mE:=wI;have mI:=wJ;have mA:=qH;have f6:=H8;have f7:=Cg;have kp:=Ci;have ke:=Ck;have e27:=Co;have i25:=Ct;have n8:=EI ⟨w.heap.size,0,none⟩ ⟨tb,0,none⟩ ((w.alloc (.cells #[.pointer (some ⟨tb,0,none⟩)] 145)).alloc (.cells #[.pointer (some ⟨5,145,none⟩),.pointer (some ⟨w.heap.size,0,none⟩),.int .u64 150] 226)) (by simp);have hlt:0<w.heap.size:=by
  rcases Nat.eq_zero_or_pos w.heap.size with h0|h
  ·simp [World.cell?,h0] at hg
  ·exact h
 have hg2:((w.alloc (.cells #[.pointer (some ⟨tb,0,none⟩)] 145)).alloc (.cells #[.pointer (some ⟨5,145,none⟩),.pointer (some ⟨w.heap.size,0,none⟩),.int .u64 150] 226)).cell? ⟨0,0,none⟩=some (.iface 325 (.agg #[.pointer (some ⟨5,77,none⟩)])):=by
  rw [World.cell?_alloc_lt _ _ ⟨0,0,none⟩ (by simp),World.cell?_alloc_lt _ _ ⟨0,0,none⟩ hlt];exact hg
 have htl:=hT.lt;have tO:=oU;have a25:=zJ;have v25:=Ia;have el:=zM ⟨w.heap.size,0,none⟩ ⟨tb,0,none⟩ (((w.alloc (.cells #[.pointer (some ⟨tb,0,none⟩)] 145)).alloc (.cells #[.pointer (some ⟨5,145,none⟩),.pointer (some ⟨w.heap.size,0,none⟩),.int .u64 150] 226)).alloc (.cells #[.pointer (some ⟨5,145,none⟩),.pointer (some ⟨w.heap.size,0,none⟩),.int .u64 150] 226)) (by rw [World.cell?_alloc_lt _ _ ⟨w.heap.size,0,none⟩ (by simp;omega)];simp);have st:=EK ⟨tb,0,none⟩ ⟨w.heap.size+1+1+1,0,none⟩ c old ((((w.alloc (.cells #[.pointer (some ⟨tb,0,none⟩)] 145)).alloc (.cells #[.pointer (some ⟨5,145,none⟩),.pointer (some ⟨w.heap.size,0,none⟩),.int .u64 150] 226)).alloc (.cells #[.pointer (some ⟨5,145,none⟩),.pointer (some ⟨w.heap.size,0,none⟩),.int .u64 150] 226)).alloc (.cells #[.int .i64 c] 134))
  (by rw [World.cell?_alloc_at _ _ _ _ (by simp)];rfl)
  (((((hT.alloc _).alloc _).alloc _).alloc _).cell rfl)
  (((((hT.alloc _).alloc _).alloc _).alloc _).fz 0)
 have HT:=ae hT;clear hT;go_enter Tryz.func75,Tryz.ntmps75;go_wp2;refine wp_loop_rounds 1 ?_;rw [rounds_succ];go_wp2;go_ret;exact ⟨rfl,((((((But.refl tb w).alloc _).alloc _).alloc _).alloc _).setCell 0 _),((((((aa HT).alloc _).alloc _).alloc _).alloc _).set 0 _)⟩
end Go.Proofs.YtlbpnlngckgcbaaGreatDoor
namespace Go.Proofs.YtlbpnlngckgcbaaGreatDoor
open Go.RowKit Go.PlainAid Go.Extern.Stop Go.Stop Go.Extern
theorem wN (x:Value) (w:World):(Instr.typeAssert (.iface 134 x) 77 330 true).run Tryz.prog w=.ok (.tuple #[.nilIface,.bool false]) w:=run_typeAssert_lacksB Tryz.underlying330 (by kernel_rfl) (by kernel_rfl) x 77 w
theorem wO (x:Value) (w:World):(Instr.typeAssert (.iface 134 x) 77 333 true).run Tryz.prog w=.ok (.tuple #[.nilIface,.bool false]) w:=run_typeAssert_lacksB Tryz.underlying333 (by kernel_rfl) (by kernel_rfl) x 77 w
theorem uO (x:Value) (w:World):(Instr.typeAssert (.iface 134 x) 77 334 true).run Tryz.prog w=.ok (.tuple #[.nilIface,.bool false]) w:=run_typeAssert_lacksB Tryz.underlying334 (by kernel_rfl) (by kernel_rfl) x 77 w
theorem as_no (c:Int) (tb:Nat) (o1 o2:Value) (w:World) (hg:w.cell? ⟨0,0,none⟩=some (.iface 325 (.agg #[.pointer (some ⟨5,77,none⟩)]))) (hT:ag w tb #[o1,o2] 147):
  Calls Tryz.prog 75 #[.iface 134 (.int .i64 c),.iface 148 (.pointer (some ⟨tb,0,none⟩))] w fun ev w'=>ev=.returned (.bool false)∧Below w.heap.size w w':=by
 have x54:=@run_callFunc_extern Tryz.prog 119 _ (fun args=>ReflectliteValue.unpack (args.getD 0 (.tuple #[]))) Tryz.func119 (by kernel_rfl) (by kernel_rfl) (by kernel_rfl) (by kernel_rfl);have x55:=@run_callFunc_extern Tryz.prog 120 _ (ReflectliteValue.methodAny (ReflectliteValue.valueError "reflectlite.Value.Type" 0) (fun t _ _ _=>ReflectliteType.toType t)) Tryz.func120 (by kernel_rfl) (by kernel_rfl) (by kernel_rfl) (by kernel_rfl);have x56:=@run_callFunc_extern Tryz.prog 121 _ (ReflectliteValue.method (ReflectliteValue.valueError "reflectlite.Value.IsNil" 0) ReflectliteValue.isNil) Tryz.func121 (by kernel_rfl) (by kernel_rfl) (by kernel_rfl) (by kernel_rfl);have xK:=@run_callFunc_extern Tryz.prog 292 _ (ReflectliteType.abiMethod fun t=>do pure (.int .u8 (←Rtype.kind t))) Tryz.func292 (by kernel_rfl) (by kernel_rfl) (by kernel_rfl) (by kernel_rfl);have xE:=@run_callFunc_extern Tryz.prog 305 _ (ReflectliteType.method ReflectliteType.elem) Tryz.func305 (by kernel_rfl) (by kernel_rfl) (by kernel_rfl) (by kernel_rfl);have xI:=@run_callFunc_extern Tryz.prog 306 _ (ReflectliteType.relation "Implements" ReflectliteType.implements_) Tryz.func306 (by kernel_rfl) (by kernel_rfl) (by kernel_rfl) (by kernel_rfl);have xT:=@run_callFunc_extern Tryz.prog 178 _ ReflectliteType.typeOf Tryz.func178 (by kernel_rfl) (by kernel_rfl) (by kernel_rfl) (by kernel_rfl);have xA:=@run_callFunc_extern Tryz.prog 303 _ (ReflectliteType.relation "AssignableTo" ReflectliteType.assignableTo) Tryz.func303 (by kernel_rfl) (by kernel_rfl) (by kernel_rfl) (by kernel_rfl);have xV:=@run_callFunc_extern Tryz.prog 179 _ (ReflectliteValue.method (ReflectliteValue.valueError "reflectlite.Value.Elem" 0) ReflectliteValue.elem) Tryz.func179 (by kernel_rfl) (by kernel_rfl) (by kernel_rfl) (by kernel_rfl);have xS:=@run_callFunc_extern Tryz.prog 180 _ ReflectliteValue.set Tryz.func180 (by kernel_rfl) (by kernel_rfl) (by kernel_rfl) (by kernel_rfl);have mK:=wH;have mE:=wI;have mI:=wJ;have mA:=qH;have f6:=H9;have f7:=Ch;have kp:=Cj;have ke:=Cm;have e27:=Cs;have i25:=Cu;have n8:=EJ ⟨w.heap.size,0,none⟩ ⟨tb,0,none⟩ ((w.alloc (.cells #[.pointer (some ⟨tb,0,none⟩)] 148)).alloc (.cells #[.pointer (some ⟨5,148,none⟩),.pointer (some ⟨w.heap.size,0,none⟩),.int .u64 150] 226)) (by simp);have hlt:0<w.heap.size:=by
  rcases Nat.eq_zero_or_pos w.heap.size with h0|h
  ·simp [World.cell?,h0] at hg
  ·exact h
 have hg2:((w.alloc (.cells #[.pointer (some ⟨tb,0,none⟩)] 148)).alloc (.cells #[.pointer (some ⟨5,148,none⟩),.pointer (some ⟨w.heap.size,0,none⟩),.int .u64 150] 226)).cell? ⟨0,0,none⟩=some (.iface 325 (.agg #[.pointer (some ⟨5,77,none⟩)])):=by
  rw [World.cell?_alloc_lt _ _ ⟨0,0,none⟩ (by simp),World.cell?_alloc_lt _ _ ⟨0,0,none⟩ hlt];exact hg
 have htl:=hT.lt;have tO:=oU;have a25:=zK;have g1:=wN;have g2:=wO;have g3:=uO;have HT:=ae hT;clear hT;go_enter Tryz.func75,Tryz.ntmps75;go_wp2;refine wp_loop_rounds 1 ?_;rw [rounds_succ];go_wp2;go_ret;exact ⟨rfl,(((Below.refl _ w).alloc (Nat.le_refl _) _).alloc (by simp) _).alloc (by simp;omega) _⟩
end Go.Proofs.YtlbpnlngckgcbaaGreatDoor
namespace Go.Proofs.YtlbpnlngckgcbaaGreatDoor
open Go.RowKit Go.PlainAid
def Laid (w:World):Prop:=w.cell? ⟨0,0,none⟩=some (.iface 325 (.agg #[.pointer (some ⟨5,77,none⟩)]))
theorem Laid.lt {w:World} (h:Laid w):0<w.heap.size:=by
 rcases Nat.eq_zero_or_pos w.heap.size with h0|h'
 ·unfold Laid at h;simp [World.cell?,h0] at h
 ·exact h'
theorem Laid.below {w w':World} {B:Nat} (h:Laid w) (k:Below B w w') (hB:0<B):Laid w':=(World.cell?_of_block (w:=w) (k.block 0 hB)).trans h
theorem Laid.but {w w':World} {b:Nat} (h:Laid w) (k:But b w w') (hb:b≠0):Laid w':=(k.cell (a:=⟨0,0,none⟩) h.lt (fun e=>hb e.symm)).trans h
theorem nD (w:World):Calls Tryz.prog 41 #[.nilIface] w fun e w'=>e=.returned (.tuple #[.int .i64 0,.int .i64 0])∧Below w.heap.size w w':=by
 go_enter Tryz.func41,Tryz.ntmps41;go_wp2_with fail;refine (KI _ _).mono ?_;rintro e w2 ⟨rfl,rfl⟩;go_wp2;go_ret2;exact ⟨rfl,(Below.refl _ _).alloc Qv _⟩
theorem zO (c:Nat) (w:World) (hg:Laid w):Calls Tryz.prog 41 #[aJ c] w fun e w'=>e=.returned (.tuple #[.int .i64 c,.int .i64 0])∧Below w.heap.size w w':=by
 have hl:=hg.lt;have L1:=ae (hg.below ((Below.refl w.heap.size w).alloc Qv (.cells #[.int .i64 0] 134)) hl);clear hg;unfold aJ;go_enter Tryz.func41,Tryz.ntmps41;go_wp2_with fail;refine (as_58 c w.heap.size _ _ (aa L1) (ag.new w _ _)).mono ?_;rintro e w2 ⟨rfl,b2,k2⟩;have B2:=ae (((Below.refl w.heap.size w).alloc Qv (.cells #[.int .i64 0] 134)).trans (b2.below Qv (by simp)));have L2:=ae ((aa L1).but b2 (by omega));have K2:=ae k2;have sz:=k2.lt;clear b2 k2;have L3:=ae ((aa L2).below ((Below.refl w2.heap.size w2).alloc Qv (.cells #[.int .i64 0,.nilIface] 147)) (by omega));go_wp2_with fail;refine (as_no c w2.heap.size _ _ _ (aa L3) (ag.new w2 _ _)).mono ?_;rintro e w3 ⟨rfl,hb3⟩;have K3:=((aa K2).alloc (.cells #[.int .i64 0,.nilIface] 147)).below hb3;have k0:w3.cell? ⟨w.heap.size,0,none⟩=some (.int .i64 c):=K3.cell rfl;have B3:=ae (((aa B2).alloc (aa B2).size (.cells #[.int .i64 0,.nilIface] 147)).trans (hb3.mono (by simp;omega)));clear hb3 K3;go_wp2;go_ret2;exact ⟨rfl,aa B3⟩
structure aQ (S:Nat→Prop) (w w':World):Prop where
 os:w'.os=w.os
 tape:w'.tape=w.tape
 output:w'.output=w.output
 size:w.heap.size≤w'.heap.size
 block:∀k,k<w.heap.size→¬S k→w'.heap[k]? =w.heap[k]?
section
variable {S:Nat→Prop} {x y z:World}
theorem aQ.refl (S:Nat→Prop) (w:World):aQ S w w:=⟨rfl,rfl,rfl,Nat.le_refl _,fun _ _ _=>rfl⟩
theorem aQ.trans (h:aQ S x y) (k:aQ S y z):aQ S x z:=
 ⟨k.os.trans h.os,k.tape.trans h.tape,k.output.trans h.output,Nat.le_trans h.size k.size,fun i hi hs=>(k.block i (Nat.lt_of_lt_of_le hi h.size) hs).trans (h.block i hi hs)⟩
theorem aQ.of_below (h:Below x.heap.size x y):aQ S x y:=⟨h.os,h.tape,h.output,h.size,fun k hk _=>h.block k hk⟩
theorem aQ.of_but {b:Nat} (h:But b x y) (hb:S b):aQ S x y:=⟨h.os,h.tape,h.output,h.size,fun k hk hs=>h.block k hk (fun e=>hs (e▸hb))⟩
theorem aQ.mono {S':Nat→Prop} (h:aQ S x y) (hs:∀k,S k→S' k):aQ S' x y:=⟨h.os,h.tape,h.output,h.size,fun k hk hn=>h.block k hk (fun e=>hn (hs k e))⟩
theorem aQ.set (h:aQ S x y) {a:Addr} (ha:S a.block) (u:Value):aQ S x (y.setCell a u):=
 ⟨h.os,h.tape,h.output,by simpa using h.size,fun k hk hs=>(Below.heap_setCell _ _ _ _ (fun (e:k=a.block)=>hs (by rw [e];exact ha))).trans (h.block k hk hs)⟩
theorem aQ.drew (h:aQ S x y):aQ S x y.drew:=⟨h.os,h.tape,h.output,h.size,h.block⟩
theorem aQ.blk {g:Nat} {cs:Array Value} {T:TypeId} (k:aQ S x y) (h:ag x g cs T) (hg:¬S g):ag y g cs T:=(k.block g h.lt hg).trans h
theorem aQ.below {B:Nat} (k:aQ S x y) (hB:B≤x.heap.size) (hS:∀g,S g→B≤g):Below B x y:=⟨k.os,k.tape,k.output,k.size,fun g hg=>k.block g (by omega) (fun e=>by have:=hS g e;omega)⟩
end
structure PU (w:World) (b:Nat) (mv lv gv:Value) (gs:List Tu):Prop where
 blk:ag w b #[mv,lv,gv] 117
 row:w.ownsRow 0 123 6 gv gs.length (gs.flatMap gL)
 apart:∀g n c,gv=.slice (some ⟨g,0,none⟩) n c→g≠b
 most:gs.length≤1000
def wP (b:Nat) (gv:Value) (k:Nat):Prop:=k=b∨∃n c,gv=.slice (some ⟨k,0,none⟩) n c
theorem PU.below {w w':World} {b:Nat} {mv lv gv:Value} {gs:List Tu} (h:PU w b mv lv gv gs) (k:Below w.heap.size w w'):PU w' b mv lv gv gs:=⟨h.blk.below k,aM h.row k,h.apart,h.most⟩
theorem three {w:World} {g:Nat} {a b c:Value} {T:TypeId} (h:ag w g #[a,b,c] T):w.cell? ⟨g,0,none⟩=some a∧w.cell? ⟨g,1,none⟩=some b∧w.cell? ⟨g,2,none⟩=some c:=⟨h.cell rfl,h.cell rfl,h.cell rfl⟩
theorem sS (PC:yZ) (s:Qx) (w:World) (hm:jZ w) (hw:1<w.heap.size):
  Calls Tryz.prog 60 #[.string s] w fun e w'=>e=.returned (.tuple #[.agg (ky s).1,.bool (ky s).2])∧Below w.heap.size w w':=by
 by_cases h:53<s.size
 ·exact zH s w h
 ·exact wG PC s w (by omega) hm hw
theorem Ic:bg (mk [])=false:=by decide
theorem fA {s:Qx} (h:bg s=true):0<s.size∧s.size≤8:=by
 unfold bg at h;simp only [Bool.and_eq_true,decide_eq_true_eq] at h;exact h.1
theorem iM {s:Qx} {c:UInt8} (h:(au s c).2.2=false):(au s c).1=s∧(au s c).2.1=mk []:=by
 obtain ⟨h1,h2⟩:=gX c (dx s) h;unfold au;simp only [h1,h2,pQ,List.drop_nil,and_self]
theorem jl {s:Qx} {c:UInt8} (h:bg (au s c).2.1=true):(au s c).2.2=true:=by
 cases hf:(au s c).2.2
 ·rw [(iM hf).2,Ic] at h
  cases h
 ·rfl
theorem gu {s:Qx} {c:UInt8} (h:(au s c).2.2=true):dx s=dx (au s c).1++c::dx (au s c).2.1:=by
 have hc:(dx s).contains c=true:=h;have key:∀l:List UInt8,l.contains c=true→l=l.takeWhile (· != c)++c::(l.dropWhile (· != c)).drop 1:=by
  intro l
  induction l with
  |nil=>intro h;simp at h
  |cons b l ih=>
   intro h
   by_cases e:b=c
   ·subst e;simp
   ·have h2:(b != c)=true:=by simpa using e
    rw [List.takeWhile_cons,List.dropWhile_cons,if_pos h2,if_pos h2,List.cons_append,←ih (by
     rw [List.contains_cons,Bool.or_eq_true] at h
     rcases h with h|h
     ·exact absurd (beq_iff_eq.1 h).symm e
     ·exact h)]
 exact key _ hc
theorem EL (s:Qx):(l8 s).2.2=dh s:=by
 unfold l8 dh;simp only
 cases h:bg (au s 58).2.1
 ·simp
 ·rw [jl h];simp
theorem KJ:kg (mk []) (mk []) false=false:=by decide
theorem KL (c:UInt8):au (mk []) c=(mk [],mk [],false):=rfl
def gY (s:Qx):Bool:=dh (au (au s 64).1 35).1&&kg (au (au s 64).2.1 35).1 (au (au s 64).2.1 35).2.1 (au (au s 64).2.1 35).2.2&&bg (au (au s 64).1 35).2.1
theorem fJ {s:Qx} {c:UInt8} (h:(au s c).2.2=true):s.size=(au s c).1.size+1+(au s c).2.1.size:=by
 have:=congrArg List.length (gu h);rw [List.length_append,List.length_cons,aL,aL,aL] at this;omega
theorem Ie {b:Qx} (h:eqs b jI=true):b=jI:=by
 unfold eqs at h;rw [beq_iff_eq] at h;rw [←pQ b,h]
 rfl
theorem sU {s:Qx} (h:gY s=true):s.size≤53∧(ky s)=(#[.string (dG s).1.kind,.string (dG s).1.id,.string (dG s).1.rel,.string (dG s).1.sub,.string (dG s).1.who,.string (dG s).1.of],true)∧
  dx s=dx (dG s).1.kind++58::dx (dG s).1.id++35::dx (dG s).1.rel++64::(dx (dG s).1.sub++58::dx (dG s).1.who++(if (dG s).1.of.size=0 then [] else 35::dx (dG s).1.of)):=by
 have h0:=h;unfold gY at h;simp only [Bool.and_eq_true] at h;obtain ⟨⟨h1,h2⟩,h3⟩:=h;have f1:(au s 64).2.2=true:=by
  cases f:(au s 64).2.2
  ·rw [(iM f).2,KL] at h2;exact absurd h2 (by rw [KJ];simp)
  ·rfl
 have f2:=jl h3;have h1':=h1;unfold dh at h1;simp only [Bool.and_eq_true] at h1;have f3:=jl h1.2;have z1:=fA h1.1;have z2:=fA h1.2;have z3:=fA h3;have j1:=fJ f1;have j2:=fJ f2;have j3:=fJ f3;have l1:=gu f1;have l2:=gu f2;have l3:=gu f3;have tk:(dG s).1.kind=(au (au (au s 64).1 35).1 58).1:=rfl;have ti:(dG s).1.id=(au (au (au s 64).1 35).1 58).2.1:=rfl;have tr:(dG s).1.rel=(au (au s 64).1 35).2.1:=rfl;have ts:(dG s).1.sub=(vW (au (au s 64).2.1 35).1 (au (au s 64).2.1 35).2.2).1:=rfl;have tw:(dG s).1.who=(vW (au (au s 64).2.1 35).1 (au (au s 64).2.1 35).2.2).2.1:=rfl;have to:(dG s).1.of=(au (au s 64).2.1 35).2.1:=rfl;have hP:s.size≤53→ky s=(#[.string (au (au (au s 64).1 35).1 58).1,.string (au (au (au s 64).1 35).1 58).2.1,.string (au (au s 64).1 35).2.1,.string (au (au (au s 64).2.1 35).1 58).1,.string (au (au (au s 64).2.1 35).1 58).2.1,.string (au (au s 64).2.1 35).2.1],true):=fun hz=>by
  unfold ky;rw [if_neg (by omega)];unfold gY at h0;rw [h0]
 rw [tk,ti,tr,ts,tw,to];have hs:(au s 64).2.1.size≤26∧(vW (au (au s 64).2.1 35).1 (au (au s 64).2.1 35).2.2).1=(au (au (au s 64).2.1 35).1 58).1∧(vW (au (au s 64).2.1 35).1 (au (au s 64).2.1 35).2.2).2.1=(au (au (au s 64).2.1 35).1 58).2.1∧
   dx (au s 64).2.1=dx (au (au (au s 64).2.1 35).1 58).1++58::dx (au (au (au s 64).2.1 35).1 58).2.1++(if (au (au s 64).2.1 35).2.1.size=0 then [] else 35::dx (au (au s 64).2.1 35).2.1):=by
  generalize (au s 64).2.1=r at*;clear l1 l2 l3 tk ti tr ts tw to hP j1 j2 j3 z1 z2 z3 f1 f2 f3 h0 h1 h1' h3;unfold kg at h2;unfold vW;rw [EL]
  cases al:(au r 35).2.2
  ·rw [al] at h2;simp only [Bool.false_eq_true,if_false,Bool.or_eq_true,Bool.and_eq_true] at h2;obtain ⟨u1,u2⟩:=iM al;rw [u1] at h2;rw [u1,u2];simp only [Bool.not_false,Bool.and_true]
   rcases h2 with h2|⟨h2,h4⟩
   ·have ht:=h2;unfold dh at h2;simp only [Bool.and_eq_true] at h2;have f:=jl h2.2;have y1:=fA h2.1;have y2:=fA h2.2;have y3:=fJ f;rw [ht];refine ⟨by omega,rfl,rfl,?_⟩;rw [if_pos (by rfl),List.append_nil];exact gu f
   ·have f:(au r 58).2.2=true:=by
     cases f:(au r 58).2.2
     ·rw [(iM f).2] at h2;exact absurd h2 (by decide)
     ·rfl
    have y1:=fA h4;have y3:=fJ f;have hb:=Ie h2;have y2:(au r 58).2.1.size=1:=by rw [hb];rfl
    have ht:dh r=false:=by unfold dh;rw [hb];simp [show bg jI=false by decide]
    rw [ht];refine ⟨by omega,rfl,hb.symm,?_⟩;rw [if_pos (by rfl),List.append_nil];exact gu f
  ·rw [al] at h2;simp only [if_true,Bool.and_eq_true] at h2;have ht:=h2.1;obtain ⟨h4,h5⟩:=h2;unfold dh at h4;simp only [Bool.and_eq_true] at h4;have f:=jl h4.2;have y1:=fA h4.1;have y2:=fA h4.2;have y3:=fJ f;have y4:=fJ al;have y5:=fA h5;simp only [Bool.not_true,Bool.and_false,Bool.false_eq_true,if_false];refine ⟨by omega,rfl,rfl,?_⟩;rw [if_neg (by omega),←gu f];exact gu al
 obtain ⟨k1,k2,k3,k4⟩:=hs;refine ⟨by omega,by rw [hP (by omega),k2,k3],?_⟩;rw [k2,k3,←k4,←l3,←l2];exact l1
theorem EM {s:Qx} (h:53<s.size):gY s=false:=by
 cases hk:gY s
 ·rfl
 ·have:=(sU hk).1;omega
theorem AJ (s:Qx):(ky s).2=gY s:=by
 by_cases h:53<s.size
 ·rw [EM h];unfold ky;rw [if_pos h]
 ·unfold ky gY;rw [if_neg h]
attribute [local go_sem ↓] Go.wp_at_zero Go.wp_at_succ
theorem Ig {l:List Tu} {x:Tu} {k:Nat} (h:iA l x=k):k<l.length:=by
 unfold iA at h
 split at h
 ·rename_i i hi;rw [List.findIdx?_eq_some_iff_getElem] at hi;obtain ⟨hl,_⟩:=hi;omega
 ·omega
def nE (gs:List Tu) (s:Qx):Nat×List Tu:=if gY s=false then (2,gs) else if iA gs (dG s).1<0 then (9,gs) else (0,gs.eraseIdx (iA gs (dG s).1).toNat)
def gH (b:Nat) (mv lv gv:Value) (w:World) (r:Nat×List Tu) (e:Ending) (w':World):Prop:=∃rP,e=.returned (.int .i64 r.1)∧PU w' b mv lv rP r.2∧aQ (wP b gv) w w'∧(∀k,wP b rP k→wP b gv k∨w.heap.size≤k)
theorem gH.same {b:Nat} {mv lv gv:Value} {w w':World} {gs:List Tu} (h:PU w b mv lv gv gs) (k:Below w.heap.size w w') (c:Nat):gH b mv lv gv w (c,gs) (.returned (.int .i64 c)) w':=⟨gv,rfl,h.below k,.of_below k,fun _ h=> .inl h⟩
theorem sV (s:Qx):∃t:Tu,(ky s).1=#[.string t.kind,.string t.id,.string t.rel,.string t.sub,.string t.who,.string t.of]∧(gY s=true→t=(dG s).1):=by
 cases h:gY s
 ·by_cases hz:53<s.size
  ·refine ⟨⟨⟨#[]⟩,⟨#[]⟩,⟨#[]⟩,⟨#[]⟩,⟨#[]⟩,⟨#[]⟩⟩,?_,by simp⟩;unfold ky;rw [if_pos hz]
  ·refine ⟨⟨(au (au (au s 64).1 35).1 58).1,(au (au (au s 64).1 35).1 58).2.1,(au (au s 64).1 35).2.1,(au (au (au s 64).2.1 35).1 58).1,(au (au (au s 64).2.1 35).1 58).2.1,(au (au s 64).2.1 35).2.1⟩,?_,by simp⟩;unfold ky;rw [if_neg hz]
 ·refine ⟨(dG s).1,?_,fun _=>rfl⟩;rw [(sU h).2.1]
theorem wQ (PC:yZ) (b:Nat) (s:Qx) (w:World) (mv lv gv:Value) (gs:List Tu) (h:PU w b mv lv gv gs) (hm:jZ w) (hw:1<w.heap.size):
  Calls Tryz.prog 35 #[.pointer (some ⟨b,0,none⟩),.string s] w (gH b mv lv gv w (nE gs s)):=by
 have C1:=ae (sS PC s w hm hw);have H:=ae h;rw [AJ s] at C1;obtain ⟨t,ht,hk⟩:=sV s;rw [ht] at C1;unfold nE;clear ht
 cases ho:gY s
 ·rw [ho] at C1;rw [if_pos rfl];clear h hm hw PC ho hk;go_enter Tryz.func35,Tryz.ntmps35;go_wp2_with fail;refine (aa C1).mono ?_;rintro e w1 ⟨rfl,hb1⟩;have B1:=ae (hb1.alloc hb1.size (.cells #[.string t.kind,.string t.id,.string t.rel,.string t.sub,.string t.who,.string t.of] 123));clear hb1 C1;go_wp2;go_ret;exact gH.same (aa H) (aa B1) 2
 ·rw [if_neg (by simp),←hk ho];rw [ho] at C1;clear ho hk;obtain ⟨ga,gc,rfl⟩:=ak h.row;have wR:=h.most;have CI:=ae (fun w' (k:Below w.heap.size w w')=>AB 0 _ gs t w' (by omega) (aM h.row k));have hbl:=h.blk.lt;clear h hm hw PC
  by_cases hi:iA gs t<0
  ·rw [if_pos hi];generalize iA gs t=n at*;go_enter Tryz.func35,Tryz.ntmps35;go_wp2_with fail;refine (aa C1).mono ?_;rintro e w1 ⟨rfl,hb1⟩;have B1:=ae (hb1.alloc hb1.size (.cells #[.string t.kind,.string t.id,.string t.rel,.string t.sub,.string t.who,.string t.of] 123));have U1:=ae ((aa H).below (aa B1));have T1:=ae (ag.new w1 #[.string t.kind,.string t.id,.string t.rel,.string t.sub,.string t.who,.string t.of] 123);have hne:¬(w1.heap.size=b):=by have:=hb1.size;omega
   have jV:¬(b=w1.heap.size):=by have:=hb1.size;omega
   clear hb1 C1;go_wp2_with fail;have l1:=(aa B1).size;generalize (w1.alloc (.cells #[.string t.kind,.string t.id,.string t.rel,.string t.sub,.string t.who,.string t.of] 123))=W at*;obtain ⟨c0,c1,c2⟩:=three (aa U1).blk;obtain ⟨t0,t1,t2,t3,t4,t5⟩:=(aa T1).six;have Nv:=ae (aa CI W.drew (aa B1).drew);clear CI
   go_region_held3 (fun w'=>w'.cell? ⟨b,2,none⟩=some (.slice ga gs.length gc)∧w'.cell? ⟨w1.heap.size,0,none⟩=some (.string t.kind)∧w'.cell? ⟨w1.heap.size,1,none⟩=some (.string t.id)∧w'.cell? ⟨w1.heap.size,2,none⟩=some (.string t.rel)∧w'.cell? ⟨w1.heap.size,3,none⟩=some (.string t.sub)∧w'.cell? ⟨w1.heap.size,4,none⟩=some (.string t.who)∧w'.cell? ⟨w1.heap.size,5,none⟩=some (.string t.of)) (go_keep)
    ((go_at_call 68;refine (aa Nv).mono ?_;rintro e w2 ⟨rfl,hb2⟩;have BB:=ae (show Below W.heap.size W w2 from (Below.refl _ W).drew.trans hb2);have d0:=af c2 (aa BB);have d1:=af t0 (aa BB);have d2:=af t1 (aa BB);have d3:=af t2 (aa BB);have d4:=af t3 (aa BB);have d5:=af t4 (aa BB);have d6:=af t5 (aa BB);clear hb2))
   have B2:=ae ((aa B1).trans ((aa BB).mono l1));clear Nv d0 d1 d2 d3 d4 d5 d6 t0 t1 t2 t3 t4 t5 c0 c1 c2 U1 T1 B1 BB;go_wp2;go_ret;exact gH.same (aa H) (aa B2) 9
  ·rw [if_neg hi];obtain ⟨k,hkk⟩:∃k:Nat,iA gs t=k:=⟨(iA gs t).toNat,by omega⟩;have hkl:=Ig hkk;rw [hkk] at CI ⊢;clear hi hkk;obtain ⟨g,c,e1,_⟩:=(aa H).row.form (n:=gs.length) (by omega);simp only [Value.slice.injEq,true_and] at e1;obtain ⟨rfl,rfl⟩:=e1;have hgb:=(aa H).apart g _ _ rfl;rw [Int.toNat_natCast];have Ot:¬((k:Int)<0):=by omega
   go_enter Tryz.func35,Tryz.ntmps35;go_wp2_with fail;refine (aa C1).mono ?_;rintro e w1 ⟨rfl,hb1⟩;have B1:=ae (hb1.alloc hb1.size (.cells #[.string t.kind,.string t.id,.string t.rel,.string t.sub,.string t.who,.string t.of] 123));have U1:=ae ((aa H).below (aa B1));have T1:=ae (ag.new w1 #[.string t.kind,.string t.id,.string t.rel,.string t.sub,.string t.who,.string t.of] 123);have hne:¬(w1.heap.size=b):=by have:=hb1.size;omega
   have jV:¬(b=w1.heap.size):=by have:=hb1.size;omega
   clear hb1 C1;go_wp2_with fail;have l1:=(aa B1).size;generalize (w1.alloc (.cells #[.string t.kind,.string t.id,.string t.rel,.string t.sub,.string t.who,.string t.of] 123))=W at*;obtain ⟨c0,c1,c2⟩:=three (aa U1).blk;obtain ⟨t0,t1,t2,t3,t4,t5⟩:=(aa T1).six;have Nv:=ae (aa CI W.drew (aa B1).drew);clear CI
   go_region_held3 (fun w'=>w'.cell? ⟨b,2,none⟩=some (.slice (some ⟨g,0,none⟩) gs.length gc)∧w'.cell? ⟨w1.heap.size,0,none⟩=some (.string t.kind)∧w'.cell? ⟨w1.heap.size,1,none⟩=some (.string t.id)∧w'.cell? ⟨w1.heap.size,2,none⟩=some (.string t.rel)∧w'.cell? ⟨w1.heap.size,3,none⟩=some (.string t.sub)∧w'.cell? ⟨w1.heap.size,4,none⟩=some (.string t.who)∧w'.cell? ⟨w1.heap.size,5,none⟩=some (.string t.of)) (go_keep)
    ((go_at_call 68;refine (aa Nv).mono ?_;rintro e w2 ⟨rfl,hb2⟩;have BB:=ae (show Below W.heap.size W w2 from (Below.refl _ W).drew.trans hb2);have d0:=af c2 (aa BB);have d1:=af t0 (aa BB);have d2:=af t1 (aa BB);have d3:=af t2 (aa BB);have d4:=af t3 (aa BB);have d5:=af t4 (aa BB);have d6:=af t5 (aa BB);clear hb2))
   have B2:=ae ((aa B1).trans ((aa BB).mono l1));clear Nv d0 d1 d2 d3 d4 d5 d6 t0 t1 t2 t3 t4 t5 c0 c1 c2 U1 T1 B1 BB;have U2:=(aa H).below (aa B2);have D:=ae (Ev 0 g gc gs k w2 hkl (by omega) U2.row);obtain ⟨c0,c1,c2⟩:=three U2.blk;have cz:=U2.blk.fz;have UB:=ae U2.blk;have l2:=U2.blk.lt;have hgb':¬(b=g):=fun e=>hgb e.symm
   clear U2;go_wp2_with fail;refine (aa D).mono ?_;rintro e w3 ⟨rfl,hr3,hb3⟩;have Oy:=ae ((aa UB).but hb3 hgb');obtain ⟨x0,x1,x2⟩:=three (aa Oy);have xz:=(aa Oy).fz;have iq:=ae hr3;have mq:=ae hb3;clear hr3 hb3 c0 c1 c2 cz D;go_wp2;go_ret;have hlen:(gs.eraseIdx k).length=gs.length-1:=List.length_eraseIdx_of_lt hkl;have hS1:wP b (.slice (some ⟨g,0,none⟩) gs.length gc) g:=.inr ⟨_,_,rfl⟩;have hS2:wP b (.slice (some ⟨g,0,none⟩) gs.length gc) b:=.inl rfl;refine ⟨.slice (some ⟨g,0,none⟩) (gs.length-1) gc,rfl,⟨(aa Oy).set 2 _,?_,?_,by show (gs.eraseIdx k).length≤1000;omega⟩,((aQ.of_below (aa B2)).trans (.of_but (aa mq) hS1)).set hS2 _,?_⟩
   ·show World.ownsRow _ 0 123 6 _ (gs.eraseIdx k).length _
    rw [hlen];refine ai (aa iq) (fun g' cs f _ hh=>Below.heap_setCell _ _ _ _ (fun (e':g'=b)=> ?_));subst e';have:=aa Oy;unfold ag at this;rw [hh] at this;simp at this
   ·intro g' n c e;simp only [Value.slice.injEq,Option.some.injEq,Addr.mk.injEq,and_true] at e;exact fun e'=>hgb (e.1.trans e')
   ·rintro k' (rfl|⟨n,c,e⟩)
    ·exact .inl (.inl rfl)
    ·simp only [Value.slice.injEq,Option.some.injEq,Addr.mk.injEq,and_true] at e;exact .inl (.inr ⟨_,_,by rw [e.1]⟩)
