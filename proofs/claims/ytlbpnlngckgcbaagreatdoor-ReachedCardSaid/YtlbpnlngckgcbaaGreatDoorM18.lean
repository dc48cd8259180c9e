import Derived.Test.YtlbpnlngckgcbaaGreatDoorM17
import Derived.LaidEql
import Derived.Stop.Asserts
import Derived.RowKitTokens
set_option linter.all false
set_option maxHeartbeats 4000000
set_option maxRecDepth 100000
namespace Go.Proofs.YtlbpnlngckgcbaaGreatDoor
open Go.RowKit Go.PlainAid Go.Extern.Stop Go.Stop Go.Extern
theorem LW (u:Value) (h:(#[u]:Array Value).size=1) (k:0<1):Array.getLit (n:=1) #[u] 0 h k=u:=rfl
theorem lit20 (u v:Value) (h:(#[u,v]:Array Value).size=2) (k:0<2):Array.getLit (n:=2) #[u,v] 0 h k=u:=rfl
theorem lit21 (u v:Value) (h:(#[u,v]:Array Value).size=2) (k:1<2):Array.getLit (n:=2) #[u,v] 1 h k=v:=rfl
theorem Jm (t:Addr) (w:World):(ReflectliteValue.unpack (.iface 145 (.pointer (some t)))).run Tryz.prog w
  =.ok (.agg #[.pointer (some ⟨5,145,none⟩),.pointer (some ⟨w.heap.size,0,none⟩),.int .u64 150]) (w.alloc (.cells #[.pointer (some t)] 145)):=by kernel_rfl
theorem Jn (t:Addr) (w:World):(ReflectliteValue.unpack (.iface 148 (.pointer (some t)))).run Tryz.prog w
  =.ok (.agg #[.pointer (some ⟨5,148,none⟩),.pointer (some ⟨w.heap.size,0,none⟩),.int .u64 150]) (w.alloc (.cells #[.pointer (some t)] 148)):=by kernel_rfl
theorem Jo (c:Int) (w:World):(ReflectliteValue.unpack (.iface 134 (.int .i64 c))).run Tryz.prog w
  =.ok (.agg #[.pointer (some ⟨5,134,none⟩),.pointer (some ⟨w.heap.size,0,none⟩),.int .u64 130]) (w.alloc (.cells #[.int .i64 c] 134)):=by kernel_rfl
theorem De (a:Addr) (w:World):(ReflectliteValue.methodAny (ReflectliteValue.valueError "reflectlite.Value.Type" 0) (fun t _ _ _=>ReflectliteType.toType t) #[.agg #[.pointer (some ⟨5,145,none⟩),.pointer (some a),.int .u64 150]]).run Tryz.prog w
  =.ok (.iface 325 (.agg #[.pointer (some ⟨5,145,none⟩)])) w:=by kernel_rfl
theorem Df (a:Addr) (w:World):(ReflectliteValue.methodAny (ReflectliteValue.valueError "reflectlite.Value.Type" 0) (fun t _ _ _=>ReflectliteType.toType t) #[.agg #[.pointer (some ⟨5,148,none⟩),.pointer (some a),.int .u64 150]]).run Tryz.prog w
  =.ok (.iface 325 (.agg #[.pointer (some ⟨5,148,none⟩)])) w:=by kernel_rfl
theorem xB (h:Value) (w:World):(Go.method 545 325 (.agg #[h]) "Kind").run Tryz.prog w=.ok (292,h) w:=by kernel_rfl
theorem Dg (w:World):((ReflectliteType.abiMethod fun t=>Functor.map (fun a:Nat=>Value.int IntKind.u8 (a:Int)) (Rtype.kind t)) #[.pointer (some ⟨5,145,none⟩)]).run Tryz.prog w=.ok (.int .u8 22) w:=by kernel_rfl
theorem Dh (w:World):((ReflectliteType.abiMethod fun t=>Functor.map (fun a:Nat=>Value.int IntKind.u8 (a:Int)) (Rtype.kind t)) #[.pointer (some ⟨5,148,none⟩)]).run Tryz.prog w=.ok (.int .u8 22) w:=by kernel_rfl
theorem Di (w:World):((ReflectliteType.abiMethod fun t=>Functor.map (fun a:Nat=>Value.int IntKind.u8 (a:Int)) (Rtype.kind t)) #[.pointer (some ⟨5,134,none⟩)]).run Tryz.prog w=.ok (.int .u8 2) w:=by kernel_rfl
theorem Dj (w:World):((ReflectliteType.abiMethod fun t=>Functor.map (fun a:Nat=>Value.int IntKind.u8 (a:Int)) (Rtype.kind t)) #[.pointer (some ⟨5,147,none⟩)]).run Tryz.prog w=.ok (.int .u8 25) w:=by kernel_rfl
theorem q9 (a:Addr) (w:World):(ReflectliteValue.parts (.agg #[.pointer (some ⟨5,145,none⟩),.pointer (some a),.int .u64 150])).run Tryz.prog w=.ok (some (145,a,150)) w:=by kernel_rfl
theorem Ac (a:Addr) (w:World):(ReflectliteValue.parts (.agg #[.pointer (some ⟨5,148,none⟩),.pointer (some a),.int .u64 150])).run Tryz.prog w=.ok (some (148,a,150)) w:=by kernel_rfl
theorem FJ (a p:Addr) (W:World) (ha:W.cell? a=some (.pointer (some p))):
  (ReflectliteValue.method (ReflectliteValue.valueError "reflectlite.Value.IsNil" 0) ReflectliteValue.isNil #[.agg #[.pointer (some ⟨5,145,none⟩),.pointer (some a),.int .u64 150]]).run Tryz.prog W=.ok (.bool false) W:=by
 refine Eq.trans (congrArg (fun z:Sem Value=>z.run Tryz.prog W) (show ReflectliteValue.method _ _ _=ReflectliteValue.parts _ >>= _ from rfl)) ?_;simp only [LW,Sem.run_bind,q9,Result.andThen];simp [ReflectliteValue.isNil,loadVar,isAgg,underlying,Tryz.underlying145,ha,Result.andThen]
theorem FK (a p:Addr) (W:World) (ha:W.cell? a=some (.pointer (some p))):
  (ReflectliteValue.method (ReflectliteValue.valueError "reflectlite.Value.IsNil" 0) ReflectliteValue.isNil #[.agg #[.pointer (some ⟨5,148,none⟩),.pointer (some a),.int .u64 150]]).run Tryz.prog W=.ok (.bool false) W:=by
 refine Eq.trans (congrArg (fun z:Sem Value=>z.run Tryz.prog W) (show ReflectliteValue.method _ _ _=ReflectliteValue.parts _ >>= _ from rfl)) ?_;simp only [LW,Sem.run_bind,Ac,Result.andThen];simp [ReflectliteValue.isNil,loadVar,isAgg,underlying,Tryz.underlying148,ha,Result.andThen]
theorem xC (h:Value) (w:World):(Go.method 545 325 (.agg #[h]) "Elem").run Tryz.prog w=.ok (305,.agg #[h]) w:=by kernel_rfl
theorem xD (h:Value) (w:World):(Go.method 545 325 (.agg #[h]) "Implements").run Tryz.prog w=.ok (306,.agg #[h]) w:=by kernel_rfl
theorem rf (h:Value) (w:World):(Go.method 545 325 (.agg #[h]) "AssignableTo").run Tryz.prog w=.ok (303,.agg #[h]) w:=by kernel_rfl
theorem Dk (w:World):(ReflectliteType.method ReflectliteType.elem #[.agg #[.pointer (some ⟨5,145,none⟩)]]).run Tryz.prog w=.ok (.iface 325 (.agg #[.pointer (some ⟨5,134,none⟩)])) w:=by kernel_rfl
theorem Dl (w:World):(ReflectliteType.method ReflectliteType.elem #[.agg #[.pointer (some ⟨5,148,none⟩)]]).run Tryz.prog w=.ok (.iface 325 (.agg #[.pointer (some ⟨5,147,none⟩)])) w:=by kernel_rfl
theorem Dm (w:World):(ReflectliteType.relation "Implements" ReflectliteType.implements_ #[.agg #[.pointer (some ⟨5,134,none⟩)],.iface 325 (.agg #[.pointer (some ⟨5,77,none⟩)])]).run Tryz.prog w=.ok (.bool true) w:=by kernel_rfl
theorem Dn (w:World):(ReflectliteType.relation "Implements" ReflectliteType.implements_ #[.agg #[.pointer (some ⟨5,147,none⟩)],.iface 325 (.agg #[.pointer (some ⟨5,77,none⟩)])]).run Tryz.prog w=.ok (.bool true) w:=by kernel_rfl
theorem pE (v:Value) (w:World):(ReflectliteType.typeOf #[.iface 134 v]).run Tryz.prog w=.ok (.iface 325 (.agg #[.pointer (some ⟨5,134,none⟩)])) w:=by kernel_rfl
theorem Ad (w:World):(ReflectliteType.relation "AssignableTo" ReflectliteType.assignableTo #[.agg #[.pointer (some ⟨5,134,none⟩)],.iface 325 (.agg #[.pointer (some ⟨5,134,none⟩)])]).run Tryz.prog w=.ok (.bool true) w:=by kernel_rfl
theorem Ae (w:World):(ReflectliteType.relation "AssignableTo" ReflectliteType.assignableTo #[.agg #[.pointer (some ⟨5,134,none⟩)],.iface 325 (.agg #[.pointer (some ⟨5,147,none⟩)])]).run Tryz.prog w=.ok (.bool false) w:=by kernel_rfl
theorem xG (w:World):(Rtype.elem? 145).run Tryz.prog w=.ok (some 134) w:=by kernel_rfl
theorem Jp (p:Addr) (w:World):(ReflectliteValue.mk 134 p ReflectliteValue.flagAddr).run Tryz.prog w=.ok (.agg #[.pointer (some ⟨5,134,none⟩),.pointer (some p),.int .u64 386]) w:=by kernel_rfl
theorem Af (a p:Addr) (W:World) (ha:W.cell? a=some (.pointer (some p))):
  (ReflectliteValue.method (ReflectliteValue.valueError "reflectlite.Value.Elem" 0) ReflectliteValue.elem #[.agg #[.pointer (some ⟨5,145,none⟩),.pointer (some a),.int .u64 150]]).run Tryz.prog W
   =.ok (.agg #[.pointer (some ⟨5,134,none⟩),.pointer (some p),.int .u64 386]) W:=by
 refine Eq.trans (congrArg (fun z:Sem Value=>z.run Tryz.prog W) (show ReflectliteValue.method _ _ _=ReflectliteValue.parts _ >>= _ from rfl)) ?_;simp only [LW,Sem.run_bind,q9,Result.andThen];simp [ReflectliteValue.elem,loadVar,isAgg,underlying,Tryz.underlying145,ha,Result.andThen,xG,Jp]
theorem xH (a:Addr) (w:World):(ReflectliteValue.parts (.agg #[.pointer (some ⟨5,134,none⟩),.pointer (some a),.int .u64 386])).run Tryz.prog w=.ok (some (134,a,386)) w:=by kernel_rfl
theorem Ag (a:Addr) (w:World):(ReflectliteValue.parts (.agg #[.pointer (some ⟨5,134,none⟩),.pointer (some a),.int .u64 130])).run Tryz.prog w=.ok (some (134,a,130)) w:=by kernel_rfl
theorem xJ (w:World):(Rtype.directlyAssignable 134 134).run Tryz.prog w=.ok true w:=by kernel_rfl
theorem FL (ta b:Addr) (c:Int) (old:Value) (W:World) (hb:W.cell? b=some (.int .i64 c)) (ht:W.cell? ta=some old) (hf:W.frozen? ta=false):
  (ReflectliteValue.set #[.agg #[.pointer (some ⟨5,134,none⟩),.pointer (some ta),.int .u64 386],.agg #[.pointer (some ⟨5,134,none⟩),.pointer (some b),.int .u64 130]]).run Tryz.prog W
   =.ok (.tuple #[]) (W.setCell ta (.int .i64 c)):=by
 refine Eq.trans (congrArg (fun z:Sem Value=>z.run Tryz.prog W) (show ReflectliteValue.set _=ReflectliteValue.parts _ >>= _ from rfl)) ?_;simp only [lit20,lit21,Sem.run_bind,xH,Ag,Result.andThen];simp [ReflectliteValue.flagAddr,loadVar,isAgg,underlying,Tryz.underlying134,hb,Result.andThen,xJ,storeVar,Value.cells,storeCells,Addr.add];rw [run_store Tryz.prog W ta _ _ (by rfl)];simp [ht,hf]
end Go.Proofs.YtlbpnlngckgcbaaGreatDoor
namespace Go.Proofs.YtlbpnlngckgcbaaGreatDoor
open Go.RowKit Go.PlainAid Go.Extern.Stop Go.Stop Go.Extern
theorem LY (t:Value) (w:World):Calls Tryz.prog 75 #[.nilIface,t] w fun e w'=>e=.returned (.bool false)∧w'=w:=by
 go_enter Tryz.func75,Tryz.ntmps75;go_wp2;go_ret;exact ⟨rfl,rfl⟩
theorem as_58 (c:Int) (tb:Nat) (old:Value) (w:World) (hg:w.cell? ⟨0,0,none⟩=some (.iface 325 (.agg #[.pointer (some ⟨5,77,none⟩)]))) (hT:ag w tb #[old] 134):
  Calls Tryz.prog 75 #[.iface 134 (.int .i64 c),.iface 145 (.pointer (some ⟨tb,0,none⟩))] w fun ev w'=>ev=.returned (.bool true)∧But tb w w'∧ag w' tb #[.int .i64 c] 134:=by
 have x54:=@run_callFunc_extern Tryz.prog 119 _ (fun args=>ReflectliteValue.unpack (args.getD 0 (.tuple #[]))) Tryz.func119 (by kernel_rfl) (by kernel_rfl) (by kernel_rfl) (by kernel_rfl);have x55:=@run_callFunc_extern Tryz.prog 120 _ (ReflectliteValue.methodAny (ReflectliteValue.valueError "reflectlite.Value.Type" 0) (fun t _ _ _=>ReflectliteType.toType t)) Tryz.func120 (by kernel_rfl) (by kernel_rfl) (by kernel_rfl) (by kernel_rfl);have x56:=@run_callFunc_extern Tryz.prog 121 _ (ReflectliteValue.method (ReflectliteValue.valueError "reflectlite.Value.IsNil" 0) ReflectliteValue.isNil) Tryz.func121 (by kernel_rfl) (by kernel_rfl) (by kernel_rfl) (by kernel_rfl);have xK:=@run_callFunc_extern Tryz.prog 292 _ (ReflectliteType.abiMethod fun t=>do pure (.int .u8 (←Rtype.kind t))) Tryz.func292 (by kernel_rfl) (by kernel_rfl) (by kernel_rfl) (by kernel_rfl);have xE:=@run_callFunc_extern Tryz.prog 305 _ (ReflectliteType.method ReflectliteType.elem) Tryz.func305 (by kernel_rfl) (by kernel_rfl) (by kernel_rfl) (by kernel_rfl);have xI:=@run_callFunc_extern Tryz.prog 306 _ (ReflectliteType.relation "Implements" ReflectliteType.implements_) Tryz.func306 (by kernel_rfl) (by kernel_rfl) (by kernel_rfl) (by kernel_rfl);have xT:=@run_callFunc_extern Tryz.prog 178 _ ReflectliteType.typeOf Tryz.func178 (by kernel_rfl) (by kernel_rfl) (by kernel_rfl) (by kernel_rfl);have xA:=@run_callFunc_extern Tryz.prog 303 _ (ReflectliteType.relation "AssignableTo" ReflectliteType.assignableTo) Tryz.func303 (by kernel_rfl) (by kernel_rfl) (by kernel_rfl) (by kernel_rfl);have xV:=@run_callFunc_extern Tryz.prog 179 _ (ReflectliteValue.method (ReflectliteValue.valueError "reflectlite.Value.Elem" 0) ReflectliteValue.elem) Tryz.func179 (by kernel_rfl) (by kernel_rfl) (by kernel_rfl) (by kernel_rfl);have xS:=@run_callFunc_extern Tryz.prog 180 _ ReflectliteValue.set Tryz.func180 (by kernel_rfl) (by kernel_rfl) (by kernel_rfl) (by kernel_rfl);have mK:=xB;have mE:=xC;have mI:=xD;have mA:=rf;have f6:=Jm;have f7:=De;have kp:=Dg;have ke:=Di;have e27:=Dk;have i25:=Dm;have n8:=FJ ⟨w.heap.size,0,none⟩ ⟨tb,0,none⟩ ((w.alloc (.cells #[.pointer (some ⟨tb,0,none⟩)] 145)).alloc (.cells #[.pointer (some ⟨5,145,none⟩),.pointer (some ⟨w.heap.size,0,none⟩),.int .u64 150] 226)) (by simp);have hlt:0<w.heap.size:=by
  rcases Nat.eq_zero_or_pos w.heap.size with h0|h
  ·simp [World.cell?,h0] at hg
  ·exact h
 have hg2:((w.alloc (.cells #[.pointer (some ⟨tb,0,none⟩)] 145)).alloc (.cells #[.pointer (some ⟨5,145,none⟩),.pointer (some ⟨w.heap.size,0,none⟩),.int .u64 150] 226)).cell? ⟨0,0,none⟩=some (.iface 325 (.agg #[.pointer (some ⟨5,77,none⟩)])):=by
  rw [World.cell?_alloc_lt _ _ ⟨0,0,none⟩ (by simp),World.cell?_alloc_lt _ _ ⟨0,0,none⟩ hlt];exact hg
 have QQ:=hT.lt;have tO:=pE;have a25:=Ad;have v25:=Jo;have el:=Af ⟨w.heap.size,0,none⟩ ⟨tb,0,none⟩ (((w.alloc (.cells #[.pointer (some ⟨tb,0,none⟩)] 145)).alloc (.cells #[.pointer (some ⟨5,145,none⟩),.pointer (some ⟨w.heap.size,0,none⟩),.int .u64 150] 226)).alloc (.cells #[.pointer (some ⟨5,145,none⟩),.pointer (some ⟨w.heap.size,0,none⟩),.int .u64 150] 226)) (by rw [World.cell?_alloc_lt _ _ ⟨w.heap.size,0,none⟩ (by simp;omega)];simp);have st:=FL ⟨tb,0,none⟩ ⟨w.heap.size+1+1+1,0,none⟩ c old ((((w.alloc (.cells #[.pointer (some ⟨tb,0,none⟩)] 145)).alloc (.cells #[.pointer (some ⟨5,145,none⟩),.pointer (some ⟨w.heap.size,0,none⟩),.int .u64 150] 226)).alloc (.cells #[.pointer (some ⟨5,145,none⟩),.pointer (some ⟨w.heap.size,0,none⟩),.int .u64 150] 226)).alloc (.cells #[.int .i64 c] 134))
  (by rw [World.cell?_alloc_at _ _ _ _ (by simp)];rfl)
  (((((hT.alloc _).alloc _).alloc _).alloc _).cell rfl)
  (((((hT.alloc _).alloc _).alloc _).alloc _).fz 0)
 have HT:=ae hT;clear hT;go_enter Tryz.func75,Tryz.ntmps75;go_wp2;refine wp_loop_rounds 1 ?_;rw [rounds_succ];go_wp2;go_ret;exact ⟨rfl,((((((But.refl tb w).alloc _).alloc _).alloc _).alloc _).setCell 0 _),((((((aa HT).alloc _).alloc _).alloc _).alloc _).set 0 _)⟩
end Go.Proofs.YtlbpnlngckgcbaaGreatDoor
namespace Go.Proofs.YtlbpnlngckgcbaaGreatDoor
open Go.RowKit Go.PlainAid Go.Extern.Stop Go.Stop Go.Extern
theorem xL (x:Value) (w:World):(Instr.typeAssert (.iface 134 x) 77 330 true).run Tryz.prog w=.ok (.tuple #[.nilIface,.bool false]) w:=run_typeAssert_lacksB Tryz.underlying330 (by kernel_rfl) (by kernel_rfl) x 77 w
theorem xM (x:Value) (w:World):(Instr.typeAssert (.iface 134 x) 77 333 true).run Tryz.prog w=.ok (.tuple #[.nilIface,.bool false]) w:=run_typeAssert_lacksB Tryz.underlying333 (by kernel_rfl) (by kernel_rfl) x 77 w
theorem vC (x:Value) (w:World):(Instr.typeAssert (.iface 134 x) 77 334 true).run Tryz.prog w=.ok (.tuple #[.nilIface,.bool false]) w:=run_typeAssert_lacksB Tryz.underlying334 (by kernel_rfl) (by kernel_rfl) x 77 w
theorem as_no (c:Int) (tb:Nat) (o1 o2:Value) (w:World) (hg:w.cell? ⟨0,0,none⟩=some (.iface 325 (.agg #[.pointer (some ⟨5,77,none⟩)]))) (hT:ag w tb #[o1,o2] 147):
  Calls Tryz.prog 75 #[.iface 134 (.int .i64 c),.iface 148 (.pointer (some ⟨tb,0,none⟩))] w fun ev w'=>ev=.returned (.bool false)∧Below w.heap.size w w':=by
 have x54:=@run_callFunc_extern Tryz.prog 119 _ (fun args=>ReflectliteValue.unpack (args.getD 0 (.tuple #[]))) Tryz.func119 (by kernel_rfl) (by kernel_rfl) (by kernel_rfl) (by kernel_rfl);have x55:=@run_callFunc_extern Tryz.prog 120 _ (ReflectliteValue.methodAny (ReflectliteValue.valueError "reflectlite.Value.Type" 0) (fun t _ _ _=>ReflectliteType.toType t)) Tryz.func120 (by kernel_rfl) (by kernel_rfl) (by kernel_rfl) (by kernel_rfl);have x56:=@run_callFunc_extern Tryz.prog 121 _ (ReflectliteValue.method (ReflectliteValue.valueError "reflectlite.Value.IsNil" 0) ReflectliteValue.isNil) Tryz.func121 (by kernel_rfl) (by kernel_rfl) (by kernel_rfl) (by kernel_rfl);have xK:=@run_callFunc_extern Tryz.prog 292 _ (ReflectliteType.abiMethod fun t=>do pure (.int .u8 (←Rtype.kind t))) Tryz.func292 (by kernel_rfl) (by kernel_rfl) (by kernel_rfl) (by kernel_rfl);have xE:=@run_callFunc_extern Tryz.prog 305 _ (ReflectliteType.method ReflectliteType.elem) Tryz.func305 (by kernel_rfl) (by kernel_rfl) (by kernel_rfl) (by kernel_rfl);have xI:=@run_callFunc_extern Tryz.prog 306 _ (ReflectliteType.relation "Implements" ReflectliteType.implements_) Tryz.func306 (by kernel_rfl) (by kernel_rfl) (by kernel_rfl) (by kernel_rfl);have xT:=@run_callFunc_extern Tryz.prog 178 _ ReflectliteType.typeOf Tryz.func178 (by kernel_rfl) (by kernel_rfl) (by kernel_rfl) (by kernel_rfl);have xA:=@run_callFunc_extern Tryz.prog 303 _ (ReflectliteType.relation "AssignableTo" ReflectliteType.assignableTo) Tryz.func303 (by kernel_rfl) (by kernel_rfl) (by kernel_rfl) (by kernel_rfl);have xV:=@run_callFunc_extern Tryz.prog 179 _ (ReflectliteValue.method (ReflectliteValue.valueError "reflectlite.Value.Elem" 0) ReflectliteValue.elem) Tryz.func179 (by kernel_rfl) (by kernel_rfl) (by kernel_rfl) (by kernel_rfl);have xS:=@run_callFunc_extern Tryz.prog 180 _ ReflectliteValue.set Tryz.func180 (by kernel_rfl) (by kernel_rfl) (by kernel_rfl) (by kernel_rfl);have mK:=xB;have mE:=xC;have mI:=xD;have mA:=rf;have f6:=Jn;have f7:=Df;have kp:=Dh;have ke:=Dj;have e27:=Dl;have i25:=Dn;have n8:=FK ⟨w.heap.size,0,none⟩ ⟨tb,0,none⟩ ((w.alloc (.cells #[.pointer (some ⟨tb,0,none⟩)] 148)).alloc (.cells #[.pointer (some ⟨5,148,none⟩),.pointer (some ⟨w.heap.size,0,none⟩),.int .u64 150] 226)) (by simp);have hlt:0<w.heap.size:=by
  rcases Nat.eq_zero_or_pos w.heap.size with h0|h
  ·simp [World.cell?,h0] at hg
  ·exact h
 have hg2:((w.alloc (.cells #[.pointer (some ⟨tb,0,none⟩)] 148)).alloc (.cells #[.pointer (some ⟨5,148,none⟩),.pointer (some ⟨w.heap.size,0,none⟩),.int .u64 150] 226)).cell? ⟨0,0,none⟩=some (.iface 325 (.agg #[.pointer (some ⟨5,77,none⟩)])):=by
  rw [World.cell?_alloc_lt _ _ ⟨0,0,none⟩ (by simp),World.cell?_alloc_lt _ _ ⟨0,0,none⟩ hlt];exact hg
 have QQ:=hT.lt;have tO:=pE;have a25:=Ae;have g1:=xL;have g2:=xM;have g3:=vC;have HT:=ae hT;clear hT;go_enter Tryz.func75,Tryz.ntmps75;go_wp2;refine wp_loop_rounds 1 ?_;rw [rounds_succ];go_wp2;go_ret;exact ⟨rfl,(((Below.refl _ w).alloc (Nat.le_refl _) _).alloc (by simp) _).alloc (by simp;omega) _⟩
end Go.Proofs.YtlbpnlngckgcbaaGreatDoor
namespace Go.Proofs.YtlbpnlngckgcbaaGreatDoor
open Go.RowKit Go.PlainAid
def Laid (w:World):Prop:=w.cell? ⟨0,0,none⟩=some (.iface 325 (.agg #[.pointer (some ⟨5,77,none⟩)]))
theorem Laid.lt {w:World} (h:Laid w):0<w.heap.size:=by
 rcases Nat.eq_zero_or_pos w.heap.size with h0|h'
 ·unfold Laid at h;simp [World.cell?,h0] at h
 ·exact h'
theorem Laid.below {w w':World} {B:Nat} (h:Laid w) (k:Below B w w') (hB:0<B):Laid w':=(World.cell?_of_block (w:=w) (k.block 0 hB)).trans h
theorem Laid.but {w w':World} {b:Nat} (h:Laid w) (k:But b w w') (hb:b≠0):Laid w':=(k.cell (a:=⟨0,0,none⟩) h.lt (fun e=>hb e.symm)).trans h
theorem ru (w:World):Calls Tryz.prog 41 #[.nilIface] w fun e w'=>e=.returned (.tuple #[.int .i64 0,.int .i64 0])∧Below w.heap.size w w':=by
 go_enter Tryz.func41,Tryz.ntmps41;go_wp2_with fail;refine (LY _ _).mono ?_;rintro e w2 ⟨rfl,rfl⟩;go_wp2;go_ret2;exact ⟨rfl,(Below.refl _ _).alloc RH _⟩
theorem Ah (c:Nat) (w:World) (hg:Laid w):Calls Tryz.prog 41 #[aM c] w fun e w'=>e=.returned (.tuple #[.int .i64 c,.int .i64 0])∧Below w.heap.size w w':=by
 have hl:=hg.lt;have L1:=ae (hg.below ((Below.refl w.heap.size w).alloc RH (.cells #[.int .i64 0] 134)) hl);clear hg;unfold aM;go_enter Tryz.func41,Tryz.ntmps41;go_wp2_with fail;refine (as_58 c w.heap.size _ _ (aa L1) (ag.new w _ _)).mono ?_;rintro e w2 ⟨rfl,b2,k2⟩;have B2:=ae (((Below.refl w.heap.size w).alloc RH (.cells #[.int .i64 0] 134)).trans (b2.below RH (by simp)));have L2:=ae ((aa L1).but b2 (by omega));have K2:=ae k2;have sz:=k2.lt;clear b2 k2;have L3:=ae ((aa L2).below ((Below.refl w2.heap.size w2).alloc RH (.cells #[.int .i64 0,.nilIface] 147)) (by omega));go_wp2_with fail;refine (as_no c w2.heap.size _ _ _ (aa L3) (ag.new w2 _ _)).mono ?_;rintro e w3 ⟨rfl,hb3⟩;have K3:=((aa K2).alloc (.cells #[.int .i64 0,.nilIface] 147)).below hb3;have k0:w3.cell? ⟨w.heap.size,0,none⟩=some (.int .i64 c):=K3.cell rfl;have B3:=ae (((aa B2).alloc (aa B2).size (.cells #[.int .i64 0,.nilIface] 147)).trans (hb3.mono (by simp;omega)));clear hb3 K3;go_wp2;go_ret2;exact ⟨rfl,aa B3⟩
structure aS (S:Nat→Prop) (w w':World):Prop where
 os:w'.os=w.os
 tape:w'.tape=w.tape
 output:w'.output=w.output
 size:w.heap.size≤w'.heap.size
 block:∀k,k<w.heap.size→¬S k→w'.heap[k]? =w.heap[k]?
section
variable {S:Nat→Prop} {x y z:World}
theorem aS.refl (S:Nat→Prop) (w:World):aS S w w:=⟨rfl,rfl,rfl,Nat.le_refl _,fun _ _ _=>rfl⟩
theorem aS.trans (h:aS S x y) (k:aS S y z):aS S x z:=
 ⟨k.os.trans h.os,k.tape.trans h.tape,k.output.trans h.output,Nat.le_trans h.size k.size,fun i hi hs=>(k.block i (Nat.lt_of_lt_of_le hi h.size) hs).trans (h.block i hi hs)⟩
theorem aS.of_below (h:Below x.heap.size x y):aS S x y:=⟨h.os,h.tape,h.output,h.size,fun k hk _=>h.block k hk⟩
theorem aS.of_but {b:Nat} (h:But b x y) (hb:S b):aS S x y:=⟨h.os,h.tape,h.output,h.size,fun k hk hs=>h.block k hk (fun e=>hs (e▸hb))⟩
theorem aS.mono {S':Nat→Prop} (h:aS S x y) (hs:∀k,S k→S' k):aS S' x y:=⟨h.os,h.tape,h.output,h.size,fun k hk hn=>h.block k hk (fun e=>hn (hs k e))⟩
theorem aS.set (h:aS S x y) {a:Addr} (ha:S a.block) (u:Value):aS S x (y.setCell a u):=
 ⟨h.os,h.tape,h.output,by simpa using h.size,fun k hk hs=>(Below.heap_setCell _ _ _ _ (fun (e:k=a.block)=>hs (by rw [e];exact ha))).trans (h.block k hk hs)⟩
theorem aS.drew (h:aS S x y):aS S x y.drew:=⟨h.os,h.tape,h.output,h.size,h.block⟩
theorem aS.drewN (h:aS S x y) (n:Nat):aS S x (y.drewN n):=h.trans (.of_below (below_drewN (Below.refl _ _) n))
theorem aS.blk {g:Nat} {cs:Array Value} {T:TypeId} (k:aS S x y) (h:ag x g cs T) (hg:¬S g):ag y g cs T:=(k.block g h.lt hg).trans h
theorem aS.below {B:Nat} (k:aS S x y) (hB:B≤x.heap.size) (hS:∀g,S g→B≤g):Below B x y:=⟨k.os,k.tape,k.output,k.size,fun g hg=>k.block g (by omega) (fun e=>by have:=hS g e;omega)⟩
end
structure PU (w:World) (b:Nat) (mv lv gv:Value) (gs:List Tu):Prop where
 blk:ag w b #[mv,lv,gv] 117
 row:w.ownsRow 0 123 6 gv gs.length (gs.flatMap mH)
 apart:∀g n c,gv=.slice (some ⟨g,0,none⟩) n c→g≠b
 most:gs.length≤1000
def FM (b:Nat) (gv:Value) (k:Nat):Prop:=k=b∨∃n c,gv=.slice (some ⟨k,0,none⟩) n c
theorem PU.below {w w':World} {b:Nat} {mv lv gv:Value} {gs:List Tu} (h:PU w b mv lv gv gs) (k:Below w.heap.size w w'):PU w' b mv lv gv gs:=⟨h.blk.below k,aF h.row k,h.apart,h.most⟩
theorem three {w:World} {g:Nat} {a b c:Value} {T:TypeId} (h:ag w g #[a,b,c] T):w.cell? ⟨g,0,none⟩=some a∧w.cell? ⟨g,1,none⟩=some b∧w.cell? ⟨g,2,none⟩=some c:=⟨h.cell rfl,h.cell rfl,h.cell rfl⟩
theorem Dp (PC:CY) (s:RJ) (w:World) (hm:ow w) (hw:1<w.heap.size):
  Calls Tryz.prog 60 #[.string s] w fun e w'=>e=.returned (.tuple #[.agg (kH s).1,.bool (kH s).2])∧Below w.heap.size w w':=by
 by_cases h:53<s.size
 ·exact Ab s w h
 ·exact xy PC s w (by omega) hm hw
theorem Jq:dG (mk [])=false:=by decide
theorem fI {s:RJ} (h:dG s=true):0<s.size∧s.size≤8:=by
 unfold dG at h;simp only [Bool.and_eq_true,decide_eq_true_eq] at h;exact h.1
theorem iW {s:RJ} {c:UInt8} (h:(ax s c).2.2=false):(ax s c).1=s∧(ax s c).2.1=mk []:=by
 obtain ⟨h1,h2⟩:=iD c (cO s) h;unfold ax;simp only [h1,h2,lQ,List.drop_nil,and_self]
theorem jD {s:RJ} {c:UInt8} (h:dG (ax s c).2.1=true):(ax s c).2.2=true:=by
 cases hf:(ax s c).2.2
 ·rw [(iW hf).2,Jq] at h
  cases h
 ·rfl
theorem gK {s:RJ} {c:UInt8} (h:(ax s c).2.2=true):cO s=cO (ax s c).1++c::cO (ax s c).2.1:=by
 have hc:(cO s).contains c=true:=h;have key:∀l:List UInt8,l.contains c=true→l=l.takeWhile (· != c)++c::(l.dropWhile (· != c)).drop 1:=by
  intro l
  induction l with
  |nil=>intro h;simp at h
  |cons b l ih=>
   intro h
   by_cases e:b=c
   ·subst e;simp
   ·have h2:(b != c)=true:=by simpa using e
    rw [List.takeWhile_cons,List.dropWhile_cons,if_pos h2,if_pos h2,List.cons_append,←ih (by
     rw [List.contains_cons,Bool.or_eq_true] at h
     rcases h with h|h
     ·exact absurd (beq_iff_eq.1 h).symm e
     ·exact h)]
 exact key _ hc
theorem FN (s:RJ):(mr s).2.2=dR s:=by
 unfold mr dR;simp only
 cases h:dG (ax s 58).2.1
 ·simp
 ·rw [jD h];simp
theorem LZ:kC (mk []) (mk []) false=false:=by decide
theorem L6 (c:UInt8):ax (mk []) c=(mk [],mk [],false):=rfl
def jE (s:RJ):Bool:=dR (ax (ax s 64).1 35).1&&kC (ax (ax s 64).2.1 35).1 (ax (ax s 64).2.1 35).2.1 (ax (ax s 64).2.1 35).2.2&&dG (ax (ax s 64).1 35).2.1
theorem fU {s:RJ} {c:UInt8} (h:(ax s c).2.2=true):s.size=(ax s c).1.size+1+(ax s c).2.1.size:=by
 have:=congrArg List.length (gK h);rw [List.length_append,List.length_cons,aN,aN,aN] at this;omega
theorem Jr {b:RJ} (h:eqs b jR=true):b=jR:=by
 unfold eqs at h;rw [beq_iff_eq] at h;rw [←lQ b,h]
 rfl
theorem tZ {s:RJ} (h:jE s=true):s.size≤53∧(kH s)=(#[.string (dw s).1.kind,.string (dw s).1.id,.string (dw s).1.rel,.string (dw s).1.sub,.string (dw s).1.who,.string (dw s).1.of],true)∧
  cO s=cO (dw s).1.kind++58::cO (dw s).1.id++35::cO (dw s).1.rel++64::(cO (dw s).1.sub++58::cO (dw s).1.who++(if (dw s).1.of.size=0 then [] else 35::cO (dw s).1.of)):=by
 have h0:=h;unfold jE at h;simp only [Bool.and_eq_true] at h;obtain ⟨⟨h1,h2⟩,h3⟩:=h;have f1:(ax s 64).2.2=true:=by
  cases f:(ax s 64).2.2
  ·rw [(iW f).2,L6] at h2;exact absurd h2 (by rw [LZ];simp)
  ·rfl
 have f2:=jD h3;have h1':=h1;unfold dR at h1;simp only [Bool.and_eq_true] at h1;have f3:=jD h1.2;have z1:=fI h1.1;have z2:=fI h1.2;have z3:=fI h3;have j1:=fU f1;have j2:=fU f2;have j3:=fU f3;have l1:=gK f1;have l2:=gK f2;have l3:=gK f3;have tk:(dw s).1.kind=(ax (ax (ax s 64).1 35).1 58).1:=rfl;have ti:(dw s).1.id=(ax (ax (ax s 64).1 35).1 58).2.1:=rfl;have tr:(dw s).1.rel=(ax (ax s 64).1 35).2.1:=rfl;have ts:(dw s).1.sub=(wS (ax (ax s 64).2.1 35).1 (ax (ax s 64).2.1 35).2.2).1:=rfl;have tw:(dw s).1.who=(wS (ax (ax s 64).2.1 35).1 (ax (ax s 64).2.1 35).2.2).2.1:=rfl;have to:(dw s).1.of=(ax (ax s 64).2.1 35).2.1:=rfl;have hP:s.size≤53→kH s=(#[.string (ax (ax (ax s 64).1 35).1 58).1,.string (ax (ax (ax s 64).1 35).1 58).2.1,.string (ax (ax s 64).1 35).2.1,.string (ax (ax (ax s 64).2.1 35).1 58).1,.string (ax (ax (ax s 64).2.1 35).1 58).2.1,.string (ax (ax s 64).2.1 35).2.1],true):=fun hz=>by
  unfold kH;rw [if_neg (by omega)];unfold jE at h0;rw [h0]
 rw [tk,ti,tr,ts,tw,to];have hs:(ax s 64).2.1.size≤26∧(wS (ax (ax s 64).2.1 35).1 (ax (ax s 64).2.1 35).2.2).1=(ax (ax (ax s 64).2.1 35).1 58).1∧(wS (ax (ax s 64).2.1 35).1 (ax (ax s 64).2.1 35).2.2).2.1=(ax (ax (ax s 64).2.1 35).1 58).2.1∧
   cO (ax s 64).2.1=cO (ax (ax (ax s 64).2.1 35).1 58).1++58::cO (ax (ax (ax s 64).2.1 35).1 58).2.1++(if (ax (ax s 64).2.1 35).2.1.size=0 then [] else 35::cO (ax (ax s 64).2.1 35).2.1):=by
  generalize (ax s 64).2.1=r at*;clear l1 l2 l3 tk ti tr ts tw to hP j1 j2 j3 z1 z2 z3 f1 f2 f3 h0 h1 h1' h3;unfold kC at h2;unfold wS;rw [FN]
  cases al:(ax r 35).2.2
  ·rw [al] at h2;simp only [Bool.false_eq_true,if_false,Bool.or_eq_true,Bool.and_eq_true] at h2;obtain ⟨u1,u2⟩:=iW al;rw [u1] at h2;rw [u1,u2];simp only [Bool.not_false,Bool.and_true]
   rcases h2 with h2|⟨h2,h4⟩
   ·have ht:=h2;unfold dR at h2;simp only [Bool.and_eq_true] at h2;have f:=jD h2.2;have y1:=fI h2.1;have y2:=fI h2.2;have y3:=fU f;rw [ht];refine ⟨by omega,rfl,rfl,?_⟩;rw [if_pos (by rfl),List.append_nil];exact gK f
   ·have f:(ax r 58).2.2=true:=by
     cases f:(ax r 58).2.2
     ·rw [(iW f).2] at h2;exact absurd h2 (by decide)
     ·rfl
    have y1:=fI h4;have y3:=fU f;have hb:=Jr h2;have y2:(ax r 58).2.1.size=1:=by rw [hb];rfl
    have ht:dR r=false:=by unfold dR;rw [hb];simp [show dG jR=false by decide]
    rw [ht];refine ⟨by omega,rfl,hb.symm,?_⟩;rw [if_pos (by rfl),List.append_nil];exact gK f
  ·rw [al] at h2;simp only [if_true,Bool.and_eq_true] at h2;have ht:=h2.1;obtain ⟨h4,h5⟩:=h2;unfold dR at h4;simp only [Bool.and_eq_true] at h4;have f:=jD h4.2;have y1:=fI h4.1;have y2:=fI h4.2;have y3:=fU f;have y4:=fU al;have y5:=fI h5;simp only [Bool.not_true,Bool.and_false,Bool.false_eq_true,if_false];refine ⟨by omega,rfl,rfl,?_⟩;rw [if_neg (by omega),←gK f];exact gK al
 obtain ⟨k1,k2,k3,k4⟩:=hs;refine ⟨by omega,by rw [hP (by omega),k2,k3],?_⟩;rw [k2,k3,←k4,←l3,←l2];exact l1
theorem FO {s:RJ} (h:53<s.size):jE s=false:=by
 cases hk:jE s
 ·rfl
 ·have:=(tZ hk).1;omega
theorem Js (s:RJ):(kH s).2=jE s:=by
 by_cases h:53<s.size
 ·rw [FO h];unfold kH;rw [if_pos h]
 ·unfold kH jE;rw [if_neg h]
attribute [local go_sem ↓] Go.wp_at_zero Go.wp_at_succ
def jS (b:Nat) (mv lv gv:Value) (w:World) (r:Nat×List Tu) (e:Ending) (w':World):Prop:=∃L8,e=.returned (.int .i64 r.1)∧PU w' b mv lv L8 r.2∧aS (FM b gv) w w'∧(∀k,FM b L8 k→FM b gv k∨w.heap.size≤k)
theorem jS.same {b:Nat} {mv lv gv:Value} {w w':World} {gs:List Tu} (h:PU w b mv lv gv gs) (k:Below w.heap.size w w') (c:Nat):jS b mv lv gv w (c,gs) (.returned (.int .i64 c)) w':=⟨gv,rfl,h.below k,.of_below k,fun _ h=> .inl h⟩
theorem Dq (s:RJ):∃t:Tu,(kH s).1=#[.string t.kind,.string t.id,.string t.rel,.string t.sub,.string t.who,.string t.of]∧(jE s=true→t=(dw s).1):=by
 cases h:jE s
 ·by_cases hz:53<s.size
  ·refine ⟨⟨⟨#[]⟩,⟨#[]⟩,⟨#[]⟩,⟨#[]⟩,⟨#[]⟩,⟨#[]⟩⟩,?_,by simp⟩;unfold kH;rw [if_pos hz]
  ·refine ⟨⟨(ax (ax (ax s 64).1 35).1 58).1,(ax (ax (ax s 64).1 35).1 58).2.1,(ax (ax s 64).1 35).2.1,(ax (ax (ax s 64).2.1 35).1 58).1,(ax (ax (ax s 64).2.1 35).1 58).2.1,(ax (ax s 64).2.1 35).2.1⟩,?_,by simp⟩;unfold kH;rw [if_neg hz]
 ·refine ⟨(dw s).1,?_,fun _=>rfl⟩;rw [(tZ h).2.1]
