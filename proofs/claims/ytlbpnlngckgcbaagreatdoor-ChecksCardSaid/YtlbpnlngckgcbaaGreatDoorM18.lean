import Derived.Test.YtlbpnlngckgcbaaGreatDoorM11
set_option linter.all false
set_option maxHeartbeats 4000000
set_option maxRecDepth 100000
namespace Go.Proofs.YtlbpnlngckgcbaaGreatDoor
open Go.RowKit Go.PlainAid Go.Proofs.Tryz
section
open Go.Extern.Stop Go.Stop Go.Extern
theorem xG(x w):(Instr.typeAssert (.iface 147 x) 77 330 true).run prog w=.ok (.tuple #[.nilIface,.bool false]) w:=run_typeAssert_lacksB underlying330 au au x 77 w
theorem xH(x w):(Instr.typeAssert (.iface 147 x) 77 333 true).run prog w=.ok (.tuple #[.iface 147 x,.bool true]) w:=by kernel_rfl
theorem zP(x w):(Instr.typeAssert (.iface 134 x) 77 330 true).run prog w=.ok (.tuple #[.nilIface,.bool false]) w:=run_typeAssert_lacksB underlying330 au au x 77 w
theorem zQ(x w):(Instr.typeAssert (.iface 134 x) 77 333 true).run prog w=.ok (.tuple #[.nilIface,.bool false]) w:=run_typeAssert_lacksB underlying333 au au x 77 w
theorem xI(x w):(Instr.typeAssert (.iface 134 x) 77 334 true).run prog w=.ok (.tuple #[.nilIface,.bool false]) w:=run_typeAssert_lacksB underlying334 au au x 77 w
theorem Ki(ta b p ft fv o1 o2 W)(I:aB W b #[.int .i64 p,.iface ft fv] 147)(C:aB W ta #[o1,o2] 147):
  (ReflectliteValue.set #[.agg #[.pointer (some ⟨5,147,none⟩),.pointer (some ⟨ta,0,none⟩),.int .u64 409],.agg #[.pointer (some ⟨5,147,none⟩),.pointer (some ⟨b,0,none⟩),.int .u64 153]]).run prog W
   =.ok (.tuple #[]) ((W.setCell ⟨ta,0,none⟩ (.int .i64 p)).setCell ⟨ta,1,none⟩ (.iface ft fv)):=by
 have hl:=run_loadVar_row (P:=prog) W b 147 147 #[.int .i64 p,.iface ft fv] (0,0) _ I underlying147 rfl au;have c0:W.cell? ⟨ta,0,none⟩=some o1:=C.cell rfl;have c1:W.cell? ⟨ta,1,none⟩=some o2:=C.cell rfl;have f0:=C.fz 0;have f1:=C.fz 1;refine Eq.trans (congrArg (fun z:Sem ag=>z.run prog W) (show ReflectliteValue.set _=ReflectliteValue.parts _ >>= _ from rfl)) ?_;simp only [Qf,Qg,om,zL,CR,Result.andThen,hl];simp [ReflectliteValue.flagAddr,hl,Result.andThen,zN,storeVar,Value.cells,storeCells,Addr.add];rw [run_store prog W ⟨ta,0,none⟩ _ _ aS];simp only [c0,f0];have D:=C.set 0 (.int .i64 p);have d1:(W.setCell ⟨ta,0,none⟩ (.int .i64 p)).cell? ⟨ta,1,none⟩=some o2:=D.cell rfl;have d2:=D.fz 1;simp only [Bool.false_eq_true,aP];rw [run_store prog (W.setCell ⟨ta,0,none⟩ (.int .i64 p)) ⟨ta,1,none⟩ _ _ aS];simp [d1,d2]
theorem as_71(p c tb old w)(hg:w.cell? ⟨0,0,none⟩=some (.iface 325 (.agg #[.pointer (some ⟨5,77,none⟩)])))(D:aB w tb #[old] 134):
  Calls prog 75 #[.iface 147 (.agg #[.int .i64 p,.iface 134 (.int .i64 c)]),.iface 145 (.pointer (some ⟨tb,0,none⟩))] w fun J w'=>J=.returned (.bool true)/\But tb w w'/\aB w' tb #[.int .i64 c] 134:=by
 have ap:=@run_callFunc_extern prog 119 _ (fun args=>ReflectliteValue.unpack (args.getD 0 (.tuple #[]))) func119 au au au au;have ar:=@run_callFunc_extern prog 120 _ (ReflectliteValue.methodAny (ReflectliteValue.valueError "reflectlite.Value.Type" 0) (fun t _ _ _=>ReflectliteType.toType t)) func120 au au au au;have av:=@run_callFunc_extern prog 121 _ (ReflectliteValue.method (ReflectliteValue.valueError "reflectlite.Value.IsNil" 0) ReflectliteValue.isNil) func121 au au au au;have az:=@run_callFunc_extern prog 292 _ (ReflectliteType.abiMethod fun t=>do pure (.int .u8 (<-Rtype.kind t))) func292 au au au au;have ax:=@run_callFunc_extern prog 305 _ (ReflectliteType.method ReflectliteType.elem) func305 au au au au;have ay:=@run_callFunc_extern prog 306 _ (ReflectliteType.relation "Implements" ReflectliteType.implements_) func306 au au au au;have aC:=@run_callFunc_extern prog 178 _ ReflectliteType.typeOf func178 au au au au;have aw:=@run_callFunc_extern prog 303 _ (ReflectliteType.relation "AssignableTo" ReflectliteType.assignableTo) func303 au au au au;have aD:=@run_callFunc_extern prog 179 _ (ReflectliteValue.method (ReflectliteValue.valueError "reflectlite.Value.Elem" 0) ReflectliteValue.elem) func179 au au au au;have aA:=@run_callFunc_extern prog 180 _ ReflectliteValue.set func180 au au au au;have ah:=pg;have af:=ph;have ag:=pi;have ae:=lC;have f6:=ES;have f7:=vM;have kp:=vO;have ad:=vQ;have R:=vS;have ac:=vU;have aj:=zG ⟨w.heap.size,0,none⟩ ⟨tb,0,none⟩ ((w.alloc (lB (some ⟨tb,0,none⟩))).alloc (eM (some ⟨5,145,none⟩) (some ⟨w.heap.size,0,none⟩))) an;have hlt:0<w.heap.size:=by
  exact xF
 have Z:((w.alloc (lB (some ⟨tb,0,none⟩))).alloc (eM (some ⟨5,145,none⟩) (some ⟨w.heap.size,0,none⟩))).cell? ⟨0,0,none⟩=some (.iface 325 (.agg #[.pointer (some ⟨5,77,none⟩)])):=by
  exact xE
 have ab:=D.lt;have ak:=mJ;have al:=q7;have O:=tA;have Q:=CM;have am:=EU;have U:=xG;have V:=xH;have Y:=CL;have el:=tB ⟨w.heap.size,0,none⟩ ⟨tb,0,none⟩ ((((w.alloc (lB (some ⟨tb,0,none⟩))).alloc (eM (some ⟨5,145,none⟩) (some ⟨w.heap.size,0,none⟩))).alloc (eM (some ⟨5,145,none⟩) (some ⟨w.heap.size,0,none⟩))).alloc (.cells #[.int .i64 p,.iface 134 (.int .i64 c)] 147)) (by rw [tC _ _ ⟨w.heap.size,0,none⟩ aM,tC _ _ ⟨w.heap.size,0,none⟩ aM];simp);have st:=zO ⟨tb,0,none⟩ ⟨w.heap.size+1+1+1+1,0,none⟩ c old (((((w.alloc (lB (some ⟨tb,0,none⟩))).alloc (eM (some ⟨5,145,none⟩) (some ⟨w.heap.size,0,none⟩))).alloc (eM (some ⟨5,145,none⟩) (some ⟨w.heap.size,0,none⟩))).alloc (.cells #[.int .i64 p,.iface 134 (.int .i64 c)] 147)).alloc (.cells #[.int .i64 c] 134))
  Qh
  ((((((D.alloc _).alloc _).alloc _).alloc _).alloc _).cell rfl)
  ((((((D.alloc _).alloc _).alloc _).alloc _).alloc _).fz 0)
 have I:=ai D;clear D;go_enter func75,ntmps75;go_wp2;refine sD 2 ?_;rw [pT];go_wp2;rw [pT];go_wp2;go_ret;exact ⟨rfl,(((((((But.refl tb w).alloc _).alloc _).alloc _).alloc _).alloc _).setCell 0 _),((((((I.u.alloc _).alloc _).alloc _).alloc _).alloc _).set 0 _)⟩
theorem as_72(p ft fv tb o1 o2 w)(hg:w.cell? ⟨0,0,none⟩=some (.iface 325 (.agg #[.pointer (some ⟨5,77,none⟩)])))(D:aB w tb #[o1,o2] 147):
  Calls prog 75 #[.iface 147 (.agg #[.int .i64 p,.iface ft fv]),.iface 148 (.pointer (some ⟨tb,0,none⟩))] w fun J w'=>J=.returned (.bool true)/\But tb w w'/\aB w' tb #[.int .i64 p,.iface ft fv] 147:=by
 have ah:=@run_callFunc_extern prog 119 _ (fun args=>ReflectliteValue.unpack (args.getD 0 (.tuple #[]))) func119 au au au au;have aj:=@run_callFunc_extern prog 120 _ (ReflectliteValue.methodAny (ReflectliteValue.valueError "reflectlite.Value.Type" 0) (fun t _ _ _=>ReflectliteType.toType t)) func120 au au au au;have ak:=@run_callFunc_extern prog 121 _ (ReflectliteValue.method (ReflectliteValue.valueError "reflectlite.Value.IsNil" 0) ReflectliteValue.isNil) func121 au au au au;have ar:=@run_callFunc_extern prog 292 _ (ReflectliteType.abiMethod fun t=>do pure (.int .u8 (<-Rtype.kind t))) func292 au au au au;have am:=@run_callFunc_extern prog 305 _ (ReflectliteType.method ReflectliteType.elem) func305 au au au au;have ap:=@run_callFunc_extern prog 306 _ (ReflectliteType.relation "Implements" ReflectliteType.implements_) func306 au au au au;have aw:=@run_callFunc_extern prog 178 _ ReflectliteType.typeOf func178 au au au au;have al:=@run_callFunc_extern prog 303 _ (ReflectliteType.relation "AssignableTo" ReflectliteType.assignableTo) func303 au au au au;have ax:=@run_callFunc_extern prog 179 _ (ReflectliteValue.method (ReflectliteValue.valueError "reflectlite.Value.Elem" 0) ReflectliteValue.elem) func179 au au au au;have av:=@run_callFunc_extern prog 180 _ ReflectliteValue.set func180 au au au au;have ad:=pg;have ab:=ph;have ac:=pi;have Z:=lC;have f6:=ET;have f7:=vN;have kp:=vP;have Y:=vR;have Q:=vT;have V:=vV;have ae:=zH ⟨w.heap.size,0,none⟩ ⟨tb,0,none⟩ ((w.alloc (oD (some ⟨tb,0,none⟩))).alloc (eM (some ⟨5,148,none⟩) (some ⟨w.heap.size,0,none⟩))) an;have hlt:0<w.heap.size:=by
  exact xF
 have R:((w.alloc (oD (some ⟨tb,0,none⟩))).alloc (eM (some ⟨5,148,none⟩) (some ⟨w.heap.size,0,none⟩))).cell? ⟨0,0,none⟩=some (.iface 325 (.agg #[.pointer (some ⟨5,77,none⟩)])):=by
  exact xE
 have U:=D.lt;have af:=q7;have O:=CO;have ag:=Oo;have el:=CP ⟨w.heap.size,0,none⟩ ⟨tb,0,none⟩ (((w.alloc (oD (some ⟨tb,0,none⟩))).alloc (eM (some ⟨5,148,none⟩) (some ⟨w.heap.size,0,none⟩))).alloc (eM (some ⟨5,148,none⟩) (some ⟨w.heap.size,0,none⟩))) Ts;have st:=Ki tb (w.heap.size+1+1+1) p ft fv o1 o2 ((((w.alloc (oD (some ⟨tb,0,none⟩))).alloc (eM (some ⟨5,148,none⟩) (some ⟨w.heap.size,0,none⟩))).alloc (eM (some ⟨5,148,none⟩) (some ⟨w.heap.size,0,none⟩))).alloc (.cells #[.int .i64 p,.iface ft fv] 147))
  (aB.new' _ _ _ _ an) ((((D.alloc _).alloc _).alloc _).alloc _)
 have I:=ai D;clear D;go_enter func75,ntmps75;go_wp2;refine sD 1 ?_;rw [pT];go_wp2;go_ret;exact ⟨rfl,(((((((But.refl tb w).alloc _).alloc _).alloc _).alloc _).setCell 0 _).setCell 1 _),((((((I.u.alloc _).alloc _).alloc _).alloc _).set 0 _).set 1 _)⟩
theorem as_no(c tb o1 o2 w)(hg:w.cell? ⟨0,0,none⟩=some (.iface 325 (.agg #[.pointer (some ⟨5,77,none⟩)])))(D:aB w tb #[o1,o2] 147):
  Calls prog 75 #[.iface 134 (.int .i64 c),.iface 148 (.pointer (some ⟨tb,0,none⟩))] w fun I w'=>I=.returned (.bool false)/\Below w.heap.size w w':=by
 have ak:=@run_callFunc_extern prog 119 _ (fun args=>ReflectliteValue.unpack (args.getD 0 (.tuple #[]))) func119 au au au au;have al:=@run_callFunc_extern prog 120 _ (ReflectliteValue.methodAny (ReflectliteValue.valueError "reflectlite.Value.Type" 0) (fun t _ _ _=>ReflectliteType.toType t)) func120 au au au au;have am:=@run_callFunc_extern prog 121 _ (ReflectliteValue.method (ReflectliteValue.valueError "reflectlite.Value.IsNil" 0) ReflectliteValue.isNil) func121 au au au au;have ax:=@run_callFunc_extern prog 292 _ (ReflectliteType.abiMethod fun t=>do pure (.int .u8 (<-Rtype.kind t))) func292 au au au au;have ar:=@run_callFunc_extern prog 305 _ (ReflectliteType.method ReflectliteType.elem) func305 au au au au;have av:=@run_callFunc_extern prog 306 _ (ReflectliteType.relation "Implements" ReflectliteType.implements_) func306 au au au au;have aA:=@run_callFunc_extern prog 178 _ ReflectliteType.typeOf func178 au au au au;have ap:=@run_callFunc_extern prog 303 _ (ReflectliteType.relation "AssignableTo" ReflectliteType.assignableTo) func303 au au au au;have aC:=@run_callFunc_extern prog 179 _ (ReflectliteValue.method (ReflectliteValue.valueError "reflectlite.Value.Elem" 0) ReflectliteValue.elem) func179 au au au au;have ay:=@run_callFunc_extern prog 180 _ ReflectliteValue.set func180 au au au au;have ag:=pg;have ae:=ph;have af:=pi;have ad:=lC;have f6:=ET;have f7:=vN;have kp:=vP;have ac:=vR;have Q:=vT;have ab:=vV;have ah:=zH ⟨w.heap.size,0,none⟩ ⟨tb,0,none⟩ ((w.alloc (oD (some ⟨tb,0,none⟩))).alloc (eM (some ⟨5,148,none⟩) (some ⟨w.heap.size,0,none⟩))) an;have hlt:0<w.heap.size:=by
  exact xF
 have Y:((w.alloc (oD (some ⟨tb,0,none⟩))).alloc (eM (some ⟨5,148,none⟩) (some ⟨w.heap.size,0,none⟩))).cell? ⟨0,0,none⟩=some (.iface 325 (.agg #[.pointer (some ⟨5,77,none⟩)])):=by
  exact xE
 have Z:=D.lt;have aj:=mJ;have O:=CN;have R:=zP;have U:=zQ;have V:=xI;have J:=ai D;clear D;go_enter func75,ntmps75;go_wp2;refine sD 1 ?_;rw [pT];go_wp2;go_ret;exact ⟨rfl,(((aw _ w).alloc az _).alloc an _).alloc aM _⟩
end
variable {aF cD:Prop}
abbrev xJ:Obj:=.cells #[.int .i64 0] 134
abbrev qo:Obj:=.cells #[.int .i64 0,.nilIface] 147
def Laid(w:af):Prop:=w.cell? ⟨0,0,none⟩=some (.iface 325 (.agg #[.pointer (some ⟨5,77,none⟩)]))
variable {w:af}
theorem Laid.lt(h:Laid w):0<w.heap.size:=by
 rcases xy w.heap.size with h0|A
 ·unfold Laid at h;simp [World.cell?,h0] at h
 exact A
variable {w':af} {B:Nat}
theorem Laid.below(h:Laid w)(k:Below B w w')(A:0<B):Laid w':=(iV (w:=w) (k.block 0 A)).trans h
variable {b:Nat}
theorem Laid.but(h:Laid w)(k:But b w w')(A:b≠0):Laid w':=(k.cell (a:=⟨0,0,none⟩) h.lt (fun e=>A e.symm)).trans h
theorem pj(w):Calls prog 41 #[.nilIface] w fun e w'=>e=.returned (.tuple #[.int .i64 0,.int .i64 0])/\Below w.heap.size w w':=by
 go_enter func41,ntmps41;go_wp2_with fail;refine (Rg _ _).mono ?_;rintro e h ⟨rfl,rfl⟩;go_wp2;go_ret2;exact ⟨rfl,ba.alloc az _⟩
theorem lD(c w)(J:Laid w):Calls prog 41 #[bY c] w fun e w'=>e=.returned (.tuple #[.int .i64 c,.int .i64 0])/\Below w.heap.size w w':=by
 have hl:=J.lt;have U:=ai (J.below ((aw w.heap.size w).alloc az xJ) hl);clear J;unfold bY;go_enter func41,ntmps41;go_wp2_with fail;refine (as_58 c w.heap.size _ _ U.u (aB.new w _ _)).mono ?_;rintro e C ⟨rfl,D,O⟩;have Q:=ai (((aw w.heap.size w).alloc az xJ).trans (D.below az an));have Z:=ai (U.u.but D aj);have Y:=ai O;have sz:=O.lt;clear D O;have ab:=ai (Z.u.below ((aw C.heap.size C).alloc az qo) aj);go_wp2_with fail;refine (as_no c C.heap.size _ _ _ ab.u (aB.new C _ _)).mono ?_;rintro e ac ⟨rfl,I⟩;have R:=(Y.u.alloc qo).below I;have k0:ac.cell? ⟨w.heap.size,0,none⟩=some (.int .i64 c):=R.cell rfl;have V:=ai ((Q.u.alloc Q.u.size qo).trans (I.mono aM));clear I R;go_wp2;go_ret2;exact ⟨rfl,V.u⟩
theorem zR(p c w)(O:Laid w):Calls prog 41 #[gp p c] w fun e w'=>e=.returned (.tuple #[.int .i64 c,.int .i64 p])/\Below w.heap.size w w':=by
 have hl:=O.lt;have V:=ai (O.below ((aw w.heap.size w).alloc az xJ) hl);clear O;unfold gp bY;go_enter func41,ntmps41;go_wp2_with fail;refine (as_71 p c w.heap.size _ _ V.u (aB.new w _ _)).mono ?_;rintro e C ⟨rfl,I,Q⟩;have R:=ai (((aw w.heap.size w).alloc az xJ).trans (I.below az an));have ab:=ai (V.u.but I aj);have Z:=ai Q;have sz:=Q.lt;clear I Q;have ac:=ai (ab.u.below ((aw C.heap.size C).alloc az qo) aj);go_wp2_with fail;refine (as_72 p _ _ C.heap.size _ _ _ ac.u (aB.new C _ _)).mono ?_;rintro e D ⟨rfl,J,k3⟩;have U:=(Z.u.alloc qo).but J aj;have k0:D.cell? ⟨w.heap.size,0,none⟩=some (.int .i64 c):=U.cell rfl;have k1:D.cell? ⟨C.heap.size,0,none⟩=some (.int .i64 p):=k3.cell rfl;have Y:=ai ((R.u.alloc R.u.size qo).trans (J.below aj aM));have ad:Calls prog 76 #[.int .i64 p] D fun e w'=>e=.returned (.int .i64 p)/\w'=D:=BL p D
 clear J k3 U ad;go_wp2
 go_region_held3 (fun w'=>w'.cell? ⟨w.heap.size,0,none⟩=some (.int .i64 c)/\w'.cell? ⟨C.heap.size,0,none⟩=some (.int .i64 p)) (go_keep)
  ((go_at_call 76;refine (BL _ _).mono ?_;rintro e w' ⟨rfl,rfl⟩))
 go_wp2;go_ret2;exact ⟨rfl,Y.u.drew⟩
end Go.Proofs.YtlbpnlngckgcbaaGreatDoor
namespace Go.Proofs.YtlbpnlngckgcbaaGreatDoor
open Go.RowKit Go.PlainAid
end Go.Proofs.YtlbpnlngckgcbaaGreatDoor
namespace Go.Proofs.YtlbpnlngckgcbaaGreatDoor
open Go.RowKit Go.PlainAid
end Go.Proofs.YtlbpnlngckgcbaaGreatDoor
namespace Go.Proofs.YtlbpnlngckgcbaaGreatDoor
open Go.RowKit Go.PlainAid
end Go.Proofs.YtlbpnlngckgcbaaGreatDoor
namespace Go.Proofs.YtlbpnlngckgcbaaGreatDoor
open Go.RowKit Go.PlainAid Go.Proofs.Tryz
