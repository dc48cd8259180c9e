import Derived.Test.YtlbpnlngckgcbaaGreatDoorM07
set_option linter.all false
set_option maxHeartbeats 4000000
set_option maxRecDepth 100000
namespace Go.Proofs.YtlbpnlngckgcbaaGreatDoor
open Go.RowKit Go.PlainAid Go.Proofs.Tryz
section
open Go.Extern.Stop Go.Stop Go.Extern
def Az(x w):(Instr.typeAssert (.iface 147 x) 77 330 true).run prog w=.ok (.tuple #[.nilIface,.bool false]) w:=run_typeAssert_lacksB underlying330 aw aw x 77 w
def AA(x w):(Instr.typeAssert (.iface 147 x) 77 333 true).run prog w=.ok (.tuple #[.iface 147 x,.bool true]) w:=by kernel_rfl
def C3(x w):(Instr.typeAssert (.iface 134 x) 77 330 true).run prog w=.ok (.tuple #[.nilIface,.bool false]) w:=run_typeAssert_lacksB underlying330 aw aw x 77 w
def C5(x w):(Instr.typeAssert (.iface 134 x) 77 333 true).run prog w=.ok (.tuple #[.nilIface,.bool false]) w:=run_typeAssert_lacksB underlying333 aw aw x 77 w
def AB(x w):(Instr.typeAssert (.iface 134 x) 77 334 true).run prog w=.ok (.tuple #[.nilIface,.bool false]) w:=run_typeAssert_lacksB underlying334 aw aw x 77 w
def Pq(ta b p ft fv o1 o2 W)(D:aE W b #[.int .i64 p,.iface ft fv] 147)(A:aE W ta #[o1,o2] 147):
  (ReflectliteValue.set #[.agg #[.pointer (some ⟨5,147,none⟩),.pointer (some ⟨ta,0,none⟩),.int .u64 409],.agg #[.pointer (some ⟨5,147,none⟩),.pointer (some ⟨b,0,none⟩),.int .u64 153]]).run prog W
   =.ok (.tuple #[]) ((W.setCell ⟨ta,0,none⟩ (.int .i64 p)).setCell ⟨ta,1,none⟩ (.iface ft fv)):=by
 have hl:=run_loadVar_row (P:=prog) W b 147 147 #[.int .i64 p,.iface ft fv] (0,0) _ D underlying147 rfl aw;have c0:W.cell? ⟨ta,0,none⟩=some o1:=A.cell rfl;have f0:=A.fz 0;refine Eq.trans (congrArg (fun z:Sem ag=>z.run prog W) (rfl:ReflectliteValue.set _=ReflectliteValue.parts _ >>= _)) ?_;simp only [Xm,Xn,pm,CW,F4,Result.andThen];simp [ReflectliteValue.flagAddr,hl,Result.andThen,CY,storeVar,Value.cells,storeCells,Addr.add];rw [run_store prog W ⟨ta,0,none⟩ _ _ bc];simp only [c0,f0];have C:=A.set 0 (.int .i64 p);have d1:(W.setCell ⟨ta,0,none⟩ (.int .i64 p)).cell? ⟨ta,1,none⟩=some o2:=C.cell rfl;have d2:=C.fz 1;simp only [Bool.false_eq_true,aV];rw [run_store prog (W.setCell ⟨ta,0,none⟩ (.int .i64 p)) ⟨ta,1,none⟩ _ _ bc];simp [d1,d2]
def as_71(p c tb old w)(hg:w.cell? ⟨0,0,none⟩=some (.iface 325 (.agg #[.pointer (some ⟨5,77,none⟩)])))(A:aE w tb #[old] 134):
  Calls prog 75 #[.iface 147 (.agg #[.int .i64 p,.iface 134 (.int .i64 c)]),.iface 145 (.pointer (some ⟨tb,0,none⟩))] w fun D w'=>D=.returned (.bool true)/\But tb w w'/\aE w' tb #[.int .i64 c] 134:=by
 have al:=Aw;have am:=Ax;have an:=Ay;have aw:=I9;have au:=Ja;have av:=Jb;have ay:=Jc;have ap:=Jd;have az:=Po;have ax:=Pp;have af:=qv;have ad:=qw;have ae:=qx;have ac:=mw;have f6:=I6;have f7:=yz;have kp:=yB;have ab:=yD;have Q:=yF;have Z:=yH;have ag:=CQ ⟨w.heap.size,0,none⟩ ⟨tb,0,none⟩ ((w.alloc (mr (some ⟨tb,0,none⟩))).alloc (eN (some ⟨5,145,none⟩) (some ⟨w.heap.size,0,none⟩))) ar;have hlt:0<w.heap.size:=by
  exact Av
 have Y:((w.alloc (mr (some ⟨tb,0,none⟩))).alloc (eN (some ⟨5,145,none⟩) (some ⟨w.heap.size,0,none⟩))).cell? ⟨0,0,none⟩=some (.iface 325 (.agg #[.pointer (some ⟨5,77,none⟩)])):=by
  exact Au
 have ah:=nF;have aj:=s7;have I:=vs;have J:=FZ;have ak:=I8;have R:=Az;have U:=AA;have V:=FY;have el:=vt ⟨w.heap.size,0,none⟩ ⟨tb,0,none⟩ ((((w.alloc (mr (some ⟨tb,0,none⟩))).alloc (eN (some ⟨5,145,none⟩) (some ⟨w.heap.size,0,none⟩))).alloc (eN (some ⟨5,145,none⟩) (some ⟨w.heap.size,0,none⟩))).alloc (.cells #[.int .i64 p,.iface 134 (.int .i64 c)] 147)) (by rw [vu _ _ ⟨w.heap.size,0,none⟩ aM,vu _ _ ⟨w.heap.size,0,none⟩ aM];simp);have st:=CZ ⟨tb,0,none⟩ ⟨w.heap.size+1+1+1+1,0,none⟩ c old (((((w.alloc (mr (some ⟨tb,0,none⟩))).alloc (eN (some ⟨5,145,none⟩) (some ⟨w.heap.size,0,none⟩))).alloc (eN (some ⟨5,145,none⟩) (some ⟨w.heap.size,0,none⟩))).alloc (.cells #[.int .i64 p,.iface 134 (.int .i64 c)] 147)).alloc (.cells #[.int .i64 c] 134))
  Xo
  ((((((A.alloc _).alloc _).alloc _).alloc _).alloc _).cell rfl)
  ((((((A.alloc _).alloc _).alloc _).alloc _).alloc _).fz 0)
 have C:=ai A;go_enter func75,ntmps75;go_wp2;refine uz 2 ?_;rw [rf];go_wp2;rw [rf];go_wp2;go_ret;exact ⟨rfl,(((((((But.refl tb w).alloc _).alloc _).alloc _).alloc _).alloc _).setCell 0 _),((((((C.u.alloc _).alloc _).alloc _).alloc _).alloc _).set 0 _)⟩
def as_72(p ft fv tb o1 o2 w)(hg:w.cell? ⟨0,0,none⟩=some (.iface 325 (.agg #[.pointer (some ⟨5,77,none⟩)])))(A:aE w tb #[o1,o2] 147):
  Calls prog 75 #[.iface 147 (.agg #[.int .i64 p,.iface ft fv]),.iface 148 (.pointer (some ⟨tb,0,none⟩))] w fun D w'=>D=.returned (.bool true)/\But tb w w'/\aE w' tb #[.int .i64 p,.iface ft fv] 147:=by
 have af:=Aw;have ag:=Ax;have ah:=Ay;have am:=I9;have ak:=Ja;have al:=Jb;have ap:=Jc;have aj:=Jd;have au:=Po;have an:=Pp;have ab:=qv;have Y:=qw;have Z:=qx;have V:=mw;have f6:=I7;have f7:=yA;have kp:=yC;have U:=yE;have J:=yG;have R:=yI;have ac:=CR ⟨w.heap.size,0,none⟩ ⟨tb,0,none⟩ ((w.alloc (pI (some ⟨tb,0,none⟩))).alloc (eN (some ⟨5,148,none⟩) (some ⟨w.heap.size,0,none⟩))) ar;have hlt:0<w.heap.size:=by
  exact Av
 have Q:((w.alloc (pI (some ⟨tb,0,none⟩))).alloc (eN (some ⟨5,148,none⟩) (some ⟨w.heap.size,0,none⟩))).cell? ⟨0,0,none⟩=some (.iface 325 (.agg #[.pointer (some ⟨5,77,none⟩)])):=by
  exact Au
 have ad:=s7;have I:=F1;have ae:=Vf;have el:=F2 ⟨w.heap.size,0,none⟩ ⟨tb,0,none⟩ (((w.alloc (pI (some ⟨tb,0,none⟩))).alloc (eN (some ⟨5,148,none⟩) (some ⟨w.heap.size,0,none⟩))).alloc (eN (some ⟨5,148,none⟩) (some ⟨w.heap.size,0,none⟩))) aaY;have st:=Pq tb (w.heap.size+1+1+1) p ft fv o1 o2 ((((w.alloc (pI (some ⟨tb,0,none⟩))).alloc (eN (some ⟨5,148,none⟩) (some ⟨w.heap.size,0,none⟩))).alloc (eN (some ⟨5,148,none⟩) (some ⟨w.heap.size,0,none⟩))).alloc (.cells #[.int .i64 p,.iface ft fv] 147))
  (aE.new' _ _ _ _ ar) ((((A.alloc _).alloc _).alloc _).alloc _)
 have C:=ai A;go_enter func75,ntmps75;go_wp2;refine uz 1 ?_;rw [rf];go_wp2;go_ret;exact ⟨rfl,(((((((But.refl tb w).alloc _).alloc _).alloc _).alloc _).setCell 0 _).setCell 1 _),((((((C.u.alloc _).alloc _).alloc _).alloc _).set 0 _).set 1 _)⟩
def as_no(c tb o1 o2 w)(hg:w.cell? ⟨0,0,none⟩=some (.iface 325 (.agg #[.pointer (some ⟨5,77,none⟩)])))(R:aE w tb #[o1,o2] 147):
  Calls prog 75 #[.iface 134 (.int .i64 c),.iface 148 (.pointer (some ⟨tb,0,none⟩))] w fun A w'=>A=.returned (.bool false)/\an w w':=by
 have ag:=Aw;have ah:=Ax;have ai:=Ay;have am:=I9;have ak:=Ja;have al:=Jb;have ap:=Jc;have aj:=Jd;have ad:=qv;have ab:=qw;have ac:=qx;have Z:=mw;have f6:=I7;have f7:=yA;have kp:=yC;have Y:=yE;have D:=yG;have V:=yI;have ae:=CR ⟨w.heap.size,0,none⟩ ⟨tb,0,none⟩ ((w.alloc (pI (some ⟨tb,0,none⟩))).alloc (eN (some ⟨5,148,none⟩) (some ⟨w.heap.size,0,none⟩))) ar;have hlt:0<w.heap.size:=by
  exact Av
 have U:((w.alloc (pI (some ⟨tb,0,none⟩))).alloc (eN (some ⟨5,148,none⟩) (some ⟨w.heap.size,0,none⟩))).cell? ⟨0,0,none⟩=some (.iface 325 (.agg #[.pointer (some ⟨5,77,none⟩)])):=by
  exact Au
 have af:=nF;have C:=F0;have I:=C3;have J:=C5;have Q:=AB;go_enter func75,ntmps75;go_wp2;refine uz 1 ?_;rw [rf];go_wp2;go_ret;exact ⟨rfl,(((az _ w).alloc aD _).alloc ar _).alloc aM _⟩
end
variable {aA aU:Prop}
abbrev vv:Obj:=.cells #[.int .i64 0,.nilIface] 147
def Pr(q:aU) (h:bF aU->aA:=by
 intro zq;rintro e w2 ⟨rfl,b2,k2⟩;have B2:=ai (((az w.heap.size w).alloc aD (.cells #[.int .i64 0] 134)).trans (b2.below aD ar));have L2:=ai (L1.u.but b2 aj);have K2:=ai k2;have sz:=k2.lt;have L3:=ai (L2.u.below ((az w2.heap.size w2).alloc aD vv) aj)
 revert w2 b2 k2 B2 L2 K2 sz L3
 exact zq.1):aA:=h ⟨q⟩
def Laid(w:af):Prop:=w.cell? ⟨0,0,none⟩=some (.iface 325 (.agg #[.pointer (some ⟨5,77,none⟩)]))
variable {w:af}
def Laid.lt(h:Laid w):0<w.heap.size:=by
 rcases An w.heap.size with h0|A
 ·unfold Laid at h;simp [World.cell?,h0] at h
 exact A
variable {w':af} {B:Nat}
def Laid.below(h:Laid w)(k:Below B w w')(A:0<B):Laid w':=(ji (w:=w) (k.block 0 A)).trans h
variable {b:Nat}
def Laid.but(h:Laid w)(k:But b w w')(A:b≠0):Laid w':=(k.cell (a:=⟨0,0,none⟩) h.lt (fun e=>A e.symm)).trans h
def vw(w):Calls prog 41 #[.nilIface] w fun e w'=>e=.returned (.tuple #[.int .i64 0,.int .i64 0])/\an w w':=by
 go_enter func41,ntmps41;go_wp2_with fail;refine (Yz _ _).mono ?_;rintro e h ⟨rfl,rfl⟩;go_wp2;go_ret2;exact ⟨rfl,bj.alloc aD _⟩
def pJ(c w)(C:Laid w):Calls prog 41 #[cj c] w fun e w'=>e=.returned (.tuple #[.int .i64 c,.int .i64 0])/\an w w':=by
 have hl:=C.lt;have L1:=ai (C.below ((az w.heap.size w).alloc aD (.cells #[.int .i64 0] 134)) hl);unfold cj;go_enter func41,ntmps41;go_wp2_with fail;refine (as_58 c w.heap.size _ _ L1.u (aE.new w _ _)).mono ?_;refine Pr ?_;intro w2 b2 k2 B2 L2 K2 sz L3;go_wp2_with fail;refine (as_no c w2.heap.size _ _ _ L3.u (aE.new w2 _ _)).mono ?_;rintro e J ⟨rfl,A⟩;have I:=(K2.u.alloc vv).below A;have k0:J.cell? ⟨w.heap.size,0,none⟩=some (.int .i64 c):=I.cell rfl;have D:=ai ((B2.u.alloc B2.u.size vv).trans (A.mono aM));go_wp2;go_ret2;exact ⟨rfl,D.u⟩
def C6(p c w)(C:Laid w):Calls prog 41 #[gl p c] w fun e w'=>e=.returned (.tuple #[.int .i64 c,.int .i64 p])/\an w w':=by
 have hl:=C.lt;have L1:=ai (C.below ((az w.heap.size w).alloc aD (.cells #[.int .i64 0] 134)) hl);unfold gl cj;go_enter func41,ntmps41;go_wp2_with fail;refine (as_71 p c w.heap.size _ _ L1.u (aE.new w _ _)).mono ?_;refine Pr ?_;intro w2 b2 k2 B2 L2 K2 sz L3;go_wp2_with fail;refine (as_72 p _ _ w2.heap.size _ _ _ L3.u (aE.new w2 _ _)).mono ?_;rintro e D ⟨rfl,A,k3⟩;have J:=(K2.u.alloc vv).but A aj;have k0:D.cell? ⟨w.heap.size,0,none⟩=some (.int .i64 c):=J.cell rfl;have k1:D.cell? ⟨w2.heap.size,0,none⟩=some (.int .i64 p):=k3.cell rfl;have I:=ai ((B2.u.alloc B2.u.size vv).trans (A.below aj aM));go_wp2
 go_region_held3 (fun w'=>w'.cell? ⟨w.heap.size,0,none⟩=some (.int .i64 c)/\w'.cell? ⟨w2.heap.size,0,none⟩=some (.int .i64 p)) (go_keep)
  ((go_at_call 76;refine (M9 _ _).mono ?_;rintro e w' ⟨rfl,rfl⟩))
 go_wp2;go_ret2;exact ⟨rfl,I.u.drew⟩
end Go.Proofs.YtlbpnlngckgcbaaGreatDoor
namespace Go.Proofs.YtlbpnlngckgcbaaGreatDoor
open Go.RowKit Go.PlainAid Go.Proofs.Tryz
end Go.Proofs.YtlbpnlngckgcbaaGreatDoor
namespace Go.Proofs.YtlbpnlngckgcbaaGreatDoor
open Go.RowKit Go.PlainAid Go.Proofs.Tryz
end Go.Proofs.YtlbpnlngckgcbaaGreatDoor
namespace Go.Proofs.YtlbpnlngckgcbaaGreatDoor
open Go.RowKit Go.PlainAid Go.Proofs.Tryz
end Go.Proofs.YtlbpnlngckgcbaaGreatDoor
namespace Go.Proofs.YtlbpnlngckgcbaaGreatDoor
open Go.RowKit Go.PlainAid Go.Proofs.Tryz
