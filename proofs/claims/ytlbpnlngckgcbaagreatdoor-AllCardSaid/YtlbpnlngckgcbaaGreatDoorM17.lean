import Derived.Test.YtlbpnlngckgcbaaGreatDoorM11
import Derived.KernelRfl
set_option linter.all false
set_option maxHeartbeats 4000000
set_option maxRecDepth 100000
namespace Go.Proofs.YtlbpnlngckgcbaaGreatDoor
open Go.RowKit Go.PlainAid Go.Proofs.Tryz
section
open Go.Extern.Stop Go.Stop Go.Extern
def A6(x w):(Instr.typeAssert (.iface 147 x) 77 330 true).run prog w=.ok (.tuple #[.nilIface,.bool false]) w:=run_typeAssert_lacksB underlying330 aM aM x 77 w
def A7(x w):(Instr.typeAssert (.iface 147 x) 77 333 true).run prog w=.ok (.tuple #[.iface 147 x,.bool true]) w:=by kernel_rfl
def Dx(x w):(Instr.typeAssert (.iface 134 x) 77 330 true).run prog w=.ok (.tuple #[.nilIface,.bool false]) w:=run_typeAssert_lacksB underlying330 aM aM x 77 w
def Dy(x w):(Instr.typeAssert (.iface 134 x) 77 333 true).run prog w=.ok (.tuple #[.nilIface,.bool false]) w:=run_typeAssert_lacksB underlying333 aM aM x 77 w
def A8(x w):(Instr.typeAssert (.iface 134 x) 77 334 true).run prog w=.ok (.tuple #[.nilIface,.bool false]) w:=run_typeAssert_lacksB underlying334 aM aM x 77 w
def Pv(ta b p ft fv o1 o2 W)(D:aL W b #[ar p,.iface ft fv] 147)(A:aL W ta #[o1,o2] 147):
  (ReflectliteValue.set #[.agg #[.pointer (some (aC 5 147)),bc ta,.int .u64 409],.agg #[.pointer (some (aC 5 147)),bc b,.int .u64 153]]).run prog W
   =.ok (.tuple #[]) ((W.setCell (aN ta) (ar p)).setCell (aC ta 1) (.iface ft fv)):=by
 have hl:=run_loadVar_row (P:=prog) W b 147 147 #[ar p,.iface ft fv] (0,0) _ D underlying147 rfl aM;have c0:W.cell? (aN ta)=some o1:=A.cell rfl;have f0:=A.fz 0;refine Eq.trans (congrArg (fun z:Sem ag=>z.run prog W) (rfl:ReflectliteValue.set _=ReflectliteValue.parts _ >>= _)) ?_;simp only [Xd,Xe,py,Dt,GS,Result.andThen];simp [ReflectliteValue.flagAddr,hl,Result.andThen,Dv,storeVar,Value.cells,storeCells,Addr.add];rw [run_store prog W ⟨ta,0,none⟩ _ _ bL];simp only [c0,f0];have C:=A.set 0 (ar p);have d1:(W.setCell (aN ta) (ar p)).cell? (aC ta 1)=some o2:=C.cell rfl;have d2:=C.fz 1;simp only [Bool.false_eq_true,a8];rw [run_store prog (W.setCell (aN ta) (ar p)) ⟨ta,1,none⟩ _ _ bL];simp [d1,d2]
def as_71(p c tb old w)(hg:w.cell? (aN 0)=some (.iface 325 (.agg #[.pointer (some (aC 5 77))])))(A:aL w tb #[old] 134):
  Calls prog 75 #[.iface 147 (.agg #[ar p,.iface 134 (ar c)]),.iface 145 (bc tb)] w fun C w'=>C=bj (.bool true)/\But tb w w'/\aL w' tb #[ar c] 134:=by
 have aj:=A0;have ak:=A2;have al:=A3;have av:=JG;have an:=JH;have ap:=JI;have ax:=JJ;have am:=JK;have ay:=Pt;have aw:=Pu;have ae:=qu;have ac:=qv;have ad:=qw;have ab:=ml;have f6:=JD;have f7:=yV;have kp:=yX;have Z:=yZ;have J:=y6;have Y:=y8;have af:=Do ⟨w.heap.size,0,none⟩ ⟨tb,0,none⟩ ((w.alloc (.cells #[bc tb] 145)).alloc (eX (some (aC 5 145)) bc w.heap.size)) au;have hlt:0<w.heap.size:=by
  exact AZ
 have V:((w.alloc (.cells #[bc tb] 145)).alloc (eX (some (aC 5 145)) bc w.heap.size)).cell? (aN 0)=some (.iface 325 (.agg #[.pointer (some (aC 5 77))])):=by
  exact AY
 have ag:=nA;have ah:=te;have D:=vG;have I:=GL;have ai:=JF;have Q:=A6;have R:=A7;have U:=GJ;have el:=vH ⟨w.heap.size,0,none⟩ ⟨tb,0,none⟩ ((((w.alloc (.cells #[bc tb] 145)).alloc (eX (some (aC 5 145)) bc w.heap.size)).alloc (eX (some (aC 5 145)) bc w.heap.size)).alloc (.cells #[ar p,.iface 134 (ar c)] 147)) (by rw [vI _ _ ⟨w.heap.size,0,none⟩ aS,vI _ _ ⟨w.heap.size,0,none⟩ aS];simp);have st:=Dw ⟨tb,0,none⟩ ⟨w.heap.size+1+1+1+1,0,none⟩ c old (((((w.alloc (.cells #[bc tb] 145)).alloc (eX (some (aC 5 145)) bc w.heap.size)).alloc (eX (some (aC 5 145)) bc w.heap.size)).alloc (.cells #[ar p,.iface 134 (ar c)] 147)).alloc (.cells #[ar c] 134))
  Xf
  ((((((A.alloc _).alloc _).alloc _).alloc _).alloc _).cell rfl)
  ((((((A.alloc _).alloc _).alloc _).alloc _).alloc _).fz 0)
 go_enter func75,ntmps75;go_wp2;refine uI 2 ?_;rw [rA];go_wp2;rw [rA];go_wp2;go_ret;exact ⟨rfl,(((((((But.refl tb w).alloc _).alloc _).alloc _).alloc _).alloc _).setCell 0 _),((((((A.alloc _).alloc _).alloc _).alloc _).alloc _).set 0 _)⟩
def as_72(p ft fv tb o1 o2 w)(hg:w.cell? (aN 0)=some (.iface 325 (.agg #[.pointer (some (aC 5 77))])))(A:aL w tb #[o1,o2] 147):
  Calls prog 75 #[.iface 147 (.agg #[ar p,.iface ft fv]),.iface 148 (bc tb)] w fun C w'=>C=bj (.bool true)/\But tb w w'/\aL w' tb #[ar p,.iface ft fv] 147:=by
 have ae:=A0;have af:=A2;have ag:=A3;have ak:=JG;have ai:=JH;have aj:=JI;have am:=JJ;have ah:=JK;have an:=Pt;have al:=Pu;have Z:=qu;have V:=qv;have Y:=qw;have U:=ml;have f6:=JE;have f7:=yW;have kp:=yY;have R:=y5;have I:=y7;have Q:=y9;have ab:=Dp ⟨w.heap.size,0,none⟩ ⟨tb,0,none⟩ ((w.alloc (.cells #[bc tb] 148)).alloc (eX (some (aC 5 148)) bc w.heap.size)) au;have hlt:0<w.heap.size:=by
  exact AZ
 have J:((w.alloc (.cells #[bc tb] 148)).alloc (eX (some (aC 5 148)) bc w.heap.size)).cell? (aN 0)=some (.iface 325 (.agg #[.pointer (some (aC 5 77))])):=by
  exact AY
 have ac:=te;have D:=GN;have ad:=Vc;have el:=GO ⟨w.heap.size,0,none⟩ ⟨tb,0,none⟩ (((w.alloc (.cells #[bc tb] 148)).alloc (eX (some (aC 5 148)) bc w.heap.size)).alloc (eX (some (aC 5 148)) bc w.heap.size)) aas;have st:=Pv tb (w.heap.size+1+1+1) p ft fv o1 o2 ((((w.alloc (.cells #[bc tb] 148)).alloc (eX (some (aC 5 148)) bc w.heap.size)).alloc (eX (some (aC 5 148)) bc w.heap.size)).alloc (.cells #[ar p,.iface ft fv] 147))
  (aL.new' _ _ _ _ au) ((((A.alloc _).alloc _).alloc _).alloc _)
 go_enter func75,ntmps75;go_wp2;refine uI 1 ?_;rw [rA];go_wp2;go_ret;exact ⟨rfl,(((((((But.refl tb w).alloc _).alloc _).alloc _).alloc _).setCell 0 _).setCell 1 _),((((((A.alloc _).alloc _).alloc _).alloc _).set 0 _).set 1 _)⟩
def as_no(c tb o1 o2 w)(hg:w.cell? (aN 0)=some (.iface 325 (.agg #[.pointer (some (aC 5 77))])))(R:aL w tb #[o1,o2] 147):
  Calls prog 75 #[.iface 134 (ar c),.iface 148 (bc tb)] w fun A w'=>A=bj (.bool false)/\an w w':=by
 have ag:=A0;have ah:=A2;have ai:=A3;have am:=JG;have ak:=JH;have al:=JI;have ap:=JJ;have aj:=JK;have ad:=qu;have ab:=qv;have ac:=qw;have Z:=ml;have f6:=JE;have f7:=yW;have kp:=yY;have Y:=y5;have D:=y7;have V:=y9;have ae:=Dp ⟨w.heap.size,0,none⟩ ⟨tb,0,none⟩ ((w.alloc (.cells #[bc tb] 148)).alloc (eX (some (aC 5 148)) bc w.heap.size)) au;have hlt:0<w.heap.size:=by
  exact AZ
 have U:((w.alloc (.cells #[bc tb] 148)).alloc (eX (some (aC 5 148)) bc w.heap.size)).cell? (aN 0)=some (.iface 325 (.agg #[.pointer (some (aC 5 77))])):=by
  exact AY
 have af:=nA;have C:=GM;have I:=Dx;have J:=Dy;have Q:=A8;go_enter func75,ntmps75;go_wp2;refine uI 1 ?_;rw [rA];go_wp2;go_ret;exact ⟨rfl,(((aA _ w).alloc aH _).alloc au _).alloc aS _⟩
end
variable {aD br:Prop}
def Pw(q:br) (h:cj br->aD:=by
 intro zq;rintro e w2 ⟨rfl,b2,k2⟩;have B2:=((aA w.heap.size w).alloc aH (.cells #[ar 0] 134)).trans (b2.below aH au);have L2:=L1.but b2 ai;have sz:=k2.lt;have L3:=L2.below ((aA w2.heap.size w2).alloc aH (.cells #[ar 0,.nilIface] 147)) ai
 revert w2 b2 k2 B2 L2 sz L3
 exact zq.1):aD:=h ⟨q⟩
def Laid(w:af):Prop:=w.cell? (aN 0)=some (.iface 325 (.agg #[.pointer (some (aC 5 77))]))
variable {w:af}
def Laid.lt(h:Laid w):0<w.heap.size:=by
 rcases AR w.heap.size with h0|A
 ·unfold Laid at h;simp [World.cell?,h0] at h
 exact A
variable {w':af} {B:Nat}
def Laid.below(h:Laid w)(k:Below B w w')(A:0<B):Laid w':=(jw (w:=w) (k.block 0 A)).trans h
variable {b:Nat}
def Laid.but(h:Laid w)(k:But b w w')(A:b≠0):Laid w':=(k.cell (a:=⟨0,0,none⟩) h.lt (fun e=>A e.symm)).trans h
def nB(w):Calls prog 41 #[.nilIface] w fun e w'=>e=bj (.tuple #[ar 0,ar 0])/\an w w':=by
 go_enter func41,ntmps41;go_wp2_with fail;refine (Yp _ _).mono ?_;rintro e h ⟨rfl,rfl⟩;go_wp2;go_ret2;exact ⟨rfl,bp.alloc aH _⟩
def kq(c w)(C:Laid w):Calls prog 41 #[cm c] w fun e w'=>e=bj (.tuple #[ar c,ar 0])/\an w w':=by
 have hl:=C.lt;have L1:=C.below ((aA w.heap.size w).alloc aH (.cells #[ar 0] 134)) hl;unfold cm;go_enter func41,ntmps41;go_wp2_with fail;refine (as_58 c w.heap.size _ _ L1 (aL.new w _ _)).mono ?_;refine Pw ?_;intro w2 b2 k2 B2 L2 sz L3;go_wp2_with fail;refine (as_no c w2.heap.size _ _ _ L3 (aL.new w2 _ _)).mono ?_;rintro e J ⟨rfl,A⟩;have I:=(k2.alloc (.cells #[ar 0,.nilIface] 147)).below A;have k0:J.cell? (aN w.heap.size)=some (ar c):=I.cell rfl;have D:=(B2.alloc B2.size (.cells #[ar 0,.nilIface] 147)).trans (A.mono aS);go_wp2;go_ret2;exact ⟨rfl,D⟩
def tf(p c w)(C:Laid w):Calls prog 41 #[fO p c] w fun e w'=>e=bj (.tuple #[ar c,ar p])/\an w w':=by
 have hl:=C.lt;have L1:=C.below ((aA w.heap.size w).alloc aH (.cells #[ar 0] 134)) hl;unfold fO cm;go_enter func41,ntmps41;go_wp2_with fail;refine (as_71 p c w.heap.size _ _ L1 (aL.new w _ _)).mono ?_;refine Pw ?_;intro w2 b2 k2 B2 L2 sz L3;go_wp2_with fail;refine (as_72 p _ _ w2.heap.size _ _ _ L3 (aL.new w2 _ _)).mono ?_;rintro e D ⟨rfl,A,k3⟩;have J:=(k2.alloc (.cells #[ar 0,.nilIface] 147)).but A ai;have k0:D.cell? (aN w.heap.size)=some (ar c):=J.cell rfl;have k1:D.cell? (aN w2.heap.size)=some (ar p):=k3.cell rfl;have I:=(B2.alloc B2.size (.cells #[ar 0,.nilIface] 147)).trans (A.below ai aS);go_wp2
 go_region_held3 (fun w'=>w'.cell? (aN w.heap.size)=some (ar c)/\w'.cell? (aN w2.heap.size)=some (ar p)) (go_keep)
  ((go_at_call 76;refine (NG _ _).mono ?_;rintro e w' ⟨rfl,rfl⟩))
 go_wp2;go_ret2;exact ⟨rfl,I.drew⟩
def GY (h:aD:=by
 go_enter func182,ntmps182;go_wp2;go_ret;exact ⟨rfl,bp.alloc aH _⟩):aD:=h
def GZ (h:aD:=by
 go_enter func227,ntmps227;go_wp2;go_ret;exact ⟨rfl,rfl⟩):aD:=h
def fG(g:Gr):ae:=if g.reach=1 then g.ty++sg 42 else if g.reach=2 then (g.ty++sg 35)++g.rel else g.ty
def G0(g:Gr)(w:af)(h1:g.ty.size<=1000)(h2:g.rel.size<=1000):
  Calls prog 182 #[.agg #[ar g.tp,aj g.ty,ar g.reach,ar g.rp,aj g.rel]] w fun e w'=>e=bj (aj (fG g))/\an w w':=by
 unfold fG
 by_cases k1:g.reach=1
 ·have e1:((g.reach:Int)==1)=true:=by rw [k1];rfl
  rw [if_pos k1];exact GY
 ·have e1:((g.reach:Int)==1)=false:=by rw [bW];omega
  rw [if_neg k1]
  by_cases A:g.reach=2
  ·have C:((g.reach:Int)==2)=true:=by rw [A];rfl
   rw [if_pos A];exact GY
  have C:((g.reach:Int)==2)=false:=by rw [bW];omega
  rw [if_neg A];exact GY
def vL(e:Ex):Nat:=match e.l with
 |none=>2
 |some _=>if e.nd.kind=3 then 0 else 1
def DF(b:Nat)(e:Ex)(v:ag)(w:af)(h:bA b w e v):
  Calls prog 227 #[v] w fun e' w'=>e'=bj (ar (vL e))/\w'=w:=by
 have f0:=ng;have f1:=oT;have f2:=oU;have f3:=gA;have f4:=h8;have f5:=ib;have g0:=qh;have C:=sZ;have D:=s3;have I:=jR;have g5:=jS;have h0:=lZ;have h1:=nh;have h2:=ni;have J:=qi;have Q:=ie
 match e,h with
 |⟨nq,some xq,some yq⟩,⟨vx,vy,hv,rx,ry⟩=>
  subst hv;unfold vL fj
  by_cases k3:nq.kind=3
  ·simp only [k3,if_true];exact GZ
  simp only [k3,a8]
  by_cases A:nq.kind=4
  ·simp only [A,if_true];exact GZ
  simp only [A,a8];exact GZ
 |⟨nq,none,rq⟩,h=>
  rcases h with ⟨_,gv,hv,_⟩|⟨_,hv⟩|⟨_,hv⟩
  all_goals
   subst hv;go_enter func227,ntmps227;go_wp2;go_ret;exact ⟨rfl,rfl⟩
 |⟨nq,some xq,none⟩,h=>exact h.elim
end Go.Proofs.YtlbpnlngckgcbaaGreatDoor
namespace Go.Proofs.YtlbpnlngckgcbaaGreatDoor
open Go.RowKit Go.PlainAid Go.Proofs.Tryz
variable {aD br:Prop}
abbrev eo:=@List.getElem?_map
def zd (h:aD:=by
 simp [aF,hp]):aD:=h
def JQ (h:aD:=by
 simp [aF]):aD:=h
def Xk (h:aD:=by
 go_enter Tryz.func184,Tryz.ntmps184;go_wp2_with (first|(go_at_call 227;refine C1.mono ?_;rintro e D ⟨rfl,rfl⟩)|(go_at_call 78;refine C2.mono ?_;rintro e I ⟨rfl,C⟩;have A:=C));go_ret;exact ⟨rfl,A⟩):aD:=h
def Bb(q:br) (h:cj br->aD:=by
 intro zq;have hp:(aF ⟨n,some a,some c⟩).length=(aF a).length+1+(aF c).length:=by simp [aF];omega
 revert hp
 exact zq.1):aD:=h ⟨q⟩
def Tryz.info9':(Tryz.prog.info? 9).map (fun i=>(i.zero,i.size,i.bytes))=some (some (aj ⟨#[]⟩),1,16):=by kernel_rfl
def Nr(g:Gr):Prop:=g.ty.size<=8/\g.rel.size<=8
def cV(a c:ByteArray):(a++c).size=a.size+c.size:=ByteArray.size_append
def LC(g:Gr)(h:Nr g):(fG g).size<=17:=by
 obtain ⟨h1,h2⟩:=h;have e1:(sg 42).size=1:=rfl;have A:(sg 35).size=1:=rfl;unfold fG
 split
 ·rw [cV];omega
 split
 ·rw [cV,cV];omega
 omega
def lC(gs:List Gr):List UInt8:=Lib.join ((gs.map fG).map (·.data.toList)) [44,32]
def DG:∀(gs:List Gr),(∀g∈gs,Nr g)->(lC gs).length<=19*gs.length
 | [],_=>by simp [lC,Lib.join_nil]
 |g::gs,h=>by
  unfold lC;rw [bZ,bZ,Lib.join_length];have key:∀(l:List Gr),(∀g∈l,Nr g)->Lib.lens ((l.map fG).map (·.data.toList))<=17*l.length:=by
   intro l
   induction l with
   |nil=>intro _;simp [Lib.lens]
   |cons a r ih=>
    intro hl;have h1:=LC a (hl a au);have h2:=ih (fun g A=>hl g (by simp [A]));simp only [bZ,Lib.lens,List.sum_cons,List.length_cons] at*;have C:(fG a).data.toList.length=(fG a).size:=rfl;omega
  have:=key (g::gs) h;simp only [bZ,List.length_cons,bO,List.length_nil] at*;omega
def qx(gs:List Gr):ByteArray:=(sg 91++mk (lC gs))++sg 93
def strs(l:List ByteArray):List Value:=l.map Value.string
def gwK(k:Nat)(gs:List Gr):List Value:=strs ((gs.take k).map fG)
def LD(p:Nat)(aA:Value)(gs:List Gr)(w:World)(h:w.ownsRow 0 207 5 aA gs.length (cz gs))(be:gs.length<=1000)(h0:gs≠ [])(Z:∀g∈gs,Nr g):
  Calls Tryz.prog 124 #[.agg #[ar p,aA]] w fun e w'=>e=bj (aj (qx gs))/\an w w':=by
 obtain ⟨ga,gc,rfl⟩:=ax h;have H:=ak h;have aG:=ak Z;have ae:=ak (DG gs Z);have bg:0<gs.length:=lT.2 h0;clear h Z h0;go_enter Tryz.func124,Tryz.ntmps124;go_wp2_with fail
 go_loopw [3,9] (fun a7 a8 wr=>∃(k:Nat)(sa:Option Addr)(sc:Nat),k<=gs.length/\a8=ar k/\a7=aw sa k sc/\an w wr/\wr.ownsRow w.heap.size 9 1 (aw sa k sc) k (gwK k gs)) (fun _ u _=>gs.length-(intOf u).toNat)
 ·exact ⟨0,none,0,ai,rfl,rfl,bp.alloc aH _,bQ⟩
 ·obtain ⟨k,sa,sc,au,rfl,rfl,D,ho⟩:=hrel;have ac:=ak D;have aF:=ak ho;have aB:=D.size
  by_cases Y:k<gs.length
  ·have V:(k:Int)<(gs.length:Int):=by omega
   obtain ⟨q,c,e1,k0,k1,aY,k3,a5⟩:=UK.cell (az (w':=wr) H (fun g cs f _ I=>D.block g (lt_of_some I))) k gs[k] (aI Y);simp only [aK] at e1;obtain ⟨rfl,_,rfl⟩:=e1;have aJ:=ak (show gwK (k+1) gs=gwK k gs++[aj (fG gs[k])] from by
    unfold gwK strs;rw [cD Y,cK,cK];rfl)
   have R:=aG gs[k] (bu Y);generalize gs[k]=g at*;have am:an wr (wr.alloc (gJ ar g.tp aj g.ty ar g.reach ar g.rp aj g.rel)):=bp.alloc aH _;have ad:=ak (ac.trans (am.mono aB));have C:=ak (G0 g (wr.alloc (gJ ar g.tp aj g.ty ar g.reach ar g.rp aj g.rel)) (by have:=R.1;omega) (by have:=R.2;omega));have aM:=ak (aF.alloc (gJ ar g.tp aj g.ty ar g.reach ar g.rp aj g.rel));clear D ho am R;go_wp2_with fail;refine C.mono ?_;rintro e Q ⟨rfl,A⟩;have J:=ak (ad.trans (A.mono ad.size));have ah:=ak (az (w':=Q) aM (fun g cs f _ I=>A.block g (lt_of_some I)));have a6:=J.size;clear A C k0 k1 aY k3 a5;go_wp2_with (at_builtin;go_must (refine ez rfl Tryz.underlying22 Tryz.info9' w.heap.size (ah.alloc _) Q.heap.size 1 [aj (fG g)] (Q.heap.size+1) ?hrest))
   case hrest=>
    intro aP aO bh av ap aT bc;have al:=ah.alloc (bE aj (fG g));have aC:=ak (cA (J.alloc a6 (bE aj (fG g))) ap aS (fun k au=>(al.lt k au).1));have aL:=ak av;clear av ap aT al;go_wp2;go_roundw
    ·exact ⟨k+1,some (aN aP),aO,ai,by go_num,rfl,aC,by rw [aJ];exact aL⟩
    simp [intOf];omega
  have V:¬((k:Int)<(gs.length:Int)):=ai;obtain rfl:k=gs.length:=ai;unfold gwK at ho;rw [km] at ho;have aU:gs.length<=sc/\∃q,sa=some (aN q)/\q<wr.heap.size:=by
   rcases ho.2 with ⟨_,h0⟩|⟨g,cap,ba,hv,_,I,aQ,_⟩
   ·omega
   simp only [aK] at hv;obtain ⟨rfl,_,rfl⟩:=hv;exact ⟨aQ,g,rfl,lt_of_some I⟩
  obtain ⟨bb,q,rfl,aW⟩:=aU;have hl:(gs.map fG).length=gs.length:=bO _;have C:=Tryz.strings_Join q 0 sc (gs.map fG) ⟨#[44,32]⟩ wr (by
   intro j x aX;obtain ⟨g',a9,e',hc⟩:=aZ ho j (aj x) (by unfold strs;rw [eo,aX];rfl);simp only [aK,aR,cg] at e';obtain ⟨⟨rfl,_⟩,_⟩:=e';rw [Nat.zero_add];exact hc) aW ai ai (by have:=ae.u;unfold lC at this;simp only at*;omega)
  rw [hl] at C;have aV:(mk (lC gs)).size<=20000:=by
   have h1:=ae.u;have h2:(mk (lC gs)).size=(lC gs).length:=rfl;omega
  have ab:=ak (show Calls Tryz.prog 183 #[aw (some (aN q)) gs.length sc,aj ⟨#[44,32]⟩] wr fun e w'=>e=bj (aj (mk (lC gs)))/\an wr w' from C);obtain ⟨ay,U⟩:∃ay,ay=mk (lC gs):=⟨_,rfl⟩;rw [<-U] at aV ab;have aE:=ak U;clear U;clear D ho C V;have V:¬((gs.length:Int)<(gs.length:Int)):=ai;go_wp2_with (go_at_call 183;refine ab.mono ?_;rintro e Q ⟨rfl,A⟩;have J:=ak (ac.trans (A.mono aB));clear A);go_ret;exact ⟨by unfold qx;rw [<-aE];rfl,J⟩
end Go.Proofs.YtlbpnlngckgcbaaGreatDoor
namespace Go.Proofs.YtlbpnlngckgcbaaGreatDoor
open Go.RowKit Go.PlainAid Go.Proofs.Tryz
def mo:ByteArray:=⟨#[32,124,32]⟩
def vM:ByteArray:=⟨#[32,38,32]⟩
def vN:ByteArray:=⟨#[32,45,32]⟩
def dX(e:Ex)(s:ByteArray)(least:Nat):ByteArray:=if vL e<least then (sg 40++s)++sg 41 else s
def aP:Ex->ByteArray
 |⟨n,some x,some y⟩=>if n.kind=3 then (aP x++mo)++aP y
  else (dX x (aP x) 1++(if n.kind=4 then vM else vN))++dX y (aP y) 2
 |⟨n,none,_⟩=>if n.kind=0 then qx n.gs else if n.kind=1 then n.n1 else (n.n1++sg 46)++n.n2
 |⟨_,some _,none⟩=>em
def Sz(e:Ex):Prop:=∀p∈aF e,p.l=none->p.nd.n1.size<=8/\p.nd.n2.size<=8/\∀g∈p.nd.gs,Nr g
def qy(e:Ex)(s:ByteArray)(n:Nat):(dX e s n).size<=s.size+2:=by
 have e1:(sg 40).size=1:=rfl;have h:(sg 41).size=1:=rfl;unfold dX
 split
 ·rw [cV,cV];omega
 omega
def PL(gs:List Gr)(h:∀g∈gs,Nr g):(qx gs).size<=19*gs.length+2:=by
 have e1:(sg 91).size=1:=rfl;have A:(sg 93).size=1:=rfl;have C:(mk (lC gs)).size=(lC gs).length:=rfl;have:=DG gs h;unfold qx;rw [cV,cV];omega
def kN(e:Ex):Sz e->(aP e).size<=20*(aF e).length+19*(bR e).length:=by
 induction e using Ex.ind with
 |h0 n r=>
  intro h;obtain ⟨h1,h2,A⟩:=h ⟨n,none,r⟩ JQ rfl;simp only at h1 h2 A;have e1:(sg 46).size=1:=rfl;simp only [aP,aF,bR,bN,jF,List.append_nil,eM,List.length_cons,List.length_nil]
  by_cases k0:n.kind=0
  ·rw [if_pos k0,if_pos k0];have:=PL n.gs A;omega
  rw [if_neg k0,if_neg k0]
  split
  ·omega
  rw [cV,cV];simp only [List.length_nil];omega
 |h1 n a=>intro _;exact Nat.zero_le _
 |h2 n a c iha Np=>
  intro h;have J:=iha (fun p hp=>h p zd);have Q:=Np (fun p hp=>h p zd);have e1:mo.size=3:=rfl;have D:vM.size=3:=rfl;have I:vN.size=3:=rfl;have ha:=qy a (aP a) 1;have hc:=qy c (aP c) 2;have C:(bR ⟨n,some a,some c⟩).length=(bR a).length+(bR c).length:=by
   unfold bR;simp [aF,eM]
  refine Bb ?_;intro hp;rw [C,hp];simp only [aP]
  split
  ·rw [cV,cV];omega
  rw [cV,cV]
  split<;>omega
def PM(b:Nat)(e:Ex):Prop:=∀v w,bA b w e v->Calls Tryz.prog 78 #[v] w fun e' w'=>e'=bj (aj (aP e))/\an w w'
def JR(b:Nat)(e:Ex)(R:PM b e)(hs:(aP e).size<=100000)(v:Value)(n:Nat)(U:n<=2)(w:World)(h:bA b w e v):
  Calls Tryz.prog 184 #[v,ar n] w fun e' w'=>e'=bj (aj (dX e (aP e) n))/\an w w':=by
 have C1:=DF b e v w h;have C2:=R v w h;obtain ⟨V,Y,rfl⟩:=h.isI;unfold dX;generalize vL e=m at*;generalize aP e=s at*
 by_cases J:m<n
 ·have Q:(m:Int)<(n:Int):=by omega
  rw [if_pos J];exact Xk
 ·have Q:¬((m:Int)<(n:Int)):=by omega
  rw [if_neg J];exact Xk
def vO(b:Nat)(x y:Ex)(al:PM b x)(am:PM b y)(aJ:(aP x).size<=90000)(aK:(aP y).size<=90000)(p:Nat)(C D:Value)(sign:ByteArray)(aw:sign.size<=10)(w:World)(V:bA b w x C)(Y:bA b w y D):
  Calls Tryz.prog 125 #[.agg #[ar p,C,D],aj sign] w fun e' w'=>e'=bj (aj ((dX x (aP x) 1++sign)++dX y (aP y) 2))/\an w w':=by
 have ac:=(fun w' k=>JR b x al ai C 1 ai w' (V.but (But.of_below k)):∀w',an w w'->Calls Tryz.prog 184 #[C,ar 1] w' fun e' w''=>e'=bj (aj (dX x (aP x) 1))/\an w' w'');have ad:=(fun w' k=>JR b y am ai D 2 ai w' (Y.but (But.of_below k)):∀w',an w w'->Calls Tryz.prog 184 #[D,ar 2] w' fun e' w''=>e'=bj (aj (dX y (aP y) 2))/\an w' w'');have l1:=qy x (aP x) 1;have l2:=qy y (aP y) 2;have ax:(dX x (aP x) 1).size<=100000:=ai;have ay:(dX y (aP y) 2).size<=100000:=ai;obtain ⟨I,J,rfl⟩:=V.isI;obtain ⟨Q,yv,rfl⟩:=Y.isI;generalize dX x (aP x) 1=Z at*;generalize dX y (aP y) 2=ap at*;have W0:an w (w.alloc (.cells #[ar p,.iface I J,.iface Q yv] 242)):=bp.alloc aH _;have R:=aL.new w #[ar p,.iface I J,.iface Q yv] 242;go_enter Tryz.func125,Tryz.ntmps125;go_wp2_with fail;generalize (w.alloc (.cells #[ar p,.iface I J,.iface Q yv] 242))=W at*;obtain ⟨az,aB,aE⟩:=R.three;have c1:¬9223372036854775807<Z.size+sign.size:=ai;have c2:¬9223372036854775807<Z.size+sign.size+ap.size:=ai
 go_region_held3 (fun w'=>w'.cell? (aC w.heap.size 1)=some (.iface I J)/\w'.cell? (aC w.heap.size 2)=some (.iface Q yv)) (go_keep)
  (first
  |(go_at_call 184;have av:=A;refine (ad ab (W0.trans (A.mono W0.size))).mono ?_;rintro e au ⟨rfl,ak⟩;have U:=(A.trans (ak.mono A.size):an W au);obtain ⟨t0,t1,t2⟩:=(R.below U).three)
  |(go_at_call 184;refine (ac _ W0.drew).mono ?_;rintro e ab ⟨rfl,ah⟩;have A:=((aA _ W).drew.trans ah:an W ab);obtain ⟨aF,aG,aI⟩:=(R.below A).three))
 go_wp2;go_ret;exact ⟨rfl,W0.trans (U.mono W0.size)⟩
end Go.Proofs.YtlbpnlngckgcbaaGreatDoor
namespace Go.Proofs.YtlbpnlngckgcbaaGreatDoor
open Go.RowKit Go.PlainAid Go.Proofs.Tryz
def Bc(p:Nat)(D:Value)(gs:List Gr)(w:World)(h:w.ownsRow 0 207 5 D gs.length (cz gs))(R:gs.length<=1000)(h0:gs≠ [])(U:∀g∈gs,Nr g):
  Calls Tryz.prog 78 #[.iface 236 (.agg #[ar p,D])] w fun e w'=>e=bj (aj (qx gs))/\an w w':=by
 have f0:=h7;obtain ⟨ga,gc,rfl⟩:=ax h;have A:an w (w.alloc (.cells #[ar p,aw ga gs.length gc] 236)):=bp.alloc aH _;have C:=LD p _ gs _ (az h (fun g cs f _ Q=>A.block g (lt_of_some Q))) R h0 U;go_enter Tryz.func78,Tryz.ntmps78;go_wp2_with (go_at_call 124;refine C.mono ?_;rintro e V ⟨rfl,J⟩;have I:=(A.trans (J.mono A.size)));go_ret;exact ⟨rfl,I⟩
def DH(p:Nat)(s:ByteArray)(w:World):
  Calls Tryz.prog 78 #[.iface 238 (.agg #[ar p,aj s])] w fun e w'=>e=bj (aj s)/\an w w':=by
 have f1:=hJ;have h:=l4;go_enter Tryz.func78,Tryz.ntmps78;go_wp2;go_ret;exact ⟨rfl,bp.alloc aH _⟩
def DI(p p1 p2:Nat)(s t:ByteArray)(w:World)(hs:s.size<=1000)(A:t.size<=1000):
  Calls Tryz.prog 78 #[.iface 240 (.agg #[ar p,ar p1,aj s,ar p2,aj t])] w fun e w'=>e=bj (aj ((s++sg 46)++t))/\an w w':=by
 have f2:=hK;have h:=l5;have h2:=l6;go_enter Tryz.func78,Tryz.ntmps78;go_wp2;go_ret;exact ⟨rfl,bp.alloc aH _⟩
def Be(b:Nat)(x y:Ex)(Y:PM b x)(Z:PM b y)(ab:(aP x).size<=90000)(ac:(aP y).size<=90000)(p:Nat)(Q R:Value)(w:World)(I:bA b w x Q)(J:bA b w y R):
  Calls Tryz.prog 78 #[.iface 245 (.agg #[ar p,Q,R])] w fun e w'=>e=bj (aj ((dX x (aP x) 1++vM)++dX y (aP y) 2))/\an w w':=by
 have f4:=gB;have ai:=kI;have ak:=kJ;have al:=h8;have am:=jR;obtain ⟨ad,ae,rfl⟩:=I.isI;obtain ⟨ah,yv,rfl⟩:=J.isI;have A:an w (w.alloc (.cells #[ar p,.iface ad ae,.iface ah yv] 245)):=bp.alloc aH _;have D:=A;have C:=vO b x y Y Z ab ac p _ _ vM ay _ (I.but (But.of_below A)) (J.but (But.of_below A));unfold vM at C ⊢;go_enter Tryz.func78,Tryz.ntmps78;go_wp2_with (go_at_call 125;refine C.mono ?_;rintro e ap ⟨rfl,V⟩;have U:=(D.trans (V.mono D.size)));go_ret;exact ⟨rfl,U⟩
def Bf(b:Nat)(x y:Ex)(Y:PM b x)(Z:PM b y)(ab:(aP x).size<=90000)(ac:(aP y).size<=90000)(p:Nat)(Q R:Value)(w:World)(I:bA b w x Q)(J:bA b w y R):
  Calls Tryz.prog 78 #[.iface 246 (.agg #[ar p,Q,R])] w fun e w'=>e=bj (aj ((dX x (aP x) 1++vN)++dX y (aP y) 2))/\an w w':=by
 have f5:=h9;have g5:=kK;have ai:=kL;have ak:=ib;have al:=jS;have am:=ie;obtain ⟨ad,ae,rfl⟩:=I.isI;obtain ⟨ah,yv,rfl⟩:=J.isI;have A:an w (w.alloc (.cells #[ar p,.iface ad ae,.iface ah yv] 246)):=bp.alloc aH _;have D:=A;have C:=vO b x y Y Z ab ac p _ _ vN ay _ (I.but (But.of_below A)) (J.but (But.of_below A));unfold vN at C ⊢;go_enter Tryz.func78,Tryz.ntmps78;go_wp2_with (go_at_call 125;refine C.mono ?_;rintro e ap ⟨rfl,V⟩;have U:=(D.trans (V.mono D.size)));go_ret;exact ⟨rfl,U⟩
def vP(b:Nat)(x y:Ex)(al:PM b x)(am:PM b y)(aJ:(aP x).size<=90000)(aK:(aP y).size<=90000)(p:Nat)(R U:Value)(w:World)(Y:bA b w x R)(Z:bA b w y U):
  Calls Tryz.prog 78 #[.iface 244 (.agg #[ar p,R,U])] w fun e w'=>e=bj (aj ((aP x++mo)++aP y))/\an w w':=by
 have f3:=eW;have aw:=ja;have ax:=jb;have ay:=gA;have ad:=fun w' (k:an w w')=>al R w' (Y.but (But.of_below k))
 have ae:=fun w' (k:an w w')=>am U w' (Z.but (But.of_below k))
 obtain ⟨D,I,rfl⟩:=Y.isI;obtain ⟨J,yv,rfl⟩:=Z.isI;generalize aP x=ab at*;generalize aP y=ap at*;have W0:an w (w.alloc (.cells #[ar p,.iface D I,.iface J yv] 244)):=bp.alloc aH _;have C:=W0;have Q:=aL.new w #[ar p,.iface D I,.iface J yv] 244;unfold mo;go_enter Tryz.func78,Tryz.ntmps78;go_wp2_with fail;generalize (w.alloc (.cells #[ar p,.iface D I,.iface J yv] 244))=W at*;obtain ⟨az,aB,aE⟩:=Q.three;have c1:¬9223372036854775807<ab.size+3:=ai;have c2:¬9223372036854775807<ab.size+3+ap.size:=ai
 go_region_held3 (fun w'=>w'.cell? (aC w.heap.size 1)=some (.iface D I)/\w'.cell? (aC w.heap.size 2)=some (.iface J yv)) (go_keep)
  (first
  |(go_at_call 78;have av:=A;refine (ae ac (C.trans (A.mono C.size))).mono ?_;rintro e au ⟨rfl,ak⟩;have V:=(A.trans (ak.mono A.size):an W au);obtain ⟨t0,t1,t2⟩:=(Q.below V).three)
  |(go_at_call 78;refine (ad _ C.drew).mono ?_;rintro e ac ⟨rfl,ah⟩;have A:=((aA _ W).drew.trans ah:an W ac);obtain ⟨aF,aG,aI⟩:=(Q.below A).three))
 go_wp2;go_ret;exact ⟨rfl,C.trans (V.mono C.size)⟩
def DJ(b:Nat)(e:Ex):(aF e).length<=1000->(bR e).length<=1000->WF e->Sz e->PM b e:=by
 induction e using Ex.ind with
 |h0 n r=>
  intro hp ab J I v w h;obtain ⟨ad,ae,V⟩:=I ⟨n,none,r⟩ JQ rfl;simp only at ad ae V
  rcases h with ⟨C,sv,rfl,ac⟩|⟨C,rfl⟩|⟨C,rfl⟩
  ·have A:aP ⟨n,none,r⟩=qx n.gs:=by simp [aP,C]
   rw [A];have hl:n.gs.length<=1000:=by
    have:=yE (e:=⟨n,none,r⟩) (p:=⟨n,none,r⟩) JQ rfl C;simp only at this;omega
   exact Bc _ _ _ _ (bn ac (Nat.zero_le _)) hl (J ⟨n,none,r⟩ JQ rfl C) V
  ·have A:aP ⟨n,none,r⟩=n.n1:=by simp [aP,C]
   rw [A];exact DH _ _ _
  have A:aP ⟨n,none,r⟩=(n.n1++sg 46)++n.n2:=by simp [aP,C]
  rw [A];exact DI _ _ _ _ _ _ ai ai
 |h1 n a=>intro _ _ _ _ v w h;exact h.elim
 |h2 n a c iha Np=>
  intro hp ab J I v w h;refine Bb ?_;intro ag;have af:(bR ⟨n,some a,some c⟩).length=(bR a).length+(bR c).length:=by
   unfold bR;simp [aF,eM]
  have Y:Sz a:=fun p hp=>I p zd
  have Z:Sz c:=fun p hp=>I p zd
  have wa:=iha ai ai (fun p hp=>J p zd) Y;have wc:=Np ai ai (fun p hp=>J p zd) Z;have ah:=kN a Y;have aj:=kN c Z;obtain ⟨ak,al,rfl,R,U⟩:=h
  by_cases k3:n.kind=3
  ·have A:aP ⟨n,some a,some c⟩=(aP a++mo)++aP c:=by simp [aP,k3]
   have D:fj n.kind=244:=by simp [fj,k3]
   rw [A,D];exact vP b a c wa wc ai ai _ _ _ _ R U
  by_cases Q:n.kind=4
  ·have A:aP ⟨n,some a,some c⟩=(dX a (aP a) 1++vM)++dX c (aP c) 2:=by simp [aP,Q]
   have D:fj n.kind=245:=by simp [fj,Q]
   rw [A,D];exact Be b a c wa wc ai ai _ _ _ _ R U
  have A:aP ⟨n,some a,some c⟩=(dX a (aP a) 1++vN)++dX c (aP c) 2:=by simp [aP,k3,Q]
  have D:fj n.kind=246:=by simp [fj,k3,Q]
  rw [A,D];exact Bf b a c wa wc ai ai _ _ _ _ R U
end Go.Proofs.YtlbpnlngckgcbaaGreatDoor
namespace Go.Proofs.YtlbpnlngckgcbaaGreatDoor
open Go.RowKit Go.PlainAid Go.Proofs.Tryz
def G8(b:Nat)(l:List UInt8)(s:ae)(w:af)(h:Lib.IsBuilderF 153 5 b b (Lib.byteCells l) w)(D:l.length+s.size<=140737488355328)(C:b<=w.heap.size):
  Calls prog 77 #[bc b,aj s] w fun e w'=>e=bj (.tuple #[ar s.size,.nilIface])/\Lib.IsBuilderF 153 5 b b (Lib.byteCells (l++bB s)) w'/\Below b w w'/\Lib.OthersKept 5 (some b) w w':=by
 refine (Any.Builder_WriteString_k {Tryz.lays156 with} Tryz.Builder_Extra_156 b b (Lib.byteCells l) s w h (by rw [Lib.byteCells_length];exact D) C).mono ?_;rintro e w' ⟨rfl,h1,h2,A⟩;refine ⟨rfl,.inr ?_,h2,A⟩;rw [Lib.byteCells_append];exact h1
variable {T e:TypeId} {B b:Nat} {w w':af}
def vU{bs:List ag}(h:Lib.IsBuilderF T e B b bs w)(k:an w w'):Lib.IsBuilderF T e B b bs w':=by
 have key:∀p,Lib.BuilderAtF T e B b p bs w->Lib.BuilderAtF T e B b p bs w':=by
  rintro p ⟨h1,v,h2,I,J⟩;refine ⟨h1,v,(k.block b (lt_of_some h2)).trans h2,?_,J⟩;obtain ⟨A,Q|⟨g,cap,D,fz,R,U,C,V⟩⟩:=I
  ·exact ⟨A,.inl Q⟩
  exact ⟨A,.inr ⟨g,cap,D,fz,R,U,(k.block g (lt_of_some C)).trans C,V⟩⟩
 rcases h with h|h
 ·exact .inl (key _ h)
 exact .inr (key _ h)
variable {g:Nat} {cs:Array ag}
def aL.kept(h:aL w g cs T)(k:Lib.OthersKept e (some b) w w')(C:g≠b)(A:T≠e):aL w' g cs T:=
 k g _ h (fun e'=>C (Option.some.inj e')) (fun c fz e'=>A (by simp only [Obj.cells.injEq] at e';exact e'.2.1))
def sd:ae:=⟨#[9]⟩
def iU:ae:=⟨#[58,32]⟩
def lE:ae:=⟨#[59,10]⟩
def gl:ae:=⟨#[116,121,112,101,32]⟩
def jh:ae:=⟨#[32,123,10]⟩
def gZ:ae:=⟨#[125,10]⟩
def G9(r:Rl):ae:=(((sd++r.name)++iU)++aP r.body)++lE
def mQ(t:Ty):ae:=(gl++t.name)++jh
def vV(rs:List Rl):List UInt8:=rs.flatMap fun r=>bB (G9 r)
def vW(t:Ty):List UInt8:=bB (mQ t)++vV t.rels++bB gZ
def mq(ts:List Ty):List UInt8:=ts.flatMap vW
def SzT(t:Ty):Prop:=t.name.size<=8/\∀r∈t.rels,r.name.size<=8/\Sz r.body
def Bi(s:ae):(bB s).length=s.size:=rfl
def Ha(b:Nat)(a9:ag)(ts:List Ty)(tl:List (Ty×ag))(w:af)(h:MC b w a9 ts tl)(bR:∀t∈ts,SzT t):
  Calls prog 42 #[.agg #[a9]] w fun e w'=>e=bj (aj (mk (mq ts)))/\an w w':=by
 obtain ⟨a8,mn,mc,rfl⟩:=h.form;have bL:mn=tl.length:=by
  obtain ⟨a',aV,e⟩:=ax h.row;exact Gv
 have b7:mn<=tl.length:=ai;have b8:tl.length<=mn:=ai;clear bL;have ce:tl.length<=1000:=by have:=h.llen;simpa using this
 have H:=h;have W0:an w (w.alloc (aY aw a8 mn mc)):=bp.alloc aH _;have bA:=Lib.IsBuilderF.of (Lib.fresh_isBuilder 153 5 (w.alloc (aY aw a8 mn mc)));have bD:=W0.alloc W0.size (.cells #[.pointer none,aw none 0 0] 153);clear h W0;go_enter func42,ntmps42;go_wp2_with fail
 go_loopw [11] (fun u wr=>∃(k:Nat)(bs:List UInt8),k<=mn/\u=ar k/\an w wr/\w.heap.size+1<wr.heap.size/\bs.length<=k*50000000/\Hid (bs=(ts.take k).flatMap vW/\Lib.IsBuilderF 153 5 (w.heap.size+1) (w.heap.size+1) (Lib.byteCells bs) wr)) (fun u _=>mn-(intOf u).toNat)
 ·exact ⟨0,[],ai,rfl,bD,au,au,ak ⟨rfl,by simpa [Lib.byteCells] using bA⟩⟩
 ·obtain ⟨k,bs,b5,rfl,D,cb,b0,ac⟩:=hrel;have aO:=D
  by_cases b6:k<mn
  ·have aF:k<tl.length:=by omega
   have ae:ts[k]? =some tl[k].1:=by rw [<-H.fst];simp [aI aF]
   obtain ⟨g,aV,e1,k0,k1,a7⟩:=(H.row.below D).cell k (by simpa using aF);simp only [aK] at e1;obtain ⟨rfl,aG,rfl⟩:=e1;clear aG;simp only [rU,t3] at k0 k1 a7;obtain ⟨rl,hrc⟩:=H.rels tl[k] (bu aF);generalize tl[k]=p at*;obtain ⟨t,tv⟩:=p;simp only at k0 k1 a7 hrc ae;obtain ⟨bb,vn,bc,rfl⟩:=hrc.form;refine Pf ?_;intro hv1 hv2 hrl;have aJ:=bR t (bG ae);have cg:=aJ.1;have bE:=aJ.2;have V:=ae;have J:an wr (wr.alloc (ba ar t.place aj t.name aw bb vn bc)):=bp.alloc aH _;have bx:=aO.trans (J.mono ai);have TB:=aL.new wr #[ar t.place,aj t.name,aw bb vn bc] 110;have bM:(mQ t).size<=16:=by
    have e1:gl.size=5:=rfl;have aW:jh.size=3:=rfl;unfold mQ;rw [cV,cV];omega
   have C:=G8 (w.heap.size+1) bs (mQ t) _ (vU ac.2 J) ai aS;unfold mQ gl jh at C;have bK:(k:Int)<(mn:Int):=ai;clear D J aJ ae bM;go_wp2_with fail;refine C.mono ?_;rintro e be ⟨rfl,aZ,av,a5⟩;have ap:=TB.kept a5 ai ay;obtain ⟨t0,t1,t2⟩:=ap.three;have ct:=ap.lt;have bn:=bx.trans (av.mono ai);have bq:=show Lib.IsBuilderF 153 5 (w.heap.size+1) (w.heap.size+1) (Lib.byteCells (bs++bB (mQ t))) be from aZ
   have bS:=av.size;clear aZ av a5 ap C;have bV:w.heap.size+1<be.heap.size:=by simp at bS;omega
   go_wp2_with fail
   go_loopw [24] (fun u aM=>∃(j:Nat)(bt:List UInt8),j<=vn/\u=ar j/\an w aM/\w.heap.size+1<aM.heap.size/\bt.length<=k*50000000+16+j*40000/\Hid (bt=bs++bB (mQ t)++vV (t.rels.take j)/\Lib.IsBuilderF 153 5 (w.heap.size+1) (w.heap.size+1) (Lib.byteCells bt) aM)) (fun u _=>vn-(intOf u).toNat)
   ·exact ⟨0,bs++bB (mQ t),ai,rfl,bn,bV,by
    have e1:gl.size=5:=rfl;have aW:jh.size=3:=rfl;rw [List.length_append,Bi];unfold mQ;rw [cV,cV];omega,ak ⟨by simp [vV],bq⟩⟩
   obtain ⟨j,bt,b3,rfl,D,cd,b2,ad⟩:=hrel
   by_cases b4:j<vn
   ·have aE:j<rl.length:=by omega
    have Q:t.rels[j]? =some rl[j].1:=by rw [<-hrc.fst];simp [aI aE]
    have U:=bG Q;obtain ⟨g,aV,e1,bi,bk,bl⟩:=(hrc.row.below D).cell j (by simpa using aE);simp only [aK] at e1;obtain ⟨rfl,aG,rfl⟩:=e1;clear aG;simp only [rU,r3] at bi bk bl;have hex:=(hrc.ex rl[j] (bu aE)).but (b:=b) (But.of_below D);generalize rl[j]=p at*;obtain ⟨r,bW⟩:=p;simp only at bi bk bl hex U Q;obtain ⟨Z,rv,rfl⟩:=hex.isI;obtain ⟨cu,aN⟩:=bE r U;have okp:=hrc.okp r U;have okg:=hrc.okg r U;have bN:=kN r.body aN;have cf:(aP r.body).size<=39000:=ai;have J:an wr (wr.alloc (cC ar r.place aj r.name Z rv)):=bp.alloc aH _;have bz:=D.trans (J.mono ai);have am:=aL.new wr #[ar r.place,aj r.name,.iface Z rv] 159;have bw:=vU ad.2 J;have bC:=hex.but (b:=b) (But.of_below J);have aU:=DJ b r.body okp okg (hrc.wf r U) aN;have al:=(show bs++bB (mQ t)++vV (t.rels.take (j+1))=(bs++bB (mQ t)++vV (t.rels.take j))++bB (G9 r) from by
     have Y:j<t.rels.length:=by
      rcases fE j t.rels.length with h|h
      ·exact h
      rw [jA h] at Q;cases Q
     rw [aI Y] at Q;simp only [aR] at Q;unfold vV;rw [cD Y,cN,Q];simp)
    have bI:(j:Int)<(vn:Int):=ai;have b9:(G9 r).size<=39100:=by
     have e1:sd.size=1:=rfl;have aW:iU.size=2:=rfl;have bY:lE.size=2:=rfl;unfold G9;rw [cV,cV,cV,cV];omega
    have aQ:=show G9 r=(((⟨#[9]⟩++r.name)++⟨#[58,32]⟩)++aP r.body)++⟨#[59,10]⟩ from rfl
    unfold PM at aU;generalize bP:aP r.body=bg at*;clear hex J U Q bN aN bP;go_wp2_with fail;have bZ:wr.heap.size<(wr.alloc (cC ar r.place aj r.name Z rv)).heap.size:=au;generalize (wr.alloc (cC ar r.place aj r.name Z rv))=W at*;generalize bQ:wr.heap.size=bh at*;clear bQ;obtain ⟨ch,ci,ck⟩:=am.three;have c1:¬9223372036854775807<1+r.name.size:=ai;have c2:¬9223372036854775807<1+r.name.size+2:=ai;have c3:¬9223372036854775807<1+r.name.size+2+bg.size:=ai;have bX:¬9223372036854775807<1+r.name.size+2+bg.size+2:=ai
    go_region_held3 (fun w'=>w'.cell? (aC bh 1)=some (aj r.name)/\w'.cell? (aC bh 2)=some (.iface Z rv)) (go_keep)
     (first
     |(go_at_call 78;refine (aU _ W.drew (bC.but (But.refl _ _).drew)).mono ?_;rintro e ab ⟨rfl,I⟩;have R:=(show an W ab from (aA _ W).drew.trans I);clear I;obtain ⟨cl,cm,co⟩:=(am.below R).three)
     |(go_at_call 77;refine (G8 (w.heap.size+1) bt _ ab (vU bw R) (by rw [<-aQ];omega) (by have:=R.size;omega)).mono ?_;rintro e w5 ⟨rfl,a4,az,a6⟩;have aT:=(am.below R).kept a6 ai ay;obtain ⟨cp,cq,cr⟩:=aT.three;have bv:=a4;have bo:=(bz.trans (R.mono ai) |>.trans (az.mono ai));have bU:w.heap.size+1<w5.heap.size:=(by have h1:=az.size;have h2:=R.size;omega);clear a4 az a6 aT))
    go_wp2;go_roundw
    ·exact ⟨j+1,bt++bB (G9 r),ai,by go_num,bo,bU,by rw [List.length_append,Bi];omega,ak ⟨by rw [al,<-ad.1],by rw [aQ];exact bv⟩⟩
    simp [intOf];omega
   have bI:¬((j:Int)<(vn:Int)):=ai;have bH:t.rels.length<=j:=by have:=congrArg List.length hrc.fst;rw [bO] at this;omega
   have aB:=ad.1;rw [cY bH] at aB;have al:=(show (ts.take (k+1)).flatMap vW=bt++bB gZ from by
    have Y:k<ts.length:=by
     rcases fE k ts.length with h|h
     ·exact h
     rw [jA h] at V;cases V
    rw [aI Y] at V;simp only [aR] at V;rw [cD Y,cN,V,aB,<-ac.1];simp [vW])
   have e1:gZ.size=2:=rfl;have C:=G8 (w.heap.size+1) bt gZ wr ad.2 ai ai;unfold gZ at C;clear aB e1;go_wp2_with fail;refine C.mono ?_;rintro e ab ⟨rfl,bF,I,_⟩;have ah:=D.trans (I.mono ai);have bT:w.heap.size+1<ab.heap.size:=by have:=I.size;omega
   clear I;go_wp2;go_roundw
   ·exact ⟨k+1,bt++bB gZ,ai,by go_num,ah,bT,by have e1:gZ.size=2:=rfl;rw [List.length_append,Bi];omega,ak ⟨al.symm,bF⟩⟩
   simp [intOf];omega
  have bK:¬((k:Int)<(mn:Int)):=ai;have bJ:ts.length<=k:=by have:=congrArg List.length H.fst;rw [bO] at this;omega
  have aX:=ac.1;rw [cY bJ] at aX;have C:=Tryz.Builder_String_any_f (w.heap.size+1) (w.heap.size+1) bs wr ac.2 ai;clear D;go_wp2_with fail;refine C.mono ?_;rintro e ab ⟨rfl,_,I⟩;have ah:=aO.trans (I.mono ai);clear I;go_wp2;go_ret;exact ⟨by unfold mk mq;rw [<-aX];rfl,ah⟩
variable {aD br:Prop}
def P0 (h:aD:=by
 simp only [P1];omega):aD:=h
def P2 (h:aD:=by
 intro r A;rw [aW,aX] at A
 rcases A with A|rfl
 ·exact ha r A
 exact h2):aD:=h
def nF(T:Nat->ae)(i j:Nat)(u:Unit)(h:di T i=.ok (u,j)):(T i).size<=8:=by
 unfold di at h
 split at h
 ·split at h
  ·simp at h
  omega
 simp at h
def qA(T:Nat->ae)(y:ae)(i j:Nat)(u:Unit)(h:cb T y i=.ok (u,j)):(T i).size<=8:=by
 unfold cb at h
 split at h
 ·simp at h
 rename_i A;exact nF T _ _ _ A
def P1:em.size=0:=rfl
def LM(T:Nat->ae)(P:Nat->Nat)(i j:Nat)(g:Gr)(h:dR T P i=.ok (g,j)):Nr g:=by
 unfold dR at h
 split at h
 ·simp at h
 rename_i C;have h1:=nF T _ _ _ C
 split at h
 ·simp at h;rw [<-h.1];exact ⟨h1,by simp only [P1];omega⟩
 split at h
 ·split at h
  ·simp at h
  rename_i A;have h2:=nF T _ _ _ A;simp at h;rw [<-h.1];exact ⟨h1,h2⟩
 simp at h;rw [<-h.1];exact ⟨h1,by simp only [P1];omega⟩
def DP(T:Nat->ae)(P:Nat->Nat):∀f acc i gs j,(∀g∈acc,Nr g)->dO T P f acc i=.ok (gs,j)->∀g∈gs,Nr g
 |0,_,i,x,j,_,h=>by simp [dO] at h
 |f+1,acc,i,x,j,ha,h=>by
  unfold dO at h
  split at h
  ·simp at h
  rename_i g0 J I;have D:=LM T P _ _ _ I;have C:∀g∈acc++[g0],Nr g:=by
   intro g A;rw [aW,aX] at A
   rcases A with A|rfl
   ·exact ha g A
   exact D
  split at h
  ·exact DP T P f _ _ _ _ C h
  split at h<;>simp at h
  rw [<-h.1];exact C
def SZ(r:Nat->eJ Ex):Prop:=∀i x j,r i=.ok (x,j)->Sz x
def Sz.leaf(nd r)(h1:nd.n1.size<=8)(h2:nd.n2.size<=8)(A:∀g∈nd.gs,Nr g):Sz ⟨nd,none,r⟩:=by
 intro p h _;simp only [aF,aX] at h;subst h;exact ⟨h1,h2,A⟩
def Sz.join{x y}(t p)(A:Sz x)(C:Sz y):Sz (dE t p x y):=by
 intro q h hl;simp only [dE,aF,aW,aX] at h
 rcases h with (h|h)|h
 ·exact A q h hl
 ·subst h;simp at hl
 exact C q h hl
def P5(T:Nat->ae)(P:Nat->Nat):SZ (j4 T P):=by
 intro i x j h;unfold j4 at h
 split at h
 ·simp at h
 rename_i A;have:=DP T P _ _ _ _ _ au A;simp at h;rw [<-h.1];exact Sz.leaf _ _ P0 P0 this
def LN(T:Nat->ae)(P:Nat->Nat):SZ (hY T P):=by
 intro i x j h;unfold hY at h
 split at h
 ·simp at h
 rename_i C;have h1:=nF T _ _ _ C
 split at h
 ·split at h
  ·simp at h
  rename_i A;have h2:=nF T _ _ _ A;simp at h;rw [<-h.1];exact Sz.leaf _ _ h1 h2 au
 simp at h;rw [<-h.1];exact Sz.leaf _ _ h1 P0 au
def DQ(T:Nat->ae)(P:Nat->Nat)(D:Bool)(A:Nat->eJ Ex)(hi:SZ A):SZ (eQ T P D A):=by
 intro i x j h;unfold eQ at h
 split at h
 ·exact P5 T P _ _ _ h
 split at h
 ·split at h
  ·split at h
   ·simp at h
   rename_i C;have:=hi _ _ _ C
   split at h<;>simp at h
   rw [<-h.1];exact this
  simp at h
 exact LN T P _ _ _ h
def DR(T:Nat->ae)(P:Nat->Nat)(l:List ae)(part:Nat->eJ Ex)(A:SZ part):∀f y i x j,Sz y->joinL T P l part f y i=.ok (x,j)->Sz x
 |0,_,i,x,j,hb,h=>by simp [joinL] at h
 |f+1,y,i,x,j,hb,h=>by
  unfold joinL at h
  split at h
  ·split at h
   ·simp at h
   rename_i C;exact DR T P l part A f _ _ _ _ (hb.join _ _ (A _ _ _ C)) h
  simp at h;rw [<-h.1];exact hb
def qB(T:Nat->ae)(P:Nat->Nat)(l:List ae)(part:Nat->eJ Ex)(A:SZ part):SZ (eT T P l part):=by
 intro i x j h;unfold eT at h
 split at h
 ·simp at h
 rename_i C;exact DR T P l part A _ _ _ _ _ (A _ _ _ C) h
def DS(T:Nat->ae)(P:Nat->Nat):∀n,SZ (fq T P n)
 |0=>qB T P _ _ (qB T P _ _ (DQ T P false _ (fun i x j h=>by simp at h)))
 |n+1=>qB T P _ _ (qB T P _ _ (DQ T P true _ (DS T P n)))
def RSz(r:Rl):Prop:=r.name.size<=8/\Sz r.body
def Vo(T:Nat->ae)(P:Nat->Nat)(i:Nat)(r:Rl)(j:Nat)(h:kS T P i=.ok (r,j)):RSz r:=by
 unfold kS at h
 split at h
 ·simp at h
 rename_i C;have h1:=qA T _ _ _ _ C
 split at h
 ·simp at h
 rename_i A;have h2:=DS T P _ _ _ _ A
 split at h<;>simp at h
 rw [<-h.1];exact ⟨h1,h2⟩
def DT(T:Nat->ae)(P:Nat->Nat):∀f acc i rs j,(∀r∈acc,RSz r)->dj T P f acc i=.ok (rs,j)->∀r∈rs,RSz r
 |0,_,i,x,j,_,h=>by simp [dj] at h
 |f+1,acc,i,x,j,ha,h=>by
  unfold dj at h
  split at h
  ·simp at h;rw [<-h.1];exact ha
  split at h
  ·simp at h
  split at h
  ·simp at h
  rename_i C;have h2:=Vo T P _ _ _ C;refine DT T P f _ _ _ _ ?_ h;exact P2
def P6(T:Nat->ae)(P:Nat->Nat)(i:Nat)(t:Ty)(j:Nat)(h:j5 T P i=.ok (t,j)):SzT t:=by
 unfold j5 at h
 split at h
 ·split at h
  ·simp at h
  rename_i C;have h1:=qA T _ _ _ _ C
  split at h
  ·simp at h
  rename_i A;have:=DT T P _ _ _ _ _ au A;simp at h;rw [<-h.1];exact ⟨h1,this⟩
 simp at h
def se(T:Nat->ae)(P:Nat->Nat):∀f acc i ts j,(∀t∈acc,SzT t)->cR T P f acc i=.ok (ts,j)->∀t∈ts,SzT t
 |0,_,i,x,j,_,h=>by simp [cR] at h
 |f+1,acc,i,x,j,ha,h=>by
  unfold cR at h
  split at h
  ·simp at h;rw [<-h.1];exact ha
  split at h
  ·simp at h
  split at h
  ·simp at h
  rename_i C;have h2:=P6 T P _ _ _ C;refine se T P f _ _ _ _ ?_ h;exact P2
def P7(s:ae)(ts:List Ty)(h:dy s=.ok ts):∀t∈ts,SzT t:=by
 unfold dy at h
 split at h
 ·simp at h
 split at h
 ·simp at h
 rename_i A
 split at h
 ·simp at h
 simp at h;rw [<-h];exact se _ _ _ _ _ _ _ au A
def P8(s:ae)(ts:List Ty)(R:dy s=.ok ts)(w:af)(ah:Laid w):
  Calls prog 14 #[aj s] w fun e w'=>e=bj (.tuple #[aj (mk (mq ts)),ar 0,ar 0])/\an w w':=by
 have Y:=P7 s ts R;have C:=qt s w;rw [R] at C;go_enter func14,ntmps14;go_wp2_with fail;refine C.mono ?_;rintro e U ⟨J,sv,tl,b,rfl,Q⟩;obtain ⟨h,mn,mc,rfl⟩:=Q.form;have ac:=aL.new U #[aw h mn mc] 75;have Z:=Q.below (bp.alloc aH (aY aw h mn mc));have D:=J.alloc J.size (aY aw h mn mc);go_wp2_with fail;refine (nB _).mono ?_;rintro e ag ⟨rfl,A⟩;have I:=D.trans (A.mono D.size);have k0:ag.cell? (aN U.heap.size)=some (aw h mn mc):=(ac.below A).cell rfl;have ab:=Z.below A;go_wp2_with fail;refine (Ha b _ ts tl _ ab Y).mono ?_;rintro e ai ⟨rfl,ad⟩;have V:=I.trans (ad.mono I.size);go_wp2;go_ret3;exact ⟨rfl,V⟩
def ze(s:ae)(p c:Nat)(R:dy s=.error (some p,c))(U:c≠0)(w:af)(D:Laid w):
  Calls prog 14 #[aj s] w fun e w'=>e=bj (.tuple #[aj ⟨#[]⟩,ar c,ar p])/\an w w':=by
 have C:=qt s w;rw [R] at C;have hl:=D.lt;have V:((c:Int)==0)=false:=by rw [bW];omega
 go_enter func14,ntmps14;go_wp2_with fail;refine C.mono ?_;rintro e Y ⟨A,rfl⟩;have h:=A.alloc A.size (aY aw none 0 0);have J:=D.below h hl;unfold Pp fO cm;go_wp2_with fail;refine (tf p c _ J).mono ?_;rintro e Z ⟨rfl,Q⟩;have I:=h.trans (Q.mono h.size);go_wp2;go_ret3;exact ⟨rfl,I⟩
