import Derived.Test.YtlbpnlngckgcbaaGreatDoorM11
import Derived.KernelRfl
set_option linter.all false
set_option maxHeartbeats 4000000
set_option maxRecDepth 100000
namespace Go.Proofs.YtlbpnlngckgcbaaGreatDoor
open Go.RowKit Go.PlainAid Go.Proofs.Tryz
section
open Go.Extern.Stop Go.Stop Go.Extern
def BD(x w):(Instr.typeAssert (.iface 147 x) 77 330 true).run prog w=.ok (.tuple #[.nilIface,.bool false]) w:=run_typeAssert_lacksB underlying330 aM aM x 77 w
def BE(x w):(Instr.typeAssert (.iface 147 x) 77 333 true).run prog w=.ok (.tuple #[.iface 147 x,.bool true]) w:=by kernel_rfl
def D3(x w):(Instr.typeAssert (.iface 134 x) 77 330 true).run prog w=.ok (.tuple #[.nilIface,.bool false]) w:=run_typeAssert_lacksB underlying330 aM aM x 77 w
def D4(x w):(Instr.typeAssert (.iface 134 x) 77 333 true).run prog w=.ok (.tuple #[.nilIface,.bool false]) w:=run_typeAssert_lacksB underlying333 aM aM x 77 w
def BF(x w):(Instr.typeAssert (.iface 134 x) 77 334 true).run prog w=.ok (.tuple #[.nilIface,.bool false]) w:=run_typeAssert_lacksB underlying334 aM aM x 77 w
def P5(ta b p ft fv o1 o2 W)(D:aL W b #[au p,.iface ft fv] 147)(A:aL W ta #[o1,o2] 147):
  (ReflectliteValue.set #[.agg #[.pointer (some (aC 5 147)),bu ta,.int .u64 409],.agg #[.pointer (some (aC 5 147)),bu b,.int .u64 153]]).run prog W
   =.ok (.tuple #[]) ((W.setCell (aP ta) (au p)).setCell (aC ta 1) (.iface ft fv)):=by
 have hl:=run_loadVar_row (P:=prog) W b 147 147 #[au p,.iface ft fv] (0,0) _ D underlying147 rfl aM;have c0:W.cell? (aP ta)=some o1:=A.cell rfl;have f0:=A.fz 0;refine Eq.trans (congrArg (fun z:Sem ag=>z.run prog W) (rfl:ReflectliteValue.set _=ReflectliteValue.parts _ >>= _)) ?_;simp only [XG,XH,pP,DZ,Hu,Result.andThen];simp [ReflectliteValue.flagAddr,hl,Result.andThen,D1,storeVar,Value.cells,storeCells,Addr.add];rw [run_store prog W ⟨ta,0,none⟩ _ _ bQ];simp only [c0,f0];have C:=A.set 0 (au p);have d1:(W.setCell (aP ta) (au p)).cell? (aC ta 1)=some o2:=C.cell rfl;have d2:=C.fz 1;simp only [Bool.false_eq_true,aZ];rw [run_store prog (W.setCell (aP ta) (au p)) ⟨ta,1,none⟩ _ _ bQ];simp [d1,d2]
def as_71(p c tb old w)(hg:w.cell? (aP 0)=some (.iface 325 (.agg #[.pointer (some (aC 5 77))])))(A:aL w tb #[old] 134):
  Calls prog 75 #[.iface 147 (.agg #[au p,.iface 134 (au c)]),.iface 145 (bu tb)] w fun C w'=>C=bi (.bool true)/\But tb w w'/\aL w' tb #[au c] 134:=by
 have aj:=Bz;have ak:=BA;have al:=BC;have av:=Kb;have an:=Kd;have ap:=Ke;have ax:=Kf;have am:=Kg;have ay:=P1;have aw:=P2;have ae:=qP;have ac:=qQ;have ad:=qR;have ab:=mz;have f6:=J8;have f7:=zC;have kp:=zE;have Z:=zG;have J:=zI;have Y:=zK;have af:=DT ⟨w.heap.size,0,none⟩ ⟨tb,0,none⟩ ((w.alloc (nN tb)).alloc (eX (some (aC 5 145)) w.heap.size)) ar;have hlt:0<w.heap.size:=by
  exact Bx
 have V:((w.alloc (nN tb)).alloc (eX (some (aC 5 145)) w.heap.size)).cell? (aP 0)=some (.iface 325 (.agg #[.pointer (some (aC 5 77))])):=by
  exact Bw
 have ag:=nM;have ah:=tQ;have D:=wh;have I:=Ho;have ai:=Ka;have Q:=BD;have R:=BE;have U:=Hm;have el:=wi ⟨w.heap.size,0,none⟩ ⟨tb,0,none⟩ ((((w.alloc (nN tb)).alloc (eX (some (aC 5 145)) w.heap.size)).alloc (eX (some (aC 5 145)) w.heap.size)).alloc (.cells #[au p,.iface 134 (au c)] 147)) (by rw [wj _ _ ⟨w.heap.size,0,none⟩ aS,wj _ _ ⟨w.heap.size,0,none⟩ aS];simp);have st:=D2 ⟨tb,0,none⟩ ⟨w.heap.size+1+1+1+1,0,none⟩ c old (((((w.alloc (nN tb)).alloc (eX (some (aC 5 145)) w.heap.size)).alloc (eX (some (aC 5 145)) w.heap.size)).alloc (.cells #[au p,.iface 134 (au c)] 147)).alloc (.cells #[au c] 134))
  XI
  ((((((A.alloc _).alloc _).alloc _).alloc _).alloc _).cell rfl)
  ((((((A.alloc _).alloc _).alloc _).alloc _).alloc _).fz 0)
 go_enter func75,ntmps75;go_wp2;refine vk 2 ?_;rw [rW];go_wp2;rw [rW];go_wp2;go_ret;exact ⟨rfl,(((((((But.refl tb w).alloc _).alloc _).alloc _).alloc _).alloc _).setCell 0 _),((((((A.alloc _).alloc _).alloc _).alloc _).alloc _).set 0 _)⟩
def as_72(p ft fv tb o1 o2 w)(hg:w.cell? (aP 0)=some (.iface 325 (.agg #[.pointer (some (aC 5 77))])))(A:aL w tb #[o1,o2] 147):
  Calls prog 75 #[.iface 147 (.agg #[au p,.iface ft fv]),.iface 148 (bu tb)] w fun C w'=>C=bi (.bool true)/\But tb w w'/\aL w' tb #[au p,.iface ft fv] 147:=by
 have ae:=Bz;have af:=BA;have ag:=BC;have ak:=Kb;have ai:=Kd;have aj:=Ke;have am:=Kf;have ah:=Kg;have an:=P1;have al:=P2;have Z:=qP;have V:=qQ;have Y:=qR;have U:=mz;have f6:=J9;have f7:=zD;have kp:=zF;have R:=zH;have I:=zJ;have Q:=zL;have ab:=DV ⟨w.heap.size,0,none⟩ ⟨tb,0,none⟩ ((w.alloc (.cells #[bu tb] 148)).alloc (eX (some (aC 5 148)) w.heap.size)) ar;have hlt:0<w.heap.size:=by
  exact Bx
 have J:((w.alloc (.cells #[bu tb] 148)).alloc (eX (some (aC 5 148)) w.heap.size)).cell? (aP 0)=some (.iface 325 (.agg #[.pointer (some (aC 5 77))])):=by
  exact Bw
 have ac:=tQ;have D:=Hr;have ad:=VE;have el:=Hs ⟨w.heap.size,0,none⟩ ⟨tb,0,none⟩ (((w.alloc (.cells #[bu tb] 148)).alloc (eX (some (aC 5 148)) w.heap.size)).alloc (eX (some (aC 5 148)) w.heap.size)) aaU;have st:=P5 tb (w.heap.size+1+1+1) p ft fv o1 o2 ((((w.alloc (.cells #[bu tb] 148)).alloc (eX (some (aC 5 148)) w.heap.size)).alloc (eX (some (aC 5 148)) w.heap.size)).alloc (.cells #[au p,.iface ft fv] 147))
  (aL.new' _ _ _ _ ar) ((((A.alloc _).alloc _).alloc _).alloc _)
 go_enter func75,ntmps75;go_wp2;refine vk 1 ?_;rw [rW];go_wp2;go_ret;exact ⟨rfl,(((((((But.refl tb w).alloc _).alloc _).alloc _).alloc _).setCell 0 _).setCell 1 _),((((((A.alloc _).alloc _).alloc _).alloc _).set 0 _).set 1 _)⟩
def as_no(c tb o1 o2 w)(hg:w.cell? (aP 0)=some (.iface 325 (.agg #[.pointer (some (aC 5 77))])))(R:aL w tb #[o1,o2] 147):
  Calls prog 75 #[.iface 134 (au c),.iface 148 (bu tb)] w fun A w'=>A=bi (.bool false)/\am w w':=by
 have ag:=Bz;have ah:=BA;have ai:=BC;have an:=Kb;have ak:=Kd;have al:=Ke;have ap:=Kf;have aj:=Kg;have ad:=qP;have ab:=qQ;have ac:=qR;have Z:=mz;have f6:=J9;have f7:=zD;have kp:=zF;have Y:=zH;have D:=zJ;have V:=zL;have ae:=DV ⟨w.heap.size,0,none⟩ ⟨tb,0,none⟩ ((w.alloc (.cells #[bu tb] 148)).alloc (eX (some (aC 5 148)) w.heap.size)) ar;have hlt:0<w.heap.size:=by
  exact Bx
 have U:((w.alloc (.cells #[bu tb] 148)).alloc (eX (some (aC 5 148)) w.heap.size)).cell? (aP 0)=some (.iface 325 (.agg #[.pointer (some (aC 5 77))])):=by
  exact Bw
 have af:=nM;have C:=Hq;have I:=D3;have J:=D4;have Q:=BF;go_enter func75,ntmps75;go_wp2;refine vk 1 ?_;rw [rW];go_wp2;go_ret;exact ⟨rfl,(((az _ w).alloc aH _).alloc ar _).alloc aS _⟩
end
variable {aD bq:Prop}
abbrev wk:Obj:=.cells #[au 0,.nilIface] 147
def P6(q:bq) (h:cj bq->aD:=by
 intro zq;rintro e w2 ⟨rfl,b2,k2⟩;have B2:=((az w.heap.size w).alloc aH (.cells #[au 0] 134)).trans (b2.below aH ar);have L2:=L1.but b2 ai;have sz:=k2.lt;have L3:=L2.below ((az w2.heap.size w2).alloc aH wk) ai
 revert w2 b2 k2 B2 L2 sz L3
 exact zq.1):aD:=h ⟨q⟩
def Laid(w:af):Prop:=w.cell? (aP 0)=some (.iface 325 (.agg #[.pointer (some (aC 5 77))]))
variable {w:af}
def Laid.lt(h:Laid w):0<w.heap.size:=by
 rcases Br w.heap.size with h0|A
 ·unfold Laid at h;simp [World.cell?,h0] at h
 exact A
variable {w':af} {B:Nat}
def Laid.below(h:Laid w)(k:Below B w w')(A:0<B):Laid w':=(jA (w:=w) (k.block 0 A)).trans h
variable {b:Nat}
def Laid.but(h:Laid w)(k:But b w w')(A:b≠0):Laid w':=(k.cell (a:=⟨0,0,none⟩) h.lt (fun e=>A e.symm)).trans h
def nO(w):Calls prog 41 #[.nilIface] w fun e w'=>e=bi (.tuple #[au 0,au 0])/\am w w':=by
 go_enter func41,ntmps41;go_wp2_with fail;refine (YR _ _).mono ?_;rintro e h ⟨rfl,rfl⟩;go_wp2;go_ret2;exact ⟨rfl,bo.alloc aH _⟩
def kw(c w)(C:Laid w):Calls prog 41 #[cm c] w fun e w'=>e=bi (.tuple #[au c,au 0])/\am w w':=by
 have hl:=C.lt;have L1:=C.below ((az w.heap.size w).alloc aH (.cells #[au 0] 134)) hl;unfold cm;go_enter func41,ntmps41;go_wp2_with fail;refine (as_58 c w.heap.size _ _ L1 (aL.new w _ _)).mono ?_;refine P6 ?_;intro w2 b2 k2 B2 L2 sz L3;go_wp2_with fail;refine (as_no c w2.heap.size _ _ _ L3 (aL.new w2 _ _)).mono ?_;rintro e J ⟨rfl,A⟩;have I:=(k2.alloc wk).below A;have k0:J.cell? (aP w.heap.size)=some (au c):=I.cell rfl;have D:=(B2.alloc B2.size wk).trans (A.mono aS);go_wp2;go_ret2;exact ⟨rfl,D⟩
def tR(p c w)(C:Laid w):Calls prog 41 #[fP p c] w fun e w'=>e=bi (.tuple #[au c,au p])/\am w w':=by
 have hl:=C.lt;have L1:=C.below ((az w.heap.size w).alloc aH (.cells #[au 0] 134)) hl;unfold fP cm;go_enter func41,ntmps41;go_wp2_with fail;refine (as_71 p c w.heap.size _ _ L1 (aL.new w _ _)).mono ?_;refine P6 ?_;intro w2 b2 k2 B2 L2 sz L3;go_wp2_with fail;refine (as_72 p _ _ w2.heap.size _ _ _ L3 (aL.new w2 _ _)).mono ?_;rintro e D ⟨rfl,A,k3⟩;have J:=(k2.alloc wk).but A ai;have k0:D.cell? (aP w.heap.size)=some (au c):=J.cell rfl;have k1:D.cell? (aP w2.heap.size)=some (au p):=k3.cell rfl;have I:=(B2.alloc B2.size wk).trans (A.below ai aS);go_wp2
 go_region_held3 (fun w'=>w'.cell? (aP w.heap.size)=some (au c)/\w'.cell? (aP w2.heap.size)=some (au p)) (go_keep)
  ((go_at_call 76;refine (Od _ _).mono ?_;rintro e w' ⟨rfl,rfl⟩))
 go_wp2;go_ret2;exact ⟨rfl,I.drew⟩
def HA (h:aD:=by
 go_enter func182,ntmps182;go_wp2;go_ret;exact ⟨rfl,bo.alloc aH _⟩):aD:=h
def HC (h:aD:=by
 go_enter func227,ntmps227;go_wp2;go_ret;exact ⟨rfl,rfl⟩):aD:=h
def fH(g:Gr):ae:=if g.reach=1 then g.ty++sg 42 else if g.reach=2 then (g.ty++sg 35)++g.rel else g.ty
def HH(g:Gr)(w:af)(h1:g.ty.size<=1000)(h2:g.rel.size<=1000):
  Calls prog 182 #[.agg #[au g.tp,an g.ty,au g.reach,au g.rp,an g.rel]] w fun e w'=>e=bi (an (fH g))/\am w w':=by
 unfold fH
 by_cases k1:g.reach=1
 ·have e1:((g.reach:Int)==1)=true:=by rw [k1];rfl
  rw [if_pos k1];exact HA
 ·have e1:((g.reach:Int)==1)=false:=by rw [bR];omega
  rw [if_neg k1]
  by_cases A:g.reach=2
  ·have C:((g.reach:Int)==2)=true:=by rw [A];rfl
   rw [if_pos A];exact HA
  have C:((g.reach:Int)==2)=false:=by rw [bR];omega
  rw [if_neg A];exact HA
def wn(e:Ex):Nat:=match e.l with
 |none=>2
 |some _=>if e.nd.kind=3 then 0 else 1
def Eb(b:Nat)(e:Ex)(v:ag)(w:af)(h:bA b w e v):
  Calls prog 227 #[v] w fun e' w'=>e'=bi (au (wn e))/\w'=w:=by
 have f0:=nw;have f1:=o9;have f2:=pd;have f3:=gB;have f4:=ig;have f5:=ij;have g0:=qE;have C:=tJ;have D:=tK;have I:=jU;have g5:=jV;have h0:=mg;have h1:=nx;have h2:=ny;have J:=qF;have Q:=ik
 match e,h with
 |⟨nq,some xq,some yq⟩,⟨vx,vy,hv,rx,ry⟩=>
  subst hv;unfold wn fi
  by_cases k3:nq.kind=3
  ·simp only [k3,if_true];exact HC
  simp only [k3,aZ]
  by_cases A:nq.kind=4
  ·simp only [A,if_true];exact HC
  simp only [A,aZ];exact HC
 |⟨nq,none,rq⟩,h=>
  rcases h with ⟨_,gv,hv,_⟩|⟨_,hv⟩|⟨_,hv⟩
  all_goals
   subst hv;go_enter func227,ntmps227;go_wp2;go_ret;exact ⟨rfl,rfl⟩
 |⟨nq,some xq,none⟩,h=>exact h.elim
end Go.Proofs.YtlbpnlngckgcbaaGreatDoor
namespace Go.Proofs.YtlbpnlngckgcbaaGreatDoor
open Go.RowKit Go.PlainAid Go.Proofs.Tryz
variable {aD bq:Prop}
abbrev et:=@List.getElem?_map
def zP (h:aD:=by
 simp [aF,hp]):aD:=h
def Km (h:aD:=by
 simp [aF]):aD:=h
def XO (h:aD:=by
 go_enter Tryz.func184,Tryz.ntmps184;go_wp2_with (first|(go_at_call 227;refine C1.mono ?_;rintro e D ⟨rfl,rfl⟩)|(go_at_call 78;refine C2.mono ?_;rintro e I ⟨rfl,C⟩;have A:=C));go_ret;exact ⟨rfl,A⟩):aD:=h
def BI(q:bq) (h:cj bq->aD:=by
 intro zq;have hp:(aF ⟨n,some a,some c⟩).length=(aF a).length+1+(aF c).length:=by simp [aF];omega
 revert hp
 exact zq.1):aD:=h ⟨q⟩
def Tryz.info9':(Tryz.prog.info? 9).map (fun i=>(i.zero,i.size,i.bytes))=some (some (an ⟨#[]⟩),1,16):=by kernel_rfl
def NY(g:Gr):Prop:=g.ty.size<=8/\g.rel.size<=8
def cU(a c:ByteArray):(a++c).size=a.size+c.size:=ByteArray.size_append
def Me(g:Gr)(h:NY g):(fH g).size<=17:=by
 obtain ⟨h1,h2⟩:=h;have e1:(sg 42).size=1:=rfl;have A:(sg 35).size=1:=rfl;unfold fH
 split
 ·rw [cU];omega
 split
 ·rw [cU,cU];omega
 omega
def lK(gs:List Gr):List UInt8:=Lib.join ((gs.map fH).map (·.data.toList)) [44,32]
def Ec:∀(gs:List Gr),(∀g∈gs,NY g)->(lK gs).length<=19*gs.length
 | [],_=>by simp [lK,Lib.join_nil]
 |g::gs,h=>by
  unfold lK;rw [bY,bY,Lib.join_length];have key:∀(l:List Gr),(∀g∈l,NY g)->Lib.lens ((l.map fH).map (·.data.toList))<=17*l.length:=by
   intro l
   induction l with
   |nil=>intro _;simp [Lib.lens]
   |cons a r ih=>
    intro hl;have h1:=Me a (hl a ar);have h2:=ih (fun g A=>hl g (by simp [A]));simp only [bY,Lib.lens,List.sum_cons,List.length_cons] at*;have C:(fH a).data.toList.length=(fH a).size:=rfl;omega
  have:=key (g::gs) h;simp only [bY,List.length_cons,bN,List.length_nil] at*;omega
def qS(gs:List Gr):ByteArray:=(sg 91++mk (lK gs))++sg 93
def strs(l:List ByteArray):List Value:=l.map Value.string
def gwK(k:Nat)(gs:List Gr):List Value:=strs ((gs.take k).map fH)
def Mf(p:Nat)(az:Value)(gs:List Gr)(w:World)(h:w.ownsRow 0 207 5 az gs.length (cz gs))(bf:gs.length<=1000)(h0:gs≠ [])(Z:∀g∈gs,NY g):
  Calls Tryz.prog 124 #[.agg #[au p,az]] w fun e w'=>e=bi (an (qS gs))/\am w w':=by
 obtain ⟨ga,gc,rfl⟩:=aw h;have H:=aj h;have aG:=aj Z;have ae:=aj (Ec gs Z);have bg:0<gs.length:=l5.2 h0;clear h Z h0;go_enter Tryz.func124,Tryz.ntmps124;go_wp2_with fail
 go_loopw [3,9] (fun a7 a8 wr=>∃(k:Nat)(sa:Option Addr)(sc:Nat),k<=gs.length/\a8=au k/\a7=aA sa k sc/\am w wr/\wr.ownsRow w.heap.size 9 1 (aA sa k sc) k (gwK k gs)) (fun _ u _=>gs.length-(intOf u).toNat)
 ·exact ⟨0,none,0,ai,rfl,rfl,bo.alloc aH _,bP⟩
 ·obtain ⟨k,sa,sc,ar,rfl,rfl,D,ho⟩:=hrel;have ac:=aj D;have aF:=aj ho;have aB:=D.size
  by_cases Y:k<gs.length
  ·have V:(k:Int)<(gs.length:Int):=by omega
   obtain ⟨q,c,e1,k0,k1,aZ,k3,a5⟩:=Vg.cell (ay (w':=wr) H (fun g cs f _ I=>D.block g (lt_of_some I))) k gs[k] (aI Y);simp only [aK] at e1;obtain ⟨rfl,_,rfl⟩:=e1;have aJ:=aj (show gwK (k+1) gs=gwK k gs++[an (fH gs[k])] from by
    unfold gwK strs;rw [cD Y,cK,cK];rfl)
   have R:=aG gs[k] (br Y);generalize gs[k]=g at*;have al:am wr (wr.alloc (gK g.tp g.ty g.reach g.rp g.rel)):=bo.alloc aH _;have ad:=aj (ac.trans (al.mono aB));have C:=aj (HH g (wr.alloc (gK g.tp g.ty g.reach g.rp g.rel)) (by have:=R.1;omega) (by have:=R.2;omega));have aM:=aj (aF.alloc (gK g.tp g.ty g.reach g.rp g.rel));clear D ho al R;go_wp2_with fail;refine C.mono ?_;rintro e Q ⟨rfl,A⟩;have J:=aj (ad.trans (A.mono ad.size));have ah:=aj (ay (w':=Q) aM (fun g cs f _ I=>A.block g (lt_of_some I)));have a6:=J.size;clear A C k0 k1 aZ k3 a5;go_wp2_with (at_builtin;go_must (refine eB rfl Tryz.underlying22 Tryz.info9' w.heap.size (ah.alloc _) Q.heap.size 1 [an (fH g)] (Q.heap.size+1) ?hrest))
   case hrest=>
    intro aO aN bh av ap aT bc;have ak:=ah.alloc (dv (fH g));have aC:=aj (cA (J.alloc a6 (dv (fH g))) ap aS (fun k ar=>(ak.lt k ar).1));have aL:=aj av;clear av ap aT ak;go_wp2;go_roundw
    ·exact ⟨k+1,some (aP aO),aN,ai,by go_num,rfl,aC,by rw [aJ];exact aL⟩
    simp [intOf];omega
  have V:¬((k:Int)<(gs.length:Int)):=ai;obtain rfl:k=gs.length:=ai;unfold gwK at ho;rw [kr] at ho;have aU:gs.length<=sc/\∃q,sa=some (aP q)/\q<wr.heap.size:=by
   rcases ho.2 with ⟨_,h0⟩|⟨g,cap,ba,hv,_,I,aQ,_⟩
   ·omega
   simp only [aK] at hv;obtain ⟨rfl,_,rfl⟩:=hv;exact ⟨aQ,g,rfl,lt_of_some I⟩
  obtain ⟨bb,q,rfl,aW⟩:=aU;have hl:(gs.map fH).length=gs.length:=bN _;have C:=Tryz.strings_Join q 0 sc (gs.map fH) ⟨#[44,32]⟩ wr (by
   intro j x aX;obtain ⟨g',a9,e',hc⟩:=aY ho j (an x) (by unfold strs;rw [et,aX];rfl);simp only [aK,aR,cg] at e';obtain ⟨⟨rfl,_⟩,_⟩:=e';rw [Nat.zero_add];exact hc) aW ai ai (Nat.le_trans ae.u (by omega))
  rw [hl] at C;have aV:(mk (lK gs)).size<=20000:=by
   have h1:=ae.u;have h2:(mk (lK gs)).size=(lK gs).length:=rfl;omega
  have ab:=aj (show Calls Tryz.prog 183 #[aA (some (aP q)) gs.length sc,an ⟨#[44,32]⟩] wr fun e w'=>e=bi (an (mk (lK gs)))/\am wr w' from C);obtain ⟨ax,U⟩:∃ax,ax=mk (lK gs):=⟨_,rfl⟩;rw [<-U] at aV ab;have aE:=aj U;clear U;clear D ho C V;have V:¬((gs.length:Int)<(gs.length:Int)):=ai;go_wp2_with (go_at_call 183;refine ab.mono ?_;rintro e Q ⟨rfl,A⟩;have J:=aj (ac.trans (A.mono aB));clear A);go_ret;exact ⟨by unfold qS;rw [<-aE];rfl,J⟩
end Go.Proofs.YtlbpnlngckgcbaaGreatDoor
namespace Go.Proofs.YtlbpnlngckgcbaaGreatDoor
open Go.RowKit Go.PlainAid Go.Proofs.Tryz
def mB:ByteArray:=⟨#[32,124,32]⟩
def wo:ByteArray:=⟨#[32,38,32]⟩
def wq:ByteArray:=⟨#[32,45,32]⟩
def dZ(e:Ex)(s:ByteArray)(least:Nat):ByteArray:=if wn e<least then (sg 40++s)++sg 41 else s
def aO:Ex->ByteArray
 |⟨n,some x,some y⟩=>if n.kind=3 then (aO x++mB)++aO y
  else (dZ x (aO x) 1++(if n.kind=4 then wo else wq))++dZ y (aO y) 2
 |⟨n,none,_⟩=>if n.kind=0 then qS n.gs else if n.kind=1 then n.n1 else (n.n1++sg 46)++n.n2
 |⟨_,some _,none⟩=>em
def Sz(e:Ex):Prop:=∀p∈aF e,p.l=none->p.nd.n1.size<=8/\p.nd.n2.size<=8/\∀g∈p.nd.gs,NY g
def qT(e:Ex)(s:ByteArray)(n:Nat):(dZ e s n).size<=s.size+2:=by
 have e1:(sg 40).size=1:=rfl;have h:(sg 41).size=1:=rfl;unfold dZ
 split
 ·rw [cU,cU];omega
 omega
def Qk(gs:List Gr)(h:∀g∈gs,NY g):(qS gs).size<=19*gs.length+2:=by
 have e1:(sg 91).size=1:=rfl;have A:(sg 93).size=1:=rfl;have C:(mk (lK gs)).size=(lK gs).length:=rfl;have:=Ec gs h;unfold qS;rw [cU,cU];omega
def kR(e:Ex):Sz e->(aO e).size<=20*(aF e).length+19*(bS e).length:=by
 induction e using Ex.ind with
 |h0 n r=>
  intro h;obtain ⟨h1,h2,A⟩:=h ⟨n,none,r⟩ Km rfl;simp only at h1 h2 A;have e1:(sg 46).size=1:=rfl;simp only [aO,aF,bS,bM,jI,List.append_nil,eO,List.length_cons,List.length_nil]
  by_cases k0:n.kind=0
  ·rw [if_pos k0,if_pos k0];have:=Qk n.gs A;omega
  rw [if_neg k0,if_neg k0]
  split
  ·omega
  rw [cU,cU];simp only [List.length_nil];omega
 |h1 n a=>intro _;exact Nat.zero_le _
 |h2 n a c iha NV=>
  intro h;have J:=iha (fun p hp=>h p zP);have Q:=NV (fun p hp=>h p zP);have e1:mB.size=3:=rfl;have D:wo.size=3:=rfl;have I:wq.size=3:=rfl;have ha:=qT a (aO a) 1;have hc:=qT c (aO c) 2;have C:(bS ⟨n,some a,some c⟩).length=(bS a).length+(bS c).length:=by
   unfold bS;simp [aF,eO]
  refine BI ?_;intro hp;rw [C,hp];simp only [aO]
  split
  ·rw [cU,cU];omega
  rw [cU,cU]
  split<;>omega
def Ql(b:Nat)(e:Ex):Prop:=∀v w,bA b w e v->Calls Tryz.prog 78 #[v] w fun e' w'=>e'=bi (an (aO e))/\am w w'
def Ko(b:Nat)(e:Ex)(R:Ql b e)(hs:(aO e).size<=100000)(v:Value)(n:Nat)(U:n<=2)(w:World)(h:bA b w e v):
  Calls Tryz.prog 184 #[v,au n] w fun e' w'=>e'=bi (an (dZ e (aO e) n))/\am w w':=by
 have C1:=Eb b e v w h;have C2:=R v w h;obtain ⟨V,Y,rfl⟩:=h.isI;unfold dZ;generalize wn e=m at*;generalize aO e=s at*
 by_cases J:m<n
 ·have Q:(m:Int)<(n:Int):=by omega
  rw [if_pos J];exact XO
 ·have Q:¬((m:Int)<(n:Int)):=by omega
  rw [if_neg J];exact XO
def ws(b:Nat)(x y:Ex)(ak:Ql b x)(al:Ql b y)(aJ:(aO x).size<=90000)(aK:(aO y).size<=90000)(p:Nat)(C D:Value)(sign:ByteArray)(aw:sign.size<=10)(w:World)(V:bA b w x C)(Y:bA b w y D):
  Calls Tryz.prog 125 #[.agg #[au p,C,D],an sign] w fun e' w'=>e'=bi (an ((dZ x (aO x) 1++sign)++dZ y (aO y) 2))/\am w w':=by
 have ac:=(fun w' k=>Ko b x ak ai C 1 ai w' (V.but (But.of_below k)):∀w',am w w'->Calls Tryz.prog 184 #[C,au 1] w' fun e' w''=>e'=bi (an (dZ x (aO x) 1))/\am w' w'');have ad:=(fun w' k=>Ko b y al ai D 2 ai w' (Y.but (But.of_below k)):∀w',am w w'->Calls Tryz.prog 184 #[D,au 2] w' fun e' w''=>e'=bi (an (dZ y (aO y) 2))/\am w' w'');have l1:=qT x (aO x) 1;have l2:=qT y (aO y) 2;have ax:(dZ x (aO x) 1).size<=100000:=ai;have ay:(dZ y (aO y) 2).size<=100000:=ai;obtain ⟨I,J,rfl⟩:=V.isI;obtain ⟨Q,yv,rfl⟩:=Y.isI;generalize dZ x (aO x) 1=Z at*;generalize dZ y (aO y) 2=ap at*;have W0:am w (w.alloc (.cells #[au p,.iface I J,.iface Q yv] 242)):=bo.alloc aH _;have R:=aL.new w #[au p,.iface I J,.iface Q yv] 242;go_enter Tryz.func125,Tryz.ntmps125;go_wp2_with fail;generalize (w.alloc (.cells #[au p,.iface I J,.iface Q yv] 242))=W at*;obtain ⟨aA,aB,aE⟩:=R.three;have c1:¬9223372036854775807<Z.size+sign.size:=ai;have c2:¬9223372036854775807<Z.size+sign.size+ap.size:=ai
 go_region_held3 (fun w'=>w'.cell? (aC w.heap.size 1)=some (.iface I J)/\w'.cell? (aC w.heap.size 2)=some (.iface Q yv)) (go_keep)
  (first
  |(go_at_call 184;have av:=A;refine (ad ab (W0.trans (A.mono W0.size))).mono ?_;rintro e ar ⟨rfl,aj⟩;have U:=(A.trans (aj.mono A.size):am W ar);obtain ⟨t0,t1,t2⟩:=(R.below U).three)
  |(go_at_call 184;refine (ac _ W0.drew).mono ?_;rintro e ab ⟨rfl,ah⟩;have A:=((az _ W).drew.trans ah:am W ab);obtain ⟨aF,aG,aI⟩:=(R.below A).three))
 go_wp2;go_ret;exact ⟨rfl,W0.trans (U.mono W0.size)⟩
end Go.Proofs.YtlbpnlngckgcbaaGreatDoor
namespace Go.Proofs.YtlbpnlngckgcbaaGreatDoor
open Go.RowKit Go.PlainAid Go.Proofs.Tryz
def BJ(p:Nat)(D:Value)(gs:List Gr)(w:World)(h:w.ownsRow 0 207 5 D gs.length (cz gs))(R:gs.length<=1000)(h0:gs≠ [])(U:∀g∈gs,NY g):
  Calls Tryz.prog 78 #[.iface 236 (.agg #[au p,D])] w fun e w'=>e=bi (an (qS gs))/\am w w':=by
 have f0:=ie;obtain ⟨ga,gc,rfl⟩:=aw h;have A:am w (w.alloc (nz p ga gs.length gc)):=bo.alloc aH _;have C:=Mf p _ gs _ (ay h (fun g cs f _ Q=>A.block g (lt_of_some Q))) R h0 U;go_enter Tryz.func78,Tryz.ntmps78;go_wp2_with (go_at_call 124;refine C.mono ?_;rintro e V ⟨rfl,J⟩;have I:=(A.trans (J.mono A.size)));go_ret;exact ⟨rfl,I⟩
def Ed(p:Nat)(s:ByteArray)(w:World):
  Calls Tryz.prog 78 #[.iface 238 (.agg #[au p,an s])] w fun e w'=>e=bi (an s)/\am w w':=by
 have f1:=hN;have h:=mh;go_enter Tryz.func78,Tryz.ntmps78;go_wp2;go_ret;exact ⟨rfl,bo.alloc aH _⟩
def Ee(p p1 p2:Nat)(s t:ByteArray)(w:World)(hs:s.size<=1000)(A:t.size<=1000):
  Calls Tryz.prog 78 #[.iface 240 (.agg #[au p,au p1,an s,au p2,an t])] w fun e w'=>e=bi (an ((s++sg 46)++t))/\am w w':=by
 have f2:=hO;have h:=mi;have h2:=mj;go_enter Tryz.func78,Tryz.ntmps78;go_wp2;go_ret;exact ⟨rfl,bo.alloc aH _⟩
def BK(b:Nat)(x y:Ex)(Y:Ql b x)(Z:Ql b y)(ab:(aO x).size<=90000)(ac:(aO y).size<=90000)(p:Nat)(Q R:Value)(w:World)(I:bA b w x Q)(J:bA b w y R):
  Calls Tryz.prog 78 #[.iface 245 (.agg #[au p,Q,R])] w fun e w'=>e=bi (an ((dZ x (aO x) 1++wo)++dZ y (aO y) 2))/\am w w':=by
 have f4:=gC;have ai:=kM;have aj:=kN;have ak:=ig;have al:=jU;obtain ⟨ad,ae,rfl⟩:=I.isI;obtain ⟨ah,yv,rfl⟩:=J.isI;have A:am w (w.alloc (.cells #[au p,.iface ad ae,.iface ah yv] 245)):=bo.alloc aH _;have D:=A;have C:=ws b x y Y Z ab ac p _ _ wo ax _ (I.but (But.of_below A)) (J.but (But.of_below A));unfold wo at C ⊢;go_enter Tryz.func78,Tryz.ntmps78;go_wp2_with (go_at_call 125;refine C.mono ?_;rintro e ap ⟨rfl,V⟩;have U:=(D.trans (V.mono D.size)));go_ret;exact ⟨rfl,U⟩
def BL(b:Nat)(x y:Ex)(Y:Ql b x)(Z:Ql b y)(ab:(aO x).size<=90000)(ac:(aO y).size<=90000)(p:Nat)(Q R:Value)(w:World)(I:bA b w x Q)(J:bA b w y R):
  Calls Tryz.prog 78 #[.iface 246 (.agg #[au p,Q,R])] w fun e w'=>e=bi (an ((dZ x (aO x) 1++wq)++dZ y (aO y) 2))/\am w w':=by
 have f5:=ii;have g5:=kO;have ai:=kP;have aj:=ij;have ak:=jV;have al:=ik;obtain ⟨ad,ae,rfl⟩:=I.isI;obtain ⟨ah,yv,rfl⟩:=J.isI;have A:am w (w.alloc (.cells #[au p,.iface ad ae,.iface ah yv] 246)):=bo.alloc aH _;have D:=A;have C:=ws b x y Y Z ab ac p _ _ wq ax _ (I.but (But.of_below A)) (J.but (But.of_below A));unfold wq at C ⊢;go_enter Tryz.func78,Tryz.ntmps78;go_wp2_with (go_at_call 125;refine C.mono ?_;rintro e ap ⟨rfl,V⟩;have U:=(D.trans (V.mono D.size)));go_ret;exact ⟨rfl,U⟩
def wu(b:Nat)(x y:Ex)(ak:Ql b x)(al:Ql b y)(aJ:(aO x).size<=90000)(aK:(aO y).size<=90000)(p:Nat)(R U:Value)(w:World)(Y:bA b w x R)(Z:bA b w y U):
  Calls Tryz.prog 78 #[.iface 244 (.agg #[au p,R,U])] w fun e w'=>e=bi (an ((aO x++mB)++aO y))/\am w w':=by
 have f3:=eW;have aw:=jd;have ax:=je;have ay:=gB;have ad:=fun w' (k:am w w')=>ak R w' (Y.but (But.of_below k))
 have ae:=fun w' (k:am w w')=>al U w' (Z.but (But.of_below k))
 obtain ⟨D,I,rfl⟩:=Y.isI;obtain ⟨J,yv,rfl⟩:=Z.isI;generalize aO x=ab at*;generalize aO y=ap at*;have W0:am w (w.alloc (.cells #[au p,.iface D I,.iface J yv] 244)):=bo.alloc aH _;have C:=W0;have Q:=aL.new w #[au p,.iface D I,.iface J yv] 244;unfold mB;go_enter Tryz.func78,Tryz.ntmps78;go_wp2_with fail;generalize (w.alloc (.cells #[au p,.iface D I,.iface J yv] 244))=W at*;obtain ⟨aA,aB,aE⟩:=Q.three;have c1:¬9223372036854775807<ab.size+3:=ai;have c2:¬9223372036854775807<ab.size+3+ap.size:=ai
 go_region_held3 (fun w'=>w'.cell? (aC w.heap.size 1)=some (.iface D I)/\w'.cell? (aC w.heap.size 2)=some (.iface J yv)) (go_keep)
  (first
  |(go_at_call 78;have av:=A;refine (ae ac (C.trans (A.mono C.size))).mono ?_;rintro e ar ⟨rfl,aj⟩;have V:=(A.trans (aj.mono A.size):am W ar);obtain ⟨t0,t1,t2⟩:=(Q.below V).three)
  |(go_at_call 78;refine (ad _ C.drew).mono ?_;rintro e ac ⟨rfl,ah⟩;have A:=((az _ W).drew.trans ah:am W ac);obtain ⟨aF,aG,aI⟩:=(Q.below A).three))
 go_wp2;go_ret;exact ⟨rfl,C.trans (V.mono C.size)⟩
def Ef(b:Nat)(e:Ex):(aF e).length<=1000->(bS e).length<=1000->WF e->Sz e->Ql b e:=by
 induction e using Ex.ind with
 |h0 n r=>
  intro hp ab J I v w h;obtain ⟨ad,ae,V⟩:=I ⟨n,none,r⟩ Km rfl;simp only at ad ae V
  rcases h with ⟨C,sv,rfl,ac⟩|⟨C,rfl⟩|⟨C,rfl⟩
  ·have A:aO ⟨n,none,r⟩=qS n.gs:=by simp [aO,C]
   rw [A];have hl:n.gs.length<=1000:=by
    have:=zd (e:=⟨n,none,r⟩) (p:=⟨n,none,r⟩) Km rfl C;simp only at this;omega
   exact BJ _ _ _ _ (bk ac (Nat.zero_le _)) hl (J ⟨n,none,r⟩ Km rfl C) V
  ·have A:aO ⟨n,none,r⟩=n.n1:=by simp [aO,C]
   rw [A];exact Ed _ _ _
  have A:aO ⟨n,none,r⟩=(n.n1++sg 46)++n.n2:=by simp [aO,C]
  rw [A];exact Ee _ _ _ _ _ _ ai ai
 |h1 n a=>intro _ _ _ _ v w h;exact h.elim
 |h2 n a c iha NV=>
  intro hp ab J I v w h;refine BI ?_;intro ag;have af:(bS ⟨n,some a,some c⟩).length=(bS a).length+(bS c).length:=by
   unfold bS;simp [aF,eO]
  have Y:Sz a:=fun p hp=>I p zP
  have Z:Sz c:=fun p hp=>I p zP
  have wa:=iha ai ai (fun p hp=>J p zP) Y;have wc:=NV ai ai (fun p hp=>J p zP) Z;have ah:=kR a Y;have aj:=kR c Z;obtain ⟨ak,al,rfl,R,U⟩:=h
  by_cases k3:n.kind=3
  ·have A:aO ⟨n,some a,some c⟩=(aO a++mB)++aO c:=by simp [aO,k3]
   have D:fi n.kind=244:=by simp [fi,k3]
   rw [A,D];exact wu b a c wa wc ai ai _ _ _ _ R U
  by_cases Q:n.kind=4
  ·have A:aO ⟨n,some a,some c⟩=(dZ a (aO a) 1++wo)++dZ c (aO c) 2:=by simp [aO,Q]
   have D:fi n.kind=245:=by simp [fi,Q]
   rw [A,D];exact BK b a c wa wc ai ai _ _ _ _ R U
  have A:aO ⟨n,some a,some c⟩=(dZ a (aO a) 1++wq)++dZ c (aO c) 2:=by simp [aO,k3,Q]
  have D:fi n.kind=246:=by simp [fi,k3,Q]
  rw [A,D];exact BL b a c wa wc ai ai _ _ _ _ R U
end Go.Proofs.YtlbpnlngckgcbaaGreatDoor
namespace Go.Proofs.YtlbpnlngckgcbaaGreatDoor
open Go.RowKit Go.PlainAid Go.Proofs.Tryz
def HO(b:Nat)(l:List UInt8)(s:ae)(w:af)(h:Lib.IsBuilderF 153 5 b b (Lib.byteCells l) w)(D:l.length+s.size<=140737488355328)(C:b<=w.heap.size):
  Calls prog 77 #[bu b,an s] w fun e w'=>e=bi (.tuple #[au s.size,.nilIface])/\Lib.IsBuilderF 153 5 b b (Lib.byteCells (l++bB s)) w'/\Below b w w'/\Lib.OthersKept 5 (some b) w w':=by
 refine (Any.Builder_WriteString_k {Tryz.lays156 with} Tryz.Builder_Extra_156 b b (Lib.byteCells l) s w h (by rw [Lib.byteCells_length];exact D) C).mono ?_;rintro e w' ⟨rfl,h1,h2,A⟩;refine ⟨rfl,.inr ?_,h2,A⟩;rw [Lib.byteCells_append];exact h1
variable {T e:TypeId} {B b:Nat} {w w':af}
def wC{bs:List ag}(h:Lib.IsBuilderF T e B b bs w)(k:am w w'):Lib.IsBuilderF T e B b bs w':=by
 have key:∀p,Lib.BuilderAtF T e B b p bs w->Lib.BuilderAtF T e B b p bs w':=by
  rintro p ⟨h1,v,h2,I,J⟩;refine ⟨h1,v,(k.block b (lt_of_some h2)).trans h2,?_,J⟩;obtain ⟨A,Q|⟨g,cap,D,fz,R,U,C,V⟩⟩:=I
  ·exact ⟨A,.inl Q⟩
  exact ⟨A,.inr ⟨g,cap,D,fz,R,U,(k.block g (lt_of_some C)).trans C,V⟩⟩
 rcases h with h|h
 ·exact .inl (key _ h)
 exact .inr (key _ h)
variable {g:Nat} {cs:Array ag}
def aL.kept(h:aL w g cs T)(k:Lib.OthersKept e (some b) w w')(C:g≠b)(A:T≠e):aL w' g cs T:=
 k g _ h (fun e'=>C (Option.some.inj e')) (fun c fz e'=>A (by simp only [Obj.cells.injEq] at e';exact e'.2.1))
def sK:ae:=⟨#[9]⟩
def iX:ae:=⟨#[58,32]⟩
def lM:ae:=⟨#[59,10]⟩
def gm:ae:=⟨#[116,121,112,101,32]⟩
def jl:ae:=⟨#[32,123,10]⟩
def g7:ae:=⟨#[125,10]⟩
def HS(r:Rl):ae:=(((sK++r.name)++iX)++aO r.body)++lM
def mZ(t:Ty):ae:=(gm++t.name)++jl
def wD(rs:List Rl):List UInt8:=rs.flatMap fun r=>bB (HS r)
def wE(t:Ty):List UInt8:=bB (mZ t)++wD t.rels++bB g7
def mC(ts:List Ty):List UInt8:=ts.flatMap wE
def SzT(t:Ty):Prop:=t.name.size<=8/\∀r∈t.rels,r.name.size<=8/\Sz r.body
def BQ(s:ae):(bB s).length=s.size:=rfl
def HV(b:Nat)(a9:ag)(ts:List Ty)(tl:List (Ty×ag))(w:af)(h:MC b w a9 ts tl)(bS:∀t∈ts,SzT t):
  Calls prog 42 #[.agg #[a9]] w fun e w'=>e=bi (an (mk (mC ts)))/\am w w':=by
 obtain ⟨a8,mn,mc,rfl⟩:=h.form;have bM:mn=tl.length:=by
  obtain ⟨a',aV,e⟩:=aw h.row;exact G9
 have b8:mn<=tl.length:=ai;have b9:tl.length<=mn:=ai;clear bM;have cf:tl.length<=1000:=by have:=h.llen;simpa using this
 have H:=h;have W0:am w (w.alloc (ba a8 mn mc)):=bo.alloc aH _;have bA:=Lib.IsBuilderF.of (Lib.fresh_isBuilder 153 5 (w.alloc (ba a8 mn mc)));have bD:=W0.alloc W0.size (.cells #[.pointer none,aA none 0 0] 153);clear h W0;go_enter func42,ntmps42;go_wp2_with fail
 go_loopw [11] (fun u wr=>∃(k:Nat)(bs:List UInt8),k<=mn/\u=au k/\am w wr/\w.heap.size+1<wr.heap.size/\bs.length<=k*50000000/\Hid (bs=(ts.take k).flatMap wE/\Lib.IsBuilderF 153 5 (w.heap.size+1) (w.heap.size+1) (Lib.byteCells bs) wr)) (fun u _=>mn-(intOf u).toNat)
 ·exact ⟨0,[],ai,rfl,bD,ar,ar,aj ⟨rfl,by simpa [Lib.byteCells] using bA⟩⟩
 ·obtain ⟨k,bs,b6,rfl,D,cd,b2,ac⟩:=hrel;have aP:=D
  by_cases b7:k<mn
  ·have aF:k<tl.length:=by omega
   have ae:ts[k]? =some tl[k].1:=by rw [<-H.fst];simp [aI aF]
   obtain ⟨g,aV,e1,k0,k1,a7⟩:=(H.row.below D).cell k (by simpa using aF);simp only [aK] at e1;obtain ⟨rfl,aG,rfl⟩:=e1;clear aG;simp only [sB,t3] at k0 k1 a7;obtain ⟨rl,hrc⟩:=H.rels tl[k] (br aF);generalize tl[k]=p at*;obtain ⟨t,tv⟩:=p;simp only at k0 k1 a7 hrc ae;obtain ⟨bb,vn,bc,rfl⟩:=hrc.form;refine PK ?_;intro hv1 hv2 hrl;have aJ:=bS t (bF ae);have ch:=aJ.1;have bE:=aJ.2;have V:=ae;have J:am wr (wr.alloc (bG t.place t.name bb vn bc)):=bo.alloc aH _;have bx:=aP.trans (J.mono ai);have TB:=aL.new wr (h8 t.place t.name bb vn bc) 110;have bO:(mZ t).size<=16:=by
    have e1:gm.size=5:=rfl;have aW:jl.size=3:=rfl;unfold mZ;rw [cU,cU];omega
   have C:=HO (w.heap.size+1) bs (mZ t) _ (wC ac.2 J) ai aS;unfold mZ gm jl at C;have bL:(k:Int)<(mn:Int):=ai;clear D J aJ ae bO;go_wp2_with fail;refine C.mono ?_;rintro e bf ⟨rfl,aY,av,a5⟩;have ap:=TB.kept a5 ai ax;obtain ⟨t0,t1,t2⟩:=ap.three;have cu:=ap.lt;have bn:=bx.trans (av.mono ai);have bu:=show Lib.IsBuilderF 153 5 (w.heap.size+1) (w.heap.size+1) (Lib.byteCells (bs++bB (mZ t))) bf from aY
   have bT:=av.size;clear aY av a5 ap C;have bW:w.heap.size+1<bf.heap.size:=by simp at bT;omega
   go_wp2_with fail
   go_loopw [24] (fun u aM=>∃(j:Nat)(bt:List UInt8),j<=vn/\u=au j/\am w aM/\w.heap.size+1<aM.heap.size/\bt.length<=k*50000000+16+j*40000/\Hid (bt=bs++bB (mZ t)++wD (t.rels.take j)/\Lib.IsBuilderF 153 5 (w.heap.size+1) (w.heap.size+1) (Lib.byteCells bt) aM)) (fun u _=>vn-(intOf u).toNat)
   ·exact ⟨0,bs++bB (mZ t),ai,rfl,bn,bW,by
    have e1:gm.size=5:=rfl;have aW:jl.size=3:=rfl;rw [List.length_append,BQ];unfold mZ;rw [cU,cU];omega,aj ⟨by simp [wD],bu⟩⟩
   obtain ⟨j,bt,b4,rfl,D,ce,b3,ad⟩:=hrel
   by_cases b5:j<vn
   ·have aE:j<rl.length:=by omega
    have Q:t.rels[j]? =some rl[j].1:=by rw [<-hrc.fst];simp [aI aE]
    have U:=bF Q;obtain ⟨g,aV,e1,bj,bk,bl⟩:=(hrc.row.below D).cell j (by simpa using aE);simp only [aK] at e1;obtain ⟨rfl,aG,rfl⟩:=e1;clear aG;simp only [sB,r3] at bj bk bl;have hex:=(hrc.ex rl[j] (br aE)).but (b:=b) (But.of_below D);generalize rl[j]=p at*;obtain ⟨r,bX⟩:=p;simp only at bj bk bl hex U Q;obtain ⟨Z,rv,rfl⟩:=hex.isI;obtain ⟨cw,aN⟩:=bE r U;have okp:=hrc.okp r U;have okg:=hrc.okg r U;have bP:=kR r.body aN;have cg:(aO r.body).size<=39000:=ai;have J:am wr (wr.alloc (cC r.place r.name Z rv)):=bo.alloc aH _;have bz:=D.trans (J.mono ai);have al:=aL.new wr #[au r.place,an r.name,.iface Z rv] 159;have bw:=wC ad.2 J;have bC:=hex.but (b:=b) (But.of_below J);have aU:=Ef b r.body okp okg (hrc.wf r U) aN;have ak:=(show bs++bB (mZ t)++wD (t.rels.take (j+1))=(bs++bB (mZ t)++wD (t.rels.take j))++bB (HS r) from by
     have Y:j<t.rels.length:=by
      rcases fD j t.rels.length with h|h
      ·exact h
      rw [jD h] at Q;cases Q
     rw [aI Y] at Q;simp only [aR] at Q;unfold wD;rw [cD Y,cN,Q];simp)
    have bJ:(j:Int)<(vn:Int):=ai;have cb:(HS r).size<=39100:=by
     have e1:sK.size=1:=rfl;have aW:iX.size=2:=rfl;have bZ:lM.size=2:=rfl;unfold HS;rw [cU,cU,cU,cU];omega
    have aQ:=show HS r=(((⟨#[9]⟩++r.name)++⟨#[58,32]⟩)++aO r.body)++⟨#[59,10]⟩ from rfl
    unfold Ql at aU;generalize bQ:aO r.body=bg at*;clear hex J U Q bP aN bQ;go_wp2_with fail;have b0:wr.heap.size<(wr.alloc (cC r.place r.name Z rv)).heap.size:=ar;generalize (wr.alloc (cC r.place r.name Z rv))=W at*;generalize bR:wr.heap.size=bh at*;clear bR;obtain ⟨ci,ck,cl⟩:=al.three;have c1:¬9223372036854775807<1+r.name.size:=ai;have c2:¬9223372036854775807<1+r.name.size+2:=ai;have c3:¬9223372036854775807<1+r.name.size+2+bg.size:=ai;have bY:¬9223372036854775807<1+r.name.size+2+bg.size+2:=ai
    go_region_held3 (fun w'=>w'.cell? (aC bh 1)=some (an r.name)/\w'.cell? (aC bh 2)=some (.iface Z rv)) (go_keep)
     (first
     |(go_at_call 78;refine (aU _ W.drew (bC.but (But.refl _ _).drew)).mono ?_;rintro e ab ⟨rfl,I⟩;have R:=(show am W ab from (az _ W).drew.trans I);clear I;obtain ⟨cm,co,cp⟩:=(al.below R).three)
     |(go_at_call 77;refine (HO (w.heap.size+1) bt _ ab (wC bw R) (by rw [<-aQ];omega) (by have:=R.size;omega)).mono ?_;rintro e w5 ⟨rfl,aZ,ay,a6⟩;have aT:=(al.below R).kept a6 ai ax;obtain ⟨cq,cr,ct⟩:=aT.three;have bv:=aZ;have bp:=(bz.trans (R.mono ai) |>.trans (ay.mono ai));have bV:w.heap.size+1<w5.heap.size:=(by have h1:=ay.size;have h2:=R.size;omega);clear aZ ay a6 aT))
    go_wp2;go_roundw
    ·exact ⟨j+1,bt++bB (HS r),ai,by go_num,bp,bV,by rw [List.length_append,BQ];omega,aj ⟨by rw [ak,<-ad.1],by rw [aQ];exact bv⟩⟩
    simp [intOf];omega
   have bJ:¬((j:Int)<(vn:Int)):=ai;have bI:t.rels.length<=j:=by have:=congrArg List.length hrc.fst;rw [bN] at this;omega
   have aB:=ad.1;rw [cX bI] at aB;have ak:=(show (ts.take (k+1)).flatMap wE=bt++bB g7 from by
    have Y:k<ts.length:=by
     rcases fD k ts.length with h|h
     ·exact h
     rw [jD h] at V;cases V
    rw [aI Y] at V;simp only [aR] at V;rw [cD Y,cN,V,aB,<-ac.1];simp [wE])
   have e1:g7.size=2:=rfl;have C:=HO (w.heap.size+1) bt g7 wr ad.2 ai ai;unfold g7 at C;clear aB e1;go_wp2_with fail;refine C.mono ?_;rintro e ab ⟨rfl,bH,I,_⟩;have ah:=D.trans (I.mono ai);have bU:w.heap.size+1<ab.heap.size:=by have:=I.size;omega
   clear I;go_wp2;go_roundw
   ·exact ⟨k+1,bt++bB g7,ai,by go_num,ah,bU,by have e1:g7.size=2:=rfl;rw [List.length_append,BQ];omega,aj ⟨ak.symm,bH⟩⟩
   simp [intOf];omega
  have bL:¬((k:Int)<(mn:Int)):=ai;have bK:ts.length<=k:=by have:=congrArg List.length H.fst;rw [bN] at this;omega
  have aX:=ac.1;rw [cX bK] at aX;have C:=Tryz.Builder_String_any_f (w.heap.size+1) (w.heap.size+1) bs wr ac.2 ai;clear D;go_wp2_with fail;refine C.mono ?_;rintro e ab ⟨rfl,_,I⟩;have ah:=aP.trans (I.mono ai);clear I;go_wp2;go_ret;exact ⟨by unfold mk mC;rw [<-aX];rfl,ah⟩
variable {aD bq:Prop}
def Qu (h:aD:=by
 simp only [Qv];omega):aD:=h
def Qw (h:aD:=by
 intro r A;rw [aW,aX] at A
 rcases A with A|rfl
 ·exact ha r A
 exact h2):aD:=h
def nS(T:Nat->ae)(i j:Nat)(u:Unit)(h:dh T i=.ok (u,j)):(T i).size<=8:=by
 unfold dh at h
 split at h
 ·split at h
  ·simp at h
  omega
 simp at h
def qV(T:Nat->ae)(y:ae)(i j:Nat)(u:Unit)(h:b9 T y i=.ok (u,j)):(T i).size<=8:=by
 unfold b9 at h
 split at h
 ·simp at h
 rename_i A;exact nS T _ _ _ A
def Qv:em.size=0:=rfl
def Mn(T:Nat->ae)(P:Nat->Nat)(i j:Nat)(g:Gr)(h:dT T P i=.ok (g,j)):NY g:=by
 unfold dT at h
 split at h
 ·simp at h
 rename_i C;have h1:=nS T _ _ _ C
 split at h
 ·simp at h;rw [<-h.1];exact ⟨h1,by simp only [Qv];omega⟩
 split at h
 ·split at h
  ·simp at h
  rename_i A;have h2:=nS T _ _ _ A;simp at h;rw [<-h.1];exact ⟨h1,h2⟩
 simp at h;rw [<-h.1];exact ⟨h1,by simp only [Qv];omega⟩
def Ek(T:Nat->ae)(P:Nat->Nat):∀f acc i gs j,(∀g∈acc,NY g)->dQ T P f acc i=.ok (gs,j)->∀g∈gs,NY g
 |0,_,i,x,j,_,h=>by simp [dQ] at h
 |f+1,acc,i,x,j,ha,h=>by
  unfold dQ at h
  split at h
  ·simp at h
  rename_i g0 J I;have D:=Mn T P _ _ _ I;have C:∀g∈acc++[g0],NY g:=by
   intro g A;rw [aW,aX] at A
   rcases A with A|rfl
   ·exact ha g A
   exact D
  split at h
  ·exact Ek T P f _ _ _ _ C h
  split at h<;>simp at h
  rw [<-h.1];exact C
def SZ(r:Nat->eL Ex):Prop:=∀i x j,r i=.ok (x,j)->Sz x
def Sz.leaf(nd r)(h1:nd.n1.size<=8)(h2:nd.n2.size<=8)(A:∀g∈nd.gs,NY g):Sz ⟨nd,none,r⟩:=by
 intro p h _;simp only [aF,aX] at h;subst h;exact ⟨h1,h2,A⟩
def Sz.join{x y}(t p)(A:Sz x)(C:Sz y):Sz (dF t p x y):=by
 intro q h hl;simp only [dF,aF,aW,aX] at h
 rcases h with (h|h)|h
 ·exact A q h hl
 ·subst h;simp at hl
 exact C q h hl
def Qx(T:Nat->ae)(P:Nat->Nat):SZ (j7 T P):=by
 intro i x j h;unfold j7 at h
 split at h
 ·simp at h
 rename_i A;have:=Ek T P _ _ _ _ _ ar A;simp at h;rw [<-h.1];exact Sz.leaf _ _ Qu Qu this
def Mo(T:Nat->ae)(P:Nat->Nat):SZ (h6 T P):=by
 intro i x j h;unfold h6 at h
 split at h
 ·simp at h
 rename_i C;have h1:=nS T _ _ _ C
 split at h
 ·split at h
  ·simp at h
  rename_i A;have h2:=nS T _ _ _ A;simp at h;rw [<-h.1];exact Sz.leaf _ _ h1 h2 ar
 simp at h;rw [<-h.1];exact Sz.leaf _ _ h1 Qu ar
def El(T:Nat->ae)(P:Nat->Nat)(D:Bool)(A:Nat->eL Ex)(hi:SZ A):SZ (eR T P D A):=by
 intro i x j h;unfold eR at h
 split at h
 ·exact Qx T P _ _ _ h
 split at h
 ·split at h
  ·split at h
   ·simp at h
   rename_i C;have:=hi _ _ _ C
   split at h<;>simp at h
   rw [<-h.1];exact this
  simp at h
 exact Mo T P _ _ _ h
def Em(T:Nat->ae)(P:Nat->Nat)(l:List ae)(part:Nat->eL Ex)(A:SZ part):∀f y i x j,Sz y->joinL T P l part f y i=.ok (x,j)->Sz x
 |0,_,i,x,j,hb,h=>by simp [joinL] at h
 |f+1,y,i,x,j,hb,h=>by
  unfold joinL at h
  split at h
  ·split at h
   ·simp at h
   rename_i C;exact Em T P l part A f _ _ _ _ (hb.join _ _ (A _ _ _ C)) h
  simp at h;rw [<-h.1];exact hb
def qW(T:Nat->ae)(P:Nat->Nat)(l:List ae)(part:Nat->eL Ex)(A:SZ part):SZ (eU T P l part):=by
 intro i x j h;unfold eU at h
 split at h
 ·simp at h
 rename_i C;exact Em T P l part A _ _ _ _ _ (A _ _ _ C) h
def En(T:Nat->ae)(P:Nat->Nat):∀n,SZ (fp T P n)
 |0=>qW T P _ _ (qW T P _ _ (El T P false _ (fun i x j h=>by simp at h)))
 |n+1=>qW T P _ _ (qW T P _ _ (El T P true _ (En T P n)))
def RSz(r:Rl):Prop:=r.name.size<=8/\Sz r.body
def VQ(T:Nat->ae)(P:Nat->Nat)(i:Nat)(r:Rl)(j:Nat)(h:kW T P i=.ok (r,j)):RSz r:=by
 unfold kW at h
 split at h
 ·simp at h
 rename_i C;have h1:=qV T _ _ _ _ C
 split at h
 ·simp at h
 rename_i A;have h2:=En T P _ _ _ _ A
 split at h<;>simp at h
 rw [<-h.1];exact ⟨h1,h2⟩
def Eo(T:Nat->ae)(P:Nat->Nat):∀f acc i rs j,(∀r∈acc,RSz r)->di T P f acc i=.ok (rs,j)->∀r∈rs,RSz r
 |0,_,i,x,j,_,h=>by simp [di] at h
 |f+1,acc,i,x,j,ha,h=>by
  unfold di at h
  split at h
  ·simp at h;rw [<-h.1];exact ha
  split at h
  ·simp at h
  split at h
  ·simp at h
  rename_i C;have h2:=VQ T P _ _ _ C;refine Eo T P f _ _ _ _ ?_ h;exact Qw
def Qy(T:Nat->ae)(P:Nat->Nat)(i:Nat)(t:Ty)(j:Nat)(h:j8 T P i=.ok (t,j)):SzT t:=by
 unfold j8 at h
 split at h
 ·split at h
  ·simp at h
  rename_i C;have h1:=qV T _ _ _ _ C
  split at h
  ·simp at h
  rename_i A;have:=Eo T P _ _ _ _ _ ar A;simp at h;rw [<-h.1];exact ⟨h1,this⟩
 simp at h
def sL(T:Nat->ae)(P:Nat->Nat):∀f acc i ts j,(∀t∈acc,SzT t)->cQ T P f acc i=.ok (ts,j)->∀t∈ts,SzT t
 |0,_,i,x,j,_,h=>by simp [cQ] at h
 |f+1,acc,i,x,j,ha,h=>by
  unfold cQ at h
  split at h
  ·simp at h;rw [<-h.1];exact ha
  split at h
  ·simp at h
  split at h
  ·simp at h
  rename_i C;have h2:=Qy T P _ _ _ C;refine sL T P f _ _ _ _ ?_ h;exact Qw
def Qz(s:ae)(ts:List Ty)(h:dy s=.ok ts):∀t∈ts,SzT t:=by
 unfold dy at h
 split at h
 ·simp at h
 split at h
 ·simp at h
 rename_i A
 split at h
 ·simp at h
 simp at h;rw [<-h];exact sL _ _ _ _ _ _ _ ar A
def QA(s:ae)(ts:List Ty)(R:dy s=.ok ts)(w:af)(ah:Laid w):
  Calls prog 14 #[an s] w fun e w'=>e=bi (.tuple #[an (mk (mC ts)),au 0,au 0])/\am w w':=by
 have Y:=Qz s ts R;have C:=qO s w;rw [R] at C;go_enter func14,ntmps14;go_wp2_with fail;refine C.mono ?_;rintro e U ⟨J,sv,tl,b,rfl,Q⟩;obtain ⟨h,mn,mc,rfl⟩:=Q.form;have ac:=aL.new U #[aA h mn mc] 75;have Z:=Q.below (bo.alloc aH (ba h mn mc));have D:=J.alloc J.size (ba h mn mc);go_wp2_with fail;refine (nO _).mono ?_;rintro e ag ⟨rfl,A⟩;have I:=D.trans (A.mono D.size);have k0:ag.cell? (aP U.heap.size)=some (aA h mn mc):=(ac.below A).cell rfl;have ab:=Z.below A;go_wp2_with fail;refine (HV b _ ts tl _ ab Y).mono ?_;rintro e ai ⟨rfl,ad⟩;have V:=I.trans (ad.mono I.size);go_wp2;go_ret3;exact ⟨rfl,V⟩
def zQ(s:ae)(p c:Nat)(R:dy s=.error (some p,c))(U:c≠0)(w:af)(D:Laid w):
  Calls prog 14 #[an s] w fun e w'=>e=bi (.tuple #[an ⟨#[]⟩,au c,au p])/\am w w':=by
 have C:=qO s w;rw [R] at C;have hl:=D.lt;have V:((c:Int)==0)=false:=by rw [bR];omega
 go_enter func14,ntmps14;go_wp2_with fail;refine C.mono ?_;rintro e Y ⟨A,rfl⟩;have h:=A.alloc A.size wd;have J:=D.below h hl;unfold PZ fP cm;go_wp2_with fail;refine (tR p c _ J).mono ?_;rintro e Z ⟨rfl,Q⟩;have I:=h.trans (Q.mono h.size);go_wp2;go_ret3;exact ⟨rfl,I⟩
