import Derived.Test.YtlbpnlngckgcbaaGreatDoorM12
import Derived.Test.YtlbpnlngckgcbaaGreatDoorM11
set_option linter.all false
set_option maxHeartbeats 4000000
set_option maxRecDepth 100000
namespace Go.Proofs.YtlbpnlngckgcbaaGreatDoor
open Go.RowKit Go.PlainAid Go.Proofs.Tryz
variable {aD bq:Prop} {s:ae}
def XF (h:aD:=by
 go_region
 all_goals (
  go_wp2;refine bE (v:=.tuple #[.agg #[an kind,an id,an rel,an sub,an who,an Dg],.bool _]) (ce results60 _ _ w.heap.size _ 123 _ _ rfl rfl ?_ underlying123 rfl aM) rfl ?_
  ·exact ⟨_,(cY R6),bQ⟩
  ·exact ⟨rfl,(cq B6)⟩)):aD:=h
def nL(s:ae):Array ag×Bool:=
 if 53<s.size then (#[an ⟨#[]⟩,an ⟨#[]⟩,an ⟨#[]⟩,an ⟨#[]⟩,an ⟨#[]⟩,an ⟨#[]⟩],false) else
 (#[an (aG (aG (aG s 64).1 35).1 58).1,an (aG (aG (aG s 64).1 35).1 58).2.1,an (aG (aG s 64).1 35).2.1,an (aG (aG (aG s 64).2.1 35).1 58).1,an (aG (aG (aG s 64).2.1 35).1 58).2.1,an (aG (aG s 64).2.1 35).2.1],
  bT (aG (aG s 64).1 35).1&&kq (aG (aG s 64).2.1 35).1 (aG (aG s 64).2.1 35).2.1 (aG (aG s 64).2.1 35).2.2&&bC (aG (aG s 64).1 35).2.1)
def Hl(s w)(hs:53<s.size):
  Calls prog 60 #[an s] w fun e w'=>e=bi (.tuple #[.agg (nL s).1,.bool (nL s).2])/\am w w':=by
 unfold nL;rw [if_pos hs];have A:(53:Int)<(s.size:Int):=ai;go_enter func60,ntmps60;go_wp2;refine bE (v:=.tuple #[.agg #[an ⟨#[]⟩,an ⟨#[]⟩,an ⟨#[]⟩,an ⟨#[]⟩,an ⟨#[]⟩,an ⟨#[]⟩],.bool false]) (ce results60 _ _ w.heap.size _ 123 _ _ rfl rfl ?hB underlying123 rfl aM) rfl ?post
 case hB=>exact ⟨_,(cY (aL.new w #[an ⟨#[]⟩,an ⟨#[]⟩,an ⟨#[]⟩,an ⟨#[]⟩,an ⟨#[]⟩,an ⟨#[]⟩] 123)),bQ⟩
 case post=>exact ⟨rfl,(cq (az w.heap.size w))⟩
def DS(Q:GZ)(s:ae)(w:af)(hs:s.size<=53)(A:ko w)(C:1<w.heap.size):
  Calls prog 60 #[an s] w fun e w'=>e=bi (.tuple #[.agg (nL s).1,.bool (nL s).2])/\am w w':=by
 unfold nL;rw [if_neg ai];have aY:¬((53:Int)<(s.size:Int)):=ai;have al:am w (w.alloc (.cells #[an ⟨#[]⟩,an ⟨#[]⟩,an ⟨#[]⟩,an ⟨#[]⟩,an ⟨#[]⟩,an ⟨#[]⟩] 123)):=(az _ w).alloc aH _;have aA:=aL.new w #[an ⟨#[]⟩,an ⟨#[]⟩,an ⟨#[]⟩,an ⟨#[]⟩,an ⟨#[]⟩,an ⟨#[]⟩] 123;have av:=zA s (w.alloc (.cells #[an ⟨#[]⟩,an ⟨#[]⟩,an ⟨#[]⟩,an ⟨#[]⟩,an ⟨#[]⟩,an ⟨#[]⟩] 123)) ai;have aV:=eo s 64;have ag:=fun w A=>Q s 64 w ai A
 generalize aG s 64=aJ at*;obtain ⟨l,r,ok⟩:=aJ;simp only at aV ag ⊢;have aW:=eo l 35;have ah:=fun w A=>Q l 35 w ai A
 generalize aG l 35=aK at*;obtain ⟨what,rel,aX⟩:=aK;simp only at aW ah ⊢;have Y:=fun w A C=>fC Q what w ai A C
 have Z:=fun w A C=>uu Q r w ai A C
 have aw:=fun w=>im rel w fK
 generalize bT what=th at*;generalize aG what 58=aN at*;obtain ⟨kind,id,two⟩:=aN;generalize aG r 35=aO at*;obtain ⟨x,Dg,aR⟩:=aO;simp only at Y Z ⊢;generalize kq x Dg aR=aS at*;generalize aG x 58=aQ at*;obtain ⟨sub,who,bg⟩:=aQ;simp only at Y Z ⊢;generalize bC rel=fr at*;go_enter func60,ntmps60;go_wp2_with fail;refine av.mono ?_;rintro e w1 ⟨rfl,ap⟩;have U:=al.trans (ap.mono al.size);have aB:=aA.below ap;go_wp2_with fail;refine (ag w1 (A.below U C)).mono ?_;rintro e aT ⟨rfl,ar⟩;have V:=U.trans (ar.mono U.size);have aE:=aB.below ar;go_wp2_with fail;refine (ah aT (A.below V C)).mono ?_;rintro e aU ⟨rfl,au⟩;have I:=V.trans (au.mono V.size);have R3:=aE.below au;have ax:=Y aU (A.below I C) (by have:=I.size;omega);go_wp2_with fail;refine ax.mono ?_;rintro e D ⟨rfl,R⟩;have J:=(I.trans (R.mono I.size)).alloc (I.trans (R.mono I.size)).size (dK kind id);have aF:=(R3.below R).alloc (dK kind id);have aI:=aL.new D #[an kind,an id] 98;have ay:=Z (D.alloc (dK kind id)) (A.below J C) (by have:=J.size;omega);have a4:=(R3.below R).lt;go_wp2_with fail;refine ay.mono ?_;rintro e w5 ⟨rfl,ac⟩;have ad:=J.trans (ac.mono J.size);have aj:=aF.below ac;go_wp2_with fail;have ab:=aL.new w5 #[an sub,an who,an Dg] 102;have ak:=(aI.below ac).alloc (cf sub who Dg);have R6:=aj.alloc (cf sub who Dg);have B6:=ad.alloc ad.size (cf sub who Dg);have aZ:=aj.lt;generalize (w5.alloc (cf sub who Dg))=W at*;have n1:¬(w.heap.size=D.heap.size):=ai;have a3:¬(w.heap.size=w5.heap.size):=ai;have ba:=R6.fz;have a5:W.cell? (aP w.heap.size)=some (an ⟨#[]⟩):=R6.cell rfl;have a6:W.cell? (aC w.heap.size 1)=some (an ⟨#[]⟩):=R6.cell rfl;have a7:W.cell? (aC w.heap.size 2)=some (an ⟨#[]⟩):=R6.cell rfl;have r3:W.cell? (aC w.heap.size 3)=some (an ⟨#[]⟩):=R6.cell rfl;have a8:W.cell? (aC w.heap.size 4)=some (an ⟨#[]⟩):=R6.cell rfl;have a9:W.cell? (aC w.heap.size 5)=some (an ⟨#[]⟩):=R6.cell rfl;have t0:W.cell? (aP D.heap.size)=some (an kind):=ak.cell rfl;have t1:W.cell? (aC D.heap.size 1)=some (an id):=ak.cell rfl;have bb:W.cell? (aP w5.heap.size)=some (an sub):=ab.cell rfl;have bc:W.cell? (aC w5.heap.size 1)=some (an who):=ab.cell rfl;have bf:W.cell? (aC w5.heap.size 2)=some (an Dg):=ab.cell rfl
 cases th
 ·exact XF
 ·cases aS
  ·exact XF
  go_region_held3 (fun w'=>w'.cell? (aP D.heap.size)=some (an kind)/\w'.cell? (aC D.heap.size 1)=some (an id)/\w'.cell? (aP w5.heap.size)=some (an sub)/\w'.cell? (aC w5.heap.size 1)=some (an who)/\w'.cell? (aC w5.heap.size 2)=some (an Dg)) (go_keep)
   ((go_at_call 93;refine (aw _).mono ?_;rintro e bh ⟨rfl,rfl⟩))
  go_wp2;refine bE (v:=.tuple #[.agg #[an kind,an id,an rel,an sub,an who,an Dg],.bool _]) (ce results60 _ _ w.heap.size _ 123 _ _ rfl rfl ?_ underlying123 rfl aM) rfl ?_
  ·exact ⟨_,(cY R6),bQ⟩
  exact ⟨rfl,(cq B6)⟩
abbrev lg:=@Bool.or_eq_true
abbrev nP:=@Bool.not_false
abbrev sE:=@Bool.and_assoc
abbrev mA:=@Bool.not_true
def VH:bC (mk [])=false:=by decide
def dl(h:bC s=true):0<s.size/\s.size<=8:=by
 unfold bC at h;simp only [bO,fE] at h;exact h.1
def fX{c}(h:(aG s c).2.2=false):(aG s c).1=s/\(aG s c).2.1=mk []:=by
 obtain ⟨h1,h2⟩:=km c (bB s) h;unfold aG;simp only [h1,h2,cW,List.drop_nil,and_self]
def iV{c}(h:bC (aG s c).2.1=true):(aG s c).2.2=true:=by
 cases A:(aG s c).2.2
 ·rw [(fX A).2,VH] at h
  cases h
 rfl
def jk{c}(h:(aG s c).2.2=true):bB s=bB (aG s c).1++c::bB (aG s c).2.1:=by
 have hc:(bB s).contains c=true:=h;have key:∀l:List UInt8,l.contains c=true->l=l.takeWhile (· != c)++c::(l.dropWhile (· != c)).drop 1:=by
  intro l
  induction l with
  |nil=>intro h;simp at h
  |cons b l ih=>
   intro h
   by_cases e:b=c
   ·subst e;simp
   have h2:(b != c)=true:=by simpa using e
   rw [iK,vv,if_pos h2,if_pos h2,List.cons_append,<-ih (by
    rw [List.contains_cons,lg] at h
    rcases h with h|h
    ·exact absurd (dS.1 h).symm e
    exact h)]
 exact key _ hc
def fY(s):(c9 s).2.2=bT s:=by
 unfold c9 bT;simp only
 cases h:bC (aG s 58).2.1
 ·simp
 rw [iV h];simp
def YS(x Dg al):((nA x al).2.2&&(!al||bC Dg))=kq x Dg al:=by
 unfold nA kq;rw [fY];have hs:eqs (aG x 58).2.1 jR=eqs (aG x 58).2.1 dL:=rfl
 cases al
 ·cases D:bT x
  ·simp only [nP,Bool.and_self,if_true,Bool.true_or,Bool.and_true,bJ,aZ,vw,hs]
   cases C:eqs (aG x 58).2.1 dL
   ·simp
   have A:(aG x 58).2.2=true:=by
    cases A:(aG x 58).2.2
    ·rw [(fX A).2] at C;exact absurd C ax
    rfl
   rw [A];simp
  simp [fY,D]
 simp [fY]
def P7:kq (mk []) (mk []) false=false:=by decide
def P8(c):aG (mk []) c=(mk [],mk [],false):=rfl
def dM(s:ae):Bool:=bT (aG (aG s 64).1 35).1&&kq (aG (aG s 64).2.1 35).1 (aG (aG s 64).2.1 35).2.1 (aG (aG s 64).2.1 35).2.2&&bC (aG (aG s 64).1 35).2.1
def P9(s):(b7 s).2=dM s:=by
 unfold b7 dM;simp only;rw [fY];have e:=YS (aG (aG s 64).2.1 35).1 (aG (aG s 64).2.1 35).2.1 (aG (aG s 64).2.1 35).2.2;rw [sE,e]
 cases h1:(aG s 64).2.2
 ·rw [(fX h1).2,P8];simp [P7]
 cases h2:bC (aG (aG s 64).1 35).2.1
 ·simp
 rw [iV h2]
 cases bT (aG (aG s 64).1 35).1<;>simp
def hQ{c}(h:(aG s c).2.2=true):s.size=(aG s c).1.size+1+(aG s c).2.1.size:=by
 have:=congrArg List.length (jk h);rw [bf,iO,bj,bj,bj] at this;omega
def Kh{b}(h:eqs b dL=true):b=dL:=by
 unfold eqs at h;rw [dS] at h;rw [<-cW b,h]
 rfl
def lJ(h:dM s=true):s.size<=53/\(nL s)=(#[an (b7 s).1.kind,an (b7 s).1.id,an (b7 s).1.rel,an (b7 s).1.sub,an (b7 s).1.who,an (b7 s).1.of],true)/\
  bB s=bB (b7 s).1.kind++58::bB (b7 s).1.id++35::bB (b7 s).1.rel++64::(bB (b7 s).1.sub++58::bB (b7 s).1.who++(if (b7 s).1.of.size=0 then [] else 35::bB (b7 s).1.of)):=by
 have h0:=h;unfold dM at h;simp only [bO] at h;obtain ⟨⟨h1,h2⟩,I⟩:=h;have f1:(aG s 64).2.2=true:=by
  cases f:(aG s 64).2.2
  ·rw [(fX f).2,P8] at h2;exact absurd h2 (by rw [P7];simp)
  rfl
 have f2:=iV I;unfold bT at h1;simp only [bO] at h1;have f3:=iV h1.2;have al:=dl h1.1;have am:=dl h1.2;have ap:=dl I;have af:=hQ f1;have ag:=hQ f2;have ah:=hQ f3;have l1:=jk f1;have l2:=jk f2;have U:=jk f3;have tk:(b7 s).1.kind=(aG (aG (aG s 64).1 35).1 58).1:=rfl;have V:(b7 s).1.id=(aG (aG (aG s 64).1 35).1 58).2.1:=rfl;have tr:(b7 s).1.rel=(aG (aG s 64).1 35).2.1:=rfl;have ts:(b7 s).1.sub=(nA (aG (aG s 64).2.1 35).1 (aG (aG s 64).2.1 35).2.2).1:=rfl;have Y:(b7 s).1.who=(nA (aG (aG s 64).2.1 35).1 (aG (aG s 64).2.1 35).2.2).2.1:=rfl;have tzo:(b7 s).1.of=(aG (aG s 64).2.1 35).2.1:=rfl;have Q:s.size<=53->nL s=(#[an (aG (aG (aG s 64).1 35).1 58).1,an (aG (aG (aG s 64).1 35).1 58).2.1,an (aG (aG s 64).1 35).2.1,an (aG (aG (aG s 64).2.1 35).1 58).1,an (aG (aG (aG s 64).2.1 35).1 58).2.1,an (aG (aG s 64).2.1 35).2.1],true):=fun ar=>by
  unfold nL;rw [if_neg ai];unfold dM at h0;rw [h0]
 rw [tk,V,tr,ts,Y,tzo];have hs:(aG s 64).2.1.size<=26/\(nA (aG (aG s 64).2.1 35).1 (aG (aG s 64).2.1 35).2.2).1=(aG (aG (aG s 64).2.1 35).1 58).1/\(nA (aG (aG s 64).2.1 35).1 (aG (aG s 64).2.1 35).2.2).2.1=(aG (aG (aG s 64).2.1 35).1 58).2.1/\
   bB (aG s 64).2.1=bB (aG (aG (aG s 64).2.1 35).1 58).1++58::bB (aG (aG (aG s 64).2.1 35).1 58).2.1++(if (aG (aG s 64).2.1 35).2.1.size=0 then [] else 35::bB (aG (aG s 64).2.1 35).2.1):=by
  generalize (aG s 64).2.1=r at*;clear l1 l2 U tk V tr ts Y tzo Q af ag ah al am ap f1 f2 f3 h0 h1 I;unfold kq at h2;unfold nA;rw [fY]
  cases C:(aG r 35).2.2
  ·rw [C] at h2;simp only [bJ,aZ,lg,bO] at h2;obtain ⟨Z,ak⟩:=fX C;rw [Z] at h2;rw [Z,ak];simp only [nP,Bool.and_true]
   rcases h2 with h2|⟨h2,A⟩
   ·have D:=h2;unfold bT at h2;simp only [bO] at h2;have f:=iV h2.2;have ab:=dl h2.1;have ac:=dl h2.2;have ad:=hQ f;rw [D];refine ⟨ai,rfl,rfl,?_⟩;rw [if_pos bQ,dU];exact jk f
   have f:(aG r 58).2.2=true:=by
    cases f:(aG r 58).2.2
    ·rw [(fX f).2] at h2;exact absurd h2 ax
    rfl
   have ab:=dl A;have ad:=hQ f;have J:=Kh h2;have ac:(aG r 58).2.1.size=1:=by rw [J];rfl
   have D:bT r=false:=by unfold bT;rw [J];simp [show bC dL=false by decide]
   rw [D];refine ⟨ai,rfl,J.symm,?_⟩;rw [if_pos bQ,dU];exact jk f
  ·rw [C] at h2;simp only [if_true,bO] at h2;have D:=h2.1;obtain ⟨A,ae⟩:=h2;unfold bT at A;simp only [bO] at A;have f:=iV A.2;have ab:=dl A.1;have ac:=dl A.2;have ad:=hQ f;have au:=hQ C;have av:=dl ae;simp only [mA,pB,bJ,aZ];refine ⟨ai,rfl,rfl,?_⟩;rw [if_neg ai,<-jk f];exact jk C
 obtain ⟨k1,R,k3,aj⟩:=hs;refine ⟨ai,by rw [Q ai,R,k3],?_⟩;rw [R,k3,<-aj,<-U,<-l2];exact l1
def Qa(h:53<s.size):dM s=false:=by
 cases A:dM s
 ·rfl
 have:=(lJ A).1;omega
def Ki(s):(nL s).2=dM s:=by
 by_cases h:53<s.size
 ·rw [Qa h];unfold nL;rw [if_pos h]
 unfold nL dM;rw [if_neg h]
