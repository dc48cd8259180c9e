import Derived.Test.YtlbpnlngckgcbaaGreatDoorM12
import Derived.Test.YtlbpnlngckgcbaaGreatDoorM11
set_option linter.all false
set_option maxHeartbeats 4000000
set_option maxRecDepth 100000
namespace Go.Proofs.YtlbpnlngckgcbaaGreatDoor
open Go.RowKit Go.PlainAid Go.Proofs.Tryz
variable {aD br:Prop} {s:ae}
abbrev Pr(a0:ag):Array ag:=#[a0,a0,a0,a0,a0,a0]
abbrev Ps(a0:ag):Obj:=.cells #[a0,a0,a0,a0,a0,a0] 123
def Xc (h:aD:=by
 go_region
 all_goals (
  go_wp2;refine bF (v:=.tuple #[.agg #[aj kind,aj id,aj rel,aj sub,aj who,aj CC],.bool _]) (cf results60 _ _ w.heap.size _ 123 _ _ rfl rfl ?_ underlying123 rfl aM) rfl ?_
  ·exact ⟨_,(cZ R6),bL⟩
  ·exact ⟨rfl,(cq B6)⟩)):aD:=h
def nz(s:ae):Array ag×Bool:=
 if 53<s.size then (#[aj ⟨#[]⟩,aj ⟨#[]⟩,aj ⟨#[]⟩,aj ⟨#[]⟩,aj ⟨#[]⟩,aj ⟨#[]⟩],false) else
 (#[aj (aG (aG (aG s 64).1 35).1 58).1,aj (aG (aG (aG s 64).1 35).1 58).2.1,aj (aG (aG s 64).1 35).2.1,aj (aG (aG (aG s 64).2.1 35).1 58).1,aj (aG (aG (aG s 64).2.1 35).1 58).2.1,aj (aG (aG s 64).2.1 35).2.1],
  bS (aG (aG s 64).1 35).1&&kk (aG (aG s 64).2.1 35).1 (aG (aG s 64).2.1 35).2.1 (aG (aG s 64).2.1 35).2.2&&bC (aG (aG s 64).1 35).2.1)
def GH(s w)(hs:53<s.size):
  Calls prog 60 #[aj s] w fun e w'=>e=bj (.tuple #[.agg (nz s).1,.bool (nz s).2])/\an w w':=by
 unfold nz;rw [if_pos hs];have A:(53:Int)<(s.size:Int):=ai;go_enter func60,ntmps60;go_wp2;refine bF (v:=.tuple #[.agg #[aj ⟨#[]⟩,aj ⟨#[]⟩,aj ⟨#[]⟩,aj ⟨#[]⟩,aj ⟨#[]⟩,aj ⟨#[]⟩],.bool false]) (cf results60 _ _ w.heap.size _ 123 _ _ rfl rfl ?hB underlying123 rfl aM) rfl ?post
 case hB=>exact ⟨_,(cZ (aL.new w (Pr aj ⟨#[]⟩) 123)),bL⟩
 case post=>exact ⟨rfl,(cq (aA w.heap.size w))⟩
def Dn(Q:Gn)(s:ae)(w:af)(hs:s.size<=53)(A:kj w)(C:1<w.heap.size):
  Calls prog 60 #[aj s] w fun e w'=>e=bj (.tuple #[.agg (nz s).1,.bool (nz s).2])/\an w w':=by
 unfold nz;rw [if_neg ai];have aY:¬((53:Int)<(s.size:Int)):=ai;have am:an w (w.alloc (Ps aj ⟨#[]⟩)):=(aA _ w).alloc aH _;have az:=aL.new w (Pr aj ⟨#[]⟩) 123;have av:=yT s (w.alloc (Ps aj ⟨#[]⟩)) ai;have aV:=ej s 64;have ag:=fun w A=>Q s 64 w ai A
 generalize aG s 64=aJ at*;obtain ⟨l,r,ok⟩:=aJ;simp only at aV ag ⊢;have aW:=ej l 35;have ah:=fun w A=>Q l 35 w ai A
 generalize aG l 35=aK at*;obtain ⟨what,rel,aX⟩:=aK;simp only at aW ah ⊢;have Y:=fun w A C=>fD Q what w ai A C
 have Z:=fun w A C=>tN Q r w ai A C
 have aw:=fun w=>ig rel w fI
 generalize bS what=th at*;generalize aG what 58=aO at*;obtain ⟨kind,id,two⟩:=aO;generalize aG r 35=aP at*;obtain ⟨x,CC,aR⟩:=aP;simp only at Y Z ⊢;generalize kk x CC aR=aS at*;generalize aG x 58=aQ at*;obtain ⟨sub,who,bg⟩:=aQ;simp only at Y Z ⊢;generalize bC rel=fr at*;go_enter func60,ntmps60;go_wp2_with fail;refine av.mono ?_;rintro e w1 ⟨rfl,ap⟩;have U:=am.trans (ap.mono am.size);have aB:=az.below ap;go_wp2_with fail;refine (ag w1 (A.below U C)).mono ?_;rintro e aT ⟨rfl,ar⟩;have V:=U.trans (ar.mono U.size);have aE:=aB.below ar;go_wp2_with fail;refine (ah aT (A.below V C)).mono ?_;rintro e aU ⟨rfl,au⟩;have I:=V.trans (au.mono V.size);have R3:=aE.below au;have ax:=Y aU (A.below I C) (by have:=I.size;omega);go_wp2_with fail;refine ax.mono ?_;rintro e D ⟨rfl,R⟩;have J:=(I.trans (R.mono I.size)).alloc (I.trans (R.mono I.size)).size (cP aj kind aj id);have aF:=(R3.below R).alloc (cP aj kind aj id);have aI:=aL.new D #[aj kind,aj id] 98;have ay:=Z (D.alloc (cP aj kind aj id)) (A.below J C) (by have:=J.size;omega);have a4:=(R3.below R).lt;go_wp2_with fail;refine ay.mono ?_;rintro e w5 ⟨rfl,ac⟩;have ad:=J.trans (ac.mono J.size);have ak:=aF.below ac;go_wp2_with fail;have ab:=aL.new w5 #[aj sub,aj who,aj CC] 102;have al:=(aI.below ac).alloc (bT aj sub aj who aj CC);have R6:=ak.alloc (bT aj sub aj who aj CC);have B6:=ad.alloc ad.size (bT aj sub aj who aj CC);have aZ:=ak.lt;generalize (w5.alloc (bT aj sub aj who aj CC))=W at*;have n1:¬(w.heap.size=D.heap.size):=ai;have a3:¬(w.heap.size=w5.heap.size):=ai;have ba:=R6.fz;have a5:W.cell? (aN w.heap.size)=some (aj ⟨#[]⟩):=R6.cell rfl;have a6:W.cell? (aC w.heap.size 1)=some (aj ⟨#[]⟩):=R6.cell rfl;have a7:W.cell? (aC w.heap.size 2)=some (aj ⟨#[]⟩):=R6.cell rfl;have r3:W.cell? (aC w.heap.size 3)=some (aj ⟨#[]⟩):=R6.cell rfl;have a8:W.cell? (aC w.heap.size 4)=some (aj ⟨#[]⟩):=R6.cell rfl;have a9:W.cell? (aC w.heap.size 5)=some (aj ⟨#[]⟩):=R6.cell rfl;have t0:W.cell? (aN D.heap.size)=some (aj kind):=al.cell rfl;have t1:W.cell? (aC D.heap.size 1)=some (aj id):=al.cell rfl;have bb:W.cell? (aN w5.heap.size)=some (aj sub):=ab.cell rfl;have bc:W.cell? (aC w5.heap.size 1)=some (aj who):=ab.cell rfl;have be:W.cell? (aC w5.heap.size 2)=some (aj CC):=ab.cell rfl
 cases th
 ·exact Xc
 ·cases aS
  ·exact Xc
  go_region_held3 (fun w'=>w'.cell? (aN D.heap.size)=some (aj kind)/\w'.cell? (aC D.heap.size 1)=some (aj id)/\w'.cell? (aN w5.heap.size)=some (aj sub)/\w'.cell? (aC w5.heap.size 1)=some (aj who)/\w'.cell? (aC w5.heap.size 2)=some (aj CC)) (go_keep)
   ((go_at_call 93;refine (.slice _).mono ?_;rintro e bh ⟨rfl,rfl⟩))
  go_wp2;refine bF (v:=.tuple #[.agg #[aj kind,aj id,aj rel,aj sub,aj who,aj CC],.bool _]) (cf results60 _ _ w.heap.size _ 123 _ _ rfl rfl ?_ underlying123 rfl aM) rfl ?_
  ·exact ⟨_,(cZ R6),bL⟩
  exact ⟨rfl,(cq B6)⟩
abbrev kZ:=@Bool.or_eq_true
abbrev nC:=@Bool.not_false
abbrev rY:=@Bool.and_assoc
abbrev mm:=@Bool.not_true
def Vf:bC (mk [])=false:=by decide
def dn(h:bC s=true):0<s.size/\s.size<=8:=by
 unfold bC at h;simp only [bP,fF] at h;exact h.1
def fW{c}(h:(aG s c).2.2=false):(aG s c).1=s/\(aG s c).2.1=mk []:=by
 obtain ⟨h1,h2⟩:=ki c (bB s) h;unfold aG;simp only [h1,h2,cX,List.drop_nil,and_self]
def iS{c}(h:bC (aG s c).2.1=true):(aG s c).2.2=true:=by
 cases A:(aG s c).2.2
 ·rw [(fW A).2,Vf] at h
  cases h
 rfl
def jg{c}(h:(aG s c).2.2=true):bB s=bB (aG s c).1++c::bB (aG s c).2.1:=by
 have hc:(bB s).contains c=true:=h;have key:∀l:List UInt8,l.contains c=true->l=l.takeWhile (· != c)++c::(l.dropWhile (· != c)).drop 1:=by
  intro l
  induction l with
  |nil=>intro h;simp at h
  |cons b l ih=>
   intro h
   by_cases e:b=c
   ·subst e;simp
   have h2:(b != c)=true:=by simpa using e
   rw [iE,uR,if_pos h2,if_pos h2,List.cons_append,<-ih (by
    rw [List.contains_cons,kZ] at h
    rcases h with h|h
    ·exact absurd (dQ.1 h).symm e
    exact h)]
 exact key _ hc
def fX(s):(db s).2.2=bS s:=by
 unfold db bS;simp only
 cases h:bC (aG s 58).2.1
 ·simp
 rw [iS h];simp
def Yq(x CC al):((nj x al).2.2&&(!al||bC CC))=kk x CC al:=by
 unfold nj kk;rw [fX];have hs:eqs (aG x 58).2.1 jO=eqs (aG x 58).2.1 dJ:=rfl
 cases al
 ·cases D:bS x
  ·simp only [nC,Bool.and_self,if_true,Bool.true_or,Bool.and_true,bJ,a8,uS,hs]
   cases C:eqs (aG x 58).2.1 dJ
   ·simp
   have A:(aG x 58).2.2=true:=by
    cases A:(aG x 58).2.2
    ·rw [(fW A).2] at C;exact absurd C ay
    rfl
   rw [A];simp
  simp [fX,D]
 simp [fX]
def Px:kk (mk []) (mk []) false=false:=by decide
def Py(c):aG (mk []) c=(mk [],mk [],false):=rfl
def dK(s:ae):Bool:=bS (aG (aG s 64).1 35).1&&kk (aG (aG s 64).2.1 35).1 (aG (aG s 64).2.1 35).2.1 (aG (aG s 64).2.1 35).2.2&&bC (aG (aG s 64).1 35).2.1
def Pz(s):(b8 s).2=dK s:=by
 unfold b8 dK;simp only;rw [fX];have e:=Yq (aG (aG s 64).2.1 35).1 (aG (aG s 64).2.1 35).2.1 (aG (aG s 64).2.1 35).2.2;rw [rY,e]
 cases h1:(aG s 64).2.2
 ·rw [(fW h1).2,Py];simp [Px]
 cases h2:bC (aG (aG s 64).1 35).2.1
 ·simp
 rw [iS h2]
 cases bS (aG (aG s 64).1 35).1<;>simp
def hO{c}(h:(aG s c).2.2=true):s.size=(aG s c).1.size+1+(aG s c).2.1.size:=by
 have:=congrArg List.length (jg h);rw [bg,iK,bk,bk,bk] at this;omega
def JL{b}(h:eqs b dJ=true):b=dJ:=by
 unfold eqs at h;rw [dQ] at h;rw [<-cX b,h]
 rfl
def lB(h:dK s=true):s.size<=53/\(nz s)=(#[aj (b8 s).1.kind,aj (b8 s).1.id,aj (b8 s).1.rel,aj (b8 s).1.sub,aj (b8 s).1.who,aj (b8 s).1.of],true)/\
  bB s=bB (b8 s).1.kind++58::bB (b8 s).1.id++35::bB (b8 s).1.rel++64::(bB (b8 s).1.sub++58::bB (b8 s).1.who++(if (b8 s).1.of.size=0 then [] else 35::bB (b8 s).1.of)):=by
 have h0:=h;unfold dK at h;simp only [bP] at h;obtain ⟨⟨h1,h2⟩,I⟩:=h;have f1:(aG s 64).2.2=true:=by
  cases f:(aG s 64).2.2
  ·rw [(fW f).2,Py] at h2;exact absurd h2 (by rw [Px];simp)
  rfl
 have f2:=iS I;unfold bS at h1;simp only [bP] at h1;have f3:=iS h1.2;have am:=dn h1.1;have an:=dn h1.2;have ap:=dn I;have af:=hO f1;have ag:=hO f2;have ah:=hO f3;have l1:=jg f1;have l2:=jg f2;have U:=jg f3;have tk:(b8 s).1.kind=(aG (aG (aG s 64).1 35).1 58).1:=rfl;have V:(b8 s).1.id=(aG (aG (aG s 64).1 35).1 58).2.1:=rfl;have tr:(b8 s).1.rel=(aG (aG s 64).1 35).2.1:=rfl;have ts:(b8 s).1.sub=(nj (aG (aG s 64).2.1 35).1 (aG (aG s 64).2.1 35).2.2).1:=rfl;have Y:(b8 s).1.who=(nj (aG (aG s 64).2.1 35).1 (aG (aG s 64).2.1 35).2.2).2.1:=rfl;have tzo:(b8 s).1.of=(aG (aG s 64).2.1 35).2.1:=rfl;have Q:s.size<=53->nz s=(#[aj (aG (aG (aG s 64).1 35).1 58).1,aj (aG (aG (aG s 64).1 35).1 58).2.1,aj (aG (aG s 64).1 35).2.1,aj (aG (aG (aG s 64).2.1 35).1 58).1,aj (aG (aG (aG s 64).2.1 35).1 58).2.1,aj (aG (aG s 64).2.1 35).2.1],true):=fun ar=>by
  unfold nz;rw [if_neg ai];unfold dK at h0;rw [h0]
 rw [tk,V,tr,ts,Y,tzo];have hs:(aG s 64).2.1.size<=26/\(nj (aG (aG s 64).2.1 35).1 (aG (aG s 64).2.1 35).2.2).1=(aG (aG (aG s 64).2.1 35).1 58).1/\(nj (aG (aG s 64).2.1 35).1 (aG (aG s 64).2.1 35).2.2).2.1=(aG (aG (aG s 64).2.1 35).1 58).2.1/\
   bB (aG s 64).2.1=bB (aG (aG (aG s 64).2.1 35).1 58).1++58::bB (aG (aG (aG s 64).2.1 35).1 58).2.1++(if (aG (aG s 64).2.1 35).2.1.size=0 then [] else 35::bB (aG (aG s 64).2.1 35).2.1):=by
  generalize (aG s 64).2.1=r at*;clear l1 l2 U tk V tr ts Y tzo Q af ag ah am an ap f1 f2 f3 h0 h1 I;unfold kk at h2;unfold nj;rw [fX]
  cases C:(aG r 35).2.2
  ·rw [C] at h2;simp only [bJ,a8,kZ,bP] at h2;obtain ⟨Z,al⟩:=fW C;rw [Z] at h2;rw [Z,al];simp only [nC,Bool.and_true]
   rcases h2 with h2|⟨h2,A⟩
   ·have D:=h2;unfold bS at h2;simp only [bP] at h2;have f:=iS h2.2;have ab:=dn h2.1;have ac:=dn h2.2;have ad:=hO f;rw [D];refine ⟨ai,rfl,rfl,?_⟩;rw [if_pos bL,dS];exact jg f
   have f:(aG r 58).2.2=true:=by
    cases f:(aG r 58).2.2
    ·rw [(fW f).2] at h2;exact absurd h2 ay
    rfl
   have ab:=dn A;have ad:=hO f;have J:=JL h2;have ac:(aG r 58).2.1.size=1:=by rw [J];rfl
   have D:bS r=false:=by unfold bS;rw [J];simp [show bC dJ=false by decide]
   rw [D];refine ⟨ai,rfl,J.symm,?_⟩;rw [if_pos bL,dS];exact jg f
  ·rw [C] at h2;simp only [if_true,bP] at h2;have D:=h2.1;obtain ⟨A,ae⟩:=h2;unfold bS at A;simp only [bP] at A;have f:=iS A.2;have ab:=dn A.1;have ac:=dn A.2;have ad:=hO f;have au:=hO C;have av:=dn ae;simp only [mm,pe,bJ,a8];refine ⟨ai,rfl,rfl,?_⟩;rw [if_neg ai,<-jg f];exact jg C
 obtain ⟨k1,R,k3,ak⟩:=hs;refine ⟨ai,by rw [Q ai,R,k3],?_⟩;rw [R,k3,<-ak,<-U,<-l2];exact l1
def PA(h:53<s.size):dK s=false:=by
 cases A:dK s
 ·rfl
 have:=(lB A).1;omega
def JM(s):(nz s).2=dK s:=by
 by_cases h:53<s.size
 ·rw [PA h];unfold nz;rw [if_pos h]
 unfold nz dK;rw [if_neg h]
