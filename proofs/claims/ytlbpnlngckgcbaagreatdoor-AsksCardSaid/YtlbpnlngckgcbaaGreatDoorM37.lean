import Derived.Test.YtlbpnlngckgcbaaGreatDoorM34
import Derived.Deep.OwnRows
import Derived.Test.YtlbpnlngckgcbaaGreatDoorM32
import Derived.Test.YtlbpnlngckgcbaaGreatDoorTie
import Derived.Test.YtlbpnlngckgcbaaGreatDoorCards
set_option linter.all false
set_option maxHeartbeats 4000000
set_option maxRecDepth 100000
namespace Go.Proofs.YtlbpnlngckgcbaaGreatDoor
open Go.RowKit Go.PlainAid Go.Proofs.Tryz
section
variable {l:List ae} {x:ae} {k:Nat}
def mV(l:List ae)(x:ae):List ae:=if l.any (fun y=>eqs y x) then l else l++[x]
def We(A:k<l.length)(h:eqs l[k] x=true):mV l x=l:=by
 unfold mV;rw [if_pos (cX.2 ⟨l[k],bn A,h⟩)]
def Ms(h:∀j,(C:j<l.length)->eqs l[j] x=false):mV l x=l++[x]:=by
 unfold mV;rw [if_neg];intro e;obtain ⟨y,D,A⟩:=cX.1 e;obtain ⟨j,C,rfl⟩:=dk D;rw [h j C] at A
 cases A
def Er(base:Nat)(v:ag)(l:List ae)(x:ae)(w:af)(h:w.ownsRow base 9 1 v l.length (dF l))(aV:l.length<=10000)(V:base<=w.heap.size):
  Calls prog 140 #[v,.string x] w fun e w'=>∃v',e=.returned v'/\Below base w w'/\w'.ownsRow base 9 1 v' (mV l x).length (dF (mV l x)):=by
 obtain ⟨aP,aQ,rfl⟩:=ax h;have H:=ai h;obtain ⟨i0,aD,aL,aN,aO⟩:=bK Tryz.infoStr;have ad:=ai aD;have al:=ai aL;have am:=ai aN;have ap:=ai aO;obtain ⟨R,U⟩:∃R,R=mV l x:=⟨_,rfl⟩;rw [<-U];have Q:=ai U;go_enter func140,ntmps140;go_wp2_with fail
 go_loopw [5] (fun u wr=>∃k:Nat,k<=l.length/\u=.int .i64 k/\an w wr/\Hid (∀j,(h:j<l.length)->j<k->eqs l[j] x=false)) (fun u _=>l.length-(intOf u).toNat)
 case atStart=>exact ⟨0,aj,rfl,az _ _,ai (fun j h aw=>aj)⟩
 case round=>
  obtain ⟨k,Y,rfl,I,J⟩:=hrel;have HB:=ai I;have A:=ai (aB H.u I);have aW:=I.size
  by_cases Z:k<l.length
  ·have aG:(k:Int)<(l.length:Int):=by omega
   obtain ⟨g,c,e1,_,_⟩:=qR H.u aj;simp only [aI,bU] at e1;obtain ⟨rfl,rfl⟩:=e1;have c0:=jf A.u (aH Z)
   cases C:eqs l[k] x
   ·have ay:(l[k].toList==x.toList)=false:=by rw [<-aK];exact C
    have Vq:=ai (show ∀j,(h:j<l.length)->j<k+1->eqs l[j] x=false from fun j h aw=>by
     by_cases e:j=k
     ·subst e;exact C
     exact ak J j h aj)
    generalize l[k]=y at*;exact PF
   have ay:(l[k].toList==x.toList)=true:=by rw [<-aK];exact C
   have D:=ai (We Z C);generalize l[k]=y at*;go_wp2;go_ret;exact ⟨_,rfl,HB.u.mono V,by rw [Q.u,D.u];exact A.u⟩
  have aG:¬((k:Int)<(l.length:Int)):=aj;have D:=ai (Ms (fun j aF=>ak J j aF aj));have ah:=ai (by simp [dF]:dF (l++[x])=dF l++[.string x]);go_wp2_with (at_builtin;go_must (refine bI _ rfl _ _ 22 rfl base 9 i0 _ 1 16 underlying22 ad.u al.u am.u ap.u rfl au (.slice aP l.length aQ) l.length (dF l) rfl ?hown ⟨wr.heap.size,0,none⟩ 1 1 [.string x] rfl rfl ?hnews ?hone au ?h63 ?hbytes ?hbase (wr.heap.size+1) ?hH ?hrest))
  try (case hown=>exact A.u.alloc _)
  try (case hnews=>exact bu (B:=wr.heap.size) (cs:=#[.string x]) (t:=9) (fr:=(0,0)) (aE.new _ _ _))
  try (case hone=>first|rfl|(intro u ab;simp at ab;subst ab;rfl))
  case h63=>unfold maxLen;omega
  case hbytes=>omega
  try (case hbase=>first|omega|(simp;omega))
  try (case hH=>simp)
  case hrest=>
   intro g5 aT w5 aJ aC aR aS;have ar:=A.u.alloc (dn x);have ac:=ai (ct ((HB.u.mono V).alloc aj (dn x)) aC aM (fun k Y=>(ar.lt k Y).1));have av:=ai aJ;go_wp2;go_ret;exact ⟨_,rfl,ac.u,by rw [Q.u,D.u,aZ,ah.u];exact av.u⟩
end
variable {aA aU:Prop}
def Kd (h:aA:=by
 simp [aJ,he]):aA:=h
def xK(M:Ex->Nat->Prop)(L:Nat->Nat)(b:Nat):Nat->Ex->Prop
 |less,⟨n,some x,some y⟩=>xK M L b less x/\xK M L b (if n.kind=3\/n.kind=4 then less else 1) y
 |less,⟨n,none,r⟩=>∀d,M ⟨n,none,r⟩ d->L d+less<=b
 |_,⟨_,some _,none⟩=>True
section
variable {M:Ex->Nat->Prop}{L:Nat->Nat}{b:Nat}
def Ke:∀(rs:List (ae×Nat×Ex)) (less:Nat) (x:Ex),(∀r∈rs,r.1=sg 38\/r.1=sg 45\/r.1=sg 124)->(xK M L b less (ec x rs)↔xK M L b less x/\∀r∈rs,xK M L b (if minus ⟨bJ r.1,r.2.1,false⟩=true then 1 else less) r.2.2)
 | [],less,x,_=>by simp [ec]
 |(t,q,y)::rs,less,x,h=>by
  rw [ec,Ke rs less _ (fun r A=>h r (eO _ A))];have e1:xK M L b less (fU t q x y)↔xK M L b less x/\xK M L b (if minus ⟨bJ t,q,false⟩=true then 1 else less) y:=by
   simp only [fU,xK,qJ]
   rcases h (t,q,y) eb with e|e|e
   ·have e':t=sg 38:=e;subst e';rw [show eqs (sg 38) (sg 45)=false from au,show kindOf (sg 38)=4 from by decide];simp
   ·have e':t=sg 45:=e;subst e';rw [show eqs (sg 45) (sg 45)=true from au,show kindOf (sg 45)=5 from by decide];simp
   have e':t=sg 124:=e;subst e';rw [show eqs (sg 124) (sg 45)=false from au,show kindOf (sg 124)=3 from by decide];simp
  rw [e1];simp only [bi,forall_eq_or_imp];exact and_assoc
def Ii{c:Nat}(A:∀d,L d<=c):∀(x:Ex)(less:Nat),less<=1->xK M L (c+1) less x
 |⟨n,some x,some y⟩,less,h=>⟨Ii A x less h,Ii A y _ (by split<;>omega)⟩
 |⟨n,none,r⟩,less,h=>fun d _=>by have:=A d;omega
 |⟨_,some _,none⟩,less,h=>trivial
def uf:∀(x:Ex)(less:Nat),less<=1->xK M L b less x->∀e∈aJ x,∀d,M e d->L d+less<=b
 |⟨n,some x,some y⟩,less,hl,h,e,A,d,hd=>by
  simp only [aJ,aQ] at A
  rcases A with A|A
  ·exact uf x less hl h.1 e A d hd
  have:=uf y _ (by split<;>omega) h.2 e A d hd
  split at this<;>omega
 |⟨n,none,r⟩,less,hl,h,e,A,d,hd=>by
  simp only [aJ,aR] at A;subst A;exact h d hd
 |⟨_,some _,none⟩,less,hl,h,e,A,d,hd=>by simp [aJ] at A
def BE:∀(x:Ex)(less:Nat),less<=1->xK M L b less x->∀e∈xI x,∀d,M e d->L d+1<=b
 |⟨n,some x,some y⟩,less,hl,h,e,A,d,hd=>by
  unfold xI at A;obtain ⟨h1,h2⟩:=h
  split at A
  ·rename_i C;rw [if_pos C] at h2
   rcases aQ.1 A with A|A
   ·exact BE x less hl h1 e A d hd
   exact BE y less hl h2 e A d hd
  rename_i C;rw [if_neg C] at h2
  rcases aQ.1 A with A|A
  ·exact BE x less hl h1 e A d hd
  exact uf y 1 aj h2 e A d hd
 |⟨n,none,r⟩,less,hl,h,e,A,d,hd=>by simp [xI] at A
 |⟨_,some _,none⟩,less,hl,h,e,A,d,hd=>by simp [xI] at A
def Ij:∀(x:Ex),(∀e∈aJ x,∀d,M e d->L d+1<=b)->xK M L b 1 x
 |⟨n,some x,some y⟩,h=>by
  refine ⟨Ij x (fun e he=>h e Kd),?_⟩;rw [ite_self];exact Ij y (fun e he=>h e Kd)
 |⟨n,none,r⟩,h=>fun d A=>h _ (by simp [aJ]) d A
 |⟨_,some _,none⟩,h=>trivial
def Ik:∀(x:Ex),(∀e∈aJ x,∀d,M e d->L d<=b)->(∀e∈xI x,∀d,M e d->L d+1<=b)->xK M L b 0 x
 |⟨n,some x,some y⟩,h,hn=>by
  unfold xI at hn;refine ⟨Ik x (fun e he=>h e Kd) (fun e he=>hn e ?_),?_⟩
  ·split<;>exact mG _ he
  by_cases A:n.kind=3\/n.kind=4
  ·rw [if_pos A];exact Ik y (fun e he=>h e Kd) (fun e he=>hn e (by rw [if_pos A];exact pZ _ he))
  rw [if_neg A];exact Ij y (fun e he=>hn e (by rw [if_neg A];exact pZ _ he))
 |⟨n,none,r⟩,h,hn=>fun d C=>h _ (by simp [aJ]) d C
 |⟨_,some _,none⟩,h,hn=>trivial
end
def Il{f b}:∀{k:Nat},qU k f<=b↔∀j,j<k->f j<=b
 |0=>by simp [qU]
 |k+1=>by
  rw [qU]
  constructor
  ·intro h j A
   by_cases e:j=k
   ·subst e;omega
   exact Il.1 (show qU k f<=b by omega) j aj
  intro h;have h1:qU k f<=b:=Il.2 (fun j A=>h j aj);have:=h k aj;omega
section
variable (bm:Nat)(kv rv pv:ag)(kl:List (ae×Nat))(rl:List RV)(pl:List PV)(l:List PX)(tO:ag)(lv:List Nat)
def NdK(M:Ex->Nat->Prop)(X:RV)(body:Ex)(L:List Nat):Prop:=∀m e,m∈L->Tr pl 1 m e->e∈aJ body->∃nd:List Nat,nd.length<=2000000/\(∀d∈nd,d<lv.length)/\(∀d,d∈nd↔M e d)/\∀w,DM w bm kv rv pv kl rl pl l->Calls prog 231 #[.pointer (some ⟨bm,5,none⟩),.string X.kd,.int .i64 m,.int .i64 X.ex] w fun e w'=>∃sv,e=.returned sv/\an w w'/\w'.ownsRow w.heap.size 3 1 sv nd.length (nd.map fun n:Nat=> .int .i64 n)
def wY(M:Ex->Nat->Prop)(i:Nat)(X:RV)(body:Ex)(ac:List Nat)(au:rl[i]? =some X)(ar:NdK bm kv rv pv kl rl pl l lv M X body ac)(al:∀x∈lv,x<=10000):∀(f n:Nat)(x:Ex),Tr pl f n x->(aJ x).length<=1000->(∀e∈aJ x,e∈aJ body)->(∀m∈aF pl f n,m∈ac)->∀less,less<=1->∃C,Uq bm kv rv pv kl rl pl l tO lv i n less C/\∀b,C<=b↔xK M (fun d=>lv.getD d 0) b less x
 |0,_,_,h,_,_,_,_,_=>h.elim
 |f+1,n,x,⟨p,hp,h⟩,hl,ho,hL,less,hls=>by
  have aV:=wY M i X body ac au ar al f;have aG:∀d,lv.getD d 0<=10000:=fun d=>by
   rw [ef]
   cases Y:lv[d]? with
   |none=>simp
   |some x=>exact al x (bA Y)
  have leaf:¬(p.kind=4\/p.kind=5)->(∃m e,m=n/\Tr pl 1 m e/\x=e)->p.ps=[]->x.l=none->∃C,Uq bm kv rv pv kl rl pl l tO lv i n less C/\∀b,C<=b↔xK M (fun d=>lv.getD d 0) b less x:=by
   rintro V ⟨m,e,rfl,R,rfl⟩ aO ag;have aI:m∈ac:=hL m (by rw [aF];simp only [hp];rw [if_neg V];simp);have aK:x∈aJ x:=by
    obtain ⟨aX,aW,a0⟩:=x;simp only at ag;subst ag;simp [aJ]
   obtain ⟨nd,h1,h2,A,Q⟩:=ar m x aI R (ho x aK);refine ⟨_,Ih bm kv rv pv kl rl pl l tO lv i m less X p nd hp au aO h1 h2 al hls Q,fun b=> ?_⟩;rw [ZT];obtain ⟨aX,aW,a0⟩:=x;simp only at ag;subst ag;simp only [aN,forall_exists_index,and_imp,forall_apply_eq_imp_iff₂,xK];exact ⟨fun h d ai=>h d ((A d).2 ai),fun h d ai=>h d ((A d).1 ai)⟩
  have parts:∀(x0:Ex) (rs:List (ae×Nat×Ex)) (V:p.kind=4\/p.kind=5),cG (Tr pl f) p.ps (x0::rs.map fun r=>r.2.2)->x=ec x0 rs->(∀r∈rs,r.1=sg 38\/r.1=sg 45\/r.1=sg 124)->(p.kind=4->p.sg=⟨[],0,false⟩::rs.map (fun r=>⟨bJ r.1,r.2.1,false⟩))->(p.kind=5->∀r∈rs,r.1=sg 124)->∃C,Uq bm kv rv pv kl rl pl l tO lv i n less C/\∀b,C<=b↔xK M (fun d=>lv.getD d 0) b less x:=by
   intro x0 rs V Uo aS aR Q Z;subst aS;refine Tq ?_;intro hpl
   have hys:∀y∈x0::rs.map (fun r=>r.2.2),∀e∈aJ y,e∈aJ (ec x0 rs):=fun y hy e he=>by
    exact ZQ
   have hlen:∀y∈x0::rs.map (fun r=>r.2.2),(aJ y).length<=(aJ (ec x0 rs)).length:=fun y hy=>by
    exact zc99q
   have aM:p.ps.length<=1000:=by
    rw [hpl];refine aP (wX _ (fun y hy=> ?_)) ?_
    ·obtain ⟨m,_,D⟩:=cG.memr _ _ Uo y hy;exact BC pl f m y D
    rw [dR] at hl
    simpa using hl
   have aD:∃J:Nat->Nat,∀j,J j=if p.kind=4/\(∃t,p.sg[j]? =some t/\minus t=true) then 1 else less:=by
    exact ⟨fun j=>if p.kind=4/\(∃t,p.sg[j]? =some t/\minus t=true) then 1 else less,fun j=>rfl⟩
   obtain ⟨J,af⟩:=aD;have av:∀j,J j<=1:=fun j=>by rw [af];split<;>omega
   have aL:∀j,∃C:Nat,(∀m,p.ps[j]? =some m->Uq bm kv rv pv kl rl pl l tO lv i m (J j) C)/\C<=100000/\∀y,(x0::rs.map fun r=>r.2.2)[j]? =some y->∀b,C<=b↔xK M (fun d=>lv.getD d 0) b (J j) y:=fun j=>by
    cases Y:p.ps[j]? with
    |none=>
     refine ⟨0,fun m D=>(by cases D),aj,fun y hy=> ?_⟩;have:=(br.1 hy).1;rw [<-hpl] at this;rw [aH this] at Y
     cases Y
    |some m=>
     obtain ⟨y,hy,R⟩:=ue Uo Y;have ax:=bA hy;obtain ⟨C,a1,az⟩:=aV m y R (aP (hlen y ax) hl) (fun e he=>ho e (hys y ax e he)) (fun ay ab=>hL ay (by rw [aF];simp only [hp];rw [if_pos V];exact bS.2 ⟨m,bA Y,ab⟩)) (J j) (av j);refine ⟨C,fun ay ab=>(by cases ab;exact a1),aP ((az 10001).2 (Ii aG y _ (av j))) aj,fun a4 aw=> ?_⟩;rw [hy] at aw
     cases aw
     exact az
   obtain ⟨aB,am⟩:=Classical.axiomOfChoice aL;refine ⟨_,EI bm kv rv pv kl rl pl l tO lv i n less p aB J hp V aM (by rw [hpl];simp) (fun e=>by rw [hpl,Q e];simp) af (fun j m D=>(am j).1 m D) (fun j=>(am j).2.1) hls,fun b=> ?_⟩;rw [Il,Ke rs less x0 aR];have key:∀j y,(x0::rs.map fun r=>r.2.2)[j]? =some y->(aB j<=b↔xK M (fun d=>lv.getD d 0) b (J j) y):=fun j y hy=>(am j).2.2 y hy b
   have k0:J 0=less:=by
    rw [af,if_neg];rintro ⟨e,t,R,D⟩;rw [Q e] at R
    cases R
    rw [zF] at D
    cases D
   have ks:∀j r,rs[j]? =some r->J (j+1)=if minus ⟨bJ r.1,r.2.1,false⟩=true then 1 else less:=fun j r I=>by
    rw [af]
    rcases V with an|aC
    ·have:p.sg[j+1]? =some ⟨bJ r.1,r.2.1,false⟩:=by rw [Q an,Uzb,eo,I];rfl
     by_cases D:minus ⟨bJ r.1,r.2.1,false⟩=true
     ·rw [if_pos ⟨an,_,this,D⟩,if_pos D]
     rw [if_neg D,if_neg];rintro ⟨_,t,R,ab⟩;rw [this] at R
     cases R
     exact D ab
    have aE:=Z aC r (bA I);rw [if_neg (fun e=>by have:=e.1;omega),qJ,aE,show eqs (sg 124) (sg 45)=false from by decide];simp
   constructor
   ·intro h;refine ⟨?_,fun r I=> ?_⟩
    ·have:=(key 0 x0 rfl).1 (h 0 (by rw [hpl];simp));rw [k0] at this;exact this
    obtain ⟨j,U⟩:=h8.1 I;have:=(key (j+1) r.2.2 (by rw [Uzb,eo,U];rfl)).1 (h (j+1) (by have:=(br.1 U).1;rw [hpl];simp;omega));rw [ks j r U] at this;exact this
   rintro ⟨h0,I⟩ j U
   rcases j with _|j
   ·refine (key 0 x0 rfl).2 ?_;rw [k0];exact h0
   have ak:j<rs.length:=by rw [hpl] at U;simp at U;omega
   refine (key (j+1) rs[j].2.2 (by rw [Uzb,eo,aH ak];rfl)).2 ?_;rw [ks j rs[j] (aH ak)];exact I _ (bn ak)
  rcases h with ⟨h1,h2,A⟩|⟨h1,h0,h2,A⟩|⟨h1,h0,h2,A⟩|⟨h1,h0,aY,ns,x0,rs,A,Q,Z,ad,⟨ap,a3⟩,ah⟩|⟨h1,h0,a2,aY,ns,x0,rs,A,Q,Z,ad,ap,ah⟩
  ·exact leaf aj ⟨n,x,rfl,⟨p,hp,.inl ⟨h1,h2,A⟩⟩,rfl⟩ h2.1 (by rw [A])
  ·exact leaf aj ⟨n,x,rfl,⟨p,hp,.inr (.inl ⟨h1,h0,h2,A⟩)⟩,rfl⟩ h2.1 (by rw [A])
  ·exact leaf aj ⟨n,x,rfl,⟨p,hp,.inr (.inr (.inl ⟨h1,h0,h2,A⟩))⟩,rfl⟩ h2.1 (by rw [A])
  ·exact parts x0 rs (.inl h1) (by rw [A];exact ⟨Q,Z⟩) ah (fun r I=>(ap r I).elim .inl (fun e=> .inr (.inl e))) (fun _=>ad) (fun e=>aj)
  exact parts x0 rs (.inr h1) (by rw [A];exact ⟨Q,Z⟩) ah (fun r I=> .inr (.inr (ad r I))) (fun e=>aj) (fun _=>ad)
end
def zJ{f g:Nat->Nat}:∀(l:List Nat),(∀x∈l,f x<=g x)->(l.map f).sum<=(l.map g).sum
 | [],_=>ar
 |x::l,h=>by
  have:=zJ l (fun y A=>h y (eO _ A));have:=h x eb;exact A8
def zK{f g:Nat->Nat}:∀(l:List Nat)(x:Nat),(∀x∈l,f x<=g x)->x∈l->f x<g x->(l.map f).sum<(l.map g).sum
 | [],x,_,A,_=>by simp at A
 |y::l,x,h,A,hlt=>by
  simp only [cA,List.sum_cons]
  rcases bi.1 A with rfl|A
  ·have:=zJ l (fun z C=>h z (eO _ C));omega
  have:=zK l x (fun z C=>h z (eO _ C)) A hlt;have:=h y eb;omega
def ZU(ρ:Nat->Nat)(h:Nat)(lv:List Nat):Nat:=((List.range h).map fun i=>ρ i-lv.getD i 0).sum
variable {i:Nat}
def wZ{lv:List Nat}{v:Nat}(hi:i<lv.length)(d:Nat):(lv.set i v).getD d 0=if d=i then v else lv.getD d 0:=by
 rw [ef,ef,List.getElem?_set]
 by_cases e:i=d
 ·subst e;rw [if_pos rfl,if_pos rfl,if_pos hi]
  rfl
 rw [if_neg e,if_neg (fun e'=>e e'.symm)]
variable {w:af} {g:Nat} {xs:List ag} {e:TypeId}
def xa(h:aE w g xs.toArray e)(A:xs.length<=maxLen):w.ownsRow 0 e 1 (.slice (some ⟨g,0,none⟩) xs.length xs.length) xs.length xs:=
 ⟨ar,.inr ⟨g,xs.length,xs.toArray,rfl,gH _,h,bY _,A,ar,ar⟩⟩
def BX(l:List Nat):List ag:=l.map fun n:Nat=> .int .i64 n
structure ZV(ρ:Nat->Nat)(R:Nat)(Bd:List Nat->Nat->Nat->Prop)(Ur lv:List Nat)(again:Bool)(i:Nat):Prop where
 len:lv.length=R
 le:∀j,lv.getD j 0<=ρ j
 no:again=false->lv=Ur/\∀j,j<i->Bd Ur j (Ur.getD j 0)
 yes:again=true->ZU ρ R lv<ZU ρ R Ur
variable {again:Bool}
def ZV.same{ρ R Bd Ur lv}(h:ZV ρ R Bd Ur lv again i)(A:Bd lv i (lv.getD i 0)):ZV ρ R Bd Ur lv again (i+1):=
 ⟨h.len,h.le,fun e=>⟨(h.no e).1,fun j C=>by
  by_cases e':j=i
  ·subst e';rw [(h.no e).1] at A;exact A
  exact (h.no e).2 j aj⟩,h.yes⟩
def ZV.up{ρ R Bd Ur lv again i v}(h:ZV ρ R Bd Ur lv again i)(hi:i<R)(I:lv.getD i 0<v)(D:v<=ρ i):ZV ρ R Bd Ur (lv.set i v) true (i+1):=by
 have A:i<lv.length:=by rw [h.len];exact hi
 refine ⟨by rw [fF];exact h.len,fun j=> ?_,fun e=>Bool.noConfusion e,fun _=> ?_⟩
 ·rw [wZ A]
  split
  ·rename_i e;subst e;exact D
  exact h.le j
 have h1:ZU ρ R (lv.set i v)<ZU ρ R lv:=zK _ i (fun j _=>by
  rw [wZ A]
  split
  ·rename_i e;subst e;omega
  ·omega) (List.mem_range.2 hi) (by
  rw [wZ A,if_pos rfl];omega)
 cases C:again
 ·rw [(h.no C).1] at h1 ⊢;exact h1
 exact Nat.lt_trans h1 (h.yes C)
def ZW(ρ:Nat->Nat)(A:List Nat->Nat->Nat->Prop)(h:Nat)(w:af)(e:Ending)(w':af):Prop:=∃b lv,e=.returned (.slice (some ⟨b,0,none⟩) h h)/\an w w'/\lv.length=h/\w'.ownsRow 0 3 1 (.slice (some ⟨b,0,none⟩) h h) h (BX lv)/\(∀j,lv.getD j 0<=ρ j)/\∀j,j<h->A lv j (lv.getD j 0)
section
variable (bm:Nat)(kv rv pv:ag)(kl:List (ae×Nat))(rl:List RV)(pl:List PV)(l:List PX)
def Im(I:Nat->Nat)(U:List Nat->Nat->Nat->Prop)(a1:∀j,I j<=10000)(aP:∀(tO:ag)(lv:List Nat)(i:Nat)(X:RV),lv.length=rl.length->(∀j,lv.getD j 0<=I j)->rl[i]? =some X->∃D,Uq bm kv rv pv kl rl pl l tO lv i X.ex 0 D/\D<=I i/\∀b,D<=b↔U lv i b)(w:af)(h:DM w bm kv rv pv kl rl pl l)(h0:0<rl.length):
  Calls prog 198 #[.pointer (some ⟨bm,5,none⟩)] w (ZW I U rl.length w):=by
 obtain ⟨a9,rc,a0⟩:=ax h.rt;have ah:=h.c6;rw [a0] at ah;have a4:=h.rn;have a3:∀w,(Instr.makeSlice 29 (.int .i64 (rl.length:Int)) (.int .i64 (rl.length:Int))).run prog w=.ok (.slice (some ⟨w.heap.size,0,none⟩) rl.length rl.length) (w.alloc (.cells (madeCells #[.int .i64 0] rl.length) 3)):=fun w=>run_make_row' 29 3 (.int .i64 0) 8 underlying29 Tryz.infoInt rfl .i64 .i64 rl.length aj aj w
 have aI:=ai (show aE (w.alloc (.cells (madeCells #[.int .i64 0] rl.length) 3)) w.heap.size (BX (List.replicate rl.length 0)).toArray 3 from by
  have e:madeCells #[.int .i64 0] rl.length=(BX (List.replicate rl.length 0)).toArray:=by
   apply Array.ext_getElem?;intro i
   by_cases hi:i<rl.length
   ·simp [madeCells,BX,hi,Nat.mod_one]
   simp [madeCells,BX,hi]
  rw [e];exact aE.new w _ _)
 have aG:=ai ((az w.heap.size w).alloc aD (.cells (madeCells #[.int .i64 0] rl.length) 3));have ab:=ai h;have aJ:=ai aP;have a2:=ai a1;go_enter func198,ntmps198;go_wp2_with fail;generalize w.alloc (.cells (madeCells #[.int .i64 0] rl.length) 3)=W at*
 go_loopg [4] (2*ZU I rl.length (List.replicate rl.length 0)+2) (fun k al wr=>∃(b:Bool)(lv:List Nat),al=.bool b/\an w wr/\aE wr w.heap.size (BX lv).toArray 3/\Hid (lv.length=rl.length/\(∀j,lv.getD j 0<=I j)/\(b=false->∀j,j<rl.length->U lv j (lv.getD j 0))/\2*ZU I rl.length lv+(if b then 1 else 0)<k))
 case atStart=>exact ⟨true,_,rfl,aG.u,aI.u,ai ⟨ar,(fun j=>by
  rw [ef,List.getElem?_replicate]
  split<;>simp),(fun e=>by cases e),ar⟩⟩
 case round=>
  obtain ⟨b,lv,rfl,Q,R,J⟩:=hrel
  cases b with
  |false=>
   have Y:=ai Q;have ac:=ai (xa R (by unfold BX maxLen;rw [bX,(ak J).1];omega));go_wp2;go_ret;refine ⟨w.heap.size,lv,rfl,Y.u,(ak J).1,?_,(ak J).2.1,(ak J).2.2.1 (by first|rfl|trivial)⟩;have:=ac.u;have e:(BX lv).length=rl.length:=by unfold BX;rw [bX,(ak J).1]
   rw [e] at this;exact this
  |true=>
   have Y:=ai Q;have ac:=ai R;go_wp2_with fail
   go_loopw [4,5] (fun al am aC=>∃(b:Bool)(i:Nat)(A:List Nat),al=.bool b/\am=.int .i64 i/\i<=rl.length/\an w aC/\aE aC w.heap.size (BX A).toArray 3/\Hid (ZV I rl.length U lv A b i)) (fun _ am _=>rl.length-(intOf am).toNat)
   case atStart=>exact ⟨false,0,lv,rfl,rfl,aj,Y.u,ac.u,ai ⟨(ak J).1,(ak J).2.1,(fun _=>⟨rfl,fun j ay=>aj⟩),(fun e=>by cases e)⟩⟩
   case round=>
    obtain ⟨b,i,A,rfl,rfl,hi,Q,R,C⟩:=hrel;have Z:=ai Q;have au:=ai R
    by_cases ae:i<rl.length
    ·have aY:(i:Int)<(rl.length:Int):=by omega
     obtain ⟨X,av⟩:∃X,rl[i]? =some X:=⟨_,aH ae⟩;obtain ⟨D,aQ,aR,aS⟩:=aJ.u (.slice (some ⟨w.heap.size,0,none⟩) rl.length rl.length) A i X (ak C).len (ak C).le av;have aB:=xa R (by unfold BX maxLen;rw [bX,(ak C).len];omega);have aO:(BX A).length=rl.length:=by unfold BX;rw [bX,(ak C).len]
     rw [aO] at aB;have aF:=ai (aQ wr (ab.u.below Q) (by rw [(ak C).len];exact aB));obtain ⟨ba,bb,aZ,a6,a7,a8,r3⟩:=(ab.u.below Q).rat i X av;have ah:=(ab.u.below Q).c6;rw [aZ] at ah;have aL:=ai aS;have aK:=ai aR;go_wp2_with fail;refine aF.u.mono ?_;rintro e w1 ⟨rfl,aw⟩;have ap:=ai (Z.u.trans (aw.mono Z.u.size));have V:=ai (au.u.below aw);have aX:i<A.length:=by rw [(ak C).len];exact ae
     have a5:w1.cell? ⟨w.heap.size,i,none⟩=some (.int .i64 (A.getD i 0:Nat)):=V.u.cell (by
      unfold BX;simp [ef,aX])
     have fz:=V.u.fz;have aN:=ai (show aE (w1.setCell ⟨w.heap.size,i,none⟩ (.int .i64 (D:Nat))) w.heap.size (BX (A.set i D)).toArray 3 from by
      have:=V.u.set i (.int .i64 (D:Nat));unfold BX at this ⊢;rw [pO]
      simpa using this)
     have aM:=ai (ap.u.setCell (p:=⟨w.heap.size,i,none⟩) aD (.int .i64 (D:Nat)))
     by_cases aW:A.getD i 0<D
     ·have ad:=ai ((ak C).up ae aW aK.u);have aV:((A.getD i 0:Nat):Int)<(D:Int):=aj;generalize A.getD i 0=lo at*;go_wp2_with fail;exact ⟨⟨true,i+1,_,rfl,by go_num,aj,aM.u,aN.u,ad⟩,by simp [intOf];omega⟩
     have ad:=ai ((ak C).same ((aL.u _).1 aj));have aV:¬(((A.getD i 0:Nat):Int)<(D:Int)):=aj;generalize A.getD i 0=lo at*;go_wp2_with fail;exact ⟨⟨b,i+1,A,rfl,by go_num,aj,ap.u,V.u,ad⟩,by simp [intOf];omega⟩
    obtain rfl:i=rl.length:=aj;have aY:¬((rl.length:Int)<(rl.length:Int)):=aj;go_wp2
    go_roundg (2*ZU I rl.length A+(if b then 1 else 0)+1)
    case measure=>
     have h1:=(ak J).2.2.2;have h2:=ak C
     cases b with
     |false=>simp at h1 ⊢;rw [(h2.no rfl).1];omega
     |true=>have:=h2.yes rfl;simp at h1 ⊢;omega
    case rel=>exact ⟨b,A,rfl,Z.u,au.u,ai ⟨(ak C).len,(ak C).le,(fun e j ay=>by rw [((ak C).no e).1];exact ((ak C).no e).2 j ay),aj⟩⟩
end
def Tryz.info2s:(Tryz.prog.info? 382).map (fun i=>(i.zero,i.size,i.bytes))=some (some (.agg #[.string ⟨#[]⟩,.string ⟨#[]⟩]),2,32):=by kernel_rfl
def eG(th:List (ae×ae))(x n:ae):List (ae×ae):=if wR th x n<0 then th++[(x,n)] else th
variable {x:ae}
def iq{th n}:(wR th x n= -1/\(x,n)∉th)\/∃m:Nat,wR th x n=m/\th[m]? =some (x,n):=by
 unfold wR
 cases A:th.findIdx? (fun p=>eqs p.1 x&&eqs p.2 n) with
 |none=>
  rw [o6] at A;refine .inl ⟨rfl,fun C=> ?_⟩;have:=A _ C;rw [(bo _ _).2 rfl,(bo _ _).2 rfl] at this
  cases this
 |some i=>
  obtain ⟨hi,h,_⟩:=kS.1 A;rw [bM,bo,bo] at h;exact .inr ⟨i,rfl,by rw [aH hi];congr 1;exact Prod.ext h.1 h.2⟩
def lT{th n}:(x,n)∈eG th x n/\∀p∈th,p∈eG th x n:=by
 unfold eG
 rcases iq (th:=th) (x:=x) (n:=n) with ⟨e,_⟩|⟨m,e,C⟩
 ·rw [if_pos aj];exact ⟨ar,fun p A=>mG _ A⟩
 rw [if_neg aj];exact ⟨bA C,fun p A=>A⟩
def oa{th n}:(eG th x n).length<=th.length+1:=by
 unfold eG
 split<;>simp
def BF{th n}(h:th.Nodup):(eG th x n).Nodup:=by
 unfold eG
 rcases iq (th:=th) (x:=x) (n:=n) with ⟨e,C⟩|⟨m,e,C⟩
 ·rw [if_pos aj,sf];exact ⟨h,ar,fun a ha b A e=>by rw [aR] at A;subst A;subst e;exact C ha⟩
 rw [if_neg aj];exact h
def TA(B b:Nat)(c0 c1 c2 h:ag)(th:List (ae×ae))(w:af)(e:Ending)(w':af):Prop:=e=.returned (.tuple #[])/\∃gv,aE w' b #[c0,c1,c2,gv,h] 351/\w'.ownsRow B 382 2 gv th.length (th.flatMap Mx)/\Below B w w'
def xb(B b c0 c1 c2 c4 gv th x n w)(D:aE w b #[c0,c1,c2,gv,c4] 351)(Q:w.ownsRow B 382 2 gv th.length (th.flatMap Mx))(aD:th.length<=900)(ar:B<=b):
  Calls prog 197 #[.pointer (some ⟨b,0,none⟩),.string x,.string n] w (TA B b c0 c1 c2 c4 (eG th x n) w):=by
 have C:=ai (wS b c0 c1 c2 c4 gv th x n w D (bg Q (gH _)) aj);obtain ⟨ga,gc,rfl⟩:=ax Q;have aC:w.cell? ⟨b,3,none⟩=some (.slice ga th.length gc):=D.cell rfl;have U:=ai Q;have ae:=ai D;have aF:=D.lt;have ay:=ai (iq (th:=th) (x:=x) (n:=n));have J:=ai (show eG th x n=if wR th x n<0 then th++[(x,n)] else th from rfl);generalize eG th x n=Y at*;generalize wR th x n=tn at*;clear Q D;go_enter func197,ntmps197;go_wp2_with fail;refine C.u.mono ?_;rintro e w1 ⟨rfl,ak⟩;rw [ak];clear ak w1 C
 by_cases af:tn<0
 ·have R:Y=th++[(x,n)]:=by rw [J.u,if_pos af]
  have an:=ai R;obtain ⟨i0,hi0,hz0,hz1,hz2⟩:=bK Tryz.info2s;refine AE ?_;intro am Vm Vn Vo;clear hi0 hz0 hz1 hz2 R J;go_wp2_with (at_builtin;go_must (refine bI _ rfl _ _ 348 rfl B 382 i0 _ 2 32 underlying348 am.u Vm.u Vn.u Vo.u rfl au (.slice ga th.length gc) th.length (th.flatMap Mx) rfl ?lA ⟨w.heap.size,0,none⟩ 1 1 [.string x,.string n] rfl rfl ?gK ?jX au ?pi ?eZ ?gL (w.heap.size+1) ?Fo ?jn))
  case lA=>exact U.u.alloc _
  case gK=>exact bu (B:=w.heap.size) (cs:=#[.string x,.string n]) (t:=382) (fr:=(0,0)) (aE.new _ _ _)
  case jX=>
   intro u ah;simp at ah
   rcases ah with rfl|rfl<;>rfl
  case pi=>unfold maxLen;omega
  case eZ=>omega
  case gL=>simp;omega
  case Fo=>simp
  case jn=>
   intro ab Z ad ag ac ap av;have V:=U.u.alloc (.cells #[.string x,.string n] 382);have I:=ae.u.alloc (.cells #[.string x,.string n] 382);have A:aE ad b #[c0,c1,c2,.slice ga th.length gc,c4] 351:=(ac.block b I.lt (own_ne V I au)).trans I;have aB:=A.fz;have k3:ad.cell? ⟨b,3,none⟩=some (.slice ga th.length gc):=A.cell rfl;have al:=ai (show TA B b c0 c1 c2 c4 Y w (.returned (.tuple #[])) (ad.setCell ⟨b,3,none⟩ (.slice (some ⟨ab,0,none⟩) (th.length+1) Z)) from by
    refine ⟨rfl,.slice (some ⟨ab,0,none⟩) (th.length+1) Z,A.set 3 _,?_,?_⟩
    ·rw [an.u];have:=mJ ag A au 3 (.slice (some ⟨ab,0,none⟩) (th.length+1) Z)
     simpa [Mx] using this
    exact (ct ((az B w).alloc aj (.cells #[.string x,.string n] 382)) ac aM (fun q aw=>(V.lt q aw).1)).setCell (p:=⟨b,3,none⟩) ar _)
   clear V I ag ac ap av A;go_wp2;go_end0;exact al.u
 ·have R:Y=th:=by rw [J.u,if_neg af]
  subst R;clear J;go_wp2;go_end0;exact ⟨rfl,_,ae.u,U.u,az _ _⟩
variable {aA aU:Prop}
abbrev mK(a0:Option Addr)(a1:Nat):Obj:=.cells #[.slice a0 a1 a1] 353
abbrev sO(a0:Int)(a1:ae):Obj:=.cells #[.int .i64 a0,.string a1] 270
abbrev Io(a0:Option Addr)(a1:ae)(a2:ae):Obj:=.cells #[.pointer a0,.string a1,.string a2,.slice none 0 0,.slice none 0 0] 351
def qa(th:List (ae×ae))(ss:List ae):List (ae×ae):=ss.foldl (fun th s=>eG (eG th (tt s).kind (tt s).id) (tt s).sub (tt s).who) th
def BG:∀(ss:List ae) (th:List (ae×ae)),(qa th ss).length<=th.length+2*ss.length
 | [],th=>by simp [qa]
 |s::ss,th=>by
  have:=BG ss (eG (eG th (tt s).kind (tt s).id) (tt s).sub (tt s).who);have h1:=oa (th:=th) (x:=(tt s).kind) (n:=(tt s).id);have h2:=oa (th:=eG th (tt s).kind (tt s).id) (x:=(tt s).sub) (n:=(tt s).who);unfold qa at this ⊢;rw [nJ];simp only [List.length_cons];omega
def TC(th ss s):qa th (ss++[s])=eG (eG (qa th ss) (tt s).kind (tt s).id) (tt s).sub (tt s).who:=by simp [qa]
structure GwI(B:Nat)(W wr:af)(b y:Nat)(kd who:ae)(yv:ag)(th:List (ae×ae)):Prop where
 ex:∃gv,aE wr b #[.pointer (some ⟨y,0,none⟩),.string kd,.string who,gv,yv] 351/\wr.ownsRow B 382 2 gv th.length (th.flatMap Mx)
 low:Below B W wr
def Tryz.infoBo:(Tryz.prog.info? 4).map (fun i=>(i.zero,i.size,i.bytes))=some (some (.bool false),1,1):=by kernel_rfl
def Tryz.infoBs:(Tryz.prog.info? 353).map (fun i=>(i.zero,i.size,i.bytes))=some (some (.slice none 0 0),1,24):=by kernel_rfl
def YwI(B:Nat)(W wr:af)(b y:Nat)(kd who:ae)(th:List (ae×ae))(r:Nat):Prop:=∃(gv yv:ag)(bs:List Nat),aE wr b #[.pointer (some ⟨y,0,none⟩),.string kd,.string who,gv,yv] 351/\wr.ownsRow B 382 2 gv th.length (th.flatMap Mx)/\wr.ownsRow B 353 1 yv r (bs.map fun q=> .slice (some ⟨q,0,none⟩) th.length th.length)/\bs.length=r/\(∀q∈bs,B<=q/\xJ wr q th.length (fun _=>false) 4)/\bs.Nodup/\Below B W wr
variable {B b g5 aT:Nat} {W w5:af} {kd:ae} {gv:ag}
def TD{C:af}{y:Nat}{who:ae}{th:List (ae×ae)}{r:Nat}{yv:ag}{bs:List Nat}{mc:Array ag}(ap:aE C b #[.pointer (some ⟨y,0,none⟩),.string kd,.string who,gv,yv] 351)(Y:C.ownsRow B 382 2 gv th.length (th.flatMap Mx))(aH:C.ownsRow B 353 1 yv r (bs.map fun q=> .slice (some ⟨q,0,none⟩) th.length th.length))(av:bs.length=r)(ah:∀q∈bs,B<=q/\xJ C q th.length (fun _=>false) 4)(aF:bs.Nodup)(ay:Below B W C)(an:B<=b)(ac:B<=C.heap.size)(aC:madeCells #[.bool false] th.length=mc)
  (Q:((C.alloc (.cells mc 4)).alloc (mK (some ⟨C.heap.size,0,none⟩) th.length)).drew.grownBy w5 yv.ownBlock) (aG:w5.ownsRow B 353 1 (.slice (some ⟨g5,0,none⟩) (r+1) aT) (r+1) ((bs.map fun q=> .slice (some ⟨q,0,none⟩) th.length th.length)++[.slice (some ⟨C.heap.size,0,none⟩) th.length th.length])):
  YwI B W (w5.setCell ⟨b,4,none⟩ (.slice (some ⟨g5,0,none⟩) (r+1) aT)) b y kd who th (r+1):=by
 have A:=((az C.heap.size C).alloc aD (.cells mc 4)).alloc ar (mK (some ⟨C.heap.size,0,none⟩) th.length) |>.drew;have I:=bO ((aH.alloc (.cells mc 4)).alloc (mK (some ⟨C.heap.size,0,none⟩) th.length));have R:=ap.below A;have J:aE w5 b _ 351:=(Q.block b R.lt (own_ne I R au)).trans R;have U:aE ((C.alloc (.cells mc 4)).alloc (mK (some ⟨C.heap.size,0,none⟩) th.length)).drew C.heap.size mc 4:=((aE.new C mc 4).alloc _).drew;have Z:aE w5 C.heap.size mc 4:=(Q.block _ U.lt (own_ne I U au)).trans U;have e:mc=((Ie th.length (fun _=>false)).map Value.bool).toArray:=by
  rw [<-aC];apply Array.ext_getElem?;intro i
  by_cases hi:i<th.length
  ·simp [madeCells,Ie,hi,Nat.mod_one]
  simp [madeCells,Ie,hi]
 have ak:Below B C w5:=ct (A.mono ac) Q aM (fun q D=>(I.lt q D).1);refine ⟨gv,.slice (some ⟨g5,0,none⟩) (r+1) aT,bs++[C.heap.size],J.set 4 _,?_,?_,by simp [av],fun q D=> ?_,?_,(ay.trans ak).setCell (p:=⟨b,4,none⟩) an _⟩
 ·exact mJ (cC (aB Y A) (fun g cs f aw ax=>Q.block g (lt_of_some ax) (fun e=>by
   obtain ⟨m,c,e1⟩:=oA (aB Y A) aw;obtain ⟨aL,aI,am⟩:=oA I e.symm;have ai:=aB Y A;rw [e1] at ai;obtain ⟨aJ,b1,_⟩:=dx ai;have aj:=I;rw [am] at aj;obtain ⟨aK,al,_⟩:=dx aj;exact sM b1 al au rfl))) J au 4 _
 ·rw [cO];exact mJ aG J au 4 _
 ·rcases aQ.1 D with D|D
  ·obtain ⟨h1,h2⟩:=ah q D;have V:aE _ q _ 4:=(h2.below A);have ab:aE w5 q _ 4:=(Q.block q V.lt (own_ne I V au)).trans V;exact ⟨h1,aE.other ab (sM ab J au) _⟩
  rw [aR] at D;subst D;refine ⟨ac,aE.other (by rw [<-e];exact Z:aE w5 C.heap.size ((Ie th.length (fun _=>false)).map Value.bool).toArray 4) (sM Z J au) _⟩
 ·rw [sf];refine ⟨aF,ar,fun a ha b ad e=> ?_⟩;rw [aR] at ad;subst ad;subst e;have:=(ah _ ha).2.lt;omega
def ug:∀(ss:List ae) (th:List (ae×ae)) (p:ae×ae),p∈th->p∈qa th ss
 | [],th,p,h=>h
 |s::ss,th,p,h=>ug ss _ p (lT.2 _ (lT.2 _ h))
def mS(g:GP)(lv:List Nat)(bd:Nat->Ex)(n:Nat)(K0 K:Nat->Nat->Bool):Prop:=∀P:(Nat->Nat->Bool)->Prop,P K0->(∀K r k X (q:ae×ae),P K->g.rl[r]? =some X->g.th[k]? =some q->lv[r]? =some n->q.1=X.kd->lu g K X k q.2 (bd r)=true->P (Bx K r k))->P K
def mS.nil{g lv bd n K0}:mS g lv bd n K0 K0:=fun _ a _=>a
def mS.up{g lv bd n K0 K r k X}{q:ae×ae}(h:mS g lv bd n K0 K)(a:g.rl[r]? =some X)(b:g.th[k]? =some q)(c:lv[r]? =some n)(d:q.1=X.kd)(e:lu g K X k q.2 (bd r)=true):mS g lv bd n K0 (Bx K r k):=fun P x y=>y K r k X q (h P x y) a b c d e
def mS.ind{g lv bd n K0}{motive:∀K,mS g lv bd n K0 K->Prop}(nil:motive K0 .nil)(up:∀{K r k X}{q:ae×ae}(h:mS g lv bd n K0 K)(a:g.rl[r]? =some X)(b:g.th[k]? =some q)(c:lv[r]? =some n)(d:q.1=X.kd)(e:lu g K X k q.2 (bd r)=true),motive K h->motive _ (h.up a b c d e)){K}(h:mS g lv bd n K0 K):motive K h:=
 (h (fun K=>∃h,motive K h) ⟨_,nil⟩ (fun K r k X q ⟨h,i⟩ a b c d e=>⟨_,up h a b c d e i⟩)).elim fun _ i=>i
def tP(g:GP)(lv:List Nat)(bd:Nat->Ex)(n:Nat)(K:Nat->Nat->Bool):Prop:=∀P:Nat->(Nat->Nat->Bool)->Prop,P 0 (fun _ _=>false)->(∀n K0 K,P n K0->mS g lv bd n K0 K->ZS g lv bd n K->P (n+1) K)->P n K
def tP.zero{g lv bd}:tP g lv bd 0 fun _ _=>false:=fun _ a _=>a
def tP.succ{g lv bd n K0 K}(h:tP g lv bd n K0)(a:mS g lv bd n K0 K)(b:ZS g lv bd n K):tP g lv bd (n+1) K:=fun P x y=>y n K0 K (h P x y) a b
def tP.ind{g lv bd}{motive:∀n K,tP g lv bd n K->Prop}(zero:motive 0 _ .zero)(succ:∀{n K0 K}(h:tP g lv bd n K0)(a:mS g lv bd n K0 K)(b:ZS g lv bd n K),motive n K0 h->motive _ K (h.succ a b)){n K}(h:tP g lv bd n K):motive n K h:=
 (h (fun n K=>∃h,motive n K h) ⟨_,zero⟩ (fun n K0 K ⟨h,i⟩ a b=>⟨_,succ h a b i⟩)).elim fun _ i=>i
variable {w w':af} {n:Nat} {xs:List ag}
def WB{g K tO}(A:GI w g K)(h:w.ownsRow 0 3 1 tO n xs)(C:bG (fun k=>k∈g.bs) w w'):w'.ownsRow 0 3 1 tO n xs:=
 cC h (fun q cs f J D=>C.block q (lt_of_some D) (fun I=>by
  obtain ⟨m,c,e1⟩:=oA h J;rw [e1] at h;obtain ⟨R,b1,_⟩:=dx h;obtain ⟨r,Q,e⟩:=dk I;exact sM b1 (A.yb r q (by rw [<-e];exact aH Q)) au rfl))
structure X9(g:GP)(b y bm:Nat)(kl:List (ae×Nat))(rl:List RV)(pl:List PV)(l:List PX)(ss:List ae)(th:List (ae×ae))(kd who:ae):Prop where
 b:g.b=b
 y:g.y=y
 bm:g.bm=bm
 kl:g.kl=kl
 rl:g.rl=rl
 pl:g.pl=pl
 l:g.l=l
 ss:g.ss=ss
 th:g.th=th
 kd:g.kd=kd
 who:g.who=who
def ZX(ρ:Nat->Nat)(h:List Nat->Nat->Nat->Prop)(bd:Nat->Ex)(y bm:Nat)(kl:List (ae×Nat))(rl:List RV)(pl:List PV)(l:List PX)(ss:List ae)(kd who id:ae)(rel:Nat)(X:RV)(w:af)(e:Ending)(w':af):Prop:=∃g lv K m,e=.returned (.bool (K rel m))/\an w w'/\X9 g (w.heap.size+1) y bm kl rl pl l ss (qa (eG [] X.kd id) ss) kd who/\wR (qa (eG [] X.kd id) ss) X.kd id=(m:Nat)/\m<(qa (eG [] X.kd id) ss).length/\lv.length=rl.length/\(∀j,lv.getD j 0<=ρ j)/\(∀j,j<rl.length->h lv j (lv.getD j 0))/\tP g lv bd (rl.length+1) K
def Ip(ρ Bd bd)(y bm:Nat)(tv kv rv pv kl rl pl l ss kd who id)(rel:Nat)(X w)(aW:DU w y (.pointer (some ⟨bm,5,none⟩)) tv ss)(aX:DM w bm kv rv pv kl rl pl l)(bV:∃cs,aE w bm cs 252)(bb:rl[rel]? =some X)(d5:ss.length<=24)(dz:∀j,ρ j<=10000)(cZ:∀(tO:ag)(lv:List Nat)(i:Nat)(X:RV),lv.length=rl.length->(∀j,lv.getD j 0<=ρ j)->rl[i]? =some X->∃a7,Uq bm kv rv pv kl rl pl l tO lv i X.ex 0 a7/\a7<=ρ i/\∀b,a7<=b↔Bd lv i b)(db:∀g,X9 g (w.heap.size+1) y bm kl rl pl l ss (qa (eG [] X.kd id) ss) kd who->∀al r k X q,g.rl[r]? =some X->g.th[k]? =some q->Tj g al r k X.ex (lu g al X k q.2 (bd r))):
  Calls prog 138 #[.pointer (some ⟨y,0,none⟩),.string kd,.string who,.agg #[.int .i64 rel,.string id]] w (ZX ρ Bd bd y bm kl rl pl l ss kd who id rel X w):=by
 have ch:=ai cZ;have cD:=ai dz;have cL:=ai db;have bv:=ai aW;have aN:=ai aX;have b9:=ai bV;have cO:=ai bb;have a1:=(az w.heap.size w).alloc aD (sO rel id);have a2:=a1.alloc a1.size (Io (some ⟨y,0,none⟩) kd who);have aP:=ai ((aE.new w (kN rel id) 270).alloc (Io (some ⟨y,0,none⟩) kd who));have bw:=ai (aE.new' (w.alloc (sO rel id)) #[.pointer (some ⟨y,0,none⟩),.string kd,.string who,.slice none 0 0,.slice none 0 0] 351 (w.heap.size+1) ar);have bt:=ai a2;have aF:=ai (aW.below a2);have bB:=ai (aX.below a2);have dZ:=aX.rn;have ds:=(br.1 bb).1;have dX:(rel:Int)<(rl.length:Int):=aj;have ec:=aW.blk.lt;have cH:=ai (show ∀(C n c:Nat),tv=.slice (some ⟨C,0,none⟩) n c->C<w.heap.size from fun C n c e=>by
  have bi:=aW.row;rw [e] at bi;obtain ⟨dH,U,_⟩:=dx bi;exact U.lt)
 have dT:bm<w.heap.size:=by obtain ⟨cs,h⟩:=bV;exact h.lt
 obtain ⟨ah,rc,bX,bp,dA,dB,eh⟩:=aX.rat rel X bb;have dW:ah<w.heap.size:=World.block_lt_of_cell? w ⟨ah,rel*4,none⟩ bp;have c2:=am bp a2;go_enter func138,ntmps138
 go_upto_region 2 with fail
 generalize (w.alloc (sO rel id)).alloc (Io (some ⟨y,0,none⟩) kd who)=W at*;obtain ⟨B,dJ⟩:∃B,B=w.heap.size+1:=⟨_,rfl⟩;have dK:B<=W.heap.size:=by have:=bw.u.lt;omega
 have c0:W.cell? ⟨y,0,none⟩=some (.pointer (some ⟨bm,5,none⟩)):=aF.u.blk.cell rfl;have c1:=bB.u.c6;rw [bX] at c1;have c3:W.cell? ⟨w.heap.size,0,none⟩=some (.int .i64 rel):=aP.u.cell rfl;have bI:W.cell? ⟨w.heap.size,1,none⟩=some (.string id):=aP.u.cell rfl;have aY:=ai (fun (w':af) (U:an W w')=>xb B (w.heap.size+1) (.pointer (some ⟨y,0,none⟩)) (.string kd) (.string who) (.slice none 0 0) (.slice none 0 0) [] X.kd id w' (bw.u.below U) (bL) ar aj);have ay:=ai (az W.heap.size W)
 go_region_held3 (fun w'=>w'.cell? ⟨y,0,none⟩=some (.pointer (some ⟨bm,5,none⟩))/\w'.cell? ⟨bm,6,none⟩=some (.slice (some ⟨ah,0,none⟩) rl.length rc)/\w'.cell? ⟨ah,rel*4,none⟩=some (.string X.kd)/\w'.cell? ⟨w.heap.size,0,none⟩=some (.int .i64 rel)/\w'.cell? ⟨w.heap.size,1,none⟩=some (.string id)) (go_keep)
  ((go_at_call 197;refine (aY.u _ ((cd ay):an W _)).mono ?_;rintro e w1 ⟨rfl,ac⟩;have cS:=ai ac;obtain ⟨_,_,_,aJ⟩:=ac;have Q:=ai (lh (((cd ay):an W _).mono aj:Below B W _) aJ:Below B W w1);have d0:=(Q.u.cell (p:=⟨y,0,none⟩) (show y<B by omega)).trans c0;have d1:=(Q.u.cell (p:=⟨bm,6,none⟩) (show bm<B by omega)).trans c1;have d2:=(Q.u.cell (p:=⟨ah,rel*4,none⟩) (show ah<B by omega)).trans c2;have d3:=(Q.u.cell (p:=⟨w.heap.size,0,none⟩) (show w.heap.size<B by omega)).trans c3;have d4:=(Q.u.cell (p:=⟨w.heap.size,1,none⟩) (show w.heap.size<B by omega)).trans bI))
 have cM:=ai (show GwI B W w1 (w.heap.size+1) y kd who (.slice none 0 0) (qa (eG [] X.kd id) (ss.take 0)) from by
  obtain ⟨gv,a8,a9,_⟩:=cS.u;exact ⟨⟨gv,by simpa using a8,by simpa [qa] using a9⟩,Q.u⟩)
 go_wp2_with fail
 go_loopw [10] (fun u wr=>∃i:Nat,i<=ss.length/\u=.int .i64 i/\GwI B W wr (w.heap.size+1) y kd who (.slice none 0 0) (qa (eG [] X.kd id) (ss.take i))) (fun u _=>ss.length-(intOf u).toNat)
 case atStart=>exact ⟨0,aj,rfl,cM.u⟩
 case round=>
  obtain ⟨i,hi,rfl,c4⟩:=hrel;obtain ⟨⟨gv,ad,ae⟩,J⟩:=c4;obtain ⟨ta,b2,bk⟩:=ax aF.u.row;have dC:W.cell? ⟨y,1,none⟩=some tv:=aF.u.blk.cell rfl;have c0:wr.cell? ⟨y,1,none⟩=some tv:=(J.cell (p:=⟨y,1,none⟩) (show y<B by omega)).trans dC;rw [bk] at c0
  by_cases bR:i<ss.length
  ·have di:(i:Int)<(ss.length:Int):=by omega
   obtain ⟨C,tc,e1,hc⟩:=bf EV 7 (fun _=>rfl) aF.u.row i ss[i] (aH bR);rw [bk] at e1;simp only [aI,bU] at e1;obtain ⟨rfl,rfl⟩:=e1;have d6:C<w.heap.size:=cH.u C _ _ bk;have bH:=ai (by rw [cJ bR,TC]:qa (eG [] X.kd id) (ss.take (i+1))=eG (eG (qa (eG [] X.kd id) (ss.take i)) (tt ss[i]).kind (tt ss[i]).id) (tt ss[i]).sub (tt ss[i]).who);have d7:=BG (ss.take i) (eG [] X.kd id);have dw:=oa (th:=[]) (x:=X.kd) (n:=id);have d8:(ss.take i).length<=24:=by rw [dO];omega
   have f0:=(J.cell (p:=⟨C,i*7+0,none⟩) (show C<B by omega)).trans (hc 0 _ aj rfl);have f1:=(J.cell (p:=⟨C,i*7+1,none⟩) (show C<B by omega)).trans (hc 1 _ aj rfl);have f3:=(J.cell (p:=⟨C,i*7+3,none⟩) (show C<B by omega)).trans (hc 3 _ aj rfl);have f4:=(J.cell (p:=⟨C,i*7+4,none⟩) (show C<B by omega)).trans (hc 4 _ aj rfl);rw [n8] at f0;unfold tt at bH;generalize qa (eG [] X.kd id) (ss.take i)=A at*;simp only [List.length_nil] at dw;have dc:A.length<=60:=aj;generalize (bQ ss[i]).1=T at*;obtain ⟨D,ba⟩:∃z,z=wr:=⟨_,rfl⟩;subst ba;have b0:=J.size;have aY:=ai (fun (w':af) (U:an D w')=>xb B (w.heap.size+1) (.pointer (some ⟨y,0,none⟩)) (.string kd) (.string who) (.slice none 0 0) gv A T.kind T.id w' (ad.below U) (aB ae U) aj aj);have ay:=ai (az D.heap.size D);have aZ:=ai J;have c1:=f0;have c2:=f1;have bZ:B<=D.heap.size:=aj
   go_upto_region 6 with fail
   go_region_held3 (fun w'=>w'.cell? ⟨y,1,none⟩=some (.slice (some ⟨C,0,none⟩) ss.length b2)/\w'.cell? ⟨C,i*7,none⟩=some (.string T.kind)/\w'.cell? ⟨C,i*7+1,none⟩=some (.string T.id)) (go_keep)
    ((go_at_call 197;refine (aY.u _ ((cd ay):an D _)).mono ?_;rintro e Z ⟨rfl,ac⟩;have cT:=ai ac;obtain ⟨_,_,_,aJ⟩:=ac;have Q:=ai (lh (((cd ay):an D _).mono aj:Below B D _) aJ:Below B D Z);have d0:=(Q.u.cell (p:=⟨y,1,none⟩) (show y<B by omega)).trans c0;have d1:=(Q.u.cell (p:=⟨C,i*7,none⟩) (show C<B by omega)).trans c1;have d2:=(Q.u.cell (p:=⟨C,i*7+1,none⟩) (show C<B by omega)).trans c2))
   obtain ⟨cX,dg,dt,_⟩:=cT.u;have d9:=Q.u.size;have cu:=ai (aZ.u.trans Q.u);have d3:=(Q.u.cell (p:=⟨C,i*7+3,none⟩) (show C<B by omega)).trans f3;have d4:=(Q.u.cell (p:=⟨C,i*7+4,none⟩) (show C<B by omega)).trans f4;have dM:=oa (th:=A) (x:=T.kind) (n:=T.id);have dE:=ai (⟨_,rfl⟩:∃cV,cV=eG A T.kind T.id);generalize dL:eG A T.kind T.id=cW at*;have b5:=ai (fun (w':af) (U:an Z w')=>xb B (w.heap.size+1) (.pointer (some ⟨y,0,none⟩)) (.string kd) (.string who) (.slice none 0 0) cX cW T.sub T.who w' (dg.below U) (aB dt U) aj aj);have bq:=ai (az Z.heap.size Z);have ea:B<=Z.heap.size:=aj;have c0:=d0;have c1:=d3;have c2:=d4
   go_upto_region 7 with fail
   go_region_held3 (fun w'=>w'.cell? ⟨y,1,none⟩=some (.slice (some ⟨C,0,none⟩) ss.length b2)/\w'.cell? ⟨C,i*7+3,none⟩=some (.string T.sub)/\w'.cell? ⟨C,i*7+4,none⟩=some (.string T.who)) (go_keep)
    ((go_at_call 197;refine (b5.u _ ((cd bq):an Z _)).mono ?_;rintro e b3 ⟨rfl,ac⟩;have cU:=ai ac;obtain ⟨_,_,_,aJ⟩:=ac;have Q:=ai (lh (((cd bq):an Z _).mono aj:Below B Z _) aJ:Below B Z b3);have d0:=(Q.u.cell (p:=⟨y,1,none⟩) (show y<B by omega)).trans c0;have d1:=(Q.u.cell (p:=⟨C,i*7+3,none⟩) (show C<B by omega)).trans c1;have d2:=(Q.u.cell (p:=⟨C,i*7+4,none⟩) (show C<B by omega)).trans c2))
   have cN:=ai (show GwI B W b3 (w.heap.size+1) y kd who (.slice none 0 0) (qa (eG [] X.kd id) (ss.take (i+1))) from by
    obtain ⟨cY,a8,a9,_⟩:=cU.u;rw [ak bH];exact ⟨⟨cY,a8,a9⟩,cu.u.trans Q.u⟩)
   go_wp2_with fail;exact ⟨⟨i+1,aj,by go_num,cN.u⟩,by simp [intOf];omega⟩
  obtain rfl:i=ss.length:=aj;have di:¬((ss.length:Int)<(ss.length:Int)):=aj;have dQ:=BG ss (eG [] X.kd id);have dk:=oa (th:=[]) (x:=X.kd) (n:=id);simp only [List.length_nil] at dk;rw [kY] at ae;have cK:=ai (show ∃m:Nat,wR (qa (eG [] X.kd id) ss) X.kd id=m/\m<(qa (eG [] X.kd id) ss).length from by
   rcases iq (th:=qa (eG [] X.kd id) ss) (x:=X.kd) (n:=id) with h|⟨m,h1,h2⟩
   ·exact (h.2 (ug _ _ _ lT.1)).elim
   exact ⟨m,h1,(br.1 h2).1⟩)
  generalize dd:qa (eG [] X.kd id) ss=A at*;have cI:=ai dd;have dc:A.length<=60:=aj;have b0:=J.size;have cP:=ai (⟨gv,.slice none 0 0,[],ad,ae,bL,rfl,(fun q aK=>by cases aK),List.nodup_nil,J⟩:YwI B W wr (w.heap.size+1) y kd who A 0);go_wp2_with fail
  go_loopw [11] (fun u ab=>∃r:Nat,r<=rl.length/\u=.int .i64 r/\YwI B W ab (w.heap.size+1) y kd who A r) (fun u _=>rl.length-(intOf u).toNat)
  case atStart=>exact ⟨0,aj,rfl,cP.u⟩
  case round=>
   obtain ⟨r,bi,rfl,de⟩:=hrel;obtain ⟨gv,yv,bs,ad,ae,bn,bc,be,bW,J⟩:=de;have c0:wr.cell? ⟨y,0,none⟩=some (.pointer (some ⟨bm,5,none⟩)):=(J.cell (p:=⟨y,0,none⟩) (show y<B by omega)).trans (aF.u.blk.cell rfl);have c1:wr.cell? ⟨bm,6,none⟩=some (.slice (some ⟨ah,0,none⟩) rl.length rc):=(J.cell (p:=⟨bm,6,none⟩) (show bm<B by omega)).trans (by have:=bB.u.c6;rw [bX] at this;exact this);have b0:=J.size;have bZ:B<=wr.heap.size:=aj;obtain ⟨ga,gc,dh⟩:=ax ae;obtain ⟨av,aw,bo⟩:=ax bn;subst dh;subst bo
   by_cases dY:r<rl.length
   ·have dr:(r:Int)<(rl.length:Int):=by omega
    obtain ⟨D,ba⟩:∃z,z=wr:=⟨_,rfl⟩;subst ba;have dF:D.cell? ⟨w.heap.size+1,3,none⟩=some (.slice ga A.length gc):=ad.cell rfl;have dG:D.cell? ⟨w.heap.size+1,4,none⟩=some (.slice av r aw):=ad.cell rfl;have dS:∀w,(Instr.makeSlice 353 (.int .i64 (A.length:Int)) (.int .i64 (A.length:Int))).run prog w=.ok (.slice (some ⟨w.heap.size,0,none⟩) A.length A.length) (w.alloc (.cells (madeCells #[.bool false] A.length) 4)):=fun w=>run_make_row' 353 4 (.bool false) 1 underlying353 Tryz.infoBo rfl .i64 .i64 A.length aj aj w
    have aC:=ai ad;have cE:=ai ae;have a4:=ai bn;have ce:=ai be;have cy:=ai bW;have cb:=ai bc;have aZ:=ai J
    go_upto_region 11 with fail
    generalize dm:madeCells #[.bool false] A.length=mc at*;have cx:=ai dm;obtain ⟨i0,hi0,hz0,hz1,hz2⟩:=bK Tryz.infoBs;refine AE ?_;intro HI Vm Vn Vo;have bc:=aC.u.lt;have dI:(D.alloc (.cells mc 4)).cell? ⟨w.heap.size+1,4,none⟩=some (.slice av r aw):=(aC.u.alloc _).cell rfl;have f4:((D.alloc (.cells mc 4)).alloc (mK (some ⟨D.heap.size,0,none⟩) A.length)).cell? ⟨w.heap.size+1,4,none⟩=some (.slice av r aw):=((aC.u.alloc _).alloc _).cell rfl;have cA:=ai (show ∀u∈ [Value.slice (some ⟨D.heap.size,0,none⟩) A.length A.length],u.oneCell'=true from by
     intro u bY;rw [aR] at bY;subst bY
     rfl)
    have b8:=ai (by unfold maxLen;omega:r+1<=maxLen);have cg:=ai (by omega:(r+1)*24<=140737488355328);have cG:=ai (by simp;omega:B<=((D.alloc (.cells mc 4)).alloc (mK (some ⟨D.heap.size,0,none⟩) A.length)).drew.heap.size);have co:=ai (by simp:((D.alloc (.cells mc 4)).alloc (mK (some ⟨D.heap.size,0,none⟩) A.length)).drew.heap.size=D.heap.size+2);have cz:=ai (aE.new' (D.alloc (.cells mc 4)) #[.slice (some ⟨D.heap.size,0,none⟩) A.length A.length] 353 (D.heap.size+1) ar)
    go_region_law (refine jY _ rfl (.tmp 96) (.tmp 103) 349 rfl B 353 i0 _ 1 24 underlying349 HI.u Vm.u Vn.u Vo.u rfl au (.slice av r aw) r (bs.map fun q=> .slice (some ⟨q,0,none⟩) A.length A.length) gW (bO ((a4.u.alloc _).alloc _)) ⟨D.heap.size+1,0,none⟩ 1 1 [.slice (some ⟨D.heap.size,0,none⟩) A.length A.length] gW rfl (bu (B:=D.heap.size+1) (cs:=#[.slice (some ⟨D.heap.size,0,none⟩) A.length A.length]) (t:=353) (fr:=(0,0)) cz.u.drew) cA.u au b8.u cg.u cG.u (D.heap.size+2) co.u ?_;intro g5 aT w5 dq bP dN dP;have cQ:=bO ((a4.u.alloc (.cells mc 4)).alloc (mK (some ⟨D.heap.size,0,none⟩) A.length));have a6:=((aC.u.alloc (.cells mc 4)).alloc (mK (some ⟨D.heap.size,0,none⟩) A.length)).drew;have aQ:aE w5 (w.heap.size+1) _ 351:=(bP.block (w.heap.size+1) a6.lt (own_ne cQ a6 au)).trans a6;have dB:w5.cell? ⟨w.heap.size+1,4,none⟩=some (.slice av r aw):=aQ.cell rfl;have zq:=aQ.fz;have dD:=ai aQ;have b7:=ai bP;have cR:=ai dq;have ee:=aQ.lt)
    all_goals (
     have ci:=ai (TD aC.u cE.u a4.u cb.u ce.u cy.u aZ.u aj aj cx.u b7.u cR.u:YwI B W (w5.setCell ⟨w.heap.size+1,4,none⟩ (.slice (some ⟨g5,0,none⟩) (r+1) aT)) (w.heap.size+1) y kd who A (r+1));go_wp2_with fail;exact ⟨⟨r+1,aj,by go_num,ci.u⟩,by simp [intOf];omega⟩)
   obtain rfl:r=rl.length:=aj;have dr:¬((rl.length:Int)<(rl.length:Int)):=aj;have Y:an w wr:=bt.u.trans (J.mono aj);obtain ⟨g,bh⟩:∃g:GP,g=⟨w.heap.size+1,y,bm,tv,.slice ga A.length gc,.slice av rl.length aw,kv,rv,pv,kl,rl,pl,l,ss,A,bs,kd,who⟩:=⟨_,rfl⟩;have cl:=ai (show GI wr g (fun _ _=>false) from by
    rw [bh];exact ⟨ad,bv.u.below Y,aN.u.below Y,bg ae (gH _),(by show A.length<=1000;omega),bg bn (gH _),bc,(fun r q aK=>(be q (bA aK)).2),(by obtain ⟨cs,h⟩:=b9.u;exact ⟨cs,h.below Y⟩),bW⟩)
   have R:=ai (by rw [bh];exact ⟨rfl,rfl,rfl,rfl,rfl,rfl,rfl,rfl,rfl,rfl,rfl⟩:X9 g (w.heap.size+1) y bm kl rl pl l ss A kd who);have ck:=ai (by rw [bh];exact fun q aK=>(be q aK).1:∀q∈g.bs,B<=q);have cm:=ai (cL.u g R.u);have a3:=ai J;have b4:=ai (Im bm kv rv pv kl rl pl l ρ Bd cD.u ch.u wr (aN.u.below Y) aj);go_wp2_with fail;refine b4.u.mono ?_;rintro e ek ⟨lb,lv,rfl,bJ,dl,ap,dj,df⟩;have cj:=ai (cl.u.below bJ);have aM:=ai (a3.u.trans (bJ.mono bZ));have cw:=ai ap;have aG:=ai (⟨dl,dj,df⟩:lv.length=rl.length/\(∀j,lv.getD j 0<=ρ j)/\(∀j,j<rl.length->Bd lv j (lv.getD j 0)));go_wp2_with fail
   go_loopw [13] (fun u ab=>∃(n:Nat)(K:Nat->Nat->Bool),n<=rl.length+1/\u=.int .i64 n/\GI ab g K/\ab.ownsRow 0 3 1 (.slice (some ⟨lb,0,none⟩) rl.length rl.length) rl.length (BX lv)/\Below B W ab/\Hid (tP g lv bd n K)) (fun u _=>rl.length+1-(intOf u).toNat)
   case atStart=>exact ⟨0,_,aj,rfl,cj.u,cw.u,aM.u,ai .zero⟩
   case round=>
    obtain ⟨n,K,hn,rfl,V,ap,J,bE⟩:=hrel
    by_cases dV:n<=rl.length
    ·have dn:(n:Int)<=(rl.length:Int):=by omega
     have cp:=ai V;have cB:=ai ap;have ct:=ai J;go_wp2_with fail
     go_loopg [] (BD g K+1) (fun k ab=>∃(al:Nat->Nat->Bool),GI ab g al/\ab.ownsRow 0 3 1 (.slice (some ⟨lb,0,none⟩) rl.length rl.length) rl.length (BX lv)/\Below B W ab/\Hid (mS g lv bd n K al/\BD g al<k))
     case atStart=>exact ⟨K,cp.u,cB.u,ct.u,ai ⟨.nil,aj⟩⟩
     case round=>
      obtain ⟨K1,V,ap,J,bG⟩:=hrel;have aL:=EH g K1 (.slice (some ⟨lb,0,none⟩) rl.length rl.length) lv bd n (mS g lv bd n K) wr V (by rw [aG.u.1];exact ap) (by rw [aG.u.1,R.u.rl]) cm.u (fun K r k X q h a b c d e=> .up h a b c d e) (ak bG).1;rw [R.u.b] at aL;have eb:=J.size;have cq:=ai V;have cC:=ai ap;have a3:=ai J;have aL:=ai aL;go_wp2_with fail;refine (ak aL).mono ?_;rintro e w5 ⟨a5,more,rfl,c8,c9,bN,dU,dp,dy⟩;have bx:=ai c8;have bD:=ai (WB cq.u cC.u bN);have aM:=ai (a3.u.trans (bN.below (B:=B) aj ck.u));have bz:=ai c9
      cases more with
      |false=>
       have aO:=ai (dp rfl);go_wp2_with fail;exact ⟨⟨n+1,a5,aj,by go_num,bx.u,bD.u,aM.u,ai (.succ (ak bE) bz.u (by rw [aO.u.1];exact aO.u.2))⟩,by simp [intOf];omega⟩
      |true=>
       have aO:=ai (dy rfl);go_wp2
       go_roundg (BD g a5+1)
       case measure=>have:=(ak bG).2;have:=aO.u;omega
       case rel=>exact ⟨a5,bx.u,bD.u,aM.u,ai ⟨bz.u,aj⟩⟩
    obtain rfl:n=rl.length+1:=aj;have dn:¬(((rl.length+1:Nat):Int)<=(rl.length:Int)):=aj;obtain ⟨m,bS,bT⟩:=cK.u;have Y:an w wr:=bt.u.trans (J.mono aj);obtain ⟨aV,bM⟩:∃aV,g.bs[rel]? =some aV:=⟨_,aH (by rw [V.bl,R.u.rl];exact ds)⟩;obtain ⟨em,el,bo,c1⟩:=aS V.yr rel (.slice (some ⟨aV,0,none⟩) g.th.length g.th.length) (by rw [eo,bM];rfl);have c2:=(V.yb rel aV bM).cell (i:=m) (by rw [R.u.th];exact bT);obtain ⟨ef,eg,bp,dA,c0⟩:=V.five;rw [bo,R.u.b,R.u.rl] at c0;rw [R.u.th] at c1;have c3:wr.cell? ⟨w.heap.size,0,none⟩=some (.int .i64 rel):=(J.cell (p:=⟨w.heap.size,0,none⟩) (show w.heap.size<B by omega)).trans (aP.u.cell rfl);have bI:wr.cell? ⟨w.heap.size,1,none⟩=some (.string id):=(J.cell (p:=⟨w.heap.size,1,none⟩) (show w.heap.size<B by omega)).trans (aP.u.cell rfl);have c5:wr.cell? ⟨y,0,none⟩=some (.pointer (some ⟨bm,5,none⟩)):=(bv.u.below Y).blk.cell rfl;obtain ⟨ei,ej,du,c7,_,_,_⟩:=(aN.u.below Y).rat rel X cO.u;have c6:=(aN.u.below Y).c6;rw [du] at c6;have dR:(m:Int)<(A.length:Int):=aj;have b6:=ai (fun (w':af) (U:an wr w')=>show Calls prog 200 #[.pointer (some ⟨w.heap.size+1,0,none⟩),.string X.kd,.string id] w' (fun e w''=>e=.returned (.int .i64 (m:Int))/\w''=w') from by
     have I:=V.below U;have:=wS g.b _ _ _ _ _ g.th X.kd id w' I.blk I.th I.few;rw [R.u.th,bS,R.u.b] at this;exact this)
    have cf:=ai Y;have bC:=ai (⟨bS,bT⟩:wR A X.kd id=(m:Nat)/\m<A.length);generalize da:K rel m=ed at*;have cr:=ai da
    go_upto_region 17 with fail
    go_quiet ((go_at_call 200;exact Calls.quiet_of_same (b6.u _ abu)))
    go_wp2;go_ret;have dv:=cI.u;subst dv;exact ⟨g,lv,K,m,by rw [cr.u];rfl,cF cf.u _,R.u,bC.u.1,bC.u.2,aG.u.1,aG.u.2.1,aG.u.2.2,ak bE⟩
def gE(rl:List RV)(s rel:ae):Int×ae×Nat:=if !(ej s).2.2|| !bz rel then (0,⟨#[]⟩,2) else if aY (ej s).1 rel rl 0<0 then (0,⟨#[]⟩,5) else (aY (ej s).1 rel rl 0,(ej s).2.1,0)
def Iq(y bm tv kv rv pv kl rl pl l ss s rel w)(ah:DU w y (.pointer (some ⟨bm,5,none⟩)) tv ss)(aj:DM w bm kv rv pv kl rl pl l)(hs:s.size<=maxLen):
  Calls prog 135 #[.pointer (some ⟨y,0,none⟩),.string s,.string rel] w fun e w'=>e=.returned (.tuple #[.agg #[.int .i64 (gE rl s rel).1,.string (gE rl s rel).2.1],.int .i64 (gE rl s rel).2.2])/\an w w':=by
 have ag:an w (w.alloc (.cells #[.int .i64 0,.string ⟨#[]⟩] 270)):=(az _ w).alloc aD _;have Q:=ai (pj s (w.alloc (.cells #[.int .i64 0,.string ⟨#[]⟩] 270)) hs);have ac:=ai (fun w=>iD rel w);have R:=ai (fun (w':af) (k:an w w')=>dV bm kv rv pv kl rl pl l (ej s).1 rel w' (aj.below k));have ad:=ai (aE.new w uo 270);have J:=ai ag;have c0:w.cell? ⟨y,0,none⟩=some (.pointer (some ⟨bm,5,none⟩)):=ah.blk.cell rfl;obtain ⟨U,A⟩:∃U,U=gE rl s rel:=⟨_,rfl⟩;rw [<-A];unfold gE at A;have C:=ai A;generalize ej s=X at*;obtain ⟨al,id,ok⟩:=X;simp only at Q R C;generalize aY al rel rl 0=N at*;generalize bz rel=ap at*;go_enter func135,ntmps135;go_wp2_with fail;refine (ak Q).mono ?_;rintro e w1 ⟨rfl,Y⟩;have D:=ai (J.u.trans (Y.mono J.u.size));have ae:=ai (ad.u.below Y);go_wp2_with fail;refine (ac.u _).mono ?_;rintro e ax ⟨rfl,rfl⟩;have c1:=am c0 D.u;go_wp2_with fail;refine (ak R _ D.u).mono ?_;rintro e ab ⟨rfl,Z⟩;have I:=ai (D.u.trans (Z.mono D.u.size));have R3:=ai (ae.u.below Z);have av:=R3.u.fz;have ar:ab.cell? ⟨w.heap.size,0,none⟩=some (.int .i64 0):=R3.u.cell rfl;have au:ab.cell? ⟨w.heap.size,1,none⟩=some (.string ⟨#[]⟩):=R3.u.cell rfl
 cases ok
 ·have A:=ak C;simp only [pK,Bool.true_or,if_true] at A;subst A;go_wp2;refine bq (v:=.tuple #[.agg #[.int .i64 0,.string ⟨#[]⟩],.int .i64 2]) (bR results135 _ _ w.heap.size _ 270 _ _ rfl rfl ?hB underlying270 rfl aw) rfl ?post
  case hB=>exact ⟨_,(cM R3),bc⟩
  case post=>exact ⟨rfl,(cd I)⟩
 ·cases ap
  ·have A:=ak C;simp only [pK,pL,Bool.or_true,if_true] at A;subst A;go_wp2;refine bq (v:=.tuple #[.agg #[.int .i64 0,.string ⟨#[]⟩],.int .i64 2]) (bR results135 _ _ w.heap.size _ 270 _ _ rfl rfl ?hB underlying270 rfl aw) rfl ?post
   case hB=>exact ⟨_,(cM R3),bc⟩
   case post=>exact ⟨rfl,(cd I)⟩
  by_cases V:N<0
  ·have A:=ak C;simp only [pL,mo,bH,aV,if_pos V] at A;subst A;go_wp2;refine bq (v:=.tuple #[.agg #[.int .i64 0,.string ⟨#[]⟩],.int .i64 5]) (bR results135 _ _ w.heap.size _ 270 _ _ rfl rfl ?hB underlying270 rfl aw) rfl ?post
   case hB=>exact ⟨_,(cM R3),bc⟩
   case post=>exact ⟨rfl,(cd I)⟩
  have A:=ak C;simp only [pL,mo,bH,aV,if_neg V] at A;subst A;go_wp2;refine bq (v:=.tuple #[.agg #[.int .i64 N,.string id],.int .i64 0]) (bR results135 _ _ w.heap.size _ 270 _ _ rfl rfl ?hB underlying270 rfl aw) rfl ?post
  case hB=>exact ⟨_,(cM R3),bc⟩
  case post=>exact ⟨rfl,(cd I)⟩
def Kf(rl s rel):(gE rl s rel).2.2<=5:=by
 unfold gE
 split
 ·decide
 split
 ·exact bY _
 exact gH _
def allT(l:List ae)(T:Tu):List ae:=if eqs T.who (sg 42) then mV l ((T.kind++sg 58)++T.id) else mV (mV l ((T.kind++sg 58)++T.id)) ((T.sub++sg 58)++T.who)
def mL(l:List ae):List ae->List ae
 | []=>l
 |s::ss=>mL (allT l (tt s)) ss
def MI(l ss:List ae)(s:ae):mL l (ss++[s])=allT (mL l ss) (tt s):=by
 induction ss generalizing l with
 |nil=>rfl
 |cons a ss ih=>exact ih _
def xc(l:List ae)(x:ae):(mV l x).length<=l.length+1:=by
 unfold mV
 split
 ·omega
 simp
def TE(l:List ae)(T:Tu):(allT l T).length<=l.length+2:=by
 unfold allT;have h1:=xc l ((T.kind++sg 58)++T.id);have h2:=xc (mV l ((T.kind++sg 58)++T.id)) ((T.sub++sg 58)++T.who)
 split<;>omega
def EJ(ss l:List ae):(mL l ss).length<=l.length+2*ss.length:=by
 induction ss generalizing l with
 |nil=>simp [mL]
 |cons a ss ih=>
  have:=ih (allT l (tt a));have:=TE l (tt a);simp only [mL,List.length_cons];omega
def xL(kl:List (ae×Nat)):List ae:=kl.map fun k=>k.1++(⟨#[58,42]⟩:ae)
def xd(kl:List (ae×Nat))(ss:List ae):List ae:=mL [] ss++xL kl
def Kg(st:ae->Bool)(l:List ae):List ae:=l.filter st
def MJ(st:ae->Bool)(kl:List (ae×Nat))(ss:List ae):List ae:=kK (Kg st (xd kl ss))
def Ir(E:Nat)(L:List ae)(w:af)(e:Ending)(w':af):Prop:=∃v,e=.returned (.tuple #[v,.int .i64 E])/\an w w'/\w'.ownsRow w.heap.size 9 1 v L.length (dF L)
variable {g:Nat} {wr:af} {v:ag}
def cQ(h:Below B W wr){o:Nat}(C:g<B)(A:W.cell? ⟨g,o,none⟩=some v):wr.cell? ⟨g,o,none⟩=some v:=(h.cell (p:=⟨g,o,none⟩) C).trans A
def WoI(B:Nat)(W wr:af)(v:ag)(l:List ae):Prop:=Below B W wr/\wr.ownsRow B 9 1 v l.length (dF l)
def TF(y bm:Nat)(tv kv rv pv:ag)(kl:List (ae×Nat))(rl:List RV)(pl:List PV)(l:List PX)(ss:List ae)(s rel:ae)(st:ae->Bool)(w:af)(a4:DU w y (.pointer (some ⟨bm,5,none⟩)) tv ss)(bA:DM w bm kv rv pv kl rl pl l)(hs:s.size<=maxLen)(dP:ss.length<=24)(cC:∀a∈ss,ow (tt a))(cx:∀k∈kl,k.1.size<=500)(cq:∀a∈xd kl ss,a.size<=maxLen)
  (cp:(gE rl s rel).2.2=0->∀a∈xd kl ss,∀w',an w w'->Calls prog 138 #[.pointer (some ⟨y,0,none⟩),.string (aG a 58).1,.string (aG a 58).2.1,.agg #[.int .i64 (gE rl s rel).1,.string (gE rl s rel).2.1]] w' fun e w''=>e=.returned (.bool (st a))/\an w' w''):
  Calls prog 90 #[.pointer (some ⟨y,0,none⟩),.string s,.string rel] w (Ir (gE rl s rel).2.2 (if (gE rl s rel).2.2=0 then MJ st kl ss else []) w):=by
 have bg:=ai (Iq y bm tv kv rv pv kl rl pl l ss s rel w a4 bA hs);have bW:=ai a4;have b4:=ai bA;have aW:=ai cp;have b8:=ai cC;have b0:=ai cx;have cS:=ai cq;have cm:=Kf rl s rel;have dV:=a4.blk.lt;obtain ⟨i0,cw,cF,cG,cH⟩:=bK Tryz.infoStr;have bX:=ai cw;have cb:=ai cF;have ce:=ai cG;have cf:=ai cH;obtain ⟨aX,bt⟩:∃aX,aX=if (gE rl s rel).2.2=0 then MJ st kl ss else []:=⟨_,rfl⟩
 rw [<-bt];have aQ:=ai bt;clear bt;generalize gE rl s rel=cR at*;obtain ⟨ay,aw,aY⟩:=cR;simp only at bg aW aQ cm ⊢;clear a4 bA hs cp cC cx cq cw cF cG cH;go_enter func90,ntmps90;go_wp2_with fail;refine (ak bg).mono ?_;rintro e w1 ⟨rfl,bw⟩;have ah:=ai bw;have bs:=ai (aE.new w1 (kN ay aw) 270);have dK:=bw.size;clear bw bg
 by_cases cu:¬aY=0
 ·have dE:((aY:Int) != 0)=true:=by rw [hP];omega
  have dG:((aY:Int)==0)=false:=by rw [b6];omega
  have cM:=ai (ah.u.alloc ah.u.size (sO ay aw));clear aW bs;go_wp2;go_ret2;exact ⟨_,rfl,cM.u,by rw [ak aQ,if_neg cu];exact bL⟩
 ·have de:aY=0:=by omega
  subst de;have cP:=ai (ak aW rfl);have cW:=ai (show aX=MJ st kl ss from by rw [ak aQ,if_pos rfl]);clear aW cu cm aQ;have cj:=ah.u.alloc ah.u.size (sO ay aw);go_wp2_with fail;obtain ⟨W,a3⟩:∃W,W=(w1.alloc (sO ay aw)):=⟨_,rfl⟩;have al:=ai (show an w W from a3▸cj);have aS:=ai (show aE W w1.heap.size (kN ay aw) 270 from a3▸bs.u);have dN:=aS.u.lt;have dU:=al.u.size;have ap:=ai (bW.u.below al.u);have ar:=ai (b4.u.below al.u);rw [<-a3];clear cj ah bs a3 bW b4;obtain ⟨B,dA,dB⟩:∃B,B<=W.heap.size/\W.heap.size<=B:=⟨W.heap.size,bY _,bY _⟩;have cK:W.cell? ⟨y,0,none⟩=some (.pointer (some ⟨bm,5,none⟩)):=ap.u.blk.cell rfl;have cL:W.cell? ⟨y,1,none⟩=some tv:=ap.u.blk.cell rfl;obtain ⟨ta,cI,dk⟩:=ax ap.u.row;subst dk;have cU:=ai (show WoI B W W (.slice none 0 0) [] from ⟨az _ _,bL⟩);have ch:=ai cK;have ci:=ai cL;clear cK cL
  go_loopw [10,11] (fun bE bF wr=>∃i:Nat,i<=ss.length/\bF=.int .i64 i/\WoI B W wr bE (mL [] (ss.take i))) (fun _ bF _=>ss.length-(intOf bF).toNat)
  case atStart=>exact ⟨0,aj,rfl,cU.u⟩
  case round=>
   obtain ⟨i,hi,rfl,C,I⟩:=hrel;obtain ⟨a9,ba,rfl⟩:=ax I;have c0:=cQ C aj ci.u;have a8:=C.size
   by_cases bz:i<ss.length
   ·have dh:(i:Int)<(ss.length:Int):=by omega
    obtain ⟨Q,tc,e1,hc⟩:=bf EV 7 (fun _=>rfl) ap.u.row i ss[i] (aH bz);simp only [aI,bU] at e1;obtain ⟨rfl,rfl⟩:=e1;have dQ:=iA (hc 0 _ aj rfl);have U:=ai (show mL [] (ss.take (i+1))=allT (mL [] (ss.take i)) (tt ss[i]) from by rw [cJ bz,MI]);have a2:=EJ (ss.take i) [];have da:(ss.take i).length<=24:=by rw [dO];omega
    have bC:=b8.u _ (bn bz);have f0:=cQ C aj (hc 0 _ aj rfl);have f1:=cQ C aj (hc 1 _ aj rfl);have f3:=cQ C aj (hc 3 _ aj rfl);have f4:=cQ C aj (hc 4 _ aj rfl);rw [n8] at f0;unfold ow at bC;unfold tt at U bC;generalize mL [] (ss.take i)=A at*;generalize (bQ ss[i]).1=T at*;simp only [List.length_nil] at a2;have dz:A.length<=60:=aj;have ds:¬9223372036854775807<T.kind.size+1:=aj;have dY:¬9223372036854775807<T.kind.size+1+T.id.size:=aj;have dZ:¬9223372036854775807<T.sub.size+1:=aj;have d5:¬9223372036854775807<T.sub.size+1+T.who.size:=aj;obtain ⟨Y,dd⟩:∃z,z=wr:=⟨_,rfl⟩;subst dd;have bP:=ai (fun (w':af) (aC:an Y w')=>Er B (.slice a9 A.length ba) A ((T.kind++sg 58)++T.id) w' (aB I aC) aj (by have:=aC.size;omega));have bc:=ai (az Y.heap.size Y);have b2:=ai C;have c1:=f0;have c2:=f1;clear I C hc a2 da f0 f1 bC
    go_upto_region 8 with fail
    go_region_held3 (fun w'=>w'.cell? ⟨y,1,none⟩=some (.slice (some ⟨Q,0,none⟩) ss.length cI)/\w'.cell? ⟨Q,i*7,none⟩=some (.string T.kind)/\w'.cell? ⟨Q,i*7+1,none⟩=some (.string T.id)) (go_keep)
     ((go_at_call 140;refine (bP.u _ (show an Y _ from (cd bc))).mono ?_;rintro e V ⟨d6,rfl,aF,cz⟩;have br:=ai cz;have J:=ai (show Below B Y V from lh (show Below B Y _ from (show an Y _ from (cd bc)).mono aj) aF);have d0:=cQ J.u (show y<B by omega) c0;have d1:=cQ J.u (show Q<B by omega) c1;have d2:=cQ J.u (show Q<B by omega) c2;clear aF cz))
    have dT:=J.u.size;have bk:=ai (b2.u.trans J.u);have d3:=cQ J.u (show Q<B by omega) f3;have d4:=cQ J.u (show Q<B by omega) f4;have dy:=xc A ((T.kind++sg 58)++T.id);unfold allT at U;generalize mV A ((T.kind++sg 58)++T.id)=bO at*;clear c0 c1 c2 d1 d2 f3 f4 bP bc J b2
    cases ad:eqs T.who (sg 42)
    ·have df:(T.who.toList== [42])=false:=by rw [<-ad];unfold eqs;rw [aO];rfl
     rw [ad] at U;simp only [bH,aV] at U;obtain ⟨dq,dr,rfl⟩:=ax br.u;have bR:=ai (fun (w':af) (aC:an V w')=>Er B (.slice dq bO.length dr) bO ((T.sub++sg 58)++T.who) w' (aB br.u aC) aj (by have:=aC.size;omega));have be:=ai (az V.heap.size V);have c0:=d0;have c1:=d3;have c2:=d4;clear d0 d3 d4 ad
     go_upto_region 10 with fail
     go_region_held3 (fun w'=>w'.cell? ⟨y,1,none⟩=some (.slice (some ⟨Q,0,none⟩) ss.length cI)/\w'.cell? ⟨Q,i*7+3,none⟩=some (.string T.sub)/\w'.cell? ⟨Q,i*7+4,none⟩=some (.string T.who)) (go_keep)
      ((go_at_call 140;refine (bR.u _ (show an V _ from (cd be))).mono ?_;rintro e bM ⟨d7,rfl,aF,cA⟩;have c7:=ai cA;have J:=ai (show Below B V bM from lh (show Below B V _ from (show an V _ from (cd be)).mono aj) aF);have d0:=cQ J.u (show y<B by omega) c0;have d1:=cQ J.u (show Q<B by omega) c1;have d2:=cQ J.u (show Q<B by omega) c2;clear aF cA))
     have cY:=ai (bk.u.trans J.u);clear c0 c1 c2 d0 d1 d2 bR be J bk;go_wp2;go_roundw
     case rel=>exact ⟨i+1,aj,by go_num,cY.u,by rw [ak U];exact c7.u⟩
     case measure=>simp [intOf];omega
    have df:(T.who.toList== [42])=true:=by rw [<-ad];unfold eqs;rw [aO];rfl
    rw [ad] at U;simp only [if_true] at U;clear ad;go_wp2;go_roundw
    case rel=>exact ⟨i+1,aj,by go_num,bk.u,by rw [ak U];exact br.u⟩
    case measure=>simp [intOf];omega
   obtain rfl:i=ss.length:=aj;have dh:¬((ss.length:Int)<(ss.length:Int)):=aj;have dw:=ai (kY (l:=ss));rw [kY] at I ⊢;have a2:=EJ ss [];simp only [List.length_nil] at a2;obtain ⟨dm,dp,dj⟩:=ax ar.u.kt;subst dj;have cy:=ar.u.kn;have bD:W.cell? ⟨bm,5,none⟩=some (.slice dm kl.length dp):=ar.u.c5;have dD:=iA bD;have cg:=ai bD;have bZ:=ai ar.u.kt;have bT:=ai (show xd kl ss=mL [] ss++xL kl from rfl);have b9:=ai (show WoI B W wr (.slice a9 (mL [] ss).length ba) (mL [] ss++xL (kl.take 0)) from by
    rw [show xL (kl.take 0)=[] from rfl,eh];exact ⟨C,I⟩)
   generalize mL [] ss=A at*;clear C I b8 ap ar bD;go_wp2_with fail;clear c0
   go_loopw [10,12] (fun bE bG bN=>∃j:Nat,j<=kl.length/\bG=.int .i64 j/\WoI B W bN bE (A++xL (kl.take j))) (fun _ bG _=>kl.length-(intOf bG).toNat)
   case atStart=>exact ⟨0,aj,rfl,b9.u⟩
   case round=>
    obtain ⟨j,dI,rfl,C,I⟩:=hrel;obtain ⟨a9,ba,rfl⟩:=ax I;have c0:=cQ C aj ch.u;have c1:=cQ C aj cg.u;have a8:=C.size;have a6:(xL (kl.take j)).length=j:=by simp [xL];omega
    by_cases bx:j<kl.length
    ·have di:(j:Int)<(kl.length:Int):=by omega
     obtain ⟨dX,dW,e1,hc⟩:=bf kC 2 (fun _=>rfl) bZ.u j kl[j] (aH bx);simp only [aI,bU] at e1;obtain ⟨rfl,rfl⟩:=e1;have dJ:=iA (hc 0 _ aj rfl);have f0:=cQ C aj (hc 0 _ aj rfl);rw [n8] at f0;have dM:=b0.u _ (bn bx);have cX:=ai (show A++xL (kl.take (j+1))=A++xL (kl.take j)++[kl[j].1++(⟨#[58,42]⟩:ae)] from by rw [cJ bx,xL,cO,<-dc];rfl);have dC:(A++xL (kl.take j)).length<=100:=by rw [aZ,a6];omega
     generalize A++xL (kl.take j)=M at*;generalize kl[j].1=nm at*;have ds:¬9223372036854775807<nm.size+2:=aj;have ac:=ai I;have ab:=ai C;have bo:=ai (show dF (M++[nm++(⟨#[58,42]⟩:ae)])=dF M++[.string (nm++(⟨#[58,42]⟩:ae))] from by simp [dF]);clear I C hc a6;go_wp2_with (at_builtin;go_must (refine bI _ rfl _ _ 22 rfl B 9 i0 _ 1 16 underlying22 bX.u cb.u ce.u cf.u rfl au (.slice a9 M.length ba) M.length (dF M) rfl ?hownK ⟨wr.heap.size,0,none⟩ 1 1 [.string (nm++(⟨#[58,42]⟩:ae))] rfl rfl ?ZY ?honeK au ?h63K ?WC ?ZZ (wr.heap.size+1) ?hHK ?Z0))
     try (case hownK=>exact ac.u.alloc _)
     try (case ZY=>exact bu (B:=wr.heap.size) (cs:=#[.string (nm++(⟨#[58,42]⟩:ae))]) (t:=9) (fr:=(0,0)) (aE.new _ _ _))
     try (case honeK=>first|rfl|(intro u aL;simp at aL;subst aL;rfl))
     try (case h63K=>first|omega|(unfold maxLen;omega))
     try (case WC=>omega)
     try (case ZZ=>first|omega|(simp;omega))
     try (case hHK=>simp)
     case Z0=>
      intro g5 aT bM aK aJ bv dg;have av:=ac.u.alloc (dn (nm++(⟨#[58,42]⟩:ae)));have bb:=ai (ct (ab.u.alloc aj (dn (nm++(⟨#[58,42]⟩:ae)))) aJ aM (fun k a5=>(av.lt k a5).1));have bq:=ai aK;clear av aK aJ bv;go_wp2;go_roundw
      case rel=>exact ⟨j+1,aj,by go_num,bb.u,by rw [cX.u,aZ,bo.u];exact bq.u⟩
      case measure=>simp [intOf];omega
    obtain rfl:j=kl.length:=aj;have di:¬((kl.length:Int)<(kl.length:Int)):=aj;obtain ⟨R,db⟩:∃z,z=wr:=⟨_,rfl⟩;subst db;have dL:(A++xL (kl.take kl.length)).length<=100:=by rw [aZ,a6];omega
    have bV:=ai (show A++xL (kl.take kl.length)=xd kl ss from by rw [kY,bT.u]);have bp:=ai (show an w R from al.u.trans (C.mono aj));have aN:=cQ C (show w1.heap.size<B by omega) (aS.u.cell (o:=0) rfl);have aP:=cQ C (show w1.heap.size<B by omega) (aS.u.cell (o:=1) rfl);have bj:=ai I;have cE:=bp.u.size;generalize A++xL (kl.take kl.length)=D at*;have c4:=ai aN;have c6:=ai aP;have cD:w1.heap.size<R.heap.size:=aj;have cT:=ai (show WoI R.heap.size R R (.slice none 0 0) (Kg st (D.take 0)) from ⟨az _ _,bL⟩);clear a6 I C aN aP al aS bT bZ cg ch ci b0 b9;go_wp2_with fail;clear c0 c1
    go_loopw [13,14] (fun dt bJ bN=>∃k:Nat,k<=D.length/\bJ=.int .i64 k/\WoI R.heap.size R bN dt (Kg st (D.take k))) (fun _ bJ _=>D.length-(intOf bJ).toNat)
    case atStart=>exact ⟨0,aj,rfl,cT.u⟩
    case round=>
     obtain ⟨k,a5,rfl,C,I⟩:=hrel;obtain ⟨du,dv,rfl⟩:=ax I;have a8:=C.size;have c3:=ai (aB bj.u C);have dl:(Kg st (D.take k)).length<=100:=by
      have:=List.length_filter_le st (D.take k);rw [dO] at this;unfold Kg;omega
     by_cases a7:k<D.length
     ·have cy:(k:Int)<(D.length:Int):=by omega
      obtain ⟨g,c,e1,_,_⟩:=qR bj.u aj;simp only [aI,bU] at e1;obtain ⟨rfl,rfl⟩:=e1;have c0:=jf c3.u (aH a7);have dH:=iA (jf bj.u (aH a7));have bB:D[k]∈xd kl ss:=by rw [<-bV.u];exact bn a7
      have bh:=ai (fun w'=>lB D[k] 58 58 rfl w' (cS.u _ bB));have bi:=ai (cP.u _ bB);have aR:=ai (show Kg st (D.take (k+1))=Kg st (D.take k)++(if st D[k] then [D[k]] else []) from by
       rw [cJ a7,Kg,List.filter_append]
       congr 1
       simp only [List.filter_cons,List.filter_nil])
      have aN:=cQ C cD c4.u;have aP:=cQ C cD c6.u;have b3:=ai C;have b5:=ai I;generalize Kg st (D.take k)=M at*;generalize D[k]=a at*;generalize st a=sa at*;clear C I bB;generalize aG a 58=c9 at*;obtain ⟨ck,dx,co⟩:=c9;simp only at bh bi;go_wp2_with fail;refine (ak bh _).mono ?_;rintro e d9 ⟨rfl,Z⟩;have bl:=ai (b3.u.trans (Z.mono a8));have b7:=ai (aB b5.u Z);have e0:=am aN Z;have e1:=am aP Z;have cl:=am c0 Z;have dR:=Z.size;clear Z bh aN aP c0 b3 b5;go_wp2_with fail;refine (ak bi _ (bp.u.trans (bl.u.mono cE))).mono ?_;rintro e w5 ⟨rfl,aD⟩;have ab:=ai (bl.u.trans (aD.mono aj));have ac:=ai (aB b7.u aD);have c5:=am cl aD;have dS:=aD.size;clear aD bi e0 e1 cl bl b7
      cases sa
      ·simp only [bH,aV,eh] at aR;go_wp2;go_roundw
       case rel=>exact ⟨k+1,aj,by go_num,ab.u,by rw [ak aR];exact ac.u⟩
       case measure=>simp [intOf];omega
      simp only [if_true] at aR;have bo:=ai (show dF (M++[a])=dF M++[.string a] from by simp [dF]);go_wp2_with (at_builtin;go_must (refine bI _ rfl _ _ 22 rfl R.heap.size 9 i0 _ 1 16 underlying22 bX.u cb.u ce.u cf.u rfl au (.slice du M.length dv) M.length (dF M) rfl ?hownL ⟨w5.heap.size,0,none⟩ 1 1 [.string a] rfl rfl ?Z1 ?honeL au ?h63L ?WD ?Z2 (w5.heap.size+1) ?hHL ?Z3))
      try (case hownL=>exact ac.u.alloc _)
      try (case Z1=>exact bu (B:=w5.heap.size) (cs:=#[.string a]) (t:=9) (fr:=(0,0)) (aE.new _ _ _))
      try (case honeL=>first|rfl|(intro u aL;simp at aL;subst aL;rfl))
      try (case h63L=>first|omega|(unfold maxLen;omega))
      try (case WD=>omega)
      try (case Z2=>first|omega|(simp;omega))
      try (case hHL=>simp)
      case Z3=>
       intro g5 aT bM aK aJ bv dg;have av:=ac.u.alloc (dn a);have bb:=ai (ct (ab.u.alloc aj (dn a)) aJ aM (fun k a5=>(av.lt k a5).1));have bq:=ai aK;clear av aK aJ bv;go_wp2;go_roundw
       case rel=>exact ⟨k+1,aj,by go_num,bb.u,by rw [ak aR,aZ,bo.u];exact bq.u⟩
       case measure=>simp [intOf];omega
     obtain rfl:k=D.length:=aj;have cy:¬((D.length:Int)<(D.length:Int)):=aj;rw [kY] at I dl;have cV:=ai (show kK (Kg st D)=aX from by rw [cW.u,MJ,bV.u]);have cZ:=ai (zf (Kg st D));have bS:=ai (Hj R.heap.size _ (Kg st D) wr I aj);have ab:=ai C;rw [kY];generalize Kg st D=M at*;clear I C;go_wp2_with fail;refine bS.u.mono ?_;rintro e ea ⟨d8,rfl,cr,cB⟩;have cN:=ai (bp.u.trans ((ab.u.trans (cr.mono a8)).mono cE));have c8:=ai (Jv cB (show w.heap.size<=wr.heap.size by omega));clear cr cB bS;go_wp2;go_ret2;exact ⟨_,rfl,cN.u,by rw [<-cV.u,cZ.u];exact c8.u⟩
def qb(g:GP)(K:Nat->Nat->Bool)(s:Sj):Bool:=decide (0<=aY s.kind s.rel g.rl 0)&&(decide (0<=wR g.th s.kind s.id)&&K (aY s.kind s.rel g.rl 0).toNat (wR g.th s.kind s.id).toNat)
def xe(g:GP):List Tu:=g.ss.map tt
structure Is(g:GP)(ts:List Ty)(F:Nat)(bd:Nat->Ex)(lv:List Nat):Prop where
 m:Ey ts
 k:Kn g.pl g.rl ts F
 gd:∀t∈xe g,BV ts t
 nd:g.th.Nodup
 th:∀t∈xe g,(t.kind,t.id)∈g.th/\(t.sub,t.who)∈g.th
 sub:∀t∈xe g,Tf g t
 bdy:∀(i:Nat)(p:ae×Rl),(bk ts)[i]? =some p->bd i=p.2.body
 own:∀(i:Nat)(X:RV)(p:ae×Rl),g.rl[i]? =some X->(bk ts)[i]? =some p->∀e∈aJ p.2.body,e.nd.kind=1->0<=aY X.kd e.nd.n1 g.rl 0
 len:lv.length=g.rl.length
 lvk:X1 ts (fun d=>lv.getD (aY d.1 d.2 g.rl 0).toNat 0)
 top:∀j,lv.getD j 0<=g.rl.length
variable {k:Nat}
def BH{th}(A:th.Nodup){n}(h:th[k]? =some (x,n)):wR th x n=k:=by
 rcases iq (th:=th) (x:=x) (n:=n) with ⟨_,h2⟩|⟨m,h1,h2⟩
 ·exact absurd (bA h) h2
 rw [h1];have:m=k:=(List.getElem?_inj (br.1 h2).1 A).1 (h2.trans h.symm);rw [this]
def Z4{th n}(h:(x,n)∈th):0<=wR th x n:=by
 rcases iq (th:=th) (x:=x) (n:=n) with ⟨_,h2⟩|⟨m,h1,h2⟩
 ·exact absurd h h2
 rw [h1];omega
def EK{a}:a.size=0↔eqs a My=true:=by
 rw [bo]
 constructor
 ·intro h;apply ByteArray.ext;exact Array.eq_empty_of_size_eq_zero h
 intro h;rw [h];rfl
section
variable {g:GP}{ts:List Ty}{F:Nat}{bd:Nat->Ex}{lv:List Nat}{K:Nat->Nat->Bool}
variable {gs:List Tu} {kd id:ae}
def TG{f}:(lq gs kd id).any f=gs.any fun t=>(eqs t.kind kd&&eqs t.id id)&&f t:=by
 unfold lq;rw [List.any_filter];refine jO (fun t _=> ?_)
 congr 1
 rw [gJ,eA,bM,bo,bo];exact ⟨fun h=>⟨h.1.symm,h.2.symm⟩,fun h=>⟨h.1.symm,h.2.symm⟩⟩
def TH{a b}:decide (a=b)=eqs a b:=by rw [gJ,bo,jo]
def qV(h:Is g ts F bd lv)(D:∀s,lS (xe g) s->qb g K s=false){X:RV}{k:Nat}{id:ae}(I:g.th[k]? =some (X.kd,id)):∀e,(∀l∈aJ e,l.nd.kind=1->0<=aY X.kd l.nd.n1 g.rl 0)->lu g K X k id e=cN (qb g K) ⟨g.kd,g.who⟩ X.kd id (lq (xe g) X.kd id) X.nm e
 |⟨n,some x,some y⟩,ho=>by
  rw [lu,cN,qV h D I x (fun l hl=>ho l (by simp [aJ,hl])),qV h D I y (fun l hl=>ho l (by simp [aJ,hl]))]
 |⟨n,none,r⟩,ho=>by
  rw [lu,cN]
  split
  ·rw [TG];unfold tD xe;rw [pH];refine jO (fun s hs=> ?_);have J:tt s∈xe g:=aN.2 ⟨s,hs,rfl⟩;have V:=h.sub _ J;simp only [Function.comp_apply];unfold Mz X7 gR;rw [TH,rR,rR,rR]
   congr 1
   congr 1
   congr 1
   show (Un g (tt s)||ofQ g K (tt s))=if (tt s).of.size=0 then _ else _
   unfold Un ofQ
   by_cases ho:(tt s).of.size=0
   ·rw [if_pos ho];have C:=EK.1 ho;rw [C];unfold li D8 fb;simp only [fE,pL,eB,mo];rw [<-n9,<-aK,<-aK];rw [gJ];simp only [bM,kZ,bo]
    constructor
    ·rintro ⟨e1,A|A⟩
     ·exact .inl ⟨e1.symm,A.symm⟩
     exact .inr ⟨A,e1.symm⟩
    rintro (⟨e1,A⟩|⟨e1,A⟩)
    ·exact ⟨e1.symm,.inl A.symm⟩
    exact ⟨A.symm,.inr e1⟩
   rw [if_neg ho];have C:eqs (tt s).of My=false:=by
    cases Q:eqs (tt s).of My
    ·rfl
    exact absurd (EK.2 Q) ho
   obtain ⟨n1,ad,R,ab,U,ac⟩:=V C;rw [C];unfold qb fb;simp only [eB,pK,fE,uN];rw [R,U];simp
  split
  ·rename_i h0 h1;unfold qb;have f1:=ho ⟨n,none,r⟩ (by simp [aJ]) h1;simp only;rw [BH h.nd I];simp only at f1;simp [f1]
  rw [TG];unfold tiN wT xe;rw [pH];refine jO (fun s hs=> ?_);have J:tt s∈xe g:=aN.2 ⟨s,hs,rfl⟩;have Y:=(h.th _ J).2;simp only [Function.comp_apply];unfold Th M4 HK fb;rw [TH];simp only [rR]
  congr 1
  congr 1
  congr 1
  by_cases ho:(tt s).of.size=0
  ·rw [if_pos ho,EK.1 ho];simp only [fE]
   cases Z:eqs (tt s).who zE
   ·unfold qb;simp only [pK,fE]
    congr 1
    have:=Z4 Y;simp [this]
   rw [D ⟨(tt s).sub,(tt s).who,n.n2⟩ (ky h.gd (by
    show bz (tt s).who=false
    rw [(bo _ _).1 Z];exact sJ))]
   simp
  rw [if_neg ho];have C:eqs (tt s).of My=false:=by
   cases Q:eqs (tt s).of My
   ·rfl
   exact absurd (EK.2 Q) ho
  rw [C];simp
 |⟨_,some _,none⟩,ho=>by rw [lu,cN]
end
variable {aA aU:Prop}
def Kh (h:aA:=by
 rw [hv];simp;omega):aA:=h
def BI{pl:List PV}:∀(rl:List RV) (ps:List (ae×Rl)) (i:Nat) (X:RV),cU pl rl ps->rl[i]? =some X->∃p,ps[i]? =some p/\X.kd=p.1/\X.nm=p.2.name
 | [],[],i,X,_,h=>by simp at h
 |x::xs,p::ps,0,X,h,e=>by
  simp only [List.getElem?_cons_zero,aL] at e;subst e;exact ⟨p,rfl,h.1.1,h.1.2.1⟩
 |x::xs,p::ps,i+1,X,h,e=>BI xs ps i X h.2 (by simpa using e)
 | [],_::_,_,_,h,_=>h.elim
 |_::_,[],_,_,h,_=>h.elim
section
variable {g:GP}{ts:List Ty}{F:Nat}{bd:Nat->Ex}{lv:List Nat}{K K0 K1:Nat->Nat->Bool}{n:Nat}
def jh(h:mS g lv bd n K0 K):(∀r k,K0 r k=true->K r k=true)/\∀r k,lv[r]? ≠some n->K r k=K0 r k:=by
 induction h using mS.ind with
 |nil=>exact ⟨fun _ _ h=>h,fun _ _ _=>rfl⟩
 |up _ h1 h2 h3 h4 h5 ih=>
  refine ⟨fun r k h=>Kb (ih.1 r k h),fun r k h=> ?_⟩;unfold Bx
  split
  ·rename_i e;rw [e.1] at h;exact absurd h3 h
  exact ih.2 r k h
def WE(h:tP g lv bd n K):∀r k,K r k=true->∃v,lv[r]? =some v/\v<n:=by
 induction h using tP.ind with
 |zero=>intro r k h;cases h
 |@succ n K0 K h1 h2 h3 ih=>
  intro r k h
  by_cases e:lv[r]? =some n
  ·exact ⟨n,e,aj⟩
  rw [(jh h2).2 r k e] at h;obtain ⟨v,hv,hl⟩:=ih r k h;exact ⟨v,hv,aj⟩
variable {N:Nat}
def Iu(h:tP g lv bd N K):∀n,n<N->∃K0 K1,tP g lv bd n K0/\mS g lv bd n K0 K1/\ZS g lv bd n K1/\(∀r v,lv[r]? =some v->v<=n->∀k,K r k=K1 r k)/\(∀r v,lv[r]? =some v->v<n->∀k,K r k=K0 r k)/\∀r k,K1 r k=true->K r k=true:=by
 induction h using tP.ind with
 |zero=>intro n h;omega
 |@succ n' K' K h1 h2 h3 ih=>
  intro n hn
  by_cases e:n=n'
  ·subst e;exact ⟨K',K,h1,h2,h3,fun _ _ _ _ _=>rfl,fun r v hv hl k=>(jh h2).2 r k Kh,fun _ _ h=>h⟩
  obtain ⟨K0,K1,A,C,D,I,J,Q⟩:=ih n aj;exact ⟨K0,K1,A,C,D,fun r v hv hl k=>((jh h2).2 r k Kh).trans (I r v hv hl k),fun r v hv hl k=>((jh h2).2 r k Kh).trans (J r v hv hl k),fun r k h=>(jh h2).1 r k (Q r k h)⟩
variable {k:Nat}
def WG(h:mS g lv bd n K0 K1){r}(h1:K1 r k=true):K0 r k=true\/∃A X q,mS g lv bd n K0 A/\(∀a b,A a b=true->K1 a b=true)/\g.rl[r]? =some X/\g.th[k]? =some q/\lv[r]? =some n/\q.1=X.kd/\lu g A X k q.2 (bd r)=true:=by
 induction h using mS.ind with
 |nil=>exact .inl h1
 |@up K r' k' X q h0 a1 a2 a3 a4 a5 ih=>
  by_cases e:r=r'/\k=k'
  ·obtain ⟨rfl,rfl⟩:=e;exact .inr ⟨K,X,q,h0,fun a b=>Kb,a1,a2,a3,a4,a5⟩
  have:K r k=true:=by
   unfold Bx at h1;rw [if_neg e] at h1;exact h1
  rcases ih this with h|⟨A,C,Q,b1,D,I⟩
  ·exact .inl h
  exact .inr ⟨A,C,Q,b1,fun a b J=>Kb (D a b J),I⟩
def MK(g:GP)(K:Nat->Nat->Bool):Prop:=∀s,lS (xe g) s->qb g K s=false
variable {i:Nat} {X:RV}
def Is.rel(h:Is g ts F bd lv)(J:g.rl[i]? =some X):∃t r,t∈ts/\r∈t.rels/\X.kd=t.name/\X.nm=r.name/\(bk ts)[i]? =some (t.name,r)/\bd i=r.body/\aY t.name r.name g.rl 0=i:=by
 obtain ⟨p,A,e1,D⟩:=BI _ _ i X h.k.b J;obtain ⟨t,R,C,Q⟩:=dM.1 (bA A);have I:p=(t.name,p.2):=by rw [C]
 refine ⟨t,p.2,R,Q,by rw [e1,C],D,by rw [<-I];exact A,h.bdy i p A,?_⟩;rw [C];exact h.k.num A
variable {t:Ty} {r:Rl}
def Is.idx(h:Is g ts F bd lv)(I:t∈ts)(D:r∈t.rels):∃i X n,aY t.name r.name g.rl 0=(i:Nat)/\g.rl[i]? =some X/\X.kd=t.name/\X.nm=r.name/\bd i=r.body/\(bk ts)[i]? =some (t.name,r)/\lv[i]? =some n/\lv.getD i 0=n/\n<=g.rl.length:=by
 obtain ⟨i,hi⟩:=h8.1 (dM.2 ⟨t,I,rfl,D⟩:(t.name,r)∈bk ts);obtain ⟨X,A,e1,C,_⟩:=cV.get g.rl _ i _ h.k.f hi;have hl:i<lv.length:=by rw [h.len];exact (br.1 A).1
 refine ⟨i,X,lv.getD i 0,h.k.num hi,A,e1,C,h.bdy i _ hi,hi,?_,rfl,h.top i⟩;rw [ef,aH hl]
 rfl
def Ya{s}(I:lv.length=g.rl.length)(A:∀r:Nat,aY s.kind s.rel g.rl 0=r->lv[r]? =some (lv.getD r 0)->∀k,K r k=K1 r k):qb g K s=qb g K1 s:=by
 unfold qb
 rcases wU s.kind s.rel g.rl 0 with e|⟨j,e,_,D⟩
 ·rw [e];rfl
 rw [e];have C:j<lv.length:=aj;simp only [Int.toNat_natCast];rw [A j e (by rw [ef,aH C];rfl)]
def qW(h:Is g ts F bd lv)(C:MK g K){s}(A:eV ts s=false):qb g K s=false:=by
 unfold eV at A;rw [z6] at A
 rcases A with A|A
 ·rcases c9 h.k.d h.k.b s.kind s.rel with ⟨e,_⟩|⟨j,t,r,_,h1,h2,_⟩
  ·unfold qb;rw [e];rfl
  unfold tB at A;rw [h1] at A;simp [h2] at A
 exact C s (ky h.gd A)
variable {id:ae}
def Yb(h:Is g ts F bd lv)(e:aY t.name r.name g.rl 0=(i:Nat))(A:g.th[k]? =some (t.name,id)):qb g K ⟨t.name,id,r.name⟩=K i k:=by
 unfold qb;simp only;rw [e,BH h.nd A];simp
def TI{s}(h:qb g K s=true):∃i k:Nat,aY s.kind s.rel g.rl 0=i/\g.th[k]? =some (s.kind,s.id)/\K i k=true:=by
 unfold qb at h;simp only [bM,jo] at h;obtain ⟨h1,h2,A⟩:=h
 rcases iq (th:=g.th) (x:=s.kind) (n:=s.id) with ⟨e,_⟩|⟨m,e1,C⟩
 ·omega
 rw [e1] at A;exact ⟨(aY s.kind s.rel g.rl 0).toNat,m,aj,C,A⟩
def Is.own2(h:Is g ts F bd lv)(A:g.rl[i]? =some X)(C:(bk ts)[i]? =some (t.name,r)):∀l∈aJ r.body,l.nd.kind=1->0<=aY X.kd l.nd.n1 g.rl 0:=h.own i X _ A C
def qX(h:Is g ts F bd lv)(h0:MK g K0)(hs:mS g lv bd n K0 K):MK g K:=by
 induction hs using mS.ind with
 |nil=>exact h0
 |@up K r k X q _ a1 a2 a3 a4 a5 ih=>
  intro s J
  cases hv:qb g (Bx K r k) s
  ·rfl
  exfalso;obtain ⟨i,m,e1,A,C⟩:=TI hv;unfold Bx at C
  split at C
  ·rename_i e;obtain ⟨rfl,rfl⟩:=e;rw [A] at a2
   cases a2
   obtain ⟨t,r,ab,Z,c1,c2,c3,R,c5⟩:=h.rel a1;have D:s.kind=X.kd:=a4;have U:g.th[m]? =some (X.kd,s.id):=by rw [<-D];exact A
   rw [R,qV h ih U _ (h.own2 a1 c3)] at a5;have Q:lq (xe g) X.kd s.id=[]:=by rw [<-D];exact J
   rw [Q,jg (fun m=>ih ⟨X.kd,s.id,m⟩ Q)] at a5
   cases a5
  have:qb g K s=true:=by
   unfold qb
   rcases iq (th:=g.th) (x:=s.kind) (n:=s.id) with ⟨e,h2⟩|⟨Y,V,I⟩
   ·exact absurd (bA A) h2
   have:Y=m:=(List.getElem?_inj (br.1 I).1 h.nd).1 (I.trans A.symm);rw [e1,V,this];simp [C]
  rw [ih s J] at this
  cases this
def xf(h:Is g ts F bd lv)(A:tP g lv bd n K):MK g K:=by
 induction A using tP.ind with
 |zero=>intro s _;unfold qb;simp
 |succ _ h2 _ ih=>exact qX h ih h2
end
section
variable {g:GP}{ts:List Ty}{F:Nat}{bd:Nat->Ex}{lv:List Nat}{K Kc:Nat->Nat->Bool}{n:Nat}
variable {t:Ty} {r:Rl} {i k:Nat} {X:RV} {id:ae}
def TJ(h:Is g ts F bd lv)(V:MK g K)(I:MK g Kc)(ae:∀r v,lv[r]? =some v->v<n->∀k,Kc r k=K r k)(ai:t∈ts)(ag:r∈t.rels)(e:aY t.name r.name g.rl 0=(i:Nat))(Y:g.rl[i]? =some X)(e1:X.kd=t.name)(R:X.nm=r.name)(Z:bd i=r.body)(ab:(bk ts)[i]? =some (t.name,r))(ad:lv.getD i 0=n)(ac:g.th[k]? =some (t.name,id))(C:lu g Kc X k id (bd i)=true):
  bz id=true/\ii (qb g Kc) (qb g K) ⟨g.kd,g.who⟩ t.name id (lq (xe g) t.name id) r.name r.body=true:=by
 rw [Z,qV h I (by rw [e1];exact ac) _ (h.own2 Y ab),e1,R] at C;refine ⟨?_,?_⟩
 ·cases af:bz id
  ·have D:lS (xe g) ⟨t.name,id,r.name⟩:=ky (s:=⟨t.name,id,r.name⟩) h.gd af;have J:lq (xe g) t.name id=[]:=D;rw [J,jg (fun m=>I ⟨t.name,id,m⟩ J)] at C
   cases C
  rfl
 ·rw [<-fO] at C;rw [<-fQ _ (fun _ _=>rfl) (fun s hs=> ?_)]
  ·exact C
  have A:=JU h.m h.lvk h.gd ai ag hs;simp only at A;rw [e,j4,ad] at A
  by_cases Q:eV ts s=true
  ·unfold M0 at A;rw [if_pos Q] at A;exact Ya (lv:=lv) h.len (fun al U ah ak=>by
    simp only at A;rw [U,j4] at A;exact ae al _ ah aj ak)
  have D:eV ts s=false:=by simpa using Q
  rw [qW h I D,qW h V D]
def EL(h:Is g ts F bd lv)(an:tP g lv bd (g.rl.length+1) K):sB (fJ ts (xe g) ⟨g.kd,g.who⟩) (qb g K):=by
 have R:=xf h an;refine ⟨fun s=> ?_,fun ar aL=> ?_⟩
 ·rcases n5 (ts:=ts) (gs:=xe g) (who:=⟨g.kd,g.who⟩) s with ⟨t,I,r,D,id,aN,rfl⟩|⟨h1,h2⟩
  ·rw [wN h.m I D aN,fO];obtain ⟨i,X,n,e,ae,e1,ad,af,ag,hl,ah,hn⟩:=h.idx I D
   by_cases aE:(t.name,id)∈g.th
   ·obtain ⟨k,Z⟩:=h8.1 aE;obtain ⟨K0,K1,V,Y,ak,ac,al,aG⟩:=Iu an n aj;have d0:=xf h V;have d1:=qX h d0 Y;rw [Yb h e Z]
    cases hv:cN (qb g K) ⟨g.kd,g.who⟩ t.name id (lq (xe g) t.name id) r.name r.body
    ·cases ai:K i k
     ·rfl
     exfalso;rw [ac i n hl aD k] at ai
     rcases WG Y ai with ai|⟨aV,aW,q,b1,aH,au,av,aX,aY,aI⟩
     ·obtain ⟨v,A,ab⟩:=WE V i k ai;rw [hl] at A
      cases A
      omega
     rw [ae] at au
     cases au
     rw [Z] at av
     cases av
     have:=(TJ h R (qX h d0 b1) (fun J v A ab C=>by
      rw [al J v A ab C];exact (jh b1).2 J C (by rw [A];simp;omega)) I D e ae e1 ad af ag ah Z aI).2
     have:=gS (EX:=qb g K) (fun s hs=>by
      obtain ⟨i',C,c1,c2,c3⟩:=TI hs;unfold qb;rw [c1,BH h.nd c2];simp only [Int.toNat_natCast];rw [aG i' C (aH i' C c3)];simp) _ this
     rw [fO,hv] at this
     cases this
    have aQ:cN (qb g K1) ⟨g.kd,g.who⟩ t.name id (lq (xe g) t.name id) r.name r.body=true:=by
     rw [<-hv];refine fP _ (fun s hs=> ?_);have U:=SL h.m h.lvk h.gd I D hs;simp only at U;rw [e,j4,ah] at U
     by_cases az:eV ts s=true
     ·unfold M0 at U;rw [if_pos az] at U;exact Ya (lv:=lv) h.len (fun J aJ aO C=>by
       simp only at U;rw [aJ,j4] at U;exact (ac J _ aO aj C).symm)
     have ay:eV ts s=false:=by simpa using az
     rw [qW h d1 ay,qW h R ay]
    rw [ac i n hl aD k];refine ak i k X (t.name,id) ae Z hl e1.symm ?_;rw [af,qV h d1 (by rw [e1];exact Z) _ (h.own2 ae ag),e1,ad];exact aQ
   have am:lq (xe g) t.name id=[]:=by
    rw [H7];intro u aP;obtain ⟨h1,h2,aw⟩:=lR.1 aP;exact aE (by rw [<-h2,<-aw];exact (h.th u h1).1)
   rw [am,jg (fun m=>R ⟨t.name,id,m⟩ am)];exact R ⟨t.name,id,r.name⟩ am
  rw [h2,qW h R h1]
 have key:∀N Q,tP g lv bd N Q->(∀r v,lv[r]? =some v->v<N->∀k,K r k=Q r k)->∀s,qb g Q s=true->ar s=true:=by
  intro N Q aM
  induction aM using tP.ind with
  |zero=>intro _ s hs;unfold qb at hs;simp at hs
  |@succ n K0 Q h1 h2 aw ih=>
   intro aK;have ax:∀r v,lv[r]? =some v->v<n->∀k,K r k=K0 r k:=fun r v hv ab k=>(aK r v hv aj k).trans ((jh h2).2 r k Kh)
   have aR:=ih ax;have d0:=xf h h1;have aS:∀Kc,mS g lv bd n K0 Kc->∀s,qb g Kc s=true->ar s=true:=by
    intro Kc hs
    induction hs using mS.ind with
    |nil=>exact aR
    |@up Kc r k X q hst V Y ak ac al ih2=>
     intro s hv;obtain ⟨i',C,c1,c2,c3⟩:=TI hv;unfold Bx at c3
     split at c3
     ·rename_i ee;obtain ⟨rfl,rfl⟩:=ee;rw [c2] at Y
      cases Y
      obtain ⟨t,r,I,D,e1,ad,ag,af,e⟩:=h.rel V;have aC:(s.kind,s.rel)=(t.name,r.name):=h.k.inj (s:=(s.kind,s.rel)) (s':=(t.name,r.name)) c1 e;simp only [gM] at aC;obtain ⟨ap,aB⟩:=aC;have ah:lv.getD i' 0=n:=by rw [ef,ak];rfl
      obtain ⟨f1,f2⟩:=TJ h R (qX h d0 hst) (fun J v A ab aF=>by
       rw [ax J v A ab aF];exact (jh hst).2 J aF (by rw [A];simp;omega)) I D e V e1 ad af ag ah (by rw [<-ap];exact c2) al
      refine aL s ?_;obtain ⟨sk,aZ,a0⟩:=s;simp only at ap aB f1 f2 ⊢;subst ap;subst aB;rw [wN h.m I D f1];exact gS (fun s hs=>ih2 s hs) _ f2
     refine ih2 s ?_;unfold qb;rw [c1,BH h.nd c2];simp [c3]
   exact aS Q h2
 exact key _ K an (fun _ _ _ _ _=>rfl)
def TK(h:Is g ts F bd lv)(C:tP g lv bd (g.rl.length+1) K){kb}(A:oI ⟨g.kd,g.who⟩ (dG (xe g)) ((cZ ts).map (List.map mW)) (fun _=>false) kb)(s):qb g K s=kb s:=
 HV (sys_f h.m h.lvk h.gd) (EL h C) (H8 h.m (SN h.m) h.gd (io ts) (H5 _) A) s
end
structure qc(pl:List PV)(kl:List (ae×Nat))(rl:List RV)(ts:List Ty)(F:Nat):Prop where
 k:Kn pl rl ts F
 g:nO rl pl (ez rl pl (aF pl F))
 r:kg kl rl pl (ez rl pl (aF pl F)) (aF pl F)=none
 n:eT (gN ts) ts=none
 m:Ey ts
variable {s:ae} {ts:List Ty} {m:Nat} {rl:List RV} {pl:List PV}
def kn_of{kl}(hs:s.size<=500)(A:fq s=.ok ts)(h:eg (TT s) (PP s)=.ok (ts,m))(V:Gd s m)(Q:vH pl kl rl ts):∃F,qc pl kl rl ts F:=by
 have C:=md_of A;obtain ⟨F,hF⟩:=cU.fuel rl _ Q.2;have U:=sized h V hs;have J:=vZ h;obtain ⟨rfl,I⟩:=id Q;have hn:=tf C.d I hF J;have R:eT (gN ts) ts=none:=by
  unfold fq at A
  split at A
  ·cases A
  split at A
  ·cases A
  rename_i ts' ad ac
  split at A
  ·cases A
  rename_i hc
  cases A
  unfold gt at hc
  split at hc
  ·cases hc
  split at hc
  ·cases hc
  rename_i h2;exact h2
 rw [R] at hn;exact ⟨F,⟨C.d,I,hF,J,fun t D r A=>(kj h t D r A).1,fun t D r A=>(((iH (TT s) (PP s) ts m h).1 t D).1 r A).wf,U,fun x ab n Y p Z=>qF _ _ _ hn x ab n Y p Z⟩,A6 hF U,hn,R,C⟩
section
variable {pl:List PV}{kl:List (ae×Nat)}{rl:List RV}{ts:List Ty}{F:Nat}{t:Ty}{r:Rl}{e:Ex}{d:Sp}
def qc.nm(h:qc pl kl rl ts F)(I:t∈ts)(D:r∈t.rels)(C:e∈aC r.body):fV ts t e=none:=by
 have h1:=h.n;unfold eT at h1;have h2:=(j7.1 h1) t I;have A:=(j7.1 h2) r D;exact (j7.1 A) e C
def qc.grant(h:qc pl kl rl ts F)(Q:t∈ts)(J:r∈t.rels){g}(A:g∈b9 r.body):∃u,bW ts g.ty=some u/\(g.reach=2->∃q,bT u g.rel=some q):=by
 rw [dS] at A;obtain ⟨e,C,A⟩:=bS.1 A;obtain ⟨h1,h2⟩:=(e9 _ e).1 C;rw [lK h2] at A
 split at A
 ·rename_i D;have:=h.nm Q J h1;unfold fV at this;rw [h2] at this;simp only [if_pos D] at this;have:=(j7.1 this) g A;unfold l7 at this
  split at this
  ·cases this
  rename_i u R;refine ⟨u,R,fun h2=> ?_⟩;rw [if_pos h2] at this
  split at this
  ·cases this
  rename_i q I;exact ⟨q,I⟩
 cases A
def qc.need(h:qc pl kl rl ts F)(J:t∈ts)(U:r∈t.rels)(Q:e∈aJ r.body)(A:d∈dJ ts t r e):∃u∈ts,∃q∈u.rels,d=(u.name,q.name):=by
 rw [fN (iM Q)] at A;obtain ⟨Z,hl⟩:=(e9 _ e).1 Q
 split at A
 ·unfold mh at A;obtain ⟨g,R,e1⟩:=mD.1 A;obtain ⟨u,C,h2⟩:=h.grant J U R;unfold mg at e1
  split at e1
  ·rename_i ab;obtain ⟨q,I⟩:=h2 ab
   cases e1
   obtain ⟨V,Y⟩:=cb C;obtain ⟨b1,D⟩:=cH I;exact ⟨u,V,q,b1,by rw [Y,D]⟩
  cases e1
 rename_i h0;unfold tI at A;rw [if_neg h0] at A
 split at A
 ·rename_i h1;rw [aR] at A;have:=h.nm J U Z;unfold fV at this;rw [hl] at this;simp only [if_neg h0,if_pos h1] at this
  split at this
  ·cases this
  rename_i q I;obtain ⟨b1,D⟩:=cH I;exact ⟨t,J,q,b1,by rw [A,D]⟩
 obtain ⟨u,C,rfl⟩:=aN.1 A;unfold nt at C
 split at C
 ·cases C
 obtain ⟨g,R,e1⟩:=mD.1 C;unfold iE at e1
 split at e1
 ·split at e1
  ·cases e1
  rename_i v hv
  split at e1
  ·rename_i ac
   cases e1
   obtain ⟨q,I⟩:=Option.isSome_iff_exists.1 ac;obtain ⟨b1,D⟩:=cH I;exact ⟨u,(cb hv).1,q,b1,by rw [D]⟩
  cases e1
 cases e1
def qc.own(h:qc pl kl rl ts F)(C:t∈ts)(R:r∈t.rels)(I:e∈aJ r.body)(J:e.nd.kind=1):∃j:Nat,aY t.name e.nd.n1 rl 0=j/\j<rl.length:=by
 obtain ⟨Q,hl⟩:=(e9 _ e).1 I;have:=h.nm C R Q;unfold fV at this;rw [hl] at this;simp only [show ¬e.nd.kind=0 by omega,aV,if_pos J] at this
 split at this
 ·cases this
 rename_i q A
 rcases c9 h.k.d h.k.b t.name e.nd.n1 with ⟨_,h2⟩|⟨j,Y,V,e1,_,_,D⟩
 ·rw [h2 t (h.m.k.fnd t C)] at A
  cases A
 obtain ⟨x,U,_⟩:=cV.get rl _ j _ h.k.f D;exact ⟨j,e1,(br.1 U).1⟩
def qc.num(h:qc pl kl rl ts F)(J:t∈ts)(I:r∈t.rels):∃(j:Nat)(X:RV),aY t.name r.name rl 0=j/\(bk ts)[j]? =some (t.name,r)/\rl[j]? =some X/\X.kd=t.name/\X.nm=r.name/\Tr pl F X.ex r.body:=by
 obtain ⟨i,hi⟩:=h8.1 (dM.2 ⟨t,J,rfl,I⟩:(t.name,r)∈bk ts);obtain ⟨X,D,e1,A,_,C⟩:=cV.get rl _ i _ h.k.f hi;exact ⟨i,X,h.k.num hi,hi,D,e1,A,C⟩
variable {i:Nat} {X:RV}
def qc.at_(h:qc pl kl rl ts F)(D:rl[i]? =some X):∃t r,t∈ts/\r∈t.rels/\(bk ts)[i]? =some (t.name,r)/\X.kd=t.name/\X.nm=r.name/\Tr pl F X.ex r.body/\aY t.name r.name rl 0=i:=by
 obtain ⟨p,A,e1,J⟩:=BI _ _ i X h.k.b D;obtain ⟨t,V,C,U⟩:=dM.1 (bA A);obtain ⟨Y,I,_,_,_,R⟩:=cV.get rl _ i _ h.k.f A;rw [D] at I
 cases I
 have Q:p=(t.name,p.2):=by rw [C]
 refine ⟨t,p.2,V,U,by rw [<-Q];exact A,by rw [e1,C],J,R,?_⟩;rw [C];exact h.k.num A
def EM:∀(rl:List RV) (ps:List (ae×Rl)),cU pl rl ps->ps.length=rl.length
 | [],[],_=>rfl
 |x::xs,p::ps,h=>by simp [EM xs ps h.2]
 | [],_::_,h=>h.elim
 |_::_,[],h=>h.elim
def qc.rk(h:qc pl kl rl ts F)(R:t∈ts)(Q:r∈t.rels):Es ts (t.name,r.name)<=rl.length:=by
 unfold Es;have:=oC (cL ts [(t.name,r.name)]) ((bk ts).map fun p=>(p.1,p.2.name)) (im _ _ _ _ ar) (fun z D=>by
  rw [e8] at D;have key:∃u∈ts,∃q∈u.rels,z=(u.name,q.name):=by
   induction D using Ba.ind with
   |base hx=>rw [aR] at hx;exact ⟨t,R,r,Q,hx⟩
   |step _ hy ih=>
    obtain ⟨u,C,q,A,rfl⟩:=ih;rw [h.m.k.need C A,eE] at hy;obtain ⟨e,J,I⟩:=hy;exact h.need C A J I
  obtain ⟨u,C,q,A,rfl⟩:=key;exact aN.2 ⟨(u.name,q),dM.2 ⟨u,C,rfl,A⟩,rfl⟩)
 rw [bX,EM rl _ h.k.b] at this;exact this
end
def exN:Ex:=⟨⟨0,0,em,0,em,0,[]⟩,none,none⟩
def ML(ts:List Ty)(i:Nat):Ex:=match (bk ts)[i]? with
 |some p=>p.2.body
 |none=>exN
def M5(ts:List Ty)(j:Nat):Nat:=match (bk ts)[j]? with
 |some p=>Es ts (p.1,p.2.name)
 |none=>0
def MnF(ts:List Ty)(rl:List RV)(i:Nat)(e:Ex)(d:Nat):Prop:=∃t r,t∈ts/\r∈t.rels/\(bk ts)[i]? =some (t.name,r)/\∃s∈dJ ts t r e,aY s.1 s.2 rl 0=d
def Z5(ts:List Ty)(rl:List RV)(lv:List Nat)(i b:Nat):Prop:=xK (MnF ts rl i) (fun d=>lv.getD d 0) b 0 (ML ts i)
section
variable {pl:List PV}{kl:List (ae×Nat)}{rl:List RV}{ts:List Ty}{F:Nat}{t:Ty}{r:Rl}
variable {i d:Nat}
def qc.mn(h:qc pl kl rl ts F)(C:t∈ts)(I:r∈t.rels)(hi:(bk ts)[i]? =some (t.name,r)){e}:MnF ts rl i e d↔∃s∈dJ ts t r e,aY s.1 s.2 rl 0=d:=by
 constructor
 ·rintro ⟨Q,U,J,R,A,hs⟩;rw [hi] at A;simp only [aL,gM] at A;obtain ⟨e1,D⟩:=A;subst D;have f1:=h.m.k.fnd t C;have f2:=h.m.k.fnd Q J;rw [e1,f2] at f1
  cases f1
  exact hs
 exact fun hs=>⟨t,r,C,I,hi,hs⟩
variable {f m:Nat}
def TL{e}(h:Tr pl 1 m e):aF pl (f+1) m=[m]/\Tr pl (f+1) m e:=by
 obtain ⟨p,A,h⟩:=h
 rcases h with h|h|h|⟨_,_,D,ns,I,rs,_,C,_⟩|⟨_,_,_,D,ns,I,rs,_,C,_⟩
 ·exact ⟨by rw [aF];simp only [A];rw [if_neg aj],⟨p,A,.inl h⟩⟩
 ·exact ⟨by rw [aF];simp only [A];rw [if_neg aj],⟨p,A,.inr (.inl h)⟩⟩
 ·exact ⟨by rw [aF];simp only [A];rw [if_neg aj],⟨p,A,.inr (.inr (.inl h))⟩⟩
 ·exact C.elim
 exact C.elim
variable {X:RV}
def qc.ndk(h:qc pl kl rl ts F)(bm kv rv pv l lv)(ae:lv.length=rl.length)(Z:rl[i]? =some X)(R:t∈ts)(Q:r∈t.rels)(hi:(bk ts)[i]? =some (t.name,r))(ac:X.kd=t.name)(D:Tr pl F X.ex r.body):NdK bm kv rv pv kl rl pl l lv (MnF ts rl i) X r.body (aF pl F X.ex):=by
 intro m e I ah ab;obtain ⟨f,rfl⟩:∃f,F=f+1:=by
  cases F with
  |zero=>exact D.elim
  |succ f=>exact ⟨f,rfl⟩
 obtain ⟨l1,t1⟩:=TL (f:=f) ah;have C:=bA Z;have ad:aJ e=[e]:=by
  have:=iM ab;obtain ⟨au,ap,av⟩:=e;simp only at this;subst this;simp [aJ]
 have ag:YZ pl (f+1) X t r m e:=⟨t1,D,by rw [l1];intro n hn;rw [aR] at hn;rw [hn];exact I,ac⟩;have af:=(jJ h.k.f h.k.z X C).1;obtain ⟨U,ak,V,_,_⟩:=nS h.k.f h.k.z kl h.r X C [m] (fun n hn=>by rw [aR] at hn;rw [hn];exact I) ar;obtain ⟨b1,al,am,an,Y⟩:=nS h.k.f h.k.z kl h.r X C (aF pl (f+1) X.ex) (fun n hn=>hn) af;have J:=fun j=>h.k.need C R Q ag j
 rw [l1] at J;refine ⟨fw rl pl (ez rl pl (aF pl (f+1))) X.kd [m] (aF pl (f+1) X.ex),?_,fun d A=> ?_,fun d=> ?_,fun w ai=> ?_⟩
 ·unfold fw;rw [aZ]
  split
  ·omega
  simp only [List.length_nil];omega
 ·rw [ae];unfold fw at A
  rcases aQ.1 A with A|A
  ·exact V d A
  split at A
  ·exact Y d A
  cases A
 ·rw [J d,h.mn R Q hi];simp only [eE,ad,aR,exists_eq_left]
 exact vM bm kv rv pv kl rl pl l (ez rl pl (aF pl (f+1))) X.kd m X.ex [m] (aF pl (f+1) X.ex) w ai h.g ⟨by rw [<-l1];exact gZ pl (f+1) m e t1 (by rw [l1];simp),ar,U⟩ ⟨gZ pl (f+1) X.ex r.body D aj,aj,b1⟩ aj aj
def qc.lev(h:qc pl kl rl ts F)(av:rl.length<=500)(bm kv rv pv l tO lv i X)(ag:lv.length=rl.length)(U:∀j,lv.getD j 0<=M5 ts j)(R:rl[i]? =some X):∃C,Uq bm kv rv pv kl rl pl l tO lv i X.ex 0 C/\C<=M5 ts i/\∀b,C<=b↔Z5 ts rl lv i b:=by
 obtain ⟨t,r,Q,J,hi,e1,ar,Z,au⟩:=h.at_ R;have an:=bA R;have ad:ML ts i=r.body:=by unfold ML;rw [hi]
 have ak:M5 ts i=Es ts (t.name,r.name):=by unfold M5;rw [hi]
 have al:∀j,M5 ts j<=500:=fun j=>by
  unfold M5
  cases V:(bk ts)[j]? with
  |none=>simp
  |some p=>
   obtain ⟨u,Y,D,ai⟩:=dM.1 (bA V);have:=h.rk Y ai;simp only;rw [<-D];omega
 have af:(aJ r.body).length<=1000:=by
  rw [<-cG.len _ _ (dW pl F _ _ Z)];have:=(jJ h.k.f h.k.z X an).1;omega
 obtain ⟨C,h1,h2⟩:=wY bm kv rv pv kl rl pl l tO lv (MnF ts rl i) i X r.body (aF pl F X.ex) R (h.ndk bm kv rv pv l lv ag R Q J hi e1 Z) (fun x am=>by
  obtain ⟨j,ae⟩:=h8.1 am;have:=U j;rw [ef,ae] at this;have:=al j;simp only [Option.getD_some] at*;omega) F X.ex r.body Z af (fun e A=>A) (fun m ah=>ah) 0 aj
 have key:∀e d,e∈aJ r.body->MnF ts rl i e d->∃s∈dJ ts t r e,M5 ts d=Es ts s:=fun e d A I=>by
  obtain ⟨s,hs,ab⟩:=(h.mn Q J hi).1 I;obtain ⟨u,Y,q,V,rfl⟩:=h.need Q J A hs;obtain ⟨j,ap,D,ac,_⟩:=h.num Y V;have:j=d:=by rw [D] at ab;exact Int.ofNat.inj ab
  subst this;exact ⟨_,hs,by unfold M5;rw [ac]⟩
 refine ⟨C,h1,?_,fun b=>by rw [h2];unfold Z5;rw [ad]⟩;rw [h2,ak];refine Ik _ (fun e A d I=> ?_) (fun e A d I=> ?_)
 ·obtain ⟨s,hs,D⟩:=key e d A I;have:=U d;have:=h.m.k.rkp Q J A hs;omega
 obtain ⟨s,hs,D⟩:=key e d (oD _ _ A) I;have:=U d;have:=h.m.k.rkn Q J A hs;omega
def qc.lvk(h:qc pl kl rl ts F){lv:List Nat}(V:∀j,j<rl.length->Z5 ts rl lv j (lv.getD j 0)):X1 ts (fun d=>lv.getD (aY d.1 d.2 rl 0).toNat 0) where
 pos:=fun t C r A e J d I=>by
  obtain ⟨i,X,e1,hi,Q,_⟩:=h.num C A;have:=V i (br.1 Q).1;unfold Z5 at this;rw [show ML ts i=r.body from by unfold ML;rw [hi]] at this;obtain ⟨u,U,q,R,rfl⟩:=h.need C A J I;obtain ⟨j,_,D,_⟩:=h.num U R;have:=uf _ 0 aj this e J j ((h.mn C A hi).2 ⟨_,I,D⟩);simp only [e1,D,Int.toNat_natCast];omega
 neg:=fun t C r A e J d I=>by
  obtain ⟨i,X,e1,hi,Q,_⟩:=h.num C A;have:=V i (br.1 Q).1;unfold Z5 at this;rw [show ML ts i=r.body from by unfold ML;rw [hi]] at this;obtain ⟨u,U,q,R,rfl⟩:=h.need C A (oD _ _ J) I;obtain ⟨j,_,D,_⟩:=h.num U R;have:=BE _ 0 aj this e J j ((h.mn C A hi).2 ⟨_,I,D⟩);simp only [e1,D,Int.toNat_natCast];omega
end
def TM:∀(ss:List ae) (th:List (ae×ae)),th.Nodup->(qa th ss).Nodup
 | [],th,h=>h
 |s::ss,th,h=>TM ss _ (BF (BF h))
def Ki:∀(ss:List ae) (th:List (ae×ae)),∀s∈ss,((tt s).kind,(tt s).id)∈qa th ss/\((tt s).sub,(tt s).who)∈qa th ss
 | [],th,s,h=>by cases h
 |a::ss,th,s,h=>by
  rcases bi.1 h with rfl|h
  ·exact ⟨ug ss _ _ (lT.2 _ lT.1),ug ss _ _ lT.1⟩
  exact Ki ss _ s h
section
variable {pl:List PV}{kl:List (ae×Nat)}{rl:List RV}{l:List PX}{ts:List Ty}{F:Nat}{ss:List ae}{g:GP}{b y bm:Nat}{k0 i0 kd who:ae}
variable {s:ae}
def Iv(h:X9 g b y bm kl rl pl l ss (qa (eG [] k0 i0) ss) kd who)(hs:s∈g.ss):((tt s).kind,(tt s).id)∈g.th/\((tt s).sub,(tt s).who)∈g.th:=by
 rw [h.ss] at hs;rw [h.th];exact Ki ss _ s hs
def Kj(h:qc pl kl rl ts F)(A:X9 g b y bm kl rl pl l ss (qa (eG [] k0 i0) ss) kd who)(U:∀t∈ss.map tt,BV ts t)(hs:s∈g.ss):Tf g (tt s):=fun D=>by
 have ab:=(Iv A hs).2;have I:=hs;rw [A.ss] at I;obtain ⟨y,q,g0,f1,f2,V,e1,C,Q⟩:=kw U (aN.2 ⟨s,I,rfl⟩);obtain ⟨J,ae⟩:=cb f1;obtain ⟨b1,af⟩:=cH f2;obtain ⟨u,ac,Y⟩:=h.grant J b1 V;have ad:¬(tt s).of.size=0:=fun e=>by rw [EK.1 e] at D;cases D
 unfold hX at C;rw [if_neg ad] at C;obtain ⟨ag,Z⟩:=Y C;obtain ⟨c1,c2⟩:=cb ac;obtain ⟨d1,d2⟩:=cH Z;obtain ⟨j,X,n1,_,R,_⟩:=h.num c1 d1;rw [c2,d2,e1,Q] at n1
 rcases iq (th:=g.th) (x:=(tt s).sub) (n:=(tt s).who) with ⟨_,h2⟩|⟨m,h1,h2⟩
 ·exact absurd ab h2
 exact ⟨j,m,by rw [A.rl];exact n1,by rw [A.rl];exact (br.1 R).1,h1,(br.1 h2).1⟩
def WH(h:X9 g b y bm kl rl pl l ss (qa (eG [] k0 i0) ss) kd who)(hs:s∈g.ss):ThK g (tt s):=by
 rcases iq (th:=g.th) (x:=(tt s).sub) (n:=(tt s).who) with ⟨_,h2⟩|⟨m,h1,h2⟩
 ·exact absurd (Iv h hs).2 h2
 exact ⟨m,h1,(br.1 h2).1⟩
def TN(h:qc pl kl rl ts F)(j):M5 ts j<=rl.length:=by
 unfold M5
 cases C:(bk ts)[j]? with
 |none=>simp
 |some p=>
  obtain ⟨u,I,A,D⟩:=dM.1 (bA C);have:=h.rk I D;simp only;rw [<-A];exact this
def Z6(h:qc pl kl rl ts F)(A:X9 g b y bm kl rl pl l ss (qa (eG [] k0 i0) ss) kd who)(J:∀t∈ss.map tt,BV ts t){lv:List Nat}(Z:lv.length=rl.length)(Y:∀j,lv.getD j 0<=M5 ts j)(R:∀j,j<rl.length->Z5 ts rl lv j (lv.getD j 0)):Is g ts F (ML ts) lv where
 m:=h.m
 k:=by rw [A.pl,A.rl];exact h.k
 gd:=by unfold xe;rw [A.ss];exact J
 nd:=by rw [A.th];exact TM ss _ (BF ar)
 th:=fun t C=>by
  obtain ⟨s,hs,rfl⟩:=aN.1 C;exact Iv A hs
 sub:=fun t C=>by
  obtain ⟨s,hs,rfl⟩:=aN.1 C;exact Kj h A J hs
 bdy:=fun i p D=>by unfold ML;rw [D]
 own:=fun i X p I D e U V=>by
  rw [A.rl] at I ⊢;obtain ⟨t,r,C,ab,hi,e1,_⟩:=h.at_ I;rw [hi] at D
  cases D
  obtain ⟨j,Q,_⟩:=h.own C ab U V;rw [e1,Q];omega
 len:=by rw [A.rl];exact Z
 lvk:=by rw [A.rl];exact h.lvk R
 top:=fun j=>by
  rw [A.rl];have:=Y j;have:=TN h j;omega
def Z7(h:qc pl kl rl ts F)(A:X9 g b y bm kl rl pl l ss (qa (eG [] k0 i0) ss) kd who)(V:∀t∈ss.map tt,BV ts t):∀C r k X q,g.rl[r]? =some X->g.th[k]? =some q->Tj g C r k X.ex (lu g C X k q.2 (ML ts r)):=fun C r k X q I Z=>by
 have D:=I;rw [A.rl] at D;obtain ⟨t,Q,ac,ab,hi,e1,_,J,_⟩:=h.at_ D;have R:ML ts r=Q.body:=by unfold ML;rw [hi]
 rw [R];refine zG g C r k X q I Z (fun s hs=>Kj h A V hs) (fun s hs=>WH A hs) F X.ex Q.body (by rw [A.pl];exact J) ?_ (fun e U Y=> ?_)
 ·rw [<-cG.len _ _ (dW pl F _ _ J)];have:=(jJ h.k.f h.k.z X (bA D)).1;omega
 rw [A.rl,e1];exact h.own ac ab U Y
end
def Iw(y bm:Nat)(tv kv rv pv kl rl pl l ss kd who id)(rel F:Nat)(X ts kb w)(ae:DU w y (.pointer (some ⟨bm,5,none⟩)) tv ss)(R:DM w bm kv rv pv kl rl pl l)(ag:∃cs,aE w bm cs 252)(C:rl[rel]? =some X)(ai:ss.length<=24)(h:qc pl kl rl ts F)(Q:∀t∈ss.map tt,BV ts t)(ab:oI ⟨kd,who⟩ (dG (ss.map tt)) ((cZ ts).map (List.map mW)) (fun _=>false) kb):
  Calls prog 138 #[.pointer (some ⟨y,0,none⟩),.string kd,.string who,.agg #[.int .i64 rel,.string id]] w fun e w'=>e=.returned (.bool (kb ⟨X.kd,id,X.nm⟩))/\an w w':=by
 have ah:=R.rn;refine (Ip (M5 ts) (Z5 ts rl) (ML ts) y bm tv kv rv pv kl rl pl l ss kd who id rel X w ae R ag C ai (fun j=>by have:=TN h j;omega) (fun tO lv i X I D C=>h.lev ah bm kv rv pv l tO lv i X I D C) (fun g A=>Z7 h A Q)).mono ?_;rintro e w' ⟨g,lv,K,m,rfl,ad,A,U,al,I,D,ac,V⟩;refine ⟨?_,ad⟩;have J:=Z6 h A Q I D ac;rw [<-A.rl] at V;have af:xe g=ss.map tt:=by unfold xe;rw [A.ss]
 have key:=TK J V (kb:=kb) (by rw [af,A.kd,A.who];exact ab) ⟨X.kd,id,X.nm⟩;obtain ⟨t,r,ap,am,hi,e1,Y,_,Z⟩:=h.at_ C;rw [<-key,e1,Y];rw [Yb J (i:=rel) (k:=m) (by rw [A.rl];exact Z) (by
  rw [A.th]
  rcases iq (th:=qa (eG [] X.kd id) ss) (x:=X.kd) (n:=id) with ⟨c1,_⟩|⟨ak,c1,c2⟩
  ·rw [c1] at U;omega
  rw [c1] at U;have:ak=m:=aj;rw [<-this,<-e1];exact c2)]
section
variable {rl:List RV} {s rel:ae}
def EO(h:(cg s&&bz rel)=false):gE rl s rel=(0,⟨#[]⟩,2):=by
 unfold gE;rw [hW];have:(!cg s|| !bz rel)=true:=by
  cases h1:cg s<;>cases h2:bz rel<;>simp_all
 rw [if_pos this]
def Kk(h:(cg s&&bz rel)=true)(A:aY (aG s 58).1 rel rl 0= -1):gE rl s rel=(0,⟨#[]⟩,5):=by
 unfold gE;rw [hW];simp only [bM] at h;have e:aY (ej s).1 rel rl 0= -1:=A;rw [h.1,h.2,e];simp
variable {j:Nat}
def EP(h:(cg s&&bz rel)=true)(A:aY (aG s 58).1 rel rl 0=j):gE rl s rel=((j:Int),(aG s 58).2.1,0):=by
 unfold gE;rw [hW];simp only [bM] at h;have e:aY (ej s).1 rel rl 0=j:=A;rw [h.1,h.2,e];simp only [pL,mo,bH,aV];rw [if_neg aj]
 rfl
end
def lU(s:ae):Prop:=∀c∈bJ s,c≠58
def EQ{c:UInt8}(h:dg c=true):c≠58:=by
 intro e;subst e
 revert h
 decide
def WK(l:List UInt8)(h:dl (mk (l.take (cW l)))=true):lU (mk (l.take (cW l))):=by
 intro c hc
 cases l with
 |nil=>simp [dl,kM] at h
 |cons a r=>
  by_cases ha:letter a.toNat=true
  ·have e:(a::r).take (cW (a::r))=a::r.takeWhile dg:=by
    simp only [cW,ha,if_true];rw [q9,List.take_succ_cons]
    congr 1
    have:=List.takeWhile_prefix (l:=r) dg;exact (List.prefix_iff_eq_take.1 this).symm
   rw [e,kM] at hc
   rcases bi.1 hc with rfl|hc
   ·exact EQ (by unfold dg;rw [ha];rfl)
   exact EQ (p8.1 (List.all_takeWhile) c hc)
  have e:(a::r).take (cW (a::r))=[a]:=by simp [cW,ha]
  rw [e] at h;simp [dl,kM,ha] at h
variable {s:ae} {i:Nat}
def Z8(h:dl (TT s i)=true):lU (TT s i):=by
 unfold TT cD iN at h ⊢;exact WK _ h
variable {x:ae} {j:Nat}
def ER{T:Nat->ae}{u:Unit}(h:bZ T x i=.ok (u,j)):dl (T i)=true:=by
 unfold bZ dh at h
 cases hn:dl (T i) with
 |true=>rfl
 |false=>rw [hn] at h;simp at h
section
variable (T:Nat->ae)(P:Nat->Nat)
variable {i j:Nat} {t:Ty}
def TO(h:ly T P i=.ok (t,j)):∃k,t.name=T k/\dl (T k)=true:=by
 unfold ly at h
 split at h
 ·split at h
  ·simp at h
  rename_i h1
  split at h
  ·simp at h
  simp at h;obtain ⟨rfl,rfl⟩:=h;exact ⟨_,rfl,ER h1⟩
 simp at h
def zL:∀f acc i ts j,(∀t∈acc,∃k,t.name=T k/\dl (T k)=true)->cS T P f acc i=.ok (ts,j)->∀t∈ts,∃k,t.name=T k/\dl (T k)=true
 |0,_,i,x,j,_,h=>by simp [cS] at h
 |f+1,acc,i,x,j,ha,h=>by
  unfold cS at h
  split at h
  ·exact H3
  split at h
  ·simp at h
  split at h
  ·simp at h
  rename_i C;refine zL f _ _ _ _ (fun t A=> ?_) h;rw [aQ,aR] at A
  rcases A with A|rfl
  ·exact ha t A
  exact TO T P C
end
variable {s:ae} {ts:List Ty} {m:Nat}
def MM(h:eg (TT s) (PP s)=.ok (ts,m)):∀t∈ts,lU t.name:=fun t C=>by
 obtain ⟨k,e,A⟩:=zL _ _ _ _ _ _ _ ar h t C;rw [e];exact Z8 A
def TP{α:Type}(p:α->Bool):∀(a b:List α),a.all p=true->(∀c r,b=c::r->p c=false)->(a++b).takeWhile p=a
 | [],b,_,hb=>by
  cases b with
  |nil=>rfl
  |cons c r=>simp [hb c r rfl]
 |x::a,b,ha,hb=>by
  simp only [List.all_cons,bM] at ha;simp only [List.cons_append,iw,ha.1,if_true];rw [TP p a b ha.2 hb]
def mM(a b:ae):bJ (a++b)=bJ a++bJ b:=by
 unfold bJ;simp
def Z9{k i:ae}(h:lU k):aG ((k++sg 58)++i) 58=(k,i,true):=by
 have el:bJ ((k++sg 58)++i)=bJ k++58::bJ i:=by
  rw [mM,mM];simp [show bJ (sg 58)=[58] from rfl]
 unfold aG;rw [el];have e1:(bJ k++58::bJ i).takeWhile (· != 58)=bJ k:=TP _ _ _ (p8.2 fun c hc=>by simpa using h c hc) (fun c r e=>by cases e;decide);have A:(bJ k++58::bJ i).dropWhile (· != 58)=58::bJ i:=by
  have:=G8 (p:=(· != 58)) (l:=bJ k++58::bJ i);rw [e1] at this;exact List.append_cancel_left this
 rw [e1,A];simp [dj]
def BJ{t:Tg}(h:lU t.kind):aG (qQ t) 58=(t.kind,t.id,true):=Z9 h
def BK{a b:Tg}(ha:lU a.kind)(h:lU b.kind)(e:qQ a=qQ b):a=b:=by
 have h1:=BJ ha;rw [e,BJ h] at h1;obtain ⟨C,A⟩:=a;obtain ⟨I,D⟩:=b;simp only [gM] at h1;obtain ⟨rfl,rfl,_⟩:=h1
 rfl
def MN(a b:ae):eqs a b=true↔a=b:=by
 unfold eqs;rw [dA]
 constructor
 ·intro h;rw [<-dj a,<-dj b,h]
 intro h;rw [h]
def xg(l:List ae)(x a:ae):a∈mV l x↔a∈l\/a=x:=by
 unfold mV
 split
 ·rename_i h;obtain ⟨y,C,A⟩:=cX.1 h;rw [MN] at A;subst A
  constructor
  ·exact .inl
  rintro (h|rfl)
  ·exact h
  exact C
 rw [aQ,aR]
variable {l:List ae}
def BL(h:l.Nodup)(x:ae):(mV l x).Nodup:=by
 unfold mV
 split
 ·exact h
 rename_i hn;refine sf.2 ⟨h,ar,fun a ha b A=> ?_⟩;rw [aR] at A;subst A;rintro rfl;exact hn (cX.2 ⟨a,ha,(MN a a).2 rfl⟩)
def inT(T:Tu)(a:ae):Prop:=a=qQ ⟨T.kind,T.id⟩\/(T.who≠sg 42/\a=qQ ⟨T.sub,T.who⟩)
def TQ(l:List ae)(T:Tu)(a:ae):a∈allT l T↔a∈l\/inT T a:=by
 unfold allT inT
 split
 ·rename_i h;rw [MN] at h;rw [xg]
  constructor
  ·rintro (h1|h1)
   ·exact .inl h1
   exact .inr (.inl h1)
  rintro (h1|h1|⟨h1,_⟩)
  ·exact .inl h1
  ·exact .inr h1
  exact absurd h h1
 rename_i h;have hn:T.who≠sg 42:=fun e=>h ((MN _ _).2 e)
 rw [xg,xg]
 constructor
 ·rintro ((h1|h1)|h1)
  ·exact .inl h1
  ·exact .inr (.inl h1)
  exact .inr (.inr ⟨hn,h1⟩)
 rintro (h1|h1|⟨_,h1⟩)
 ·exact .inl (.inl h1)
 ·exact .inl (.inr h1)
 exact .inr h1
def WL(h:l.Nodup)(T:Tu):(allT l T).Nodup:=by
 unfold allT
 split
 ·exact BL h _
 exact BL (BL h _) _
def ES(ss:List ae):∀(l:List ae)(a:ae),a∈mL l ss↔a∈l\/∃s∈ss,inT (tt s) a:=by
 induction ss with
 |nil=>intro l a;simp [mL]
 |cons s ss ih=>
  intro l a;rw [mL,ih,TQ]
  constructor
  ·rintro ((h|h)|⟨q,A,h⟩)
   ·exact .inl h
   ·exact .inr ⟨s,eb,h⟩
   exact .inr ⟨q,eO _ A,h⟩
  rintro (h|⟨q,A,h⟩)
  ·exact .inl (.inl h)
  rcases bi.1 A with rfl|A
  ·exact .inl (.inr h)
  exact .inr ⟨q,A,h⟩
def WM(ss:List ae):∀{l:List ae},l.Nodup->(mL l ss).Nodup:=by
 induction ss with
 |nil=>intro l h;exact h
 |cons s ss ih=>intro l h;exact ih (WL h _)
def BM(n:ae):n++(⟨#[58,42]⟩:ae)=qQ ⟨n,sg 42⟩:=by
 unfold qQ;rw [<-dj (n++_),<-dj ((n++sg 58)++sg 42),mM,mM,mM,dc]
 rfl
def inB(l:List ae)(a:ae):Bool:=l.any fun y=>eqs y a
def Kl(l:List ae)(a:ae):inB l a=true↔a∈l:=by
 unfold inB;rw [cX]
 constructor
 ·rintro ⟨y,A,e⟩;rw [MN] at e;exact e▸A
 exact fun h=>⟨a,h,(MN a a).2 rfl⟩
structure TS(ts:List Ty)(kl:List (ae×Nat))(ss:List ae):Prop where
 kl:kl=ts.map fun t=>(t.name,t.place)
 col:∀t∈ts,lU t.name
 nd:(ts.map fun t=>t.name).Nodup
 kd:∀s∈ss,∃t∈ts,t.name=(tt s).kind
 sb:∀s∈ss,∃t∈ts,t.name=(tt s).sub
 id:∀s∈ss,(tt s).id≠sg 42
variable {ss:List ae}
def TS.noc{kl:List (ae×Nat)}(h:TS ts kl ss):∀t∈bP ts (ss.map tt),lU t.kind:=by
 intro t A;unfold bP at A
 rcases aQ.1 A with A|A
 ·obtain ⟨y,C,rfl⟩:=aN.1 A;exact h.col y C
 obtain ⟨u,D,A⟩:=bS.1 A;obtain ⟨s,hs,rfl⟩:=aN.1 D;simp only [tL,bi,dK,dP] at A
 rcases A with rfl|rfl
 ·obtain ⟨y,C,e⟩:=h.kd s hs;exact e▸h.col y C
 obtain ⟨y,C,e⟩:=h.sb s hs;exact e▸h.col y C
def TS.all{kl:List (ae×Nat)}(h:TS ts kl ss)(a:ae):a∈xd kl ss↔∃t∈bP ts (ss.map tt),qQ t=a:=by
 unfold xd bP;rw [aQ,ES]
 constructor
 ·rintro ((hn|⟨s,hs,hi|⟨_,hi⟩⟩)|D)
  ·cases hn
  ·exact ⟨_,pZ _ (bS.2 ⟨_,aN.2 ⟨s,hs,rfl⟩,eb⟩),hi.symm⟩
  ·exact ⟨_,pZ _ (bS.2 ⟨_,aN.2 ⟨s,hs,rfl⟩,eO _ eb⟩),hi.symm⟩
  unfold xL at D;rw [h.kl,gq] at D;obtain ⟨t,A,rfl⟩:=aN.1 D;exact ⟨je t,mG _ (aN.2 ⟨t,A,rfl⟩),(BM t.name).symm⟩
 rintro ⟨t,A,rfl⟩;have J:∀y∈ts,qQ ⟨y.name,sg 42⟩∈xL kl:=fun y C=>by
  unfold xL;rw [h.kl,gq,<-BM];exact aN.2 ⟨y,C,rfl⟩
 rcases aQ.1 A with A|A
 ·obtain ⟨y,C,rfl⟩:=aN.1 A;exact .inr (J y C)
 obtain ⟨u,Q,A⟩:=bS.1 A;obtain ⟨s,hs,rfl⟩:=aN.1 Q;simp only [tL,bi,dK,dP] at A
 rcases A with rfl|rfl
 ·exact .inl (.inr ⟨s,hs,.inl rfl⟩)
 by_cases I:(tt s).who=sg 42
 ·obtain ⟨y,C,e⟩:=h.sb s hs;rw [<-e,I];exact .inr (J y C)
 exact .inl (.inr ⟨s,hs,.inr ⟨I,rfl⟩⟩)
def TS.nodup{kl:List (ae×Nat)}(h:TS ts kl ss):(xd kl ss).Nodup:=by
 unfold xd;have Q:(xL kl).Nodup:=by
  unfold xL;rw [h.kl,gq];refine rZ.2 ((rZ.1 h.nd).imp fun {a b} J e=>J ?_);have A:=congrArg bJ (show a.name++(⟨#[58,42]⟩:ae)=b.name++(⟨#[58,42]⟩:ae) from e);rw [mM,mM] at A;have I:=List.append_cancel_right A;rw [<-dj a.name,<-dj b.name,I]
 refine sf.2 ⟨WM ss List.nodup_nil,Q,fun a ha b C e=> ?_⟩;subst e;unfold xL at C;rw [h.kl,gq] at C;obtain ⟨y,U,e⟩:=aN.1 C;rw [Function.comp_apply,BM] at e;rw [ES] at ha;have hc:lU (⟨y.name,sg 42⟩:Tg).kind:=h.col y U
 rcases ha with ha|⟨s,hs,ha|⟨R,ha⟩⟩
 ·cases ha
 ·obtain ⟨z,D,A⟩:=h.kd s hs;have:=BK hc (show lU (⟨(tt s).kind,(tt s).id⟩:Tg).kind from A▸h.col z D) (e.trans ha);simp only [Tg.mk.injEq] at this;exact h.id s hs this.2.symm
 obtain ⟨z,D,A⟩:=h.sb s hs;have:=BK hc (show lU (⟨(tt s).sub,(tt s).who⟩:Tg).kind from A▸h.col z D) (e.trans ha);simp only [Tg.mk.injEq] at this;exact R this.2.symm
def TU{kl:List (ae×Nat)}(h:TS ts kl ss)(X:Nat):
  MJ (inB (oK X (bP ts (ss.map tt)))) kl ss=oK X (bP ts (ss.map tt)):=by
 unfold MJ;rw [<-ox];refine J4 _ _ (Mv (h.nodup.filter _)) (SP _ _) (fun s=> ?_);rw [zC];unfold Kg;rw [sH,Kl]
 constructor
 ·exact fun q=>q.2
 ·intro q;refine ⟨?_,q⟩;obtain ⟨i,t,hi,_,e⟩:=(EA _ _ _).1 q;exact (h.all s).2 ⟨t,bA hi,e⟩
variable {hs:List Hp} {i:Nat}
def WN{kl:List (ae×Nat)}(h:TS ts kl ss){gs:List (List TR)}{K:Sj->Nat}(D:(bP ts (ss.map tt)).length<=64)(Q:∀g∈gs,∀x∈g,Bj x.2.body)(J:Run (bP ts (ss.map tt)) hs gs (fun _=>0) K)(A:Sj){t:Tg}(hi:(bP ts (ss.map tt))[i]? =some t):
  (K A).testBit i=inB (oK (K A) (bP ts (ss.map tt))) (qQ t):=by
 have key:(K A).testBit i=true↔qQ t∈oK (K A) (bP ts (ss.map tt)):=by
  rw [EA]
  constructor
  ·exact fun q=>⟨i,t,hi,q,rfl⟩
  rintro ⟨j,C,I,U,e⟩;have R:C=t:=BK (h.noc _ (bA I)) (h.noc _ (bA hi)) e;subst R;have V:oI C hs (gs.map (List.map mW)) (fun _=>false) (fun s=>(K s).testBit i):=by simpa using JR D hi Q J
  have Y:oI C hs (gs.map (List.map mW)) (fun _=>false) (fun s=>(K s).testBit j):=by simpa using JR D I Q J
  have:=congrFun (Em V Y) A;rw [<-U];exact this
 rw [gJ,Kl];exact key
def zM(x c:Nat)(k i r th rel:ae)(w:af)(I:c=2\/c=5)(C:Calls prog 56 #[.pointer (some ⟨x,0,none⟩),.string th,.string rel] w fun e w''=>e=.returned (.tuple #[.agg #[.string k,.string i,.string r],.int .i64 c])/\an w w''):
  Calls prog 31 #[.pointer (some ⟨x,0,none⟩),.string th,.string rel] w fun e w'=>e=.returned (.tuple #[.slice none 0 0,.int .i64 c])/\an w w':=by
 have A:=ai C;have J:((c:Int) != 0)=true:=by rw [hP];omega
 have Q:((c:Int)==0)=false:=by rw [b6];omega
 clear C I;go_enter func31,ntmps31;go_wp2_with fail;refine A.u.mono ?_;rintro e w1 ⟨rfl,h⟩;have D:=ai (h.alloc h.size (cB k i r));clear h A;go_wp2;go_ret2;exact ⟨rfl,D.u⟩
def TV(ts:List Ty)(gs:List Tu)(E:Nat)(aq:Sj)(w:af)(e:Ending)(w':af):Prop:=∃v L,e=.returned (.tuple #[v,.int .i64 E])/\an w w'/\w'.ownsRow w.heap.size 9 1 v L.length (dF L)/\(E≠0->L=[])/\(E=0->∃K,Run (bP ts gs) (dG gs) (cZ ts) (fun _=>0) K/\L=oK (K aq) (bP ts gs))
def TW(x:Nat)(mv lv gv:ag)(ts:List Ty)(gs:List Tu)(w:af)(h:UQ w x mv lv gv ts gs)(ap:PuR ts gs)(kl:List (ae×Nat))(rl:List RV)(pl:List PV)(F:Nat)(Q:qc pl kl rl ts F)(th rel:ae)(hs:th.size<=maxLen)(U:rel.size<=maxLen)(ai:(bP ts gs).length<=64)(ak:∀t∈bP ts gs,t.kind.size+t.id.size<=1000)(R:mT w)(V:1<w.heap.size)(al:Laid w):
  Calls prog 31 #[.pointer (some ⟨x,0,none⟩),.string th,.string rel] w (TV ts gs (gE rl th rel).2.2 ⟨(aG th 58).1,(aG th 58).2.1,rel⟩ w):=by
 obtain ⟨bm,tl,ad⟩:=h.m;have J:∀E,E≠0->(gE rl th rel).2.2=E->Calls prog 31 #[.pointer (some ⟨x,0,none⟩),.string th,.string rel] w (fun e w'=>e=.returned (.tuple #[.slice none 0 0,.int .i64 E])/\an w w')->Calls prog 31 #[.pointer (some ⟨x,0,none⟩),.string th,.string rel] w (TV ts gs (gE rl th rel).2.2 ⟨(aG th 58).1,(aG th 58).2.1,rel⟩ w):=fun E I e C=>C.mono fun e' w' ⟨h1,h2⟩=>⟨_,[],by rw [e];exact h1,h2,bL,fun _=>rfl,fun h0=>absurd (e.symm.trans h0) I⟩
 cases D:cg th&&bz rel with
 |false=>exact J 2 aj (by rw [EO D]) (zM x 2 _ _ _ th rel w (.inl rfl) (Iy x th rel w hs U D))
 |true=>
  have A:=D;simp only [bM] at A;have hs:=EN A.1;have ar:rel.size<=1000:=by have:=di A.2;omega
  rcases c9 Q.k.d Q.k.b (aG th 58).1 rel with ⟨e,am⟩|⟨j,t,r,e,h1,h2,_⟩
  ·exact J 5 aj (by rw [Kk D e]) (zM x 5 _ _ _ th rel w (.inr rfl) (Ix x bm mv lv gv ts gs tl w h.p ad th rel hs A.1 U A.2 am al R V))
  have I:(gE rl th rel).2.2=0:=by rw [EP D e]
  have ah:0<(bP ts gs).length:=by
   unfold bP;rw [aZ,bX];have:0<ts.length:=by
    cases ts with
    |nil=>simp [bW] at h1
    |cons a l=>simp
   omega
  refine (Zz x mv lv gv ts gs w h ap th rel hs A.1 ar A.2 t h1 r h2 ah ai ak R V).mono ?_;rintro e' w' ⟨v,K,Y,Z,ab,ac⟩;exact ⟨v,_,by rw [I];exact Y,Z,ac,fun h0=>absurd I h0,fun _=>⟨K,ab,rfl⟩⟩
variable {gs:List Tu}
def gd_of(h:sm gs ss)(J:tm ts gs):gs=ss.map tt/\∀t∈gs,BV ts t:=by
 refine ⟨h.eq,fun t C=> ?_⟩;have D:=C;rw [h.eq] at D;obtain ⟨s,hs,rfl⟩:=aN.1 D;have ho:=h.ok s hs;have A:=DS ho;have Y:=(lG ho).1;have h1:cg (aG (aG s 64).1 35).1=true:=by
  unfold dC at ho;simp only [bM] at ho;exact ho.1.1
 unfold cg at h1;simp only [bM] at h1;have h2:=di h1.1;have V:=di h1.2;have hid:bz (tJ s).id=true:=h1.2;refine ⟨J _ C,hid,?_,?_,?_,?_,?_⟩
 ·show (aG (aG (aG s 64).1 35).1 58).1.size<=maxLen
  unfold maxLen;omega
 ·show (aG (aG (aG s 64).1 35).1 58).2.1.size<=maxLen
  unfold maxLen;omega
 ·show (np (aG (aG s 64).2.1 35).1 (aG (aG s 64).2.1 35).2.2).1.size<=maxLen
  have Q:=(eM s 64).2;have R:=(eM (aG s 64).2.1 35).1;have I:=(eM (aG (aG s 64).2.1 35).1 58).1;have U:(np (aG (aG s 64).2.1 35).1 (aG (aG s 64).2.1 35).2.2).1.size<=(aG (aG s 64).2.1 35).1.size:=by
   unfold np ej
   split<;>first|exact I|(simp only;omega)
  unfold maxLen;omega
 ·show (bQ s).1.who.size<=maxLen
  rcases A with ⟨e,_⟩|⟨e,_⟩|⟨e,_⟩
  ·rw [e];decide
  ·have:=di e;unfold maxLen;omega
  have:=di e;unfold maxLen;omega
 show (bQ s).1.of.size<=maxLen
 rcases A with ⟨_,e⟩|⟨_,e⟩|⟨_,e⟩
 ·rw [e];unfold maxLen;omega
 ·rw [e];unfold maxLen;omega
 have:=di e;unfold maxLen;omega
variable {w:af} {mv lv gv:ag}
def uq_of{x}(h:MY w x mv lv gv ts gs):UQ w x mv lv gv ts gs:=⟨h.p,h.m,h.l⟩
variable {rl:List RV} {pl:List PV} {F:Nat}
def aaa{kl:List (ae×Nat)}(h:qc pl kl rl ts F)(Q:kl=ts.map fun t=>(t.name,t.place))(J:∀t∈ts,lU t.name)(A:∀t∈ss.map tt,BV ts t):TS ts kl ss where
 kl:=Q
 col:=J
 nd:=rZ.2 h.k.d.ty
 kd:=fun s hs=>by
  obtain ⟨y,q,g,h1,_⟩:=kw A (aN.2 ⟨s,hs,rfl⟩);exact ⟨y,(cb h1).1,(cb h1).2⟩
 sb:=fun s hs=>by
  obtain ⟨y,q,g,h1,h2,D,I,_⟩:=kw A (aN.2 ⟨s,hs,rfl⟩);obtain ⟨u,C,_⟩:=h.grant (cb h1).1 (cH h2).1 D;rw [I] at C;exact ⟨u,(cb C).1,(cb C).2⟩
 id:=fun s hs e=>by
  have:=(A _ (aN.2 ⟨s,hs,rfl⟩)).id;rw [e] at this;exact absurd this (by rw [show sg 42=(⟨#[42]⟩:ae) from rfl,sJ];decide)
def WO(y bm:Nat)(tv kv rv pv:ag)(kl:List (ae×Nat))(rl:List RV)(pl:List PV)(l:List PX)(ss:List ae)(ts:List Ty)(F:Nat)(s rel:ae)(K:Sj->Nat)(w:af)(Q:DU w y (.pointer (some ⟨bm,5,none⟩)) tv ss)(R:DM w bm kv rv pv kl rl pl l)(ak:∃cs,aE w bm cs 252)(U:ss.length<=24)(h:qc pl kl rl ts F)(ah:∀t∈ss.map tt,BV ts t)(A:TS ts kl ss)(hs:s.size<=maxLen)(am:∀a∈ss,ow (tt a))(ai:∀k∈kl,k.1.size<=500)(C:(bP ts (ss.map tt)).length<=64)(ad:∀t∈bP ts (ss.map tt),t.kind.size+t.id.size<=1000)(V:∀g∈cZ ts,∀x∈g,Bj x.2.body)
  (al:(gE rl s rel).2.2=0->Run (bP ts (ss.map tt)) (dG (ss.map tt)) (cZ ts) (fun _=>0) K):
  Calls prog 90 #[.pointer (some ⟨y,0,none⟩),.string s,.string rel] w (Ir (gE rl s rel).2.2 (if (gE rl s rel).2.2=0 then oK (K ⟨(aG s 58).1,(aG s 58).2.1,rel⟩) (bP ts (ss.map tt)) else []) w):=by
 have ac:∀a∈xd kl ss,a.size<=maxLen:=fun a ha=>by
  obtain ⟨t,D,rfl⟩:=(A.all a).1 ha;have:=ad t D;unfold qQ;rw [zb,zb,show (sg 58).size=1 from rfl];unfold maxLen;omega
 have:=TF y bm tv kv rv pv kl rl pl l ss s rel (inB (oK (K ⟨(aG s 58).1,(aG s 58).2.1,rel⟩) (bP ts (ss.map tt)))) w Q R hs U am ai ac (fun ha a aj w' k=>by
  obtain ⟨t,D,rfl⟩:=(A.all a).1 aj;obtain ⟨i,hi⟩:=h8.1 D;rw [BJ (A.noc t D)]
  cases I:cg s&&bz rel with
  |false=>rw [EO I] at ha;cases ha
  |true=>
   rcases c9 h.k.d h.k.b (aG s 58).1 rel with ⟨e',ar⟩|⟨j,t2,r,e',h1,h2,Y⟩
   ·rw [Kk I e'] at ha;cases ha
   have J:=al ha;have Z:oI t (dG (ss.map tt)) ((cZ ts).map (List.map mW)) (fun _=>false) (fun s=>(K s).testBit i):=by simpa using JR C hi V J
   rw [EP I e'];obtain ⟨X,ab,an,ap,_⟩:=cV.get rl _ j _ h.k.f Y;have:=Iw y bm tv kv rv pv kl rl pl l ss t.kind t.id (aG s 58).2.1 j F X ts _ w' (Q.below k) (R.below k) (by obtain ⟨cs,C⟩:=ak;exact ⟨cs,C.below k⟩) ab U h ah Z;rw [an,ap,(cH h2).2] at this;rw [<-WN A C V J _ hi];exact this)
 rw [TU A] at this;exact this
def MO(X:Nat)(cs:List Tg):(oK X cs).length<=cs.length:=by
 unfold oK ik;have h1:=Wc (g9 ((dU X cs cs.length).map qQ)) [];rw [sr,bX,List.length_nil] at h1;have:=oz X cs cs.length;omega
variable {base b:Nat} {ir ib:ag} {us:List eU} {u:eU}
def TX{ah:List (ag×Nat)}(h:WS base w b lv ir ib us ah)(aR:u∈us)(ee:Int)(s rr ww:ae)(hs:s.size<=maxLen)(ad:rr.size<=maxLen)(bu:ah.length+4<=8796093022208)(R:Env w):
  Calls prog 47 #[.pointer (some ⟨b,0,none⟩),.agg #[.pointer (some ⟨u.x,0,none⟩),.pointer (some ⟨u.y,0,none⟩)],.agg #[.int .i64 8,.int .i64 ee,.string s,.string rr,.string ww]] w (gD base b us.length ah.length w):=by
 have bw:an w ((w.alloc (ko (some ⟨u.x,0,none⟩) (some ⟨u.y,0,none⟩))).alloc (.cells #[.int .i64 8,.int .i64 ee,.string s,.string rr,.string ww] 34)):=((az _ w).alloc aD _).alloc ar _;have br:base<=w.heap.size:=by have:=h.low;have:=h.blk.lt;omega
 have bB:1<=us.length:=List.length_pos_of_mem aR;obtain ⟨W,ay⟩:∃W,((w.alloc (ko (some ⟨u.x,0,none⟩) (some ⟨u.y,0,none⟩))).alloc (.cells #[.int .i64 8,.int .i64 ee,.string s,.string rr,.string ww] 34))=W:=⟨_,rfl⟩;have ap:=(aE.new w #[.pointer (some ⟨u.x,0,none⟩),.pointer (some ⟨u.y,0,none⟩)] 86).alloc (.cells #[.int .i64 8,.int .i64 ee,.string s,.string rr,.string ww] 34);have av:=aE.new' (w.alloc (ko (some ⟨u.x,0,none⟩) (some ⟨u.y,0,none⟩))) #[.int .i64 8,.int .i64 ee,.string s,.string rr,.string ww] 34 (w.heap.size+1) ar;rw [ay] at bw ap av;have U:=h.below bw;have D:=U.ur u aR;obtain ⟨C,Z⟩:=gd_of D.both D.lets;obtain ⟨kv,rv,pv,kl,rl,pl,l,bK,Y,bx,⟨bo,src,m,be,bb,aI,a6,aw⟩,_⟩:=D.ud.r;obtain ⟨F,I⟩:=kn_of be bb aI a6 aw;obtain ⟨bm,tl,ba⟩:=D.up.m;have bz:=D.ud.most;have aO:=(DY D.both).2;have a8:u.gs.length<=1000:=by rw [C,bX];omega
 have ab:=aw.1;have bA:u.ts.length<=5:=by have:=Y.dm.kn;rw [ab,bX] at this;exact this
 have a5:TS u.ts kl u.ss:=aaa I ab (MM aI) (by rw [<-C];exact Z);have V:(bP u.ts u.gs).length<=64:=by
  unfold bP;rw [aZ,bX,JS,C,bX];omega
 have aJ:∀t∈u.ts,t.name.size<=8:=fun t A=>(I.m.n t A).1
 have aH:∀t∈bP u.ts u.gs,t.kind.size+t.id.size<=1000:=fun t A=>by
  unfold bP at A
  rcases aQ.1 A with A|A
  ·obtain ⟨y,bD,rfl⟩:=aN.1 A;have:=aJ y bD
   show y.name.size+(⟨#[42]⟩:ae).size<=1000
   have:(⟨#[42]⟩:ae).size=1:=rfl;omega
  obtain ⟨q,ac,A⟩:=bS.1 A;have bE:=aO q ac;unfold ow at bE;simp only [tL,bi,dK,dP] at A
  rcases A with rfl|rfl<;>(simp only;omega)
 have aK:=ZE ba I.m Z a8;have bN:=R.lt;have bh:=ai R.pow;have aS:=ai (TW u.x u.mv u.lv u.gv u.ts u.gs W (uq_of D.up) aK kl rl pl F I s rr hs ad V aH (R.max.below bw aj) JB (R.laid.below bw aj));have aV:=ai (fun (w':af) (k:an W w') (L:List ae) (h0:(gE rl s rr).2.2≠0->L=[]) (h1:(gE rl s rr).2.2=0->∃K,Run (bP u.ts u.gs) (dG u.gs) (cZ u.ts) (fun _=>0) K/\L=oK (K ⟨(aG s 58).1,(aG s 58).2.1,rr⟩) (bP u.ts u.gs))=>show Calls prog 90 #[.pointer (some ⟨u.y,0,none⟩),.string s,.string rr] w' (Ir (gE rl s rr).2.2 L w') from by
  have a9:=fun K ad=>WO u.y u.bm u.tv kv rv pv kl rl pl l u.ss u.ts F s rr K w' (D.ud.d.below k) (Y.dm.below k) (by obtain ⟨cs,hc⟩:=Y.blk;exact ⟨cs,hc.below k⟩) bz I (by rw [<-C];exact Z) a5 hs (fun a ha=>aO _ (by rw [C];exact aN.2 ⟨a,ha,rfl⟩)) (fun q ac=>by rw [ab] at ac;obtain ⟨t,A,rfl⟩:=aN.1 ac;have:=aJ t A;simp only;omega) (by rw [<-C];exact V) (by rw [<-C];exact aH) (fun g bs x bC=>(aK.ln g bs x bC).wf) ad
  by_cases e0:(gE rl s rr).2.2=0
  ·obtain ⟨K,bp,rfl⟩:=h1 e0;have:=a9 K (fun _=>by rw [<-C];exact bp);rw [if_pos e0,<-C] at this;exact this
  have:=a9 (fun _=>0) (fun e=>absurd e e0);rw [if_neg e0] at this;rw [h0 e0];exact this)
 have bM:=Kf rl s rr;have a3:=ai (fun X=>aP (MO X (bP u.ts u.gs)) V);generalize (gE rl s rr).2.2=E at*;have am:=ai U;have a2:=ai bw;have bj:=ai ap;have a4:=ai av;have bl:=ai ay;have bc:=bw.size;have bq:base<=W.heap.size:=by have:=U.low;have:=U.blk.lt;omega
 clear h U D aR bw ap av ay C Z Y bx bo be bb aI a6 aw I ba R hs ad a5 V aH aJ aO aK ab bA a8;go_enter func47,ntmps47;go_wp2_with fail;rw [bl.u];refine aS.u.mono ?_;rintro e w1 ⟨v1,L,rfl,J,aL,h0,h1⟩;obtain ⟨a1,c1,rfl⟩:=ax aL;have aY:=ai (aV.u w1 J L h0 h1);have hl:L.length<=64:=by
  by_cases e0:E=0
  ·obtain ⟨K,_,rfl⟩:=h1 e0;exact a3.u _
  rw [h0 e0];simp
 obtain ⟨bF,p1⟩:=hY (bj.u.below J);have bG:w1.cell? ⟨w.heap.size+1,2,none⟩=some (.string s):=(a4.u.below J).cell rfl;have bH:w1.cell? ⟨w.heap.size+1,3,none⟩=some (.string rr):=(a4.u.below J).cell rfl;have ak:=ai J;have bn:=ai aL;clear J aL aS aV h0 h1 a3;go_wp2_with fail;refine aY.u.mono ?_;rintro e bI ⟨bT,rfl,aC,aM⟩;obtain ⟨bL,c2,rfl⟩:=ax aM;have al:=ai (ak.u.trans (aC.mono ak.u.size));have au:=aB bn.u aC;have aW:=ai (Ru _ _ _ _ L bI au aM aj);have bk:=ai au;clear aC aM aY bF p1 bG bH au;go_wp2_with fail;refine aW.u.mono ?_;rintro e bU ⟨rfl,aF⟩;have Q:=ai (al.u.trans (aF.mono al.u.size));have aX:=ai (VV (am.u.below Q.u) bq Q.u.size L (aB bk.u aF) aj (fun m bv=>(am.u.mrk m bv).lim.below Q.u) (fun k I=>(am.u.ls.lt k I).2) bu (bh.u.below (a2.u.trans (Q.u.mono bc)) aj));clear aF aW al ak;go_wp2_with fail;refine aX.u.mono ?_;rintro e bJ ⟨rfl,bQ,bO,bR,bf,a7,bt⟩;have bg:=ai (show gD base b us.length ah.length w (.returned (.bool true)) bJ from ⟨rfl,_,_,_,_,_,bf,((a2.u.trans (Q.u.mono bc)).mono br).trans a7,aj,bB,aj⟩);clear bf a7 bt aX;go_wp2;go_ret;exact bg.u
def MP:XP [2,3,4,5,8]:=by
 intro base b lv ir ib us V w x h D C J I ho A R;have U:=A.lt;simp only [List.any_cons,List.any_nil,mo,kZ,dA] at I;obtain ⟨kd,ee,s,rr,ww⟩:=x;simp only at I
 rcases I with rfl|rfl|rfl|rfl|rfl
 ·exact RE h D ee s rr ww C A.laid
 ·exact nW h D 3 ee s rr ww (.inl rfl) ho.s ho.e0 ho.e1 C A.laid A.max aj
 ·exact nW h D 4 ee s rr ww (.inr (.inl rfl)) ho.s ho.e0 ho.e1 C A.laid A.max aj
 ·exact nW h D 5 ee s rr ww (.inr (.inr rfl)) ho.s ho.e0 ho.e1 C A.laid A.max aj
 exact RG h D 8 ee s rr ww (.inr (.inr rfl)) ho.e0 ho.e1 C (fun W' k u Q=>TX (h.below k) Q ee s rr ww ho.s ho.r J (A.below k aj))
def TY(v:ag)(n:Nat)(w:af)(h:LV w v n)(U:n<=2199023255488)(A:Env w):
  Calls prog 6 #[v] w fun e w'=>e=.returned (.bool true)/\an w w':=by
 have D:=(az w.heap.size w).alloc aD (.cells #[.int .i64 2,.int .i64 3,.int .i64 4,.int .i64 5,.int .i64 8] 3);have J:=aE.new w #[.int .i64 2,.int .i64 3,.int .i64 4,.int .i64 5,.int .i64 8] 3;have C:=ai (LW [2,3,4,5,8] MP v n w _ h U w.heap.size 5 ar (fun k R=>J.cell (by
  match k,R with
  |0,_=>rfl
  |1,_=>rfl
  |2,_=>rfl
  |3,_=>rfl
  |4,_=>rfl)) D (A.below D A.lt) A.lt)
 have hv:∃a c,v=.slice a n c:=by
  rcases h with ⟨rfl,rfl⟩|⟨V,c,z,rfl,h1,_⟩
  ·exact ⟨_,_,rfl⟩
  exact ⟨_,_,rfl⟩
 obtain ⟨Y,rc,rfl⟩:=hv;go_enter func6,ntmps6;go_wp2_with fail;refine C.u.mono ?_;rintro e w1 ⟨rfl,Q⟩;have I:=ai Q;go_wp2;go_ret;exact ⟨rfl,I.u⟩
end Go.Proofs.YtlbpnlngckgcbaaGreatDoor
namespace Go.Proofs.YtlbpnlngckgcbaaGreatDoor
open Go.ChangeShapes Go.WideShapes Go.RowKit Go.Proofs.Tryz
def TZ(v:Value)(n:Nat)(w:World)(h:LV w v n)(C:n<=2199023255488)(A:Env w):
  Calls Tryz.prog 6 #[v] w fun e w'=>e=.returned (.bool true)/\an w w':=TY v n w h C A
variable {W:World}
def T0(h:laidMetH Tryz.prog Rows.asksRow.laid W)(hs:W.ShapedOpen Tryz.prog):Env W:=by
 obtain ⟨U,A⟩:=laidMetH_iff.1 h;refine ⟨?_,?_,?_,?_⟩
 ·obtain ⟨name,u,ty,e1,I,J,Q,C⟩:=A ("errors.errorType",Rows.laid_errors_errorType) (sH.2 ⟨.tail _ (.tail _ (.tail _ (.head _))),aw⟩);have R:name=[101,114,114,111,114]:=(gu e1).symm;subst R;obtain rfl:=gu (gRt.symm.trans I);have D:ty∈(List.range 445).filter fun t=>Tryz.prog.rowNamed t [101,114,114,111,114]:=sH.2 ⟨List.mem_range.2 (by rw [<-gSize];exact J),Q⟩
  rw [gOne] at D;obtain rfl:=aR.1 D;have A:typeHandle Tryz.prog 77=.pointer (some ⟨5,77,none⟩):=aw;rw [A] at C;unfold Laid
  simpa using World.var?_cell gVar C 0
 ·exact cell_of_shapedOpen_int (t:=3) (zero:=#[.int .i64 0]) (k:=.i64) hs (by rw [XQ];decide) aw rfl aw aw Tryz.underlying3
 ·exact Zg (U:laidMet Tryz.prog [("math/bits.deBruijn32tab",Rows.laid_math_bits_deBruijn32tab),("math/bits.deBruijn64tab",Rows.laid_math_bits_deBruijn64tab),("internal/strconv.uint64pow10",Rows.laid_internal_strconv_uint64pow10)] W)
 obtain ⟨cs,hc,_⟩:=hs.1 4 _ _ (by rw [XQ];decide) gFour;exact lt_of_some hc
def T2(os:Os)(args:Array Value):laidMetH Tryz.prog Rows.asksRow.laid ((World.doorLaid Tryz.prog 31 os).forCall (fun _ _=>0) ⟨#[],args,[]⟩).memory:=
 laidMetH_of_parts3 (fuel:=8) (laidMet_of_run' 8 aw aw) aw aw
def ET(os:Os)(ap:os.Started)(H:Type)(enc:TypeId×Value->H):
  ReturnsInHanded {} Tryz.checked os 6 .any (fun w args=>(Rows.asksSpec.pre enc Tryz.prog Tryz.f6 [] false w args/\laidMetH Tryz.prog Rows.asksRow.laid w)/\sizedMet enc Tryz.prog Tryz.f6 (OpenSpec.ofChange Rows.asksSpec) false w args)
   (Rows.asksSpec.post enc Tryz.prog Tryz.f6 false true false false):=by
 refine D7 (C:=Tryz.checked) (X:=fun w _=>laidMetH Tryz.prog Rows.asksRow.laid w) (fun _ _ _ af h=>h.of_heap af) gOwn ap aw Tryz.func6
  (ChangeSpec.witness_shaped (enc:=enc) (C:=Tryz.checked) (os:=os) (X:=fun w _=>laidMetH Tryz.prog Rows.asksRow.laid w) false (World.doorLaid Tryz.prog 31 os) #[.slice none 0 0] 8 rfl (World.shaped_of_RefB aw aw) aw aw aw (T2 os _)) ?_
 intro W base args ds gs au ak J _ U aj ab _;have R:∀(j:Nat) t v,Tryz.f6.params[j]? =some t->args[j]? =some v->Value.okWide Tryz.prog W .any base t v:=ak;have Q:=J;obtain ⟨p,q,Y,ac,rfl,ay,az⟩:=J;have D:DataW.TrodAll enc Tryz.prog W 0 (fun _=>true) true Tryz.f6.params.toList args.toList ds p:=Y;have I:DataW.TrodVars enc Tryz.prog W (fun _=>true) [] gs q:=ac;rw [Tryz.params6] at D R;obtain ⟨V,aC,d0,av,al,aB,ax,rfl,rfl,h0,am⟩:=trodAll_cons D;obtain ⟨rfl,rfl,rfl⟩:=trodAll_nil am;obtain rfl:args=#[V]:=by cases args;simp_all
 have Z:=T0 ab aj;obtain ⟨rfl,rfl⟩:gs=[]/\q=[]:=by
  cases gs with
  |nil=>exact ⟨rfl,I⟩
  |cons g r=>exact absurd I (by intro h;cases h)
 obtain ⟨ar,len,cap,rfl⟩:=okWide_slice Tryz.underlying36 (R 0 36 V rfl rfl);simp only [eh] at Q U;obtain ⟨n,ai,ah,ad⟩:=Ze h0;have hn:n<=2199023255488:=by
  rcases ad with ⟨_,rfl⟩|⟨el,an,rfl,rfl⟩
  ·omega
  have A:(el.length+an.length)*Tryz.prog.bytesOf 34<=reachBytes:=sized_slice (j:=0) (t:=36) U (by
   show (Tryz.f6.params.toList++[])[0]? =_
   rw [Tryz.params6]
   rfl) rfl Tryz.underlying36
  rw [VX] at A;have:reachBytes=140737488351232:=rfl;omega
 refine (TZ _ n W ai hn Z).mono fun e W' ⟨ae,A⟩=> ?_
 subst ae;exact ⟨_,rfl,_,_,_,[],al,[],Q,trodAll_mk1 (shut_bool Tryz.underlying4 true),by
  have:=trodAll_cons_mk (Below.trod gLaid aw (AQ aw) h0 A ah) trodAll_mk0;simp only [eh] at this;exact this,rfl,A.frame _,fun h=>by cases h⟩
