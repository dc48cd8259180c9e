import Derived.Test.YtlbpnlngckgcbaaGreatDoorM38
import Derived.Deep.OwnRows
import Derived.Test.YtlbpnlngckgcbaaGreatDoorM39
import Derived.Test.YtlbpnlngckgcbaaGreatDoorM40
import Derived.Test.YtlbpnlngckgcbaaGreatDoorM37
set_option linter.all false
set_option maxHeartbeats 4000000
set_option maxRecDepth 100000
namespace Go.Proofs.YtlbpnlngckgcbaaGreatDoor
open Go.RowKit Go.PlainAid Go.Proofs.Tryz
variable {aD bq:Prop}
def Lm (h:aD:=by
 simp [aN,he]):aD:=h
def yT(M:Ex->Nat->Prop)(L:Nat->Nat)(b:Nat):Nat->Ex->Prop
 |less,⟨n,some x,some y⟩=>yT M L b less x/\yT M L b (if n.kind=3\/n.kind=4 then less else 1) y
 |less,⟨n,none,r⟩=>∀d,M ⟨n,none,r⟩ d->L d+less<=b
 |_,⟨_,some _,none⟩=>True
section
variable {M:Ex->Nat->Prop}{L:Nat->Nat}{b:Nat}
def Ln:∀(rs:List (ae×Nat×Ex)) (less:Nat) (x:Ex),(∀r∈rs,r.1=sg 38\/r.1=sg 45\/r.1=sg 124)->(yT M L b less (cb x rs)↔yT M L b less x/\∀r∈rs,yT M L b (if minus ⟨bB r.1,r.2.1,false⟩=true then 1 else less) r.2.2)
 | [],less,x,_=>by simp [cb]
 |(t,q,y)::rs,less,x,h=>by
  rw [cb,Ln rs less _ (fun r A=>h r (eY _ A))];have e1:yT M L b less (dF t q x y)↔yT M L b less x/\yT M L b (if minus ⟨bB t,q,false⟩=true then 1 else less) y:=by
   simp only [dF,yT,ri]
   rcases h (t,q,y) eu with e|e|e
   ·have e':t=sg 38:=e;subst e';rw [show eqs (sg 38) (sg 45)=false from ax,show kindOf (sg 38)=4 from by decide];simp
   ·have e':t=sg 45:=e;subst e';rw [show eqs (sg 45) (sg 45)=true from ax,show kindOf (sg 45)=5 from by decide];simp
   have e':t=sg 124:=e;subst e';rw [show eqs (sg 124) (sg 45)=false from ax,show kindOf (sg 124)=3 from by decide];simp
  rw [e1];simp only [cG,forall_eq_or_imp];exact and_assoc
def Jl{c:Nat}(A:∀d,L d<=c):∀(x:Ex)(less:Nat),less<=1->yT M L (c+1) less x
 |⟨n,some x,some y⟩,less,h=>⟨Jl A x less h,Jl A y _ (by split<;>omega)⟩
 |⟨n,none,r⟩,less,h=>fun d _=>by have:=A d;omega
 |⟨_,some _,none⟩,less,h=>trivial
def uR:∀(x:Ex)(less:Nat),less<=1->yT M L b less x->∀e∈aN x,∀d,M e d->L d+less<=b
 |⟨n,some x,some y⟩,less,hl,h,e,A,d,hd=>by
  simp only [aN,aW] at A
  rcases A with A|A
  ·exact uR x less hl h.1 e A d hd
  have:=uR y _ (by split<;>omega) h.2 e A d hd
  split at this<;>omega
 |⟨n,none,r⟩,less,hl,h,e,A,d,hd=>by
  simp only [aN,aX] at A;subst A;exact h d hd
 |⟨_,some _,none⟩,less,hl,h,e,A,d,hd=>by simp [aN] at A
def CX:∀(x:Ex)(less:Nat),less<=1->yT M L b less x->∀e∈yR x,∀d,M e d->L d+1<=b
 |⟨n,some x,some y⟩,less,hl,h,e,A,d,hd=>by
  unfold yR at A;obtain ⟨h1,h2⟩:=h
  split at A
  ·rename_i C;rw [if_pos C] at h2
   rcases aW.1 A with A|A
   ·exact CX x less hl h1 e A d hd
   exact CX y less hl h2 e A d hd
  rename_i C;rw [if_neg C] at h2
  rcases aW.1 A with A|A
  ·exact CX x less hl h1 e A d hd
  exact uR y 1 ai h2 e A d hd
 |⟨n,none,r⟩,less,hl,h,e,A,d,hd=>by simp [yR] at A
 |⟨_,some _,none⟩,less,hl,h,e,A,d,hd=>by simp [yR] at A
def Jm:∀(x:Ex),(∀e∈aN x,∀d,M e d->L d+1<=b)->yT M L b 1 x
 |⟨n,some x,some y⟩,h=>by
  refine ⟨Jm x (fun e he=>h e Lm),?_⟩;rw [ite_self];exact Jm y (fun e he=>h e Lm)
 |⟨n,none,r⟩,h=>fun d A=>h _ (by simp [aN]) d A
 |⟨_,some _,none⟩,h=>trivial
def Jn:∀(x:Ex),(∀e∈aN x,∀d,M e d->L d<=b)->(∀e∈yR x,∀d,M e d->L d+1<=b)->yT M L b 0 x
 |⟨n,some x,some y⟩,h,hn=>by
  unfold yR at hn;refine ⟨Jn x (fun e he=>h e Lm) (fun e he=>hn e ?_),?_⟩
  ·split<;>exact mO _ he
  by_cases A:n.kind=3\/n.kind=4
  ·rw [if_pos A];exact Jn y (fun e he=>h e Lm) (fun e he=>hn e (by rw [if_pos A];exact qt _ he))
  rw [if_neg A];exact Jm y (fun e he=>hn e (by rw [if_neg A];exact qt _ he))
 |⟨n,none,r⟩,h,hn=>fun d C=>h _ (by simp [aN]) d C
 |⟨_,some _,none⟩,h,hn=>trivial
end
def Jo{f b}:∀{k:Nat},rK k f<=b↔∀j,j<k->f j<=b
 |0=>by simp [rK]
 |k+1=>by
  rw [rK]
  constructor
  ·intro h j A
   by_cases e:j=k
   ·subst e;omega
   exact Jo.1 (show rK k f<=b by omega) j ai
  intro h;have h1:rK k f<=b:=Jo.2 (fun j A=>h j ai);have:=h k ai;omega
section
variable (bm:Nat)(kv rv pv:ag)(kl:List (ae×Nat))(rl:List RV)(pl:List PV)(l:List PX)(uC:ag)(lv:List Nat)
def NdK(M:Ex->Nat->Prop)(X:RV)(body:Ex)(L:List Nat):Prop:=∀m e,m∈L->Tr pl 1 m e->e∈aN body->∃nd:List Nat,nd.length<=2000000/\(∀d∈nd,d<lv.length)/\(∀d,d∈nd↔M e d)/\∀w,DM w bm kv rv pv kl rl pl l->Calls prog 231 #[.pointer (some (aC bm 5)),an X.kd,au m,au X.ex] w fun e w'=>∃sv,e=bi sv/\am w w'/\w'.ownsRow w.heap.size 3 1 sv nd.length (nd.map fun n:Nat=>au n)
def xX(M:Ex->Nat->Prop)(i:Nat)(X:RV)(body:Ex)(ac:List Nat)(au:rl[i]? =some X)(ar:NdK bm kv rv pv kl rl pl l lv M X body ac)(al:∀x∈lv,x<=10000):∀(f n:Nat)(x:Ex),Tr pl f n x->(aN x).length<=1000->(∀e∈aN x,e∈aN body)->(∀m∈aJ pl f n,m∈ac)->∀less,less<=1->∃R,UW bm kv rv pv kl rl pl l uC lv i n less R/\∀b,R<=b↔yT M (fun d=>lv.getD d 0) b less x
 |0,_,_,h,_,_,_,_,_=>h.elim
 |f+1,n,x,⟨p,hp,h⟩,hl,ho,hL,less,hls=>by
  have aS:=xX M i X body ac au ar al f;have aF:∀d,lv.getD d 0<=10000:=fun d=>by
   rw [eA]
   cases Y:lv[d]? with
   |none=>simp
   |some x=>exact al x (bF Y)
  have leaf:¬(p.kind=4\/p.kind=5)->(∃m e,m=n/\Tr pl 1 m e/\x=e)->p.ps=[]->x.l=none->∃R,UW bm kv rv pv kl rl pl l uC lv i n less R/\∀b,R<=b↔yT M (fun d=>lv.getD d 0) b less x:=by
   rintro V ⟨m,e,rfl,Q,rfl⟩ aO ag;have aH:m∈ac:=hL m (by rw [aJ];simp only [hp];rw [if_neg V];simp);have aK:x∈aN x:=by
    obtain ⟨aX,aT,aZ⟩:=x;simp only at ag;subst ag;simp [aN]
   obtain ⟨nd,h1,h2,A,J⟩:=ar m x aH Q (ho x aK);refine ⟨_,Jk bm kv rv pv kl rl pl l uC lv i m less X p nd hp au aO h1 h2 al hls J,fun b=> ?_⟩;rw [Z3];obtain ⟨aX,aT,aZ⟩:=x;simp only at ag;subst ag;simp only [aU,forall_exists_index,and_imp,forall_apply_eq_imp_iff₂,yT];exact ⟨fun h d aj=>h d ((A d).2 aj),fun h d aj=>h d ((A d).1 aj)⟩
  have parts:∀(x0:Ex) (rs:List (ae×Nat×Ex)) (V:p.kind=4\/p.kind=5),cu (Tr pl f) p.ps (x0::rs.map fun r=>r.2.2)->x=cb x0 rs->(∀r∈rs,r.1=sg 38\/r.1=sg 45\/r.1=sg 124)->(p.kind=4->p.sg=⟨[],0,false⟩::rs.map (fun r=>⟨bB r.1,r.2.1,false⟩))->(p.kind=5->∀r∈rs,r.1=sg 124)->∃R,UW bm kv rv pv kl rl pl l uC lv i n less R/\∀b,R<=b↔yT M (fun d=>lv.getD d 0) b less x:=by
   intro x0 rs V Yp aQ aP J Z;subst aQ;refine Jj ?_;intro hpl;have aR:∀y∈x0::rs.map (fun r=>r.2.2),∀e∈aN y,e∈aN (cb x0 rs):=fun y hy e he=>by
    exact Ji
   have aG:∀y∈x0::rs.map (fun r=>r.2.2),(aN y).length<=(aN (cb x0 rs)).length:=fun y hy=>by
    exact TQ
   have aM:p.ps.length<=1000:=by
    rw [hpl];refine aV (xW _ (fun y hy=> ?_)) ?_
    ·obtain ⟨m,_,C⟩:=cu.memr _ _ Yp y hy;exact CV pl f m y C
    rw [dH] at hl
    simpa using hl
   have aC:∃I:Nat->Nat,∀j,I j=if p.kind=4/\(∃t,p.sg[j]? =some t/\minus t=true) then 1 else less:=by
    exact ⟨fun j=>if p.kind=4/\(∃t,p.sg[j]? =some t/\minus t=true) then 1 else less,fun j=>rfl⟩
   obtain ⟨I,af⟩:=aC;have av:∀j,I j<=1:=fun j=>by rw [af];split<;>omega
   have aL:∀j,∃R:Nat,(∀m,p.ps[j]? =some m->UW bm kv rv pv kl rl pl l uC lv i m (I j) R)/\R<=100000/\∀y,(x0::rs.map fun r=>r.2.2)[j]? =some y->∀b,R<=b↔yT M (fun d=>lv.getD d 0) b (I j) y:=fun j=>by
    cases Y:p.ps[j]? with
    |none=>
     refine ⟨0,fun m C=>(by cases C),ai,fun y hy=> ?_⟩;have:=(bD.1 hy).1;rw [<-hpl] at this;rw [aI this] at Y
     cases Y
    |some m=>
     obtain ⟨y,hy,Q⟩:=uQ Yp Y;have ax:=bF hy;obtain ⟨R,a0,az⟩:=aS m y Q (aV (aG y ax) hl) (fun e he=>ho e (aR y ax e he)) (fun ay ab=>hL ay (by rw [aJ];simp only [hp];rw [if_pos V];exact bZ.2 ⟨m,bF Y,ab⟩)) (I j) (av j);refine ⟨R,fun ay ab=>(by cases ab;exact a0),aV ((az 10001).2 (Jl aF y _ (av j))) ai,fun a3 aw=> ?_⟩;rw [hy] at aw
     cases aw
     exact az
   obtain ⟨aA,am⟩:=Classical.axiomOfChoice aL;refine ⟨_,F1 bm kv rv pv kl rl pl l uC lv i n less p aA I hp V aM (by rw [hpl];simp) (fun e=>by rw [hpl,J e];simp) af (fun j m C=>(am j).1 m C) (fun j=>(am j).2.1) hls,fun b=> ?_⟩;rw [Jo,Ln rs less x0 aP];have key:∀j y,(x0::rs.map fun r=>r.2.2)[j]? =some y->(aA j<=b↔yT M (fun d=>lv.getD d 0) b (I j) y):=fun j y hy=>(am j).2.2 y hy b
   have k0:I 0=less:=by
    rw [af,if_neg];rintro ⟨e,t,Q,C⟩;rw [J e] at Q
    cases Q
    rw [AA] at C
    cases C
   have ks:∀j r,rs[j]? =some r->I (j+1)=if minus ⟨bB r.1,r.2.1,false⟩=true then 1 else less:=fun j r D=>by
    rw [af]
    rcases V with an|aB
    ·have:p.sg[j+1]? =some ⟨bB r.1,r.2.1,false⟩:=by rw [J an,vQ,et,D];rfl
     by_cases C:minus ⟨bB r.1,r.2.1,false⟩=true
     ·rw [if_pos ⟨an,_,this,C⟩,if_pos C]
     rw [if_neg C,if_neg];rintro ⟨_,t,Q,ab⟩;rw [this] at Q
     cases Q
     exact C ab
    have aE:=Z aB r (bF D);rw [if_neg (fun e=>by have:=e.1;omega),ri,aE,show eqs (sg 124) (sg 45)=false from by decide];simp
   constructor
   ·intro h;refine ⟨?_,fun r D=> ?_⟩
    ·have:=(key 0 x0 rfl).1 (h 0 (by rw [hpl];simp));rw [k0] at this;exact this
    obtain ⟨j,U⟩:=iw.1 D;have:=(key (j+1) r.2.2 (by rw [vQ,et,U];rfl)).1 (h (j+1) (by have:=(bD.1 U).1;rw [hpl];simp;omega));rw [ks j r U] at this;exact this
   rintro ⟨h0,D⟩ j U
   rcases j with _|j
   ·refine (key 0 x0 rfl).2 ?_;rw [k0];exact h0
   have ak:j<rs.length:=by rw [hpl] at U;simp at U;omega
   refine (key (j+1) rs[j].2.2 (by rw [vQ,et,aI ak];rfl)).2 ?_;rw [ks j rs[j] (aI ak)];exact D _ (br ak)
  rcases h with ⟨h1,h2,A⟩|⟨h1,h0,h2,A⟩|⟨h1,h0,h2,A⟩|⟨h1,h0,aY,ns,x0,rs,A,J,Z,ad,⟨ap,a2⟩,ah⟩|⟨h1,h0,a1,aY,ns,x0,rs,A,J,Z,ad,ap,ah⟩
  ·exact leaf ai ⟨n,x,rfl,⟨p,hp,.inl ⟨h1,h2,A⟩⟩,rfl⟩ h2.1 (by rw [A])
  ·exact leaf ai ⟨n,x,rfl,⟨p,hp,.inr (.inl ⟨h1,h0,h2,A⟩)⟩,rfl⟩ h2.1 (by rw [A])
  ·exact leaf ai ⟨n,x,rfl,⟨p,hp,.inr (.inr (.inl ⟨h1,h0,h2,A⟩))⟩,rfl⟩ h2.1 (by rw [A])
  ·exact parts x0 rs (.inl h1) (by rw [A];exact ⟨J,Z⟩) ah (fun r D=>(ap r D).elim .inl (fun e=> .inr (.inl e))) (fun _=>ad) (fun e=>ai)
  exact parts x0 rs (.inr h1) (by rw [A];exact ⟨J,Z⟩) ah (fun r D=> .inr (.inr (ad r D))) (fun e=>ai) (fun _=>ad)
end
def AE{f g:Nat->Nat}:∀(l:List Nat),(∀x∈l,f x<=g x)->(l.map f).sum<=(l.map g).sum
 | [],_=>ar
 |x::l,h=>by
  have:=AE l (fun y A=>h y (eY _ A));have:=h x eu;exact Cg
def AF{f g:Nat->Nat}:∀(l:List Nat)(x:Nat),(∀x∈l,f x<=g x)->x∈l->f x<g x->(l.map f).sum<(l.map g).sum
 | [],x,_,A,_=>by simp at A
 |y::l,x,h,A,hlt=>by
  simp only [bY,List.sum_cons]
  rcases cG.1 A with rfl|A
  ·have:=AE l (fun z C=>h z (eY _ C));omega
  have:=AF l x (fun z C=>h z (eY _ C)) A hlt;have:=h y eu;omega
def Z4(ρ:Nat->Nat)(R:Nat)(lv:List Nat):Nat:=((List.range R).map fun i=>ρ i-lv.getD i 0).sum
variable {i:Nat}
def xY{lv:List Nat}{v:Nat}(hi:i<lv.length)(d:Nat):(lv.set i v).getD d 0=if d=i then v else lv.getD d 0:=by
 rw [eA,eA,List.getElem?_set]
 by_cases e:i=d
 ·subst e;rw [if_pos rfl,if_pos rfl,if_pos hi]
  rfl
 rw [if_neg e,if_neg (fun e'=>e e'.symm)]
variable {w:af} {g:Nat} {xs:List ag} {e:TypeId}
def xZ(h:aL w g xs.toArray e)(A:xs.length<=maxLen):w.ownsRow 0 e 1 (aA (some (aP g)) xs.length xs.length) xs.length xs:=
 ⟨ar,.inr ⟨g,xs.length,xs.toArray,rfl,gU _,h,bV _,A,ar,ar⟩⟩
def Dj(l:List Nat):List ag:=l.map fun n:Nat=>au n
structure Z5(ρ:Nat->Nat)(R:Nat)(Bd:List Nat->Nat->Nat->Prop)(UX lv:List Nat)(again:Bool)(i:Nat):Prop where
 len:lv.length=R
 le:∀j,lv.getD j 0<=ρ j
 no:again=false->lv=UX/\∀j,j<i->Bd UX j (UX.getD j 0)
 yes:again=true->Z4 ρ R lv<Z4 ρ R UX
variable {again:Bool}
def Z5.same{ρ R Bd UX lv}(h:Z5 ρ R Bd UX lv again i)(A:Bd lv i (lv.getD i 0)):Z5 ρ R Bd UX lv again (i+1):=
 ⟨h.len,h.le,fun e=>⟨(h.no e).1,fun j C=>by
  by_cases e':j=i
  ·subst e';rw [(h.no e).1] at A;exact A
  exact (h.no e).2 j ai⟩,h.yes⟩
def Z5.up{ρ R Bd UX lv again i v}(h:Z5 ρ R Bd UX lv again i)(hi:i<R)(I:lv.getD i 0<v)(D:v<=ρ i):Z5 ρ R Bd UX (lv.set i v) true (i+1):=by
 have A:i<lv.length:=by rw [h.len];exact hi
 refine ⟨by rw [fV];exact h.len,fun j=> ?_,fun e=>Bool.noConfusion e,fun _=> ?_⟩
 ·rw [xY A]
  split
  ·rename_i e;subst e;exact D
  exact h.le j
 have h1:Z4 ρ R (lv.set i v)<Z4 ρ R lv:=AF _ i (fun j _=>by
  rw [xY A]
  split
  ·rename_i e;subst e;omega
  ·omega) (List.mem_range.2 hi) (by
  rw [xY A,if_pos rfl];omega)
 cases C:again
 ·rw [(h.no C).1] at h1 ⊢;exact h1
 exact Nat.lt_trans h1 (h.yes C)
def Z6(ρ:Nat->Nat)(h:List Nat->Nat->Nat->Prop)(R:Nat)(w:af)(e:Ending)(w':af):Prop:=∃b lv,e=bi (aA (some (aP b)) R R)/\am w w'/\lv.length=R/\w'.ownsRow 0 3 1 (aA (some (aP b)) R R) R (Dj lv)/\(∀j,lv.getD j 0<=ρ j)/\∀j,j<R->h lv j (lv.getD j 0)
section
variable (bm:Nat)(kv rv pv:ag)(kl:List (ae×Nat))(rl:List RV)(pl:List PV)(l:List PX)
def Jp(I:Nat->Nat)(U:List Nat->Nat->Nat->Prop)(aX:∀j,I j<=10000)(aJ:∀(uC:ag)(lv:List Nat)(i:Nat)(X:RV),lv.length=rl.length->(∀j,lv.getD j 0<=I j)->rl[i]? =some X->∃R,UW bm kv rv pv kl rl pl l uC lv i X.ex 0 R/\R<=I i/\∀b,R<=b↔U lv i b)(w:af)(h:DM w bm kv rv pv kl rl pl l)(h0:0<rl.length):
  Calls prog 198 #[.pointer (some (aC bm 5))] w (Z6 I U rl.length w):=by
 obtain ⟨a2,rc,aU⟩:=aw h.rt;have ab:=h.c6;rw [aU] at ab;have aW:=h.rn;have aV:∀w,(Instr.makeSlice 29 (au (rl.length:Int)) (au (rl.length:Int))).run prog w=.ok (aA (some (aP w.heap.size)) rl.length rl.length) (w.alloc (.cells (madeCells #[au 0] rl.length) 3)):=fun w=>run_make_row' 29 3 (au 0) 8 underlying29 Tryz.infoInt rfl .i64 .i64 rl.length ai ai w
 have ay:=(show aL (w.alloc (.cells (madeCells #[au 0] rl.length) 3)) w.heap.size (Dj (List.replicate rl.length 0)).toArray 3 from by
  have e:madeCells #[au 0] rl.length=(Dj (List.replicate rl.length 0)).toArray:=by
   apply Array.ext_getElem?;intro i
   by_cases hi:i<rl.length
   ·simp [madeCells,Dj,hi,Nat.mod_one]
   simp [madeCells,Dj,hi]
  rw [e];exact aL.new w _ _)
 have ax:=(az w.heap.size w).alloc aH (.cells (madeCells #[au 0] rl.length) 3);go_enter func198,ntmps198;go_wp2_with fail;generalize w.alloc (.cells (madeCells #[au 0] rl.length) 3)=W at*
 go_loopg [4] (2*Z4 I rl.length (List.replicate rl.length 0)+2) (fun k ac wr=>∃(b:Bool)(lv:List Nat),ac=.bool b/\am w wr/\aL wr w.heap.size (Dj lv).toArray 3/\(lv.length=rl.length/\(∀j,lv.getD j 0<=I j)/\(b=false->∀j,j<rl.length->U lv j (lv.getD j 0))/\2*Z4 I rl.length lv+(if b then 1 else 0)<k))
 ·exact ⟨true,_,rfl,ax,ay,aj ⟨ar,(fun j=>by
  rw [eA,List.getElem?_replicate]
  split<;>simp),(fun e=>by cases e),ar⟩⟩
 ·obtain ⟨b,lv,rfl,D,Q,J⟩:=hrel
  cases b with
  |false=>
   have aB:=xZ Q (by unfold Dj maxLen;rw [bN,J.1];omega);go_wp2;go_ret;refine ⟨w.heap.size,lv,rfl,D,J.1,?_,J.2.1,J.2.2.1 (by first|rfl|trivial)⟩;have:=aB;have e:(Dj lv).length=rl.length:=by unfold Dj;rw [bN,J.1]
   rw [e] at this;exact this
  |true=>
   go_wp2_with fail
   go_loopw [4,5] (fun ac ad ap=>∃(b:Bool)(i:Nat)(A:List Nat),ac=.bool b/\ad=au i/\i<=rl.length/\am w ap/\aL ap w.heap.size (Dj A).toArray 3/\(Z5 I rl.length U lv A b i)) (fun _ ad _=>rl.length-(intOf ad).toNat)
   ·exact ⟨false,0,lv,rfl,rfl,ai,D,Q,aj ⟨J.1,J.2.1,(fun _=>⟨rfl,fun j al=>ai⟩),(fun e=>by cases e)⟩⟩
   obtain ⟨b,i,A,rfl,rfl,hi,D,Q,C⟩:=hrel
   by_cases Z:i<rl.length
   ·have aS:(i:Int)<(rl.length:Int):=by omega
    obtain ⟨X,ah⟩:∃X,rl[i]? =some X:=⟨_,aI Z⟩;obtain ⟨R,aK,aM,aN⟩:=aJ (aA (some (aP w.heap.size)) rl.length rl.length) A i X C.len C.le ah;have an:=xZ Q (by unfold Dj maxLen;rw [bN,C.len];omega);have aG:(Dj A).length=rl.length:=by unfold Dj;rw [bN,C.len]
    rw [aG] at an;have av:=aK wr (h.below D) (by rw [C.len];exact an);obtain ⟨a3,a4,aT,aZ,a0,a1,r3⟩:=(h.below D).rat i X ah;have ab:=(h.below D).c6;rw [aT] at ab;go_wp2_with fail;refine av.mono ?_;rintro e w1 ⟨rfl,ak⟩;have ae:=D.trans (ak.mono D.size);have V:=Q.below ak;have aR:i<A.length:=by rw [C.len];exact Z
    have aY:w1.cell? (aC w.heap.size i)=some (au (A.getD i 0:Nat)):=V.cell (by
     unfold Dj;simp [eA,aR])
    have fz:=V.fz;have aF:=(show aL (w1.setCell (aC w.heap.size i) (au (R:Nat))) w.heap.size (Dj (A.set i R)).toArray 3 from by
     have:=V.set i (au (R:Nat));unfold Dj at this ⊢;rw [qd]
     simpa using this)
    have aE:=ae.setCell (p:=⟨w.heap.size,i,none⟩) aH (au (R:Nat))
    by_cases aQ:A.getD i 0<R
    ·have Y:=C.up Z aQ aM;have aO:((A.getD i 0:Nat):Int)<(R:Int):=ai;generalize A.getD i 0=lo at*;go_wp2_with fail;exact ⟨⟨true,i+1,_,rfl,by go_num,ai,aE,aF,Y⟩,by simp [intOf];omega⟩
    have Y:=C.same ((aN _).1 ai);have aO:¬(((A.getD i 0:Nat):Int)<(R:Int)):=ai;generalize A.getD i 0=lo at*;go_wp2_with fail;exact ⟨⟨b,i+1,A,rfl,by go_num,ai,ae,V,Y⟩,by simp [intOf];omega⟩
   obtain rfl:i=rl.length:=ai;have aS:¬((rl.length:Int)<(rl.length:Int)):=ai;go_wp2
   go_roundg (2*Z4 I rl.length A+(if b then 1 else 0)+1)
   case measure=>
    have h1:=J.2.2.2
    cases b with
    |false=>simp at h1 ⊢;rw [(C.no rfl).1];omega
    |true=>have:=C.yes rfl;simp at h1 ⊢;omega
   case rel=>exact ⟨b,A,rfl,D,Q,aj ⟨C.len,C.le,(fun e j al=>by rw [(C.no e).1];exact (C.no e).2 j al),ai⟩⟩
end
def Tryz.info2s:(Tryz.prog.info? 382).map (fun i=>(i.zero,i.size,i.bytes))=some (some (.agg #[an ⟨#[]⟩,an ⟨#[]⟩]),2,32):=by kernel_rfl
def eQ(th:List (ae×ae))(x n:ae):List (ae×ae):=if xR th x n<0 then th++[(x,n)] else th
variable {x:ae}
def iF{th n}:(xR th x n= -1/\(x,n)∉th)\/∃m:Nat,xR th x n=m/\th[m]? =some (x,n):=by
 unfold xR
 cases A:th.findIdx? (fun p=>eqs p.1 x&&eqs p.2 n) with
 |none=>
  rw [pI] at A;refine .inl ⟨rfl,fun C=> ?_⟩;have:=A _ C;rw [(bz _ _).2 rfl,(bz _ _).2 rfl] at this
  cases this
 |some i=>
  obtain ⟨hi,h,_⟩:=kZ.1 A;rw [bO,bz,bz] at h;exact .inr ⟨i,rfl,by rw [aI hi];congr 1;exact Prod.ext h.1 h.2⟩
def lY{th n}:(x,n)∈eQ th x n/\∀p∈th,p∈eQ th x n:=by
 unfold eQ
 rcases iF (th:=th) (x:=x) (n:=n) with ⟨e,_⟩|⟨m,e,C⟩
 ·rw [if_pos ai];exact ⟨ar,fun p A=>mO _ A⟩
 rw [if_neg ai];exact ⟨bF C,fun p A=>A⟩
def ot{th n}:(eQ th x n).length<=th.length+1:=by
 unfold eQ
 split<;>simp
def CY{th n}(h:th.Nodup):(eQ th x n).Nodup:=by
 unfold eQ
 rcases iF (th:=th) (x:=x) (n:=n) with ⟨e,C⟩|⟨m,e,C⟩
 ·rw [if_pos ai,sR];exact ⟨h,ar,fun a ha b A e=>by rw [aX] at A;subst A;subst e;exact C ha⟩
 rw [if_neg ai];exact h
def TX(B b:Nat)(c0 c1 c2 h:ag)(th:List (ae×ae))(w:af)(e:Ending)(w':af):Prop:=e=bi (.tuple #[])/\∃gv,aL w' b #[c0,c1,c2,gv,h] 351/\w'.ownsRow B 382 2 gv th.length (th.flatMap N8)/\Below B w w'
def x8(B b c0 c1 c2 c4 gv th x n w)(D:aL w b #[c0,c1,c2,gv,c4] 351)(I:w.ownsRow B 382 2 gv th.length (th.flatMap N8))(ay:th.length<=900)(al:B<=b):
  Calls prog 197 #[bu b,an x,an n] w (TX B b c0 c1 c2 c4 (eQ th x n) w):=by
 have C:=xS b c0 c1 c2 c4 gv th x n w D (bk I (gU _)) ai;obtain ⟨ga,gc,rfl⟩:=aw I;have av:w.cell? (aC b 3)=some (aA ga th.length gc):=D.cell rfl;have aB:=D.lt;have arz:=iF (th:=th) (x:=x) (n:=n);have Q:=aj (show eQ th x n=if xR th x n<0 then th++[(x,n)] else th from rfl);generalize eQ th x n=V at*;generalize xR th x n=tn at*;go_enter func197,ntmps197;go_wp2_with fail;refine C.mono ?_;rintro e w1 ⟨rfl,af⟩;rw [af];clear af w1 C
 by_cases ad:tn<0
 ·have R:V=th++[(x,n)]:=by rw [Q.u,if_pos ad]
  have ah:=aj R;clear R Q;go_wp2_with (at_builtin;go_must (refine eB rfl underlying348 Tryz.info2s B (I.alloc _) w.heap.size 1 [an x,an n] (w.heap.size+1) ?vu))
  case vu=>
   intro Z Y ac ae ab ak am;have U:=I.alloc (.cells #[an x,an n] 382);have J:=D.alloc (.cells #[an x,an n] 382);have A:aL ac b #[c0,c1,c2,aA ga th.length gc,c4] 351:=(ab.block b J.lt (own_ne U J ax)).trans J;have au:=A.fz;have k3:ac.cell? (aC b 3)=some (aA ga th.length gc):=A.cell rfl;have ag:=(show TX B b c0 c1 c2 c4 V w (bi (.tuple #[])) (ac.setCell (aC b 3) (aA (some (aP Z)) (th.length+1) Y)) from by
    refine ⟨rfl,aA (some (aP Z)) (th.length+1) Y,A.set 3 _,?_,?_⟩
    ·rw [ah.u];have:=mR ae A ax 3 (aA (some (aP Z)) (th.length+1) Y)
     simpa [N8] using this
    exact (cA ((az B w).alloc ai (.cells #[an x,an n] 382)) ab aS (fun q ap=>(U.lt q ap).1)).setCell (p:=⟨b,3,none⟩) al _)
   clear U J ae ab ak am A;go_wp2;go_end0;exact ag
 ·have R:V=th:=by rw [Q.u,if_neg ad]
  subst R;clear Q;go_wp2;go_end0;exact ⟨rfl,_,D,I,az _ _⟩
variable {aD bq:Prop}
abbrev tC(a0:Option Addr)(a1:Nat):Obj:=.cells #[aA a0 a1 a1] 353
abbrev qv(a0:Int)(a1:ae):Obj:=.cells #[au a0,an a1] 270
def qw(th:List (ae×ae))(ss:List ae):List (ae×ae):=ss.foldl (fun th s=>eQ (eQ th (tt s).kind (tt s).id) (tt s).sub (tt s).who) th
def CZ:∀(ss:List ae) (th:List (ae×ae)),(qw th ss).length<=th.length+2*ss.length
 | [],th=>by simp [qw]
 |s::ss,th=>by
  have:=CZ ss (eQ (eQ th (tt s).kind (tt s).id) (tt s).sub (tt s).who);have h1:=ot (th:=th) (x:=(tt s).kind) (n:=(tt s).id);have h2:=ot (th:=eQ th (tt s).kind (tt s).id) (x:=(tt s).sub) (n:=(tt s).who);unfold qw at this ⊢;rw [nT];simp only [List.length_cons];omega
def TY(th ss s):qw th (ss++[s])=eQ (eQ (qw th ss) (tt s).kind (tt s).id) (tt s).sub (tt s).who:=by simp [qw]
structure GwI(B:Nat)(W wr:af)(b y:Nat)(kd who:ae)(yv:ag)(th:List (ae×ae)):Prop where
 ex:∃gv,aL wr b #[bu y,an kd,an who,gv,yv] 351/\wr.ownsRow B 382 2 gv th.length (th.flatMap N8)
 low:Below B W wr
def Tryz.infoBo:(Tryz.prog.info? 4).map (fun i=>(i.zero,i.size,i.bytes))=some (some (.bool false),1,1):=by kernel_rfl
def Tryz.infoBs:(Tryz.prog.info? 353).map (fun i=>(i.zero,i.size,i.bytes))=some (some (aA none 0 0),1,24):=by kernel_rfl
def YwI(B:Nat)(W wr:af)(b y:Nat)(kd who:ae)(th:List (ae×ae))(r:Nat):Prop:=∃(gv yv:ag)(bs:List Nat),aL wr b #[bu y,an kd,an who,gv,yv] 351/\wr.ownsRow B 382 2 gv th.length (th.flatMap N8)/\wr.ownsRow B 353 1 yv r (bs.map fun q=>aA (some (aP q)) th.length th.length)/\bs.length=r/\(∀q∈bs,B<=q/\yS wr q th.length (fun _=>false) 4)/\bs.Nodup/\Below B W wr
variable {B b g5 be:Nat} {W w5:af} {kd:ae} {gv:ag}
def TZ{C:af}{y:Nat}{who:ae}{th:List (ae×ae)}{r:Nat}{yv:ag}{bs:List Nat}{mc:Array ag}(ap:aL C b #[bu y,an kd,an who,gv,yv] 351)(Y:C.ownsRow B 382 2 gv th.length (th.flatMap N8))(aI:C.ownsRow B 353 1 yv r (bs.map fun q=>aA (some (aP q)) th.length th.length))(au:bs.length=r)(ah:∀q∈bs,B<=q/\yS C q th.length (fun _=>false) 4)(aF:bs.Nodup)(ay:Below B W C)(am:B<=b)(ac:B<=C.heap.size)(aE:madeCells #[.bool false] th.length=mc)
  (Q:((C.alloc (.cells mc 4)).alloc (tC (some (aP C.heap.size)) th.length)).drew.grownBy w5 yv.ownBlock) (aG:w5.ownsRow B 353 1 (aA (some (aP g5)) (r+1) be) (r+1) ((bs.map fun q=>aA (some (aP q)) th.length th.length)++[aA (some (aP C.heap.size)) th.length th.length])):
  YwI B W (w5.setCell (aC b 4) (aA (some (aP g5)) (r+1) be)) b y kd who th (r+1):=by
 have A:=((az C.heap.size C).alloc aH (.cells mc 4)).alloc ar (tC (some (aP C.heap.size)) th.length) |>.drew;have I:=cP ((aI.alloc (.cells mc 4)).alloc (tC (some (aP C.heap.size)) th.length));have R:=ap.below A;have J:aL w5 b _ 351:=(Q.block b R.lt (own_ne I R ax)).trans R;have U:aL ((C.alloc (.cells mc 4)).alloc (tC (some (aP C.heap.size)) th.length)).drew C.heap.size mc 4:=((aL.new C mc 4).alloc _).drew;have Z:aL w5 C.heap.size mc 4:=(Q.block _ U.lt (own_ne I U ax)).trans U;have e:mc=((Jg th.length (fun _=>false)).map Value.bool).toArray:=by
  rw [<-aE];apply Array.ext_getElem?;intro i
  by_cases hi:i<th.length
  ·simp [madeCells,Jg,hi,Nat.mod_one]
  simp [madeCells,Jg,hi]
 have aj:Below B C w5:=cA (A.mono ac) Q aS (fun q D=>(I.lt q D).1);refine ⟨gv,aA (some (aP g5)) (r+1) be,bs++[C.heap.size],J.set 4 _,?_,?_,by simp [au],fun q D=> ?_,?_,(ay.trans aj).setCell (p:=⟨b,4,none⟩) am _⟩
 ·exact mR (cH (aB Y A) (fun g cs f av aw=>Q.block g (lt_of_some aw) (fun e=>by
   obtain ⟨m,c,e1⟩:=oT (aB Y A) av;obtain ⟨aN,aJ,al⟩:=oT I e.symm;have ai:=aB Y A;rw [e1] at ai;obtain ⟨aK,b1,_⟩:=dG ai;rw [al] at I;obtain ⟨aM,ak,_⟩:=dG I;exact tA b1 ak ax rfl))) J ax 4 _
 ·rw [cK];exact mR aG J ax 4 _
 ·rcases aW.1 D with D|D
  ·obtain ⟨h1,h2⟩:=ah q D;have V:aL _ q _ 4:=(h2.below A);have ab:aL w5 q _ 4:=(Q.block q V.lt (own_ne I V ax)).trans V;exact ⟨h1,aL.other ab (tA ab J ax) _⟩
  rw [aX] at D;subst D;refine ⟨ac,aL.other (by rw [<-e];exact Z:aL w5 C.heap.size ((Jg th.length (fun _=>false)).map Value.bool).toArray 4) (tA Z J ax) _⟩
 ·rw [sR];refine ⟨aF,ar,fun a ha b ad e=> ?_⟩;rw [aX] at ad;subst ad;subst e;have:=(ah _ ha).2.lt;omega
def uS:∀(ss:List ae) (th:List (ae×ae)) (p:ae×ae),p∈th->p∈qw th ss
 | [],th,p,h=>h
 |s::ss,th,p,h=>uS ss _ p (lY.2 _ (lY.2 _ h))
def m3(g:GP)(lv:List Nat)(bd:Nat->Ex)(n:Nat)(K0 K:Nat->Nat->Bool):Prop:=∀P:(Nat->Nat->Bool)->Prop,P K0->(∀K r k X (q:ae×ae),P K->g.rl[r]? =some X->g.th[k]? =some q->lv[r]? =some n->q.1=X.kd->lC g K X k q.2 (bd r)=true->P (CQ K r k))->P K
def m3.nil{g lv bd n K0}:m3 g lv bd n K0 K0:=fun _ a _=>a
def m3.up{g lv bd n K0 K r k X}{q:ae×ae}(h:m3 g lv bd n K0 K)(a:g.rl[r]? =some X)(b:g.th[k]? =some q)(c:lv[r]? =some n)(d:q.1=X.kd)(e:lC g K X k q.2 (bd r)=true):m3 g lv bd n K0 (CQ K r k):=fun P x y=>y K r k X q (h P x y) a b c d e
def m3.ind{g lv bd n K0}{motive:∀K,m3 g lv bd n K0 K->Prop}(nil:motive K0 .nil)(up:∀{K r k X}{q:ae×ae}(h:m3 g lv bd n K0 K)(a:g.rl[r]? =some X)(b:g.th[k]? =some q)(c:lv[r]? =some n)(d:q.1=X.kd)(e:lC g K X k q.2 (bd r)=true),motive K h->motive _ (h.up a b c d e)){K}(h:m3 g lv bd n K0 K):motive K h:=
 (h (fun K=>∃h,motive K h) ⟨_,nil⟩ (fun K r k X q ⟨h,i⟩ a b c d e=>⟨_,up h a b c d e i⟩)).elim fun _ i=>i
def uD(g:GP)(lv:List Nat)(bd:Nat->Ex)(n:Nat)(K:Nat->Nat->Bool):Prop:=∀P:Nat->(Nat->Nat->Bool)->Prop,P 0 (fun _ _=>false)->(∀n K0 K,P n K0->m3 g lv bd n K0 K->Z2 g lv bd n K->P (n+1) K)->P n K
def uD.zero{g lv bd}:uD g lv bd 0 fun _ _=>false:=fun _ a _=>a
def uD.succ{g lv bd n K0 K}(h:uD g lv bd n K0)(a:m3 g lv bd n K0 K)(b:Z2 g lv bd n K):uD g lv bd (n+1) K:=fun P x y=>y n K0 K (h P x y) a b
def uD.ind{g lv bd}{motive:∀n K,uD g lv bd n K->Prop}(zero:motive 0 _ .zero)(succ:∀{n K0 K}(h:uD g lv bd n K0)(a:m3 g lv bd n K0 K)(b:Z2 g lv bd n K),motive n K0 h->motive _ K (h.succ a b)){n K}(h:uD g lv bd n K):motive n K h:=
 (h (fun n K=>∃h,motive n K h) ⟨_,zero⟩ (fun n K0 K ⟨h,i⟩ a b=>⟨_,succ h a b i⟩)).elim fun _ i=>i
variable {w w':af} {n:Nat} {xs:List ag}
def WT{g K uC}(A:GI w g K)(h:w.ownsRow 0 3 1 uC n xs)(C:bK (fun k=>k∈g.bs) w w'):w'.ownsRow 0 3 1 uC n xs:=
 cH h (fun q cs f J D=>C.block q (lt_of_some D) (fun I=>by
  obtain ⟨m,c,e1⟩:=oT h J;rw [e1] at h;obtain ⟨R,b1,_⟩:=dG h;obtain ⟨r,Q,e⟩:=dB I;exact tA b1 (A.yb r q (by rw [<-e];exact aI Q)) ax rfl))
structure Yr(g:GP)(b y bm:Nat)(kl:List (ae×Nat))(rl:List RV)(pl:List PV)(l:List PX)(ss:List ae)(th:List (ae×ae))(kd who:ae):Prop where
 b:g.b=b
 y:g.y=y
 bm:g.bm=bm
 kl:g.kl=kl
 rl:g.rl=rl
 pl:g.pl=pl
 l:g.l=l
 ss:g.ss=ss
 th:g.th=th
 kd:g.kd=kd
 who:g.who=who
def Z7(ρ:Nat->Nat)(h:List Nat->Nat->Nat->Prop)(bd:Nat->Ex)(y bm:Nat)(kl:List (ae×Nat))(rl:List RV)(pl:List PV)(l:List PX)(ss:List ae)(kd who id:ae)(rel:Nat)(X:RV)(w:af)(e:Ending)(w':af):Prop:=∃g lv K m,e=bi (.bool (K rel m))/\am w w'/\Yr g (w.heap.size+1) y bm kl rl pl l ss (qw (eQ [] X.kd id) ss) kd who/\xR (qw (eQ [] X.kd id) ss) X.kd id=(m:Nat)/\m<(qw (eQ [] X.kd id) ss).length/\lv.length=rl.length/\(∀j,lv.getD j 0<=ρ j)/\(∀j,j<rl.length->h lv j (lv.getD j 0))/\uD g lv bd (rl.length+1) K
def Jq(ρ Bd bd)(y bm:Nat)(tv kv rv pv kl rl pl l ss kd who id)(rel:Nat)(X w)(aN:DU w y (.pointer (some (aC bm 5))) tv ss)(ah:DM w bm kv rv pv kl rl pl l)(bK:∃cs,aL w bm cs 252)(a7:rl[rel]? =some X)(dp:ss.length<=24)(cR:∀j,ρ j<=10000)(cl:∀(uC:ag)(lv:List Nat)(i:Nat)(X:RV),lv.length=rl.length->(∀j,lv.getD j 0<=ρ j)->rl[i]? =some X->∃R,UW bm kv rv pv kl rl pl l uC lv i X.ex 0 R/\R<=ρ i/\∀b,R<=b↔Bd lv i b)(cp:∀g,Yr g (w.heap.size+1) y bm kl rl pl l ss (qw (eQ [] X.kd id) ss) kd who->∀av r k X q,g.rl[r]? =some X->g.th[k]? =some q->TM g av r k X.ex (lC g av X k q.2 (bd r))):
  Calls prog 138 #[bu y,an kd,an who,.agg #[au rel,an id]] w (Z7 ρ Bd bd y bm kl rl pl l ss kd who id rel X w):=by
 have a1:=(az w.heap.size w).alloc aH (qv rel id);have aJ:=a1.alloc a1.size (.cells #[bu y,an kd,an who,aA none 0 0,aA none 0 0] 351);have aV:=(aL.new w #[au rel,an id] 270).alloc (.cells #[bu y,an kd,an who,aA none 0 0,aA none 0 0] 351);have bj:=aL.new' (w.alloc (qv rel id)) #[bu y,an kd,an who,aA none 0 0,aA none 0 0] 351 (w.heap.size+1) ar;have aF:=aN.below aJ;have bp:=ah.below aJ;have dn:=ah.rn;have cL:=(bD.1 a7).1;have dl:(rel:Int)<(rl.length:Int):=ai;have dw:=aN.blk.lt;have b5:=(show ∀(A n c:Nat),tv=aA (some (aP A)) n c->A<w.heap.size from fun A n c e=>by
  have bb:=aN.row;rw [e] at bb;obtain ⟨cZ,V,_⟩:=dG bb;exact V.lt)
 have dh:bm<w.heap.size:=by obtain ⟨cs,h⟩:=bK;exact h.lt
 obtain ⟨ap,rc,bM,bg,cS,cT,dB⟩:=ah.rat rel X a7;have dk:ap<w.heap.size:=World.block_lt_of_cell? w ⟨ap,rel*4,none⟩ bg;have c2:=ak bg aJ;go_enter func138,ntmps138
 go_upto_region 2 with fail
 generalize (w.alloc (qv rel id)).alloc (.cells #[bu y,an kd,an who,aA none 0 0,aA none 0 0] 351)=W at*;obtain ⟨B,c8⟩:∃B,B=w.heap.size+1:=⟨_,rfl⟩;have c9:B<=W.heap.size:=by have:=bj.lt;omega
 have c0:W.cell? (aP y)=some (.pointer (some (aC bm 5))):=aF.blk.cell rfl;have c1:=bp.c6;rw [bM] at c1;have c3:W.cell? (aP w.heap.size)=some (au rel):=aV.cell rfl;have bz:W.cell? (aC w.heap.size 1)=some (an id):=aV.cell rfl;have a2:=fun (w':af) (V:am W w')=>x8 B (w.heap.size+1) (bu y) (an kd) (an who) (aA none 0 0) (aA none 0 0) [] X.kd id w' (bj.below V) (bP) ar ai
 have ay:=az W.heap.size W
 go_region_held3 (fun w'=>w'.cell? (aP y)=some (.pointer (some (aC bm 5)))/\w'.cell? (aC bm 6)=some (aA (some (aP ap)) rl.length rc)/\w'.cell? (aC ap (rel*4))=some (an X.kd)/\w'.cell? (aP w.heap.size)=some (au rel)/\w'.cell? (aC w.heap.size 1)=some (an id)) (go_keep)
  ((go_at_call 197;refine (a2 _ ((cq ay):am W _)).mono ?_;rintro e w1 ⟨rfl,ae⟩;have ce:=ae;obtain ⟨_,_,_,aM⟩:=ae;have J:=(ll (((cq ay):am W _).mono ai:Below B W _) aM:Below B W w1);have d0:=(J.cell (p:=⟨y,0,none⟩) (show y<B by omega)).trans c0;have d1:=(J.cell (p:=⟨bm,6,none⟩) (show bm<B by omega)).trans c1;have d2:=(J.cell (p:=⟨ap,rel*4,none⟩) (show ap<B by omega)).trans c2;have d3:=(J.cell (p:=⟨w.heap.size,0,none⟩) (show w.heap.size<B by omega)).trans c3;have d4:=(J.cell (p:=⟨w.heap.size,1,none⟩) (show w.heap.size<B by omega)).trans bz))
 have b8:=(show GwI B W w1 (w.heap.size+1) y kd who (aA none 0 0) (qw (eQ [] X.kd id) (ss.take 0)) from by
  obtain ⟨gv,a4,a5,_⟩:=aE ce;exact ⟨⟨gv,by simpa using a4,by simpa [qw] using a5⟩,J⟩)
 go_wp2_with fail
 go_loopw [10] (fun u wr=>∃i:Nat,i<=ss.length/\u=au i/\GwI B W wr (w.heap.size+1) y kd who (aA none 0 0) (qw (eQ [] X.kd id) (ss.take i))) (fun u _=>ss.length-(intOf u).toNat)
 ·exact ⟨0,ai,rfl,b8⟩
 ·obtain ⟨i,hi,rfl,cm⟩:=hrel;obtain ⟨⟨gv,Y,al⟩,D⟩:=cm;obtain ⟨ta,bQ,bc⟩:=aw aF.row;have cU:W.cell? (aC y 1)=some tv:=aF.blk.cell rfl;have c0:wr.cell? (aC y 1)=some tv:=(D.cell (p:=⟨y,1,none⟩) (show y<B by omega)).trans cU;rw [bc] at c0
  by_cases bH:i<ss.length
  ·have cA:(i:Int)<(ss.length:Int):=by omega
   obtain ⟨A,tc,e1,hc⟩:=bn Kj 7 (fun _=>rfl) aF.row i ss[i] (aI bH);rw [bc] at e1;simp only [aK,bX] at e1;obtain ⟨rfl,rfl⟩:=e1;have dq:A<w.heap.size:=b5 A _ _ bc;have bx:=(by rw [cD bH,TY]:qw (eQ [] X.kd id) (ss.take (i+1))=eQ (eQ (qw (eQ [] X.kd id) (ss.take i)) (tt ss[i]).kind (tt ss[i]).id) (tt ss[i]).sub (tt ss[i]).who);have dr:=CZ (ss.take i) (eQ [] X.kd id);have cO:=ot (th:=[]) (x:=X.kd) (n:=id);have ds:(ss.take i).length<=24:=by rw [eb];omega
   have f0:=(D.cell (p:=⟨A,i*7+0,none⟩) (show A<B by omega)).trans (hc 0 _ ai rfl);have f1:=(D.cell (p:=⟨A,i*7+1,none⟩) (show A<B by omega)).trans (hc 1 _ ai rfl);have f3:=(D.cell (p:=⟨A,i*7+3,none⟩) (show A<B by omega)).trans (hc 3 _ ai rfl);have f4:=(D.cell (p:=⟨A,i*7+4,none⟩) (show A<B by omega)).trans (hc 4 _ ai rfl);rw [oo] at f0;unfold tt at bx;generalize qw (eQ [] X.kd id) (ss.take i)=C at*;simp only [List.length_nil] at cO;have cr:C.length<=60:=ai;generalize (b7 ss[i]).1=T at*;obtain ⟨Q,a6⟩:∃z,z=wr:=⟨_,rfl⟩;subst a6;have bO:=D.size;have a2:=fun (w':af) (V:am Q w')=>x8 B (w.heap.size+1) (bu y) (an kd) (an who) (aA none 0 0) gv C T.kind T.id w' (Y.below V) (aB al V) ai ai
   have ay:=az Q.heap.size Q;have bN:B<=Q.heap.size:=ai
   go_upto_region 6 with fail
   go_region_held3 (fun w'=>w'.cell? (aC y 1)=some (aA (some (aP A)) ss.length bQ)/\w'.cell? (aC A (i*7))=some (an T.kind)/\w'.cell? (aC A (i*7+1))=some (an T.id)) (go_keep)
    ((go_at_call 197;refine (a2 _ ((cq ay):am Q _)).mono ?_;rintro e ac ⟨rfl,ae⟩;have cf:=ae;obtain ⟨_,_,_,aM⟩:=ae;have J:=(ll (((cq ay):am Q _).mono ai:Below B Q _) aM:Below B Q ac);have d0:=(J.cell (p:=⟨y,1,none⟩) (show y<B by omega)).trans c0;have d1:=(J.cell (p:=⟨A,i*7,none⟩) (show A<B by omega)).trans f0;have d2:=(J.cell (p:=⟨A,i*7+1,none⟩) (show A<B by omega)).trans f1))
   obtain ⟨cj,cx,cM,_⟩:=aE cf;have dt:=J.size;have b4:=D.trans J;have d3:=(J.cell (p:=⟨A,i*7+3,none⟩) (show A<B by omega)).trans f3;have d4:=(J.cell (p:=⟨A,i*7+4,none⟩) (show A<B by omega)).trans f4;have db:=ot (th:=C) (x:=T.kind) (n:=T.id);have cW:=(⟨_,rfl⟩:∃ch,ch=eQ C T.kind T.id);generalize da:eQ C T.kind T.id=ci at*;have bT:=fun (w':af) (V:am ac w')=>x8 B (w.heap.size+1) (bu y) (an kd) (an who) (aA none 0 0) cj ci T.sub T.who w' (cx.below V) (aB cM V) ai ai
   have bh:=az ac.heap.size ac;have du:B<=ac.heap.size:=ai
   go_upto_region 7 with fail
   go_region_held3 (fun w'=>w'.cell? (aC y 1)=some (aA (some (aP A)) ss.length bQ)/\w'.cell? (aC A (i*7+3))=some (an T.sub)/\w'.cell? (aC A (i*7+4))=some (an T.who)) (go_keep)
    ((go_at_call 197;refine (bT _ ((cq bh):am ac _)).mono ?_;rintro e bR ⟨rfl,ae⟩;have cg:=ae;obtain ⟨_,_,_,aM⟩:=ae;have J:=(ll (((cq bh):am ac _).mono ai:Below B ac _) aM:Below B ac bR);have d0:=(J.cell (p:=⟨y,1,none⟩) (show y<B by omega)).trans d0;have d1:=(J.cell (p:=⟨A,i*7+3,none⟩) (show A<B by omega)).trans d3;have d2:=(J.cell (p:=⟨A,i*7+4,none⟩) (show A<B by omega)).trans d4))
   have b9:=(show GwI B W bR (w.heap.size+1) y kd who (aA none 0 0) (qw (eQ [] X.kd id) (ss.take (i+1))) from by
    obtain ⟨ck,a4,a5,_⟩:=aE cg;rw [bx];exact ⟨⟨ck,a4,a5⟩,b4.trans J⟩)
   go_wp2_with fail;exact ⟨⟨i+1,ai,by go_num,b9⟩,by simp [intOf];omega⟩
  obtain rfl:i=ss.length:=ai;have cA:¬((ss.length:Int)<(ss.length:Int)):=ai;have de:=CZ ss (eQ [] X.kd id);have cC:=ot (th:=[]) (x:=X.kd) (n:=id);simp only [List.length_nil] at cC;rw [kr] at al;have b6:=(show ∃m:Nat,xR (qw (eQ [] X.kd id) ss) X.kd id=m/\m<(qw (eQ [] X.kd id) ss).length from by
   rcases iF (th:=qw (eQ [] X.kd id) ss) (x:=X.kd) (n:=id) with h|⟨m,h1,h2⟩
   ·exact (h.2 (uS _ _ _ lY.1)).elim
   exact ⟨m,h1,(bD.1 h2).1⟩)
  generalize ct:qw (eQ [] X.kd id) ss=C at*;have cr:C.length<=60:=ai;have bO:=D.size;have cb:=(⟨gv,aA none 0 0,[],Y,al,bP,rfl,(fun q aO=>by cases aO),List.nodup_nil,D⟩:YwI B W wr (w.heap.size+1) y kd who C 0);go_wp2_with fail
  go_loopw [11] (fun u ad=>∃r:Nat,r<=rl.length/\u=au r/\YwI B W ad (w.heap.size+1) y kd who C r) (fun u _=>rl.length-(intOf u).toNat)
  ·exact ⟨0,ai,rfl,cb⟩
  obtain ⟨r,bb,rfl,cu⟩:=hrel;obtain ⟨gv,yv,bs,Y,al,aZ,a8,a9,bL,D⟩:=cu;have c0:wr.cell? (aP y)=some (.pointer (some (aC bm 5))):=(D.cell (p:=⟨y,0,none⟩) (show y<B by omega)).trans (aF.blk.cell rfl);have c1:wr.cell? (aC bm 6)=some (aA (some (aP ap)) rl.length rc):=(D.cell (p:=⟨bm,6,none⟩) (show bm<B by omega)).trans (by have:=bp.c6;rw [bM] at this;exact this);have bO:=D.size;have bN:B<=wr.heap.size:=ai;obtain ⟨ga,gc,cz⟩:=aw al;obtain ⟨aQ,aR,bf⟩:=aw aZ;subst cz;subst bf
  by_cases dm:r<rl.length
  ·have cK:(r:Int)<(rl.length:Int):=by omega
   obtain ⟨Q,a6⟩:∃z,z=wr:=⟨_,rfl⟩;subst a6;have cX:Q.cell? (aC (w.heap.size+1) 3)=some (aA ga C.length gc):=Y.cell rfl;have cY:Q.cell? (aC (w.heap.size+1) 4)=some (aA aQ r aR):=Y.cell rfl;have dg:∀w,(Instr.makeSlice 353 (au (C.length:Int)) (au (C.length:Int))).run prog w=.ok (aA (some (aP w.heap.size)) C.length C.length) (w.alloc (.cells (madeCells #[.bool false] C.length) 4)):=fun w=>run_make_row' 353 4 (.bool false) 1 underlying353 Tryz.infoBo rfl .i64 .i64 C.length ai ai w
   have bW:=a8
   go_upto_region 11 with fail
   generalize cF:madeCells #[.bool false] C.length=mc at*;have a8:=Y.lt;have c4:(Q.alloc (.cells mc 4)).cell? (aC (w.heap.size+1) 4)=some (aA aQ r aR):=(Y.alloc _).cell rfl;have f4:((Q.alloc (.cells mc 4)).alloc (tC (some (aP Q.heap.size)) C.length)).cell? (aC (w.heap.size+1) 4)=some (aA aQ r aR):=((Y.alloc _).alloc _).cell rfl
   go_region_law (refine Bc rfl underlying349 Tryz.infoBs B (cP ((aZ.alloc _).alloc _)) (((Y.alloc (.cells mc 4)).alloc (tC (some (aP Q.heap.size)) C.length)).drew) (Q.heap.size+1) 1 [aA (some (aP Q.heap.size)) C.length C.length] (Q.heap.size+2) ?_;intro g5 be w5 cI cy dc dd aW;have cT:w5.cell? (aC (w.heap.size+1) 4)=some (aA aQ r aR):=aW.cell rfl;have zq:=aW.fz;have cV:=aW;have bV:=cy;have cd:=cI;have dy:=aW.lt)
   all_goals (
    have bY:=(TZ Y al aZ bW a9 bL D ai ai cF bV cd:YwI B W (w5.setCell (aC (w.heap.size+1) 4) (aA (some (aP g5)) (r+1) be)) (w.heap.size+1) y kd who C (r+1));go_wp2_with fail;exact ⟨⟨r+1,ai,by go_num,bY⟩,by simp [intOf];omega⟩)
  obtain rfl:r=rl.length:=ai;have cK:¬((rl.length:Int)<(rl.length:Int)):=ai;have ab:am w wr:=aJ.trans (D.mono ai);obtain ⟨g,ba⟩:∃g:GP,g=⟨w.heap.size+1,y,bm,tv,aA ga C.length gc,aA aQ rl.length aR,kv,rv,pv,kl,rl,pl,l,ss,C,bs,kd,who⟩:=⟨_,rfl⟩;have b2:=(show GI wr g (fun _ _=>false) from by
   rw [ba];exact ⟨Y,aN.below ab,ah.below ab,bk al (gU _),(by show C.length<=1000;omega),bk aZ (gU _),a8,(fun r q aO=>(a9 q (bF aO)).2),(by obtain ⟨cs,h⟩:=aE bK;exact ⟨cs,h.below ab⟩),bL⟩)
  have U:=(by rw [ba];exact ⟨rfl,rfl,rfl,rfl,rfl,rfl,rfl,rfl,rfl,rfl,rfl⟩:Yr g (w.heap.size+1) y bm kl rl pl l ss C kd who);have b0:=(by rw [ba];exact fun q aO=>(a9 q aO).1:∀q∈g.bs,B<=q);have b3:=cp g U;have bS:=Jp bm kv rv pv kl rl pl l ρ Bd cR cl wr (ah.below ab) ai;go_wp2_with fail;refine bS.mono ?_;rintro e dE ⟨lb,lv,rfl,bC,cE,ax,cB,cw⟩;have bZ:=b2.below bC;have aT:=D.trans (bC.mono bN);have aG:=(⟨cE,cB,cw⟩:lv.length=rl.length/\(∀j,lv.getD j 0<=ρ j)/\(∀j,j<rl.length->Bd lv j (lv.getD j 0)));go_wp2_with fail
  go_loopw [13] (fun u ad=>∃(n:Nat)(K:Nat->Nat->Bool),n<=rl.length+1/\u=au n/\GI ad g K/\ad.ownsRow 0 3 1 (aA (some (aP lb)) rl.length rl.length) rl.length (Dj lv)/\Below B W ad/\(uD g lv bd n K)) (fun u _=>rl.length+1-(intOf u).toNat)
  ·exact ⟨0,_,ai,rfl,bZ,ax,aT,uD.zero⟩
  obtain ⟨n,K,hn,rfl,Z,ax,D,bv⟩:=hrel
  by_cases dj:n<=rl.length
  ·have cG:(n:Int)<=(rl.length:Int):=by omega
   go_wp2_with fail
   go_loopg [] (CW g K+1) (fun k ad=>∃(av:Nat->Nat->Bool),GI ad g av/\ad.ownsRow 0 3 1 (aA (some (aP lb)) rl.length rl.length) rl.length (Dj lv)/\Below B W ad/\(m3 g lv bd n K av/\CW g av<k))
   ·exact ⟨K,Z,ax,D,aj ⟨.nil,ai⟩⟩
   obtain ⟨K1,Z,ax,D,bw⟩:=hrel;have aS:=F0 g K1 (aA (some (aP lb)) rl.length rl.length) lv bd n (m3 g lv bd n K) wr Z (by rw [aG.1];exact ax) (by rw [aG.1,U.rl]) b3 (fun K r k X q h a b c d e=> .up h a b c d e) bw.1;rw [U.b] at aS;have dv:=D.size;have aS:=aS;go_wp2_with fail;refine aS.mono ?_;rintro e w5 ⟨a3,more,rfl,bA,bB,bG,di,cH,cQ⟩;have bt:=WT Z ax bG;have aT:=D.trans (bG.below (B:=B) ai b0)
   cases more with
   |false=>
    have aU:=cH rfl;go_wp2_with fail;exact ⟨⟨n+1,a3,ai,by go_num,bA,bt,aT,(.succ bv bB (by rw [aU.1];exact aU.2))⟩,by simp [intOf];omega⟩
   |true=>
    have aU:=cQ rfl;go_wp2
    go_roundg (CW g a3+1)
    case measure=>have:=bw.2;have:=aU;omega
    case rel=>exact ⟨a3,bA,bt,aT,aj ⟨bB,ai⟩⟩
  obtain rfl:n=rl.length+1:=ai;have cG:¬(((rl.length+1:Nat):Int)<=(rl.length:Int)):=ai;obtain ⟨m,bI,bJ⟩:=aE b6;have ab:am w wr:=aJ.trans (D.mono ai);obtain ⟨aX,bE⟩:∃aX,g.bs[rel]? =some aX:=⟨_,aI (by rw [Z.bl,U.rl];exact cL)⟩;obtain ⟨dH,dF,bf,c1⟩:=aY Z.yr rel (aA (some (aP aX)) g.th.length g.th.length) (by rw [et,bE];rfl);have c2:=(Z.yb rel aX bE).cell (i:=m) (by rw [U.th];exact bJ);obtain ⟨dz,dA,bg,cS,c0⟩:=Z.five;rw [bf,U.b,U.rl] at c0;rw [U.th] at c1;have c3:wr.cell? (aP w.heap.size)=some (au rel):=(D.cell (p:=⟨w.heap.size,0,none⟩) (show w.heap.size<B by omega)).trans (aV.cell rfl);have bz:wr.cell? (aC w.heap.size 1)=some (an id):=(D.cell (p:=⟨w.heap.size,1,none⟩) (show w.heap.size<B by omega)).trans (aV.cell rfl);have c5:wr.cell? (aP y)=some (.pointer (some (aC bm 5))):=(aN.below ab).blk.cell rfl;obtain ⟨dC,dD,cN,c7,_,_,_⟩:=(ah.below ab).rat rel X a7;have c6:=(ah.below ab).c6;rw [cN] at c6;have df:(m:Int)<(C.length:Int):=ai;have bU:=(fun (w':af) (V:am wr w')=>show Calls prog 200 #[bu (w.heap.size+1),an X.kd,an id] w' (fun e w''=>e=bi (au (m:Int))/\w''=w') from by
   have I:=Z.below V;have:=xS g.b _ _ _ _ _ g.th X.kd id w' I.blk I.th I.few;rw [U.th,bI,U.b] at this;exact this)
  have br:=(⟨bI,bJ⟩:xR C X.kd id=(m:Nat)/\m<C.length);generalize co:K rel m=dx at*
  go_upto_region 17 with fail
  go_quiet ((go_at_call 200;exact Calls.quiet_of_same (bU _ abo)))
  go_wp2;go_ret;subst ct;exact ⟨g,lv,K,m,by rw [co];rfl,cJ ab _,U,br.1,br.2,aG.1,aG.2.1,aG.2.2,bv⟩
def fb(rl:List RV)(s rel:ae):Int×ae×Nat:=if !(c9 s).2.2|| !bC rel then (0,⟨#[]⟩,2) else if bh (c9 s).1 rel rl 0<0 then (0,⟨#[]⟩,5) else (bh (c9 s).1 rel rl 0,(c9 s).2.1,0)
def x9(y bm tv kv rv pv kl rl pl l ss s rel w)(ag:DU w y (.pointer (some (aC bm 5))) tv ss)(ah:DM w bm kv rv pv kl rl pl l)(hs:s.size<=maxLen):
  Calls prog 135 #[bu y,an s,an rel] w fun e w'=>e=bi (.tuple #[.agg #[au (fb rl s rel).1,an (fb rl s rel).2.1],au (fb rl s rel).2.2])/\am w w':=by
 have U:am w (w.alloc (.cells #[au 0,an ⟨#[]⟩] 270)):=(az _ w).alloc aH _;have J:=mm s (w.alloc (.cells #[au 0,an ⟨#[]⟩] 270)) hs;have ac:=fun w=>iP rel w
 have Q:=fun (w':af) (k:am w w')=>eh bm kv rv pv kl rl pl l (c9 s).1 rel w' (ah.below k)
 have ad:=aL.new w uZ 270;have c0:w.cell? (aP y)=some (.pointer (some (aC bm 5))):=ag.blk.cell rfl;obtain ⟨R,A⟩:∃R,R=fb rl s rel:=⟨_,rfl⟩;rw [<-A];unfold fb at A;have C:=A;generalize c9 s=X at*;obtain ⟨ai,id,ok⟩:=X;simp only at J Q C;generalize bh ai rel rl 0=N at*;generalize bC rel=aj at*;go_enter func135,ntmps135;go_wp2_with fail;refine J.mono ?_;rintro e w1 ⟨rfl,Y⟩;have D:=U.trans (Y.mono U.size);have ae:=ad.below Y;go_wp2_with fail;refine (ac _).mono ?_;rintro e av ⟨rfl,rfl⟩;have c1:=ak c0 D;go_wp2_with fail;refine (Q _ D).mono ?_;rintro e ab ⟨rfl,Z⟩;have I:=D.trans (Z.mono D.size);have R3:=ae.below Z;have ar:=R3.fz;have al:ab.cell? (aP w.heap.size)=some (au 0):=R3.cell rfl;have ap:ab.cell? (aC w.heap.size 1)=some (an ⟨#[]⟩):=R3.cell rfl
 cases ok
 ·have A:=C;simp only [nP,so,if_true] at A;subst A;go_wp2;refine bE (v:=.tuple #[.agg #[au 0,an ⟨#[]⟩],au 2]) (ce results135 _ _ w.heap.size _ 270 _ _ rfl rfl ?hB underlying270 rfl aM) rfl ?post
  case hB=>exact ⟨_,(cY R3),bQ⟩
  case post=>exact ⟨rfl,(cq I)⟩
 ·cases aj
  ·have A:=C;simp only [nP,mA,Bool.or_true,if_true] at A;subst A;go_wp2;refine bE (v:=.tuple #[.agg #[au 0,an ⟨#[]⟩],au 2]) (ce results135 _ _ w.heap.size _ 270 _ _ rfl rfl ?hB underlying270 rfl aM) rfl ?post
   case hB=>exact ⟨_,(cY R3),bQ⟩
   case post=>exact ⟨rfl,(cq I)⟩
  by_cases V:N<0
  ·have A:=C;simp only [mA,my,bJ,aZ,if_pos V] at A;subst A;go_wp2;refine bE (v:=.tuple #[.agg #[au 0,an ⟨#[]⟩],au 5]) (ce results135 _ _ w.heap.size _ 270 _ _ rfl rfl ?hB underlying270 rfl aM) rfl ?post
   case hB=>exact ⟨_,(cY R3),bQ⟩
   case post=>exact ⟨rfl,(cq I)⟩
  have A:=C;simp only [mA,my,bJ,aZ,if_neg V] at A;subst A;go_wp2;refine bE (v:=.tuple #[.agg #[au N,an id],au 0]) (ce results135 _ _ w.heap.size _ 270 _ _ rfl rfl ?hB underlying270 rfl aM) rfl ?post
  case hB=>exact ⟨_,(cY R3),bQ⟩
  case post=>exact ⟨rfl,(cq I)⟩
def T0 (h:aD:=by
 simp only [nP,if_true] at hE;subst hE;clear hS;go_wp2;go_ret2;exact ⟨rfl,B4⟩):aD:=h
def j2(kl:List (ae×Nat))(rl:List RV)(s rel who:ae):Nat:=if !(c9 who).2.2 then 2 else if (fb rl s rel).2.2≠0 then (fb rl s rel).2.2 else if !(kl.any fun k=>eqs k.1 (c9 who).1) then 5 else 0
def uT(rl s rel):(fb rl s rel).2.2<=5:=by
 unfold fb
 split
 ·decide
 split
 ·exact bV _
 exact gU _
def Jr(y bm tv kv rv pv kl rl pl l ss s rel who ans w)(D:DU w y (.pointer (some (aC bm 5))) tv ss)(ac:DM w bm kv rv pv kl rl pl l)(hs:s.size<=maxLen)(ap:who.size<=maxLen)(hS:j2 kl rl s rel who=0->∀w',am w w'->Calls prog 138 #[bu y,an (c9 who).1,an (c9 who).2.1,.agg #[au (fb rl s rel).1,an (fb rl s rel).2.1]] w' fun e w''=>e=bi (.bool ans)/\am w' w''):
  Calls prog 86 #[bu y,an s,an rel,an who] w fun e w'=>e=bi (.tuple #[.bool (j2 kl rl s rel who==0&&ans),au (j2 kl rl s rel who)])/\am w w':=by
 have J:=fun (w':af) (k:am w w')=>x9 y bm tv kv rv pv kl rl pl l ss s rel w' (D.below k) (ac.below k) hs
 have Q:=fun w'=>mm who w' ap
 have CK:=fun (w':af) (k:am w w')=>tO bm kv rv pv kl rl pl l (c9 who).1 w' (ac.below k)
 have c0:w.cell? (aP y)=some (.pointer (some (aC bm 5))):=D.blk.cell rfl;have aK:=D.blk.lt;have ay:=uT rl s rel;obtain ⟨E,hE⟩:∃E,E=j2 kl rl s rel who:=⟨_,rfl⟩;rw [<-hE] at hS ⊢;unfold j2 at hE;generalize fb rl s rel=aw at*;obtain ⟨Y,V,ax⟩:=aw;generalize c9 who=X at*;obtain ⟨aE,id,ok⟩:=X;simp only at J CK Q hE hS ay;generalize (kl.any fun k=>eqs k.1 aE)=aB at*;clear D ac hs ap;have I:=az w.heap.size w;go_enter func86,ntmps86;go_wp2_with fail;refine (J _ I).mono ?_;rintro e w1 ⟨rfl,ah⟩;have C:=I.trans ah;have U:=C.alloc C.size (qv Y V);have ae:=aL.new w1 #[au Y,an V] 270;have aJ:=C.size;have aM:¬(y=w1.heap.size):=ai;clear ah J I C;go_wp2_with fail;refine (Q _).mono ?_;rintro e aN ⟨rfl,Z⟩;have A:=U.trans (Z.mono U.size);have ag:=ae.below Z;have c1:=ak c0 A;clear Z Q ae U;go_wp2_with fail;refine (CK _ A).mono ?_;rintro e ar ⟨rfl,ab⟩;have B4:=A.trans (ab.mono A.size);have R:=ag.below ab;have aF:ar.cell? (aP w1.heap.size)=some (au Y):=R.cell rfl;have aG:ar.cell? (aC w1.heap.size 1)=some (an V):=R.cell rfl;clear ab CK c0 c1 ag A R
 cases ok
 ·exact T0
 ·simp only [mA,bJ,aZ] at hE
  by_cases al:ax=0
  ·subst al;simp only [ne_eq,not_true,aZ] at hE
   cases aB
   ·exact T0
   simp only [mA,bJ,aZ] at hE;subst hE;have ad:=hS rfl;clear hS;go_wp2_with fail;refine (ad _ B4).mono ?_;rintro e w5 ⟨rfl,aj⟩;have av:=B4.trans (aj.mono B4.size);clear aj ad B4 aF aG;go_wp2;go_ret2;exact ⟨rfl,av⟩
  simp only [ne_eq,al,not_false_eq_true,if_true] at hE;subst hE;have aI:((E:Int) != 0)=true:=by rw [gX];omega
  have aA:(E==0)=false:=by rw [bR];omega
  have aH:((E:Int)==0)=false:=by rw [bR];omega
  clear hS;go_wp2;go_ret2;exact ⟨by rw [aA];rfl,B4⟩
def allT(l:List ae)(T:Tu):List ae:=if eqs T.who (sg 42) then m6 l ((T.kind++sg 58)++T.id) else m6 (m6 l ((T.kind++sg 58)++T.id)) ((T.sub++sg 58)++T.who)
def mS(l:List ae):List ae->List ae
 | []=>l
 |s::ss=>mS (allT l (tt s)) ss
def NJ(l ss:List ae)(s:ae):mS l (ss++[s])=allT (mS l ss) (tt s):=by
 induction ss generalizing l with
 |nil=>rfl
 |cons a ss ih=>exact ih _
def ya(l:List ae)(x:ae):(m6 l x).length<=l.length+1:=by
 unfold m6
 split
 ·omega
 simp
def T2(l:List ae)(T:Tu):(allT l T).length<=l.length+2:=by
 unfold allT;have h1:=ya l ((T.kind++sg 58)++T.id);have h2:=ya (m6 l ((T.kind++sg 58)++T.id)) ((T.sub++sg 58)++T.who)
 split<;>omega
def F2(ss l:List ae):(mS l ss).length<=l.length+2*ss.length:=by
 induction ss generalizing l with
 |nil=>simp [mS]
 |cons a ss ih=>
  have:=ih (allT l (tt a));have:=T2 l (tt a);simp only [mS,List.length_cons];omega
def yU(kl:List (ae×Nat)):List ae:=kl.map fun k=>k.1++(⟨#[58,42]⟩:ae)
def yd(kl:List (ae×Nat))(ss:List ae):List ae:=mS [] ss++yU kl
def Lo(st:ae->Bool)(l:List ae):List ae:=l.filter st
def NL(st:ae->Bool)(kl:List (ae×Nat))(ss:List ae):List ae:=jq (Lo st (yd kl ss))
def Js(E:Nat)(L:List ae)(w:af)(e:Ending)(w':af):Prop:=∃v,e=bi (.tuple #[v,au E])/\am w w'/\w'.ownsRow w.heap.size 9 1 v L.length (dO L)
variable {g:Nat} {wr:af} {v:ag}
def dd(h:Below B W wr){o:Nat}(C:g<B)(A:W.cell? (aC g o)=some v):wr.cell? (aC g o)=some v:=(h.cell (p:=⟨g,o,none⟩) C).trans A
def WoI(B:Nat)(W wr:af)(v:ag)(l:List ae):Prop:=Below B W wr/\wr.ownsRow B 9 1 v l.length (dO l)
def T4(y bm:Nat)(tv kv rv pv:ag)(kl:List (ae×Nat))(rl:List RV)(pl:List PV)(l:List PX)(ss:List ae)(s rel:ae)(st:ae->Bool)(w:af)(aY:DU w y (.pointer (some (aC bm 5))) tv ss)(bx:DM w bm kv rv pv kl rl pl l)(hs:s.size<=maxLen)(dp:ss.length<=24)(ce:∀a∈ss,mL (tt a))(b6:∀k∈kl,k.1.size<=500)(cO:∀a∈yd kl ss,a.size<=maxLen)
  (aW:(fb rl s rel).2.2=0->∀a∈yd kl ss,∀w',am w w'->Calls prog 138 #[bu y,an (aG a 58).1,an (aG a 58).2.1,.agg #[au (fb rl s rel).1,an (fb rl s rel).2.1]] w' fun e w''=>e=bi (.bool (st a))/\am w' w''):
  Calls prog 90 #[bu y,an s,an rel] w (Js (fb rl s rel).2.2 (if (fb rl s rel).2.2=0 then NL st kl ss else []) w):=by
 have a9:=x9 y bm tv kv rv pv kl rl pl l ss s rel w aY bx hs;have b3:=uT rl s rel;have dw:=aY.blk.lt;obtain ⟨aR,bs⟩:∃aR,aR=if (fb rl s rel).2.2=0 then NL st kl ss else []:=⟨_,rfl⟩
 rw [<-bs];have aN:=aj bs;clear bs;generalize fb rl s rel=cr at*;obtain ⟨av,arz,aU⟩:=cr;simp only at a9 aW aN b3 ⊢;clear hs;go_enter func90,ntmps90;go_wp2_with fail;refine a9.mono ?_;rintro e w1 ⟨rfl,ab⟩;have bp:=aL.new w1 #[au av,an arz] 270;have dk:=ab.size;clear a9
 by_cases b5:¬aU=0
 ·have df:((aU:Int) != 0)=true:=by rw [gX];omega
  have dg:((aU:Int)==0)=false:=by rw [bR];omega
  have cl:=ab.alloc ab.size (qv av arz);clear aW bp;go_wp2;go_ret2;exact ⟨_,rfl,cl,by rw [aE aN,if_neg b5];exact bP⟩
 ·have cP:aU=0:=by omega
  subst cP;have cp:=aW rfl;have cy:=aj (show aR=NL st kl ss from by rw [aE aN,if_pos rfl]);clear aW b5 b3 aN;have b0:=ab.alloc ab.size (qv av arz);go_wp2_with fail;obtain ⟨W,aX⟩:∃W,W=(w1.alloc (qv av arz)):=⟨_,rfl⟩;have ad:=show am w W from aX▸b0
  have aQ:=show aL W w1.heap.size #[au av,an arz] 270 from aX▸bp
  have dn:=aQ.lt;have du:=ad.size;have ah:=aY.below ad;have al:=bx.below ad;rw [<-aX];clear b0 ab bp aX aY bx;obtain ⟨B,da,db⟩:∃B,B<=W.heap.size/\W.heap.size<=B:=⟨W.heap.size,bV _,bV _⟩;have ci:W.cell? (aP y)=some (.pointer (some (aC bm 5))):=ah.blk.cell rfl;have cj:W.cell? (aC y 1)=some tv:=ah.blk.cell rfl;obtain ⟨ta,ch,cV⟩:=aw ah.row;subst cV;have cw:=show WoI B W W (aA none 0 0) [] from ⟨az _ _,bP⟩
  go_loopw [10,11] (fun bF bG wr=>∃i:Nat,i<=ss.length/\bG=au i/\WoI B W wr bF (mS [] (ss.take i))) (fun _ bG _=>ss.length-(intOf bG).toNat)
  ·exact ⟨0,ai,rfl,cw⟩
  obtain ⟨i,hi,rfl,C,I⟩:=hrel;obtain ⟨bD,bE,rfl⟩:=aw I;have c0:=dd C ai cj;have a5:=C.size
  by_cases bw:i<ss.length
  ·have cS:(i:Int)<(ss.length:Int):=by omega
   obtain ⟨Q,tc,e1,hc⟩:=bn Kj 7 (fun _=>rfl) ah.row i ss[i] (aI bw);simp only [aK,bX] at e1;obtain ⟨rfl,rfl⟩:=e1;have dq:=en (hc 0 _ ai rfl);have U:=aj (show mS [] (ss.take (i+1))=allT (mS [] (ss.take i)) (tt ss[i]) from by rw [cD bw,NJ]);have aV:=F2 (ss.take i) [];have cL:(ss.take i).length<=24:=by rw [eb];omega
   have bB:=ce _ (br bw);have f0:=dd C ai (hc 0 _ ai rfl);have f1:=dd C ai (hc 1 _ ai rfl);have f3:=dd C ai (hc 3 _ ai rfl);have f4:=dd C ai (hc 4 _ ai rfl);rw [oo] at f0;unfold mL at bB;unfold tt at U bB;generalize mS [] (ss.take i)=A at*;generalize (b7 ss[i]).1=T at*;simp only [List.length_nil] at aV;have c9:A.length<=60:=ai;have c3:¬9223372036854775807<T.kind.size+1:=ai;have dz:¬9223372036854775807<T.kind.size+1+T.id.size:=ai;have dA:¬9223372036854775807<T.sub.size+1:=ai;have dB:¬9223372036854775807<T.sub.size+1+T.who.size:=ai;obtain ⟨Y,cN⟩:∃z,z=wr:=⟨_,rfl⟩;subst cN;have bN:=fun (w':af) (ax:am Y w')=>FK B (aA bD A.length bE) A ((T.kind++sg 58)++T.id) w' (aB I ax) ai (by have:=ax.size;omega)
   have a7:=az Y.heap.size Y;clear I hc aV cL bB
   go_upto_region 8 with fail
   go_region_held3 (fun w'=>w'.cell? (aC y 1)=some (aA (some (aP Q)) ss.length ch)/\w'.cell? (aC Q (i*7))=some (an T.kind)/\w'.cell? (aC Q (i*7+1))=some (an T.id)) (go_keep)
    ((go_at_call 140;refine (bN _ (show am Y _ from (cq a7))).mono ?_;rintro e V ⟨dC,rfl,aF,b9⟩;have bo:=b9;have J:=(show Below B Y V from ll (show Below B Y _ from (show am Y _ from (cq a7)).mono ai) aF);have d0:=dd J (show y<B by omega) c0;have d1:=dd J (show Q<B by omega) f0;have d2:=dd J (show Q<B by omega) f1;clear aF b9))
   have dt:=J.size;have bg:=C.trans J;have d3:=dd J (show Q<B by omega) f3;have d4:=dd J (show Q<B by omega) f4;have c8:=ya A ((T.kind++sg 58)++T.id);unfold allT at U;generalize m6 A ((T.kind++sg 58)++T.id)=bM at*;clear c0 f0 f1 d1 d2 f3 f4 bN a7 J C
   cases ac:eqs T.who (sg 42)
   ·have cQ:(T.who.toList== [42])=false:=by rw [<-ac];unfold eqs;rw [aT];rfl
    rw [ac] at U;simp only [bJ,aZ] at U;obtain ⟨cZ,c2,rfl⟩:=aw bo;have bO:=fun (w':af) (ax:am V w')=>FK B (aA cZ bM.length c2) bM ((T.sub++sg 58)++T.who) w' (aB bo ax) ai (by have:=ax.size;omega)
    have a8:=az V.heap.size V;clear ac
    go_upto_region 10 with fail
    go_region_held3 (fun w'=>w'.cell? (aC y 1)=some (aA (some (aP Q)) ss.length ch)/\w'.cell? (aC Q (i*7+3))=some (an T.sub)/\w'.cell? (aC Q (i*7+4))=some (an T.who)) (go_keep)
     ((go_at_call 140;refine (bO _ (show am V _ from (cq a8))).mono ?_;rintro e bK ⟨dD,rfl,aF,cb⟩;have cH:=cb;have J:=(show Below B V bK from ll (show Below B V _ from (show am V _ from (cq a8)).mono ai) aF);have d0:=dd J (show y<B by omega) d0;have d1:=dd J (show Q<B by omega) d3;have d2:=dd J (show Q<B by omega) d4;clear aF cb))
    have cB:=bg.trans J;clear d0 d3 d4 d1 d2 bO a8 J bg;go_wp2;go_roundw
    ·exact ⟨i+1,ai,by go_num,cB,by rw [aE U];exact cH⟩
    simp [intOf];omega
   have cQ:(T.who.toList== [42])=true:=by rw [<-ac];unfold eqs;rw [aT];rfl
   rw [ac] at U;simp only [if_true] at U;clear ac;go_wp2;go_roundw
   ·exact ⟨i+1,ai,by go_num,bg,by rw [aE U];exact bo⟩
   simp [intOf];omega
  obtain rfl:i=ss.length:=ai;have cS:¬((ss.length:Int)<(ss.length:Int)):=ai;have c6:=kr (l:=ss);rw [kr] at I ⊢;have aV:=F2 ss [];simp only [List.length_nil] at aV;obtain ⟨cX,cY,cU⟩:=aw al.kt;subst cU;have b8:=al.kn;have bC:W.cell? (aC bm 5)=some (aA cX kl.length cY):=al.c5;have de:=en bC;have bU:=al.kt;have bS:=aj (show yd kl ss=mS [] ss++yU kl from rfl);have bZ:=(show WoI B W wr (aA bD (mS [] ss).length bE) (mS [] ss++yU (kl.take 0)) from by
   rw [show yU (kl.take 0)=[] from rfl,dU];exact ⟨C,I⟩)
  generalize mS [] ss=A at*;clear C I ce ah al;go_wp2_with fail;clear c0
  go_loopw [10,12] (fun bF bH bL=>∃j:Nat,j<=kl.length/\bH=au j/\WoI B W bL bF (A++yU (kl.take j))) (fun _ bH _=>kl.length-(intOf bH).toNat)
  ·exact ⟨0,ai,rfl,bZ⟩
  obtain ⟨j,di,rfl,C,I⟩:=hrel;obtain ⟨bD,bE,rfl⟩:=aw I;have c0:=dd C ai ci;have c1:=dd C ai bC;have a5:=C.size;have a3:(yU (kl.take j)).length=j:=by simp [yU];omega
  by_cases bv:j<kl.length
  ·have cT:(j:Int)<(kl.length:Int):=by omega
   obtain ⟨dy,dx,e1,hc⟩:=bn kC 2 (fun _=>rfl) bU j kl[j] (aI bv);simp only [aK,bX] at e1;obtain ⟨rfl,rfl⟩:=e1;have dj:=en (hc 0 _ ai rfl);have f0:=dd C ai (hc 0 _ ai rfl);rw [oo] at f0;have dm:=b6 _ (br bv);have cz:=aj (show A++yU (kl.take (j+1))=A++yU (kl.take j)++[kl[j].1++(⟨#[58,42]⟩:ae)] from by rw [cD bv,yU,cK,<-ct];rfl);have dc:(A++yU (kl.take j)).length<=100:=by rw [bf,a3];omega
   generalize A++yU (kl.take j)=M at*;generalize kl[j].1=nm at*;have c3:¬9223372036854775807<nm.size+2:=ai;have bj:=aj (show dO (M++[nm++(⟨#[58,42]⟩:ae)])=dO M++[an (nm++(⟨#[58,42]⟩:ae))] from by simp [dO]);clear hc a3;go_wp2_with (at_builtin;go_must (refine eB rfl underlying22 Tryz.infoStr B (I.alloc _) wr.heap.size 1 [an (nm++(⟨#[58,42]⟩:ae))] (wr.heap.size+1) ?Z8))
   case Z8=>
    intro g5 be bK bA aH bt cR;have ap:=I.alloc (dv (nm++(⟨#[58,42]⟩:ae)));have a6:=cA (C.alloc ai (dv (nm++(⟨#[58,42]⟩:ae)))) aH aS (fun k a2=>(ap.lt k a2).1);clear ap aH bt;go_wp2;go_roundw
    ·exact ⟨j+1,ai,by go_num,a6,by rw [cz.u,bf,bj.u];exact bA⟩
    simp [intOf];omega
  obtain rfl:j=kl.length:=ai;have cT:¬((kl.length:Int)<(kl.length:Int)):=ai;obtain ⟨R,cM⟩:∃z,z=wr:=⟨_,rfl⟩;subst cM;have dl:(A++yU (kl.take kl.length)).length<=100:=by rw [bf,a3];omega
  have bT:=aj (show A++yU (kl.take kl.length)=yd kl ss from by rw [kr,bS.u]);have bl:=show am w R from ad.trans (C.mono ai)
  have aJ:=dd C (show w1.heap.size<B by omega) (aQ.cell (o:=0) rfl);have aM:=dd C (show w1.heap.size<B by omega) (aQ.cell (o:=1) rfl);have bc:=I;have cg:=bl.size;generalize A++yU (kl.take kl.length)=D at*;have cF:=aJ;have cG:=aM;have cf:w1.heap.size<R.heap.size:=ai;have cu:=show WoI R.heap.size R R (aA none 0 0) (Lo st (D.take 0)) from ⟨az _ _,bP⟩
  clear a3 I C aJ aM ad aQ bS bU bC ci cj b6 bZ;go_wp2_with fail;clear c0 c1
  go_loopw [13,14] (fun c4 bI bL=>∃k:Nat,k<=D.length/\bI=au k/\WoI R.heap.size R bL c4 (Lo st (D.take k))) (fun _ bI _=>D.length-(intOf bI).toNat)
  ·exact ⟨0,ai,rfl,cu⟩
  obtain ⟨k,a2,rfl,C,I⟩:=hrel;obtain ⟨dF,dG,rfl⟩:=aw I;have a5:=C.size;have cE:=aB bc C;have cW:(Lo st (D.take k)).length<=100:=by
   have:=List.length_filter_le st (D.take k);rw [eb] at this;unfold Lo;omega
  by_cases a4:k<D.length
  ·have b8:(k:Int)<(D.length:Int):=by omega
   obtain ⟨g,c,e1,_,_⟩:=rH bc ai;simp only [aK,bX] at e1;obtain ⟨rfl,rfl⟩:=e1;have c0:=jw cE (aI a4);have dh:=en (jw bc (aI a4));have bz:D[k]∈yd kl ss:=by rw [<-bT.u];exact br a4
   have ba:=fun w'=>lE D[k] 58 58 rfl w' (cO _ bz)
   have bb:=cp _ bz;have aO:=aj (show Lo st (D.take (k+1))=Lo st (D.take k)++(if st D[k] then [D[k]] else []) from by
    rw [cD a4,Lo,List.filter_append]
    congr 1
    simp only [List.filter_cons,List.filter_nil])
   have aJ:=dd C cf cF;have aM:=dd C cf cG;generalize Lo st (D.take k)=M at*;generalize D[k]=a at*;generalize st a=sa at*;clear bz;generalize aG a 58=cJ at*;obtain ⟨ck,c7,co⟩:=cJ;simp only at ba bb;go_wp2_with fail;refine (ba _).mono ?_;rintro e dH ⟨rfl,Z⟩;have bh:=C.trans (Z.mono a5);have bY:=aB I Z;have e0:=ak aJ Z;have e1:=ak aM Z;have b2:=ak c0 Z;have dr:=Z.size;clear Z ba aJ aM c0 C I;go_wp2_with fail;refine (bb _ (bl.trans (bh.mono cg))).mono ?_;rintro e w5 ⟨rfl,ay⟩;have bW:=bh.trans (ay.mono ai);have bk:=aB bY ay;have c5:=ak b2 ay;have ds:=ay.size;clear ay bb e0 e1 b2 bh bY
   cases sa
   ·simp only [bJ,aZ,dU] at aO;go_wp2;go_roundw
    ·exact ⟨k+1,ai,by go_num,bW,by rw [aE aO];exact bk⟩
    simp [intOf];omega
   simp only [if_true] at aO;have bj:=aj (show dO (M++[a])=dO M++[an a] from by simp [dO]);go_wp2_with (at_builtin;go_must (refine eB rfl underlying22 Tryz.infoStr R.heap.size (bk.alloc _) w5.heap.size 1 [an a] (w5.heap.size+1) ?Z9))
   case Z9=>
    intro g5 be bK bA aH bt cR;have ap:=bk.alloc (dv a);have a6:=cA (bW.alloc ai (dv a)) aH aS (fun k a2=>(ap.lt k a2).1);clear ap aH bt;go_wp2;go_roundw
    ·exact ⟨k+1,ai,by go_num,a6,by rw [aE aO,bf,bj.u];exact bA⟩
    simp [intOf];omega
  obtain rfl:k=D.length:=ai;have b8:¬((D.length:Int)<(D.length:Int)):=ai;rw [kr] at I cW;have cx:=aj (show jq (Lo st D)=aR from by rw [cy.u,NL,bT.u]);have cC:=aj (oO (Lo st D));have bQ:=xn R.heap.size _ (Lo st D) wr I ai;rw [kr];generalize Lo st D=M at*;clear I;go_wp2_with fail;refine bQ.mono ?_;rintro e dI ⟨dE,rfl,b4,cd⟩;have cm:=bl.trans ((C.trans (b4.mono a5)).mono cg);have cI:=Cu cd (show w.heap.size<=wr.heap.size by omega);clear b4 cd bQ;go_wp2;go_ret2;exact ⟨_,rfl,cm,by rw [<-cx.u,cC.u];exact cI⟩
def qx(g:GP)(K:Nat->Nat->Bool)(s:Sj):Bool:=decide (0<=bh s.kind s.rel g.rl 0)&&(decide (0<=xR g.th s.kind s.id)&&K (bh s.kind s.rel g.rl 0).toNat (xR g.th s.kind s.id).toNat)
def ye(g:GP):List Tu:=g.ss.map tt
structure Jt(g:GP)(ts:List Ty)(F:Nat)(bd:Nat->Ex)(lv:List Nat):Prop where
 m:FQ ts
 k:Kn g.pl g.rl ts F
 gd:∀t∈ye g,CI ts t
 nd:g.th.Nodup
 th:∀t∈ye g,(t.kind,t.id)∈g.th/\(t.sub,t.who)∈g.th
 sub:∀t∈ye g,TK g t
 bdy:∀(i:Nat)(p:ae×Rl),(bx ts)[i]? =some p->bd i=p.2.body
 own:∀(i:Nat)(X:RV)(p:ae×Rl),g.rl[i]? =some X->(bx ts)[i]? =some p->∀e∈aN p.2.body,e.nd.kind=1->0<=bh X.kd e.nd.n1 g.rl 0
 len:lv.length=g.rl.length
 lvk:Yh ts (fun d=>lv.getD (bh d.1 d.2 g.rl 0).toNat 0)
 top:∀j,lv.getD j 0<=g.rl.length
variable {k:Nat}
def C3{th}(A:th.Nodup){n}(h:th[k]? =some (x,n)):xR th x n=k:=by
 rcases iF (th:=th) (x:=x) (n:=n) with ⟨_,h2⟩|⟨m,h1,h2⟩
 ·exact absurd (bF h) h2
 rw [h1];have:m=k:=(List.getElem?_inj (bD.1 h2).1 A).1 (h2.trans h.symm);rw [this]
def aaa{th n}(h:(x,n)∈th):0<=xR th x n:=by
 rcases iF (th:=th) (x:=x) (n:=n) with ⟨_,h2⟩|⟨m,h1,h2⟩
 ·exact absurd h h2
 rw [h1];omega
def F3{a}:a.size=0↔eqs a NC=true:=by
 rw [bz]
 constructor
 ·intro h;apply ByteArray.ext;exact Array.eq_empty_of_size_eq_zero h
 intro h;rw [h];rfl
section
variable {g:GP}{ts:List Ty}{F:Nat}{bd:Nat->Ex}{lv:List Nat}{K:Nat->Nat->Bool}
variable {gs:List Tu} {kd id:ae}
def T5{f}:(lB gs kd id).any f=gs.any fun t=>(eqs t.kind kd&&eqs t.id id)&&f t:=by
 unfold lB;rw [List.any_filter];refine j5 (fun t _=> ?_)
 congr 1
 rw [gW,eK,bO,bz,bz];exact ⟨fun h=>⟨h.1.symm,h.2.symm⟩,fun h=>⟨h.1.symm,h.2.symm⟩⟩
def T6{a b}:decide (a=b)=eqs a b:=by rw [gW,bz,fE]
def rL(h:Jt g ts F bd lv)(D:∀s,lX (ye g) s->qx g K s=false){X:RV}{k:Nat}{id:ae}(I:g.th[k]? =some (X.kd,id)):∀e,(∀l∈aN e,l.nd.kind=1->0<=bh X.kd l.nd.n1 g.rl 0)->lC g K X k id e=cV (qx g K) ⟨g.kd,g.who⟩ X.kd id (lB (ye g) X.kd id) X.nm e
 |⟨n,some x,some y⟩,ho=>by
  rw [lC,cV,rL h D I x (fun l hl=>ho l (by simp [aN,hl])),rL h D I y (fun l hl=>ho l (by simp [aN,hl]))]
 |⟨n,none,r⟩,ho=>by
  rw [lC,cV]
  split
  ·rw [T5];unfold uk ye;rw [qa];refine j5 (fun s hs=> ?_);have J:tt s∈ye g:=aU.2 ⟨s,hs,rfl⟩;have V:=h.sub _ J;simp only [Function.comp_apply];unfold ND Ym hA;rw [T6,sE,sE,sE]
   congr 1
   congr 1
   congr 1
   show (UT g (tt s)||ofQ g K (tt s))=if (tt s).of.size=0 then _ else _
   unfold UT ofQ
   by_cases ho:(tt s).of.size=0
   ·rw [if_pos ho];have C:=F3.1 ho;rw [C];unfold lu Fo e9;simp only [fT,mA,eM,my];rw [<-oq,<-aQ,<-aQ];rw [gW];simp only [bO,lg,bz]
    constructor
    ·rintro ⟨e1,A|A⟩
     ·exact .inl ⟨e1.symm,A.symm⟩
     exact .inr ⟨A,e1.symm⟩
    rintro (⟨e1,A⟩|⟨e1,A⟩)
    ·exact ⟨e1.symm,.inl A.symm⟩
    exact ⟨A.symm,.inr e1⟩
   rw [if_neg ho];have C:eqs (tt s).of NC=false:=by
    cases Q:eqs (tt s).of NC
    ·rfl
    exact absurd (F3.2 Q) ho
   obtain ⟨n1,ad,R,ab,U,ac⟩:=V C;rw [C];unfold qx e9;simp only [eM,nP,fT,vw];rw [R,U];simp
  split
  ·rename_i h0 h1;unfold qx;have f1:=ho ⟨n,none,r⟩ (by simp [aN]) h1;simp only;rw [C3 h.nd I];simp only at f1;simp [f1]
  rw [T5];unfold tiN xT ye;rw [qa];refine j5 (fun s hs=> ?_);have J:tt s∈ye g:=aU.2 ⟨s,hs,rfl⟩;have Y:=(h.th _ J).2;simp only [Function.comp_apply];unfold TL N9 IZ e9;rw [T6];simp only [sE]
  congr 1
  congr 1
  congr 1
  by_cases ho:(tt s).of.size=0
  ·rw [if_pos ho,F3.1 ho];simp only [fT]
   cases Z:eqs (tt s).who Az
   ·unfold qx;simp only [nP,fT]
    congr 1
    have:=aaa Y;simp [this]
   rw [D ⟨(tt s).sub,(tt s).who,n.n2⟩ (kK h.gd (by
    show bC (tt s).who=false
    rw [(bz _ _).1 Z];exact tq))]
   simp
  rw [if_neg ho];have C:eqs (tt s).of NC=false:=by
   cases Q:eqs (tt s).of NC
   ·rfl
   exact absurd (F3.2 Q) ho
  rw [C];simp
 |⟨_,some _,none⟩,ho=>by rw [lC,cV]
end
variable {aD bq:Prop}
def Lp (h:aD:=by
 rw [hv];simp;omega):aD:=h
def C5{pl:List PV}:∀(rl:List RV) (ps:List (ae×Rl)) (i:Nat) (X:RV),db pl rl ps->rl[i]? =some X->∃p,ps[i]? =some p/\X.kd=p.1/\X.nm=p.2.name
 | [],[],i,X,_,h=>by simp at h
 |x::xs,p::ps,0,X,h,e=>by
  simp only [List.getElem?_cons_zero,aR] at e;subst e;exact ⟨p,rfl,h.1.1,h.1.2.1⟩
 |x::xs,p::ps,i+1,X,h,e=>C5 xs ps i X h.2 (by simpa using e)
 | [],_::_,_,_,h,_=>h.elim
 |_::_,[],_,_,h,_=>h.elim
section
variable {g:GP}{ts:List Ty}{F:Nat}{bd:Nat->Ex}{lv:List Nat}{K K0 K1:Nat->Nat->Bool}{n:Nat}
def jz(h:m3 g lv bd n K0 K):(∀r k,K0 r k=true->K r k=true)/\∀r k,lv[r]? ≠some n->K r k=K0 r k:=by
 induction h using m3.ind with
 |nil=>exact ⟨fun _ _ h=>h,fun _ _ _=>rfl⟩
 |up _ h1 h2 h3 h4 h5 ih=>
  refine ⟨fun r k h=>Ll (ih.1 r k h),fun r k h=> ?_⟩;unfold CQ
  split
  ·rename_i e;rw [e.1] at h;exact absurd h3 h
  exact ih.2 r k h
def WU(h:uD g lv bd n K):∀r k,K r k=true->∃v,lv[r]? =some v/\v<n:=by
 induction h using uD.ind with
 |zero=>intro r k h;cases h
 |@succ n K0 K h1 h2 h3 ih=>
  intro r k h
  by_cases e:lv[r]? =some n
  ·exact ⟨n,e,ai⟩
  rw [(jz h2).2 r k e] at h;obtain ⟨v,hv,hl⟩:=ih r k h;exact ⟨v,hv,ai⟩
variable {N:Nat}
def Ju(h:uD g lv bd N K):∀n,n<N->∃K0 K1,uD g lv bd n K0/\m3 g lv bd n K0 K1/\Z2 g lv bd n K1/\(∀r v,lv[r]? =some v->v<=n->∀k,K r k=K1 r k)/\(∀r v,lv[r]? =some v->v<n->∀k,K r k=K0 r k)/\∀r k,K1 r k=true->K r k=true:=by
 induction h using uD.ind with
 |zero=>intro n h;omega
 |@succ n' K' K h1 h2 h3 ih=>
  intro n hn
  by_cases e:n=n'
  ·subst e;exact ⟨K',K,h1,h2,h3,fun _ _ _ _ _=>rfl,fun r v hv hl k=>(jz h2).2 r k Lp,fun _ _ h=>h⟩
  obtain ⟨K0,K1,A,C,D,I,J,Q⟩:=ih n ai;exact ⟨K0,K1,A,C,D,fun r v hv hl k=>((jz h2).2 r k Lp).trans (I r v hv hl k),fun r v hv hl k=>((jz h2).2 r k Lp).trans (J r v hv hl k),fun r k h=>(jz h2).1 r k (Q r k h)⟩
variable {k:Nat}
def WV(h:m3 g lv bd n K0 K1){r}(h1:K1 r k=true):K0 r k=true\/∃A X q,m3 g lv bd n K0 A/\(∀a b,A a b=true->K1 a b=true)/\g.rl[r]? =some X/\g.th[k]? =some q/\lv[r]? =some n/\q.1=X.kd/\lC g A X k q.2 (bd r)=true:=by
 induction h using m3.ind with
 |nil=>exact .inl h1
 |@up K r' k' X q h0 a1 a2 a3 a4 a5 ih=>
  by_cases e:r=r'/\k=k'
  ·obtain ⟨rfl,rfl⟩:=e;exact .inr ⟨K,X,q,h0,fun a b=>Ll,a1,a2,a3,a4,a5⟩
  have:K r k=true:=by
   unfold CQ at h1;rw [if_neg e] at h1;exact h1
  rcases ih this with h|⟨A,C,Q,b1,D,I⟩
  ·exact .inl h
  exact .inr ⟨A,C,Q,b1,fun a b J=>Ll (D a b J),I⟩
def NM(g:GP)(K:Nat->Nat->Bool):Prop:=∀s,lX (ye g) s->qx g K s=false
variable {i:Nat} {X:RV}
def Jt.rel(h:Jt g ts F bd lv)(J:g.rl[i]? =some X):∃t r,t∈ts/\r∈t.rels/\X.kd=t.name/\X.nm=r.name/\(bx ts)[i]? =some (t.name,r)/\bd i=r.body/\bh t.name r.name g.rl 0=i:=by
 obtain ⟨p,A,e1,D⟩:=C5 _ _ i X h.k.b J;obtain ⟨t,R,C,Q⟩:=dz.1 (bF A);have I:p=(t.name,p.2):=by rw [C]
 refine ⟨t,p.2,R,Q,by rw [e1,C],D,by rw [<-I];exact A,h.bdy i p A,?_⟩;rw [C];exact h.k.num A
variable {t:Ty} {r:Rl}
def Jt.idx(h:Jt g ts F bd lv)(I:t∈ts)(D:r∈t.rels):∃i X n,bh t.name r.name g.rl 0=(i:Nat)/\g.rl[i]? =some X/\X.kd=t.name/\X.nm=r.name/\bd i=r.body/\(bx ts)[i]? =some (t.name,r)/\lv[i]? =some n/\lv.getD i 0=n/\n<=g.rl.length:=by
 obtain ⟨i,hi⟩:=iw.1 (dz.2 ⟨t,I,rfl,D⟩:(t.name,r)∈bx ts);obtain ⟨X,A,e1,C,_⟩:=cS.get g.rl _ i _ h.k.f hi;have hl:i<lv.length:=by rw [h.len];exact (bD.1 A).1
 refine ⟨i,X,lv.getD i 0,h.k.num hi,A,e1,C,h.bdy i _ hi,hi,?_,rfl,h.top i⟩;rw [eA,aI hl]
 rfl
def Ys{s}(I:lv.length=g.rl.length)(A:∀r:Nat,bh s.kind s.rel g.rl 0=r->lv[r]? =some (lv.getD r 0)->∀k,K r k=K1 r k):qx g K s=qx g K1 s:=by
 unfold qx
 rcases xU s.kind s.rel g.rl 0 with e|⟨j,e,_,D⟩
 ·rw [e];rfl
 rw [e];have C:j<lv.length:=ai;simp only [Int.toNat_natCast];rw [A j e (by rw [eA,aI C];rfl)]
def rM(h:Jt g ts F bd lv)(C:NM g K){s}(A:fg ts s=false):qx g K s=false:=by
 unfold fg at A;rw [A6] at A
 rcases A with A|A
 ·rcases cR h.k.d h.k.b s.kind s.rel with ⟨e,_⟩|⟨j,t,r,_,h1,h2,_⟩
  ·unfold qx;rw [e];rfl
  unfold ui at A;rw [h1] at A;simp [h2] at A
 exact C s (kK h.gd A)
variable {id:ae}
def Yt(h:Jt g ts F bd lv)(e:bh t.name r.name g.rl 0=(i:Nat))(A:g.th[k]? =some (t.name,id)):qx g K ⟨t.name,id,r.name⟩=K i k:=by
 unfold qx;simp only;rw [e,C3 h.nd A];simp
def T7{s}(h:qx g K s=true):∃i k:Nat,bh s.kind s.rel g.rl 0=i/\g.th[k]? =some (s.kind,s.id)/\K i k=true:=by
 unfold qx at h;simp only [bO,fE] at h;obtain ⟨h1,h2,A⟩:=h
 rcases iF (th:=g.th) (x:=s.kind) (n:=s.id) with ⟨e,_⟩|⟨m,e1,C⟩
 ·omega
 rw [e1] at A;exact ⟨(bh s.kind s.rel g.rl 0).toNat,m,ai,C,A⟩
def Jt.own2(h:Jt g ts F bd lv)(A:g.rl[i]? =some X)(C:(bx ts)[i]? =some (t.name,r)):∀l∈aN r.body,l.nd.kind=1->0<=bh X.kd l.nd.n1 g.rl 0:=h.own i X _ A C
def rN(h:Jt g ts F bd lv)(h0:NM g K0)(hs:m3 g lv bd n K0 K):NM g K:=by
 induction hs using m3.ind with
 |nil=>exact h0
 |@up K r k X q _ a1 a2 a3 a4 a5 ih=>
  intro s J
  cases hv:qx g (CQ K r k) s
  ·rfl
  exfalso;obtain ⟨i,m,e1,A,C⟩:=T7 hv;unfold CQ at C
  split at C
  ·rename_i e;obtain ⟨rfl,rfl⟩:=e;rw [A] at a2
   cases a2
   obtain ⟨t,r,ab,Z,c1,c2,c3,R,c5⟩:=h.rel a1;have D:s.kind=X.kd:=a4;have U:g.th[m]? =some (X.kd,s.id):=by rw [<-D];exact A
   rw [R,rL h ih U _ (h.own2 a1 c3)] at a5;have Q:lB (ye g) X.kd s.id=[]:=by rw [<-D];exact J
   rw [Q,jy (fun m=>ih ⟨X.kd,s.id,m⟩ Q)] at a5
   cases a5
  have:qx g K s=true:=by
   unfold qx
   rcases iF (th:=g.th) (x:=s.kind) (n:=s.id) with ⟨e,h2⟩|⟨Y,V,I⟩
   ·exact absurd (bF A) h2
   have:Y=m:=(List.getElem?_inj (bD.1 I).1 h.nd).1 (I.trans A.symm);rw [e1,V,this];simp [C]
  rw [ih s J] at this
  cases this
def yf(h:Jt g ts F bd lv)(A:uD g lv bd n K):NM g K:=by
 induction A using uD.ind with
 |zero=>intro s _;unfold qx;simp
 |succ _ h2 _ ih=>exact rN h ih h2
end
section
variable {g:GP}{ts:List Ty}{F:Nat}{bd:Nat->Ex}{lv:List Nat}{K Kc:Nat->Nat->Bool}{n:Nat}
variable {t:Ty} {r:Rl} {i k:Nat} {X:RV} {id:ae}
def T8(h:Jt g ts F bd lv)(V:NM g K)(I:NM g Kc)(ae:∀r v,lv[r]? =some v->v<n->∀k,Kc r k=K r k)(aj:t∈ts)(ag:r∈t.rels)(e:bh t.name r.name g.rl 0=(i:Nat))(Y:g.rl[i]? =some X)(e1:X.kd=t.name)(R:X.nm=r.name)(Z:bd i=r.body)(ab:(bx ts)[i]? =some (t.name,r))(ad:lv.getD i 0=n)(ac:g.th[k]? =some (t.name,id))(C:lC g Kc X k id (bd i)=true):
  bC id=true/\iz (qx g Kc) (qx g K) ⟨g.kd,g.who⟩ t.name id (lB (ye g) t.name id) r.name r.body=true:=by
 rw [Z,rL h I (by rw [e1];exact ac) _ (h.own2 Y ab),e1,R] at C;refine ⟨?_,?_⟩
 ·cases af:bC id
  ·have D:lX (ye g) ⟨t.name,id,r.name⟩:=kK (s:=⟨t.name,id,r.name⟩) h.gd af;have J:lB (ye g) t.name id=[]:=D;rw [J,jy (fun m=>I ⟨t.name,id,m⟩ J)] at C
   cases C
  rfl
 ·rw [<-gu] at C;rw [<-gx _ (fun _ _=>rfl) (fun s hs=> ?_)]
  ·exact C
  have A:=K7 h.m h.lvk h.gd aj ag hs;simp only at A;rw [e,kk,ad] at A
  by_cases Q:fg ts s=true
  ·unfold N6 at A;rw [if_pos Q] at A;exact Ys (lv:=lv) h.len (fun al U ah ak=>by
    simp only at A;rw [U,kk] at A;exact ae al _ ah ai ak)
  have D:fg ts s=false:=by simpa using Q
  rw [rM h I D,rM h V D]
def F4(h:Jt g ts F bd lv)(an:uD g lv bd (g.rl.length+1) K):s8 (fJ ts (ye g) ⟨g.kd,g.who⟩) (qx g K):=by
 have R:=yf h an;refine ⟨fun s=> ?_,fun ar aL=> ?_⟩
 ·rcases oj (ts:=ts) (gs:=ye g) (who:=⟨g.kd,g.who⟩) s with ⟨t,I,r,D,id,aN,rfl⟩|⟨h1,h2⟩
  ·rw [xN h.m I D aN,gu];obtain ⟨i,X,n,e,ae,e1,ad,af,ag,hl,ah,hn⟩:=h.idx I D
   by_cases aC:(t.name,id)∈g.th
   ·obtain ⟨k,Z⟩:=iw.1 aC;obtain ⟨K0,K1,V,Y,ak,ac,al,aF⟩:=Ju an n ai;have d0:=yf h V;have d1:=rN h d0 Y;rw [Yt h e Z]
    cases hv:cV (qx g K) ⟨g.kd,g.who⟩ t.name id (lB (ye g) t.name id) r.name r.body
    ·cases aj:K i k
     ·rfl
     exfalso;rw [ac i n hl aH k] at aj
     rcases WV Y aj with aj|⟨aT,aU,q,b1,aG,au,av,aV,aW,aI⟩
     ·obtain ⟨v,A,ab⟩:=WU V i k aj;rw [hl] at A
      cases A
      omega
     rw [ae] at au
     cases au
     rw [Z] at av
     cases av
     have:=(T8 h R (rN h d0 b1) (fun J v A ab C=>by
      rw [al J v A ab C];exact (jz b1).2 J C (by rw [A];simp;omega)) I D e ae e1 ad af ag ah Z aI).2
     have:=hD (Gl:=qx g K) (fun s hs=>by
      obtain ⟨i',C,c1,c2,c3⟩:=T7 hs;unfold qx;rw [c1,C3 h.nd c2];simp only [Int.toNat_natCast];rw [aF i' C (aG i' C c3)];simp) _ this
     rw [gu,hv] at this
     cases this
    have aQ:cV (qx g K1) ⟨g.kd,g.who⟩ t.name id (lB (ye g) t.name id) r.name r.body=true:=by
     rw [<-hv];refine gw _ (fun s hs=> ?_);have U:=Tl h.m h.lvk h.gd I D hs;simp only at U;rw [e,kk,ah] at U
     by_cases az:fg ts s=true
     ·unfold N6 at U;rw [if_pos az] at U;exact Ys (lv:=lv) h.len (fun J aJ aO C=>by
       simp only at U;rw [aJ,kk] at U;exact (ac J _ aO ai C).symm)
     have ay:fg ts s=false:=by simpa using az
     rw [rM h d1 ay,rM h R ay]
    rw [ac i n hl aH k];refine ak i k X (t.name,id) ae Z hl e1.symm ?_;rw [af,rL h d1 (by rw [e1];exact Z) _ (h.own2 ae ag),e1,ad];exact aQ
   have am:lB (ye g) t.name id=[]:=by
    rw [Ja];intro u aP;obtain ⟨h1,h2,aw⟩:=lW.1 aP;exact aC (by rw [<-h2,<-aw];exact (h.th u h1).1)
   rw [am,jy (fun m=>R ⟨t.name,id,m⟩ am)];exact R ⟨t.name,id,r.name⟩ am
  rw [h2,rM h R h1]
 have key:∀N Q,uD g lv bd N Q->(∀r v,lv[r]? =some v->v<N->∀k,K r k=Q r k)->∀s,qx g Q s=true->ar s=true:=by
  intro N Q aM
  induction aM using uD.ind with
  |zero=>intro _ s hs;unfold qx at hs;simp at hs
  |@succ n K0 Q h1 h2 aw ih=>
   intro aK;have ax:∀r v,lv[r]? =some v->v<n->∀k,K r k=K0 r k:=fun r v hv ab k=>(aK r v hv ai k).trans ((jz h2).2 r k Lp)
   have aR:=ih ax;have d0:=yf h h1;have aS:∀Kc,m3 g lv bd n K0 Kc->∀s,qx g Kc s=true->ar s=true:=by
    intro Kc hs
    induction hs using m3.ind with
    |nil=>exact aR
    |@up Kc r k X q hst V Y ak ac al ih2=>
     intro s hv;obtain ⟨i',C,c1,c2,c3⟩:=T7 hv;unfold CQ at c3
     split at c3
     ·rename_i ee;obtain ⟨rfl,rfl⟩:=ee;rw [c2] at Y
      cases Y
      obtain ⟨t,r,I,D,e1,ad,ag,af,e⟩:=h.rel V;have aB:(s.kind,s.rel)=(t.name,r.name):=h.k.inj (s:=(s.kind,s.rel)) (s':=(t.name,r.name)) c1 e;simp only [gY] at aB;obtain ⟨ap,aA⟩:=aB;have ah:lv.getD i' 0=n:=by rw [eA,ak];rfl
      obtain ⟨f1,f2⟩:=T8 h R (rN h d0 hst) (fun J v A ab aE=>by
       rw [ax J v A ab aE];exact (jz hst).2 J aE (by rw [A];simp;omega)) I D e V e1 ad af ag ah (by rw [<-ap];exact c2) al
      refine aL s ?_;obtain ⟨sk,aX,aY⟩:=s;simp only at ap aA f1 f2 ⊢;subst ap;subst aA;rw [xN h.m I D f1];exact hD (fun s hs=>ih2 s hs) _ f2
     refine ih2 s ?_;unfold qx;rw [c1,C3 h.nd c2];simp [c3]
   exact aS Q h2
 exact key _ K an (fun _ _ _ _ _=>rfl)
def T9(h:Jt g ts F bd lv)(C:uD g lv bd (g.rl.length+1) K){kb}(A:lA ⟨g.kd,g.who⟩ (dq (ye g)) ((cL ts).map (List.map lU)) (fun _=>false) kb)(s):qx g K s=kb s:=
 I0 (sys_f h.m h.lvk h.gd) (F4 h C) (Jb h.m (Tn h.m) h.gd (iD ts) (I9 _) A) s
end
structure o6(pl:List PV)(kl:List (ae×Nat))(rl:List RV)(ts:List Ty)(F:Nat):Prop where
 k:Kn pl rl ts F
 g:nY rl pl (eJ rl pl (aJ pl F))
 r:kD kl rl pl (eJ rl pl (aJ pl F)) (aJ pl F)=none
 n:fe (gZ ts) ts=none
 m:FQ ts
variable {s:ae} {ts:List Ty} {m:Nat} {rl:List RV} {pl:List PV}
def Yu{kl}(hs:s.size<=500)(A:dy s=.ok ts)(h:dJ (TT s) (PP s)=.ok (ts,m))(V:Gd s m)(Q:uv pl kl rl ts):∃F,o6 pl kl rl ts F:=by
 have C:=md_of A;obtain ⟨F,hF⟩:=db.fuel rl _ Q.2;have U:=sized h V hs;have J:=sT h;obtain ⟨rfl,I⟩:=id Q;have hn:=tW C.d I hF J;have R:fe (gZ ts) ts=none:=by
  unfold dy at A
  split at A
  ·cases A
  split at A
  ·cases A
  rename_i ts' ad ac
  split at A
  ·cases A
  rename_i hc
  cases A
  unfold eD at hc
  split at hc
  ·cases hc
  split at hc
  ·cases hc
  rename_i h2;exact h2
 rw [R] at hn;exact ⟨F,⟨C.d,I,hF,J,fun t D r A=>(kF h t D r A).1,fun t D r A=>(((iU (TT s) (PP s) ts m h).1 t D).1 r A).wf,U,fun x ab n Y p Z=>re _ _ _ hn x ab n Y p Z⟩,Ce hF U,hn,R,C⟩
section
variable {pl:List PV}{kl:List (ae×Nat)}{rl:List RV}{ts:List Ty}{F:Nat}{t:Ty}{r:Rl}{e:Ex}{d:Sp}
def o6.nm(h:o6 pl kl rl ts F)(I:t∈ts)(D:r∈t.rels)(C:e∈aF r.body):gD ts t e=none:=by
 have h1:=h.n;unfold fe at h1;have h2:=(ku.1 h1) t I;have A:=(ku.1 h2) r D;exact (ku.1 A) e C
def o6.grant(h:o6 pl kl rl ts F)(Q:t∈ts)(J:r∈t.rels){g}(A:g∈bS r.body):∃u,bW ts g.ty=some u/\(g.reach=2->∃q,b8 u g.rel=some q):=by
 rw [dt] at A;obtain ⟨e,C,A⟩:=bZ.1 A;obtain ⟨h1,h2⟩:=(fk _ e).1 C;rw [lP h2] at A
 split at A
 ·rename_i D;have:=h.nm Q J h1;unfold gD at this;rw [h2] at this;simp only [if_pos D] at this;have:=(ku.1 this) g A;unfold ml at this
  split at this
  ·cases this
  rename_i u R;refine ⟨u,R,fun h2=> ?_⟩;rw [if_pos h2] at this
  split at this
  ·cases this
  rename_i q I;exact ⟨q,I⟩
 cases A
def o6.need(h:o6 pl kl rl ts F)(J:t∈ts)(U:r∈t.rels)(Q:e∈aN r.body)(A:d∈dW ts t r e):∃u∈ts,∃q∈u.rels,d=(u.name,q.name):=by
 rw [gq (i8 Q)] at A;obtain ⟨Z,hl⟩:=(fk _ e).1 Q
 split at A
 ·unfold mq at A;obtain ⟨g,R,e1⟩:=mK.1 A;obtain ⟨u,C,h2⟩:=h.grant J U R;unfold mo at e1
  split at e1
  ·rename_i ab;obtain ⟨q,I⟩:=h2 ab
   cases e1
   obtain ⟨V,Y⟩:=cw C;obtain ⟨b1,D⟩:=cF I;exact ⟨u,V,q,b1,by rw [Y,D]⟩
  cases e1
 rename_i h0;unfold ux at A;rw [if_neg h0] at A
 split at A
 ·rename_i h1;rw [aX] at A;have:=h.nm J U Z;unfold gD at this;rw [hl] at this;simp only [if_neg h0,if_pos h1] at this
  split at this
  ·cases this
  rename_i q I;obtain ⟨b1,D⟩:=cF I;exact ⟨t,J,q,b1,by rw [A,D]⟩
 obtain ⟨u,C,rfl⟩:=aU.1 A;unfold nB at C
 split at C
 ·cases C
 obtain ⟨g,R,e1⟩:=mK.1 C;unfold iQ at e1
 split at e1
 ·split at e1
  ·cases e1
  rename_i v hv
  split at e1
  ·rename_i ac
   cases e1
   obtain ⟨q,I⟩:=Option.isSome_iff_exists.1 ac;obtain ⟨b1,D⟩:=cF I;exact ⟨u,(cw hv).1,q,b1,by rw [D]⟩
  cases e1
 cases e1
def o6.own(h:o6 pl kl rl ts F)(C:t∈ts)(R:r∈t.rels)(I:e∈aN r.body)(J:e.nd.kind=1):∃j:Nat,bh t.name e.nd.n1 rl 0=j/\j<rl.length:=by
 obtain ⟨Q,hl⟩:=(fk _ e).1 I;have:=h.nm C R Q;unfold gD at this;rw [hl] at this;simp only [show ¬e.nd.kind=0 by omega,aZ,if_pos J] at this
 split at this
 ·cases this
 rename_i q A
 rcases cR h.k.d h.k.b t.name e.nd.n1 with ⟨_,h2⟩|⟨j,Y,V,e1,_,_,D⟩
 ·rw [h2 t (h.m.k.fnd t C)] at A
  cases A
 obtain ⟨x,U,_⟩:=cS.get rl _ j _ h.k.f D;exact ⟨j,e1,(bD.1 U).1⟩
def o6.num(h:o6 pl kl rl ts F)(J:t∈ts)(I:r∈t.rels):∃(j:Nat)(X:RV),bh t.name r.name rl 0=j/\(bx ts)[j]? =some (t.name,r)/\rl[j]? =some X/\X.kd=t.name/\X.nm=r.name/\Tr pl F X.ex r.body:=by
 obtain ⟨i,hi⟩:=iw.1 (dz.2 ⟨t,J,rfl,I⟩:(t.name,r)∈bx ts);obtain ⟨X,D,e1,A,_,C⟩:=cS.get rl _ i _ h.k.f hi;exact ⟨i,X,h.k.num hi,hi,D,e1,A,C⟩
variable {i:Nat} {X:RV}
def o6.at_(h:o6 pl kl rl ts F)(D:rl[i]? =some X):∃t r,t∈ts/\r∈t.rels/\(bx ts)[i]? =some (t.name,r)/\X.kd=t.name/\X.nm=r.name/\Tr pl F X.ex r.body/\bh t.name r.name rl 0=i:=by
 obtain ⟨p,A,e1,J⟩:=C5 _ _ i X h.k.b D;obtain ⟨t,V,C,U⟩:=dz.1 (bF A);obtain ⟨Y,I,_,_,_,R⟩:=cS.get rl _ i _ h.k.f A;rw [D] at I
 cases I
 have Q:p=(t.name,p.2):=by rw [C]
 refine ⟨t,p.2,V,U,by rw [<-Q];exact A,by rw [e1,C],J,R,?_⟩;rw [C];exact h.k.num A
def F5:∀(rl:List RV) (ps:List (ae×Rl)),db pl rl ps->ps.length=rl.length
 | [],[],_=>rfl
 |x::xs,p::ps,h=>by simp [F5 xs ps h.2]
 | [],_::_,h=>h.elim
 |_::_,[],h=>h.elim
def o6.rk(h:o6 pl kl rl ts F)(R:t∈ts)(Q:r∈t.rels):FL ts (t.name,r.name)<=rl.length:=by
 unfold FL;have:=oV (cT ts [(t.name,r.name)]) ((bx ts).map fun p=>(p.1,p.2.name)) (iC _ _ _ _ ar) (fun z D=>by
  rw [fj] at D;have key:∃u∈ts,∃q∈u.rels,z=(u.name,q.name):=by
   induction D using Ci.ind with
   |base hx=>rw [aX] at hx;exact ⟨t,R,r,Q,hx⟩
   |step _ hy ih=>
    obtain ⟨u,C,q,A,rfl⟩:=ih;rw [h.m.k.need C A,eP] at hy;obtain ⟨e,J,I⟩:=hy;exact h.need C A J I
  obtain ⟨u,C,q,A,rfl⟩:=key;exact aU.2 ⟨(u.name,q),dz.2 ⟨u,C,rfl,A⟩,rfl⟩)
 rw [bN,F5 rl _ h.k.b] at this;exact this
end
def exN:Ex:=⟨⟨0,0,em,0,em,0,[]⟩,none,none⟩
def NN(ts:List Ty)(i:Nat):Ex:=match (bx ts)[i]? with
 |some p=>p.2.body
 |none=>exN
def Oa(ts:List Ty)(j:Nat):Nat:=match (bx ts)[j]? with
 |some p=>FL ts (p.1,p.2.name)
 |none=>0
def MnF(ts:List Ty)(rl:List RV)(i:Nat)(e:Ex)(d:Nat):Prop:=∃t r,t∈ts/\r∈t.rels/\(bx ts)[i]? =some (t.name,r)/\∃s∈dW ts t r e,bh s.1 s.2 rl 0=d
def BdF(ts:List Ty)(rl:List RV)(lv:List Nat)(i b:Nat):Prop:=yT (MnF ts rl i) (fun d=>lv.getD d 0) b 0 (NN ts i)
section
variable {pl:List PV}{kl:List (ae×Nat)}{rl:List RV}{ts:List Ty}{F:Nat}{t:Ty}{r:Rl}
variable {i d:Nat}
def o6.mn(h:o6 pl kl rl ts F)(C:t∈ts)(I:r∈t.rels)(hi:(bx ts)[i]? =some (t.name,r)){e}:MnF ts rl i e d↔∃s∈dW ts t r e,bh s.1 s.2 rl 0=d:=by
 constructor
 ·rintro ⟨Q,U,J,R,A,hs⟩;rw [hi] at A;simp only [aR,gY] at A;obtain ⟨e1,D⟩:=A;subst D;have f1:=h.m.k.fnd t C;have f2:=h.m.k.fnd Q J;rw [e1,f2] at f1
  cases f1
  exact hs
 exact fun hs=>⟨t,r,C,I,hi,hs⟩
variable {f m:Nat}
def Ua{e}(h:Tr pl 1 m e):aJ pl (f+1) m=[m]/\Tr pl (f+1) m e:=by
 obtain ⟨p,A,h⟩:=h
 rcases h with h|h|h|⟨_,_,D,ns,I,rs,_,C,_⟩|⟨_,_,_,D,ns,I,rs,_,C,_⟩
 ·exact ⟨by rw [aJ];simp only [A];rw [if_neg ai],⟨p,A,.inl h⟩⟩
 ·exact ⟨by rw [aJ];simp only [A];rw [if_neg ai],⟨p,A,.inr (.inl h)⟩⟩
 ·exact ⟨by rw [aJ];simp only [A];rw [if_neg ai],⟨p,A,.inr (.inr (.inl h))⟩⟩
 ·exact C.elim
 exact C.elim
variable {X:RV}
def o6.ndk(h:o6 pl kl rl ts F)(bm kv rv pv l lv)(ae:lv.length=rl.length)(Z:rl[i]? =some X)(R:t∈ts)(Q:r∈t.rels)(hi:(bx ts)[i]? =some (t.name,r))(ac:X.kd=t.name)(D:Tr pl F X.ex r.body):NdK bm kv rv pv kl rl pl l lv (MnF ts rl i) X r.body (aJ pl F X.ex):=by
 intro m e I ah ab;obtain ⟨f,rfl⟩:∃f,F=f+1:=by
  cases F with
  |zero=>exact D.elim
  |succ f=>exact ⟨f,rfl⟩
 obtain ⟨l1,t1⟩:=Ua (f:=f) ah;have C:=bF Z;have ad:aN e=[e]:=by
  have:=i8 ab;obtain ⟨au,ap,av⟩:=e;simp only at this;subst this;simp [aN]
 have ag:Zc pl (f+1) X t r m e:=⟨t1,D,by rw [l1];intro n hn;rw [aX] at hn;rw [hn];exact I,ac⟩;have af:=(jY h.k.f h.k.z X C).1;obtain ⟨U,ak,V,_,_⟩:=n8 h.k.f h.k.z kl h.r X C [m] (fun n hn=>by rw [aX] at hn;rw [hn];exact I) ar;obtain ⟨b1,al,am,an,Y⟩:=n8 h.k.f h.k.z kl h.r X C (aJ pl (f+1) X.ex) (fun n hn=>hn) af;have J:=fun j=>h.k.need C R Q ag j
 rw [l1] at J;refine ⟨fM rl pl (eJ rl pl (aJ pl (f+1))) X.kd [m] (aJ pl (f+1) X.ex),?_,fun d A=> ?_,fun d=> ?_,fun w aj=> ?_⟩
 ·unfold fM;rw [bf]
  split
  ·omega
  simp only [List.length_nil];omega
 ·rw [ae];unfold fM at A
  rcases aW.1 A with A|A
  ·exact V d A
  split at A
  ·exact Y d A
  cases A
 ·rw [J d,h.mn R Q hi];simp only [eP,ad,aX,exists_eq_left]
 exact wN bm kv rv pv kl rl pl l (eJ rl pl (aJ pl (f+1))) X.kd m X.ex [m] (aJ pl (f+1) X.ex) w aj h.g ⟨by rw [<-l1];exact hT pl (f+1) m e t1 (by rw [l1];simp),ar,U⟩ ⟨hT pl (f+1) X.ex r.body D ai,ai,b1⟩ ai ai
def o6.lev(h:o6 pl kl rl ts F)(av:rl.length<=500)(bm kv rv pv l uC lv i X)(ag:lv.length=rl.length)(U:∀j,lv.getD j 0<=Oa ts j)(Q:rl[i]? =some X):∃R,UW bm kv rv pv kl rl pl l uC lv i X.ex 0 R/\R<=Oa ts i/\∀b,R<=b↔BdF ts rl lv i b:=by
 obtain ⟨t,r,J,I,hi,e1,ar,Z,au⟩:=h.at_ Q;have an:=bF Q;have ad:NN ts i=r.body:=by unfold NN;rw [hi]
 have ak:Oa ts i=FL ts (t.name,r.name):=by unfold Oa;rw [hi]
 have al:∀j,Oa ts j<=500:=fun j=>by
  unfold Oa
  cases V:(bx ts)[j]? with
  |none=>simp
  |some p=>
   obtain ⟨u,Y,C,aj⟩:=dz.1 (bF V);have:=h.rk Y aj;simp only;rw [<-C];omega
 have af:(aN r.body).length<=1000:=by
  rw [<-cu.len _ _ (ei pl F _ _ Z)];have:=(jY h.k.f h.k.z X an).1;omega
 obtain ⟨R,h1,h2⟩:=xX bm kv rv pv kl rl pl l uC lv (MnF ts rl i) i X r.body (aJ pl F X.ex) Q (h.ndk bm kv rv pv l lv ag Q J I hi e1 Z) (fun x am=>by
  obtain ⟨j,ae⟩:=iw.1 am;have:=U j;rw [eA,ae] at this;have:=al j;simp only [Option.getD_some] at*;omega) F X.ex r.body Z af (fun e A=>A) (fun m ah=>ah) 0 ai
 have key:∀e d,e∈aN r.body->MnF ts rl i e d->∃s∈dW ts t r e,Oa ts d=FL ts s:=fun e d A D=>by
  obtain ⟨s,hs,ab⟩:=(h.mn J I hi).1 D;obtain ⟨u,Y,q,V,rfl⟩:=h.need J I A hs;obtain ⟨j,ap,C,ac,_⟩:=h.num Y V;have:j=d:=by rw [C] at ab;exact Int.ofNat.inj ab
  subst this;exact ⟨_,hs,by unfold Oa;rw [ac]⟩
 refine ⟨R,h1,?_,fun b=>by rw [h2];unfold BdF;rw [ad]⟩;rw [h2,ak];refine Jn _ (fun e A d D=> ?_) (fun e A d D=> ?_)
 ·obtain ⟨s,hs,C⟩:=key e d A D;have:=U d;have:=h.m.k.rkp J I A hs;omega
 obtain ⟨s,hs,C⟩:=key e d (oW _ _ A) D;have:=U d;have:=h.m.k.rkn J I A hs;omega
def o6.lvk(h:o6 pl kl rl ts F){lv:List Nat}(V:∀j,j<rl.length->BdF ts rl lv j (lv.getD j 0)):Yh ts (fun d=>lv.getD (bh d.1 d.2 rl 0).toNat 0) where
 pos:=fun t C r A e J d I=>by
  obtain ⟨i,X,e1,hi,Q,_⟩:=h.num C A;have:=V i (bD.1 Q).1;unfold BdF at this;rw [show NN ts i=r.body from by unfold NN;rw [hi]] at this;obtain ⟨u,U,q,R,rfl⟩:=h.need C A J I;obtain ⟨j,_,D,_⟩:=h.num U R;have:=uR _ 0 ai this e J j ((h.mn C A hi).2 ⟨_,I,D⟩);simp only [e1,D,Int.toNat_natCast];omega
 neg:=fun t C r A e J d I=>by
  obtain ⟨i,X,e1,hi,Q,_⟩:=h.num C A;have:=V i (bD.1 Q).1;unfold BdF at this;rw [show NN ts i=r.body from by unfold NN;rw [hi]] at this;obtain ⟨u,U,q,R,rfl⟩:=h.need C A (oW _ _ J) I;obtain ⟨j,_,D,_⟩:=h.num U R;have:=CX _ 0 ai this e J j ((h.mn C A hi).2 ⟨_,I,D⟩);simp only [e1,D,Int.toNat_natCast];omega
end
def Ub:∀(ss:List ae) (th:List (ae×ae)),th.Nodup->(qw th ss).Nodup
 | [],th,h=>h
 |s::ss,th,h=>Ub ss _ (CY (CY h))
def Lq:∀(ss:List ae) (th:List (ae×ae)),∀s∈ss,((tt s).kind,(tt s).id)∈qw th ss/\((tt s).sub,(tt s).who)∈qw th ss
 | [],th,s,h=>by cases h
 |a::ss,th,s,h=>by
  rcases cG.1 h with rfl|h
  ·exact ⟨uS ss _ _ (lY.2 _ lY.1),uS ss _ _ lY.1⟩
  exact Lq ss _ s h
section
variable {pl:List PV}{kl:List (ae×Nat)}{rl:List RV}{l:List PX}{ts:List Ty}{F:Nat}{ss:List ae}{g:GP}{b y bm:Nat}{k0 i0 kd who:ae}
variable {s:ae}
def Jv(h:Yr g b y bm kl rl pl l ss (qw (eQ [] k0 i0) ss) kd who)(hs:s∈g.ss):((tt s).kind,(tt s).id)∈g.th/\((tt s).sub,(tt s).who)∈g.th:=by
 rw [h.ss] at hs;rw [h.th];exact Lq ss _ s hs
def Lr(h:o6 pl kl rl ts F)(A:Yr g b y bm kl rl pl l ss (qw (eQ [] k0 i0) ss) kd who)(R:∀t∈ss.map tt,CI ts t)(hs:s∈g.ss):TK g (tt s):=fun D=>by
 have Z:=(Jv A hs).2;rw [A.ss] at hs;obtain ⟨y,q,g0,f1,f2,U,e1,C,J⟩:=kJ R (aU.2 ⟨s,hs,rfl⟩);obtain ⟨I,ad⟩:=cw f1;obtain ⟨b1,ae⟩:=cF f2;obtain ⟨u,ab,V⟩:=h.grant I b1 U;have ac:¬(tt s).of.size=0:=fun e=>by rw [F3.1 e] at D;cases D
 unfold ir at C;rw [if_neg ac] at C;obtain ⟨af,Y⟩:=V C;obtain ⟨c1,c2⟩:=cw ab;obtain ⟨d1,d2⟩:=cF Y;obtain ⟨j,X,n1,_,Q,_⟩:=h.num c1 d1;rw [c2,d2,e1,J] at n1
 rcases iF (th:=g.th) (x:=(tt s).sub) (n:=(tt s).who) with ⟨_,h2⟩|⟨m,h1,h2⟩
 ·exact absurd Z h2
 exact ⟨j,m,by rw [A.rl];exact n1,by rw [A.rl];exact (bD.1 Q).1,h1,(bD.1 h2).1⟩
def WW(h:Yr g b y bm kl rl pl l ss (qw (eQ [] k0 i0) ss) kd who)(hs:s∈g.ss):ThK g (tt s):=by
 rcases iF (th:=g.th) (x:=(tt s).sub) (n:=(tt s).who) with ⟨_,h2⟩|⟨m,h1,h2⟩
 ·exact absurd (Jv h hs).2 h2
 exact ⟨m,h1,(bD.1 h2).1⟩
def Uc(h:o6 pl kl rl ts F)(j):Oa ts j<=rl.length:=by
 unfold Oa
 cases C:(bx ts)[j]? with
 |none=>simp
 |some p=>
  obtain ⟨u,I,A,D⟩:=dz.1 (bF C);have:=h.rk I D;simp only;rw [<-A];exact this
def aac(h:o6 pl kl rl ts F)(A:Yr g b y bm kl rl pl l ss (qw (eQ [] k0 i0) ss) kd who)(J:∀t∈ss.map tt,CI ts t){lv:List Nat}(Z:lv.length=rl.length)(Y:∀j,lv.getD j 0<=Oa ts j)(R:∀j,j<rl.length->BdF ts rl lv j (lv.getD j 0)):Jt g ts F (NN ts) lv where
 m:=h.m
 k:=by rw [A.pl,A.rl];exact h.k
 gd:=by unfold ye;rw [A.ss];exact J
 nd:=by rw [A.th];exact Ub ss _ (CY ar)
 th:=fun t C=>by
  obtain ⟨s,hs,rfl⟩:=aU.1 C;exact Jv A hs
 sub:=fun t C=>by
  obtain ⟨s,hs,rfl⟩:=aU.1 C;exact Lr h A J hs
 bdy:=fun i p D=>by unfold NN;rw [D]
 own:=fun i X p I D e U V=>by
  rw [A.rl] at I ⊢;obtain ⟨t,r,C,ab,hi,e1,_⟩:=h.at_ I;rw [hi] at D
  cases D
  obtain ⟨j,Q,_⟩:=h.own C ab U V;rw [e1,Q];omega
 len:=by rw [A.rl];exact Z
 lvk:=by rw [A.rl];exact h.lvk R
 top:=fun j=>by
  rw [A.rl];have:=Y j;have:=Uc h j;omega
def aad(h:o6 pl kl rl ts F)(A:Yr g b y bm kl rl pl l ss (qw (eQ [] k0 i0) ss) kd who)(V:∀t∈ss.map tt,CI ts t):∀C r k X q,g.rl[r]? =some X->g.th[k]? =some q->TM g C r k X.ex (lC g C X k q.2 (NN ts r)):=fun C r k X q I Z=>by
 have D:=I;rw [A.rl] at D;obtain ⟨t,Q,ac,ab,hi,e1,_,J,_⟩:=h.at_ D;have R:NN ts r=Q.body:=by unfold NN;rw [hi]
 rw [R];refine AB g C r k X q I Z (fun s hs=>Lr h A V hs) (fun s hs=>WW A hs) F X.ex Q.body (by rw [A.pl];exact J) ?_ (fun e U Y=> ?_)
 ·rw [<-cu.len _ _ (ei pl F _ _ J)];have:=(jY h.k.f h.k.z X (bF D)).1;omega
 rw [A.rl,e1];exact h.own ac ab U Y
end
def yh(y bm:Nat)(tv kv rv pv kl rl pl l ss kd who id)(rel F:Nat)(X ts kb w)(ae:DU w y (.pointer (some (aC bm 5))) tv ss)(R:DM w bm kv rv pv kl rl pl l)(ag:∃cs,aL w bm cs 252)(C:rl[rel]? =some X)(aj:ss.length<=24)(h:o6 pl kl rl ts F)(Q:∀t∈ss.map tt,CI ts t)(ab:lA ⟨kd,who⟩ (dq (ss.map tt)) ((cL ts).map (List.map lU)) (fun _=>false) kb):
  Calls prog 138 #[bu y,an kd,an who,.agg #[au rel,an id]] w fun e w'=>e=bi (.bool (kb ⟨X.kd,id,X.nm⟩))/\am w w':=by
 have ah:=R.rn;refine (Jq (Oa ts) (BdF ts rl) (NN ts) y bm tv kv rv pv kl rl pl l ss kd who id rel X w ae R ag C aj (fun j=>by have:=Uc h j;omega) (fun uC lv i X I D C=>h.lev ah bm kv rv pv l uC lv i X I D C) (fun g A=>aad h A Q)).mono ?_;rintro e w' ⟨g,lv,K,m,rfl,ad,A,U,al,I,D,ac,V⟩;refine ⟨?_,ad⟩;have J:=aac h A Q I D ac;rw [<-A.rl] at V;have af:ye g=ss.map tt:=by unfold ye;rw [A.ss]
 have key:=T9 J V (kb:=kb) (by rw [af,A.kd,A.who];exact ab) ⟨X.kd,id,X.nm⟩;obtain ⟨t,r,ar,ap,hi,e1,Y,_,Z⟩:=h.at_ C;rw [<-key,e1,Y];rw [Yt J (i:=rel) (k:=m) (by rw [A.rl];exact Z) (by
  rw [A.th]
  rcases iF (th:=qw (eQ [] X.kd id) ss) (x:=X.kd) (n:=id) with ⟨c1,_⟩|⟨ak,c1,c2⟩
  ·rw [c1] at U;omega
  rw [c1] at U;have:ak=m:=ai;rw [<-this,<-e1];exact c2)]
section
variable {aD bq:Prop}
def Yv (h:aD:=by
 obtain ⟨cs,hc⟩:=hmb;exact ⟨cs,hc.below k⟩):aD:=h
def Ud(ts:List Ty)(gs:List Tu)(E:Nat)(s:Sj)(who:Tg)(w:af)(e:Ending)(w':af):Prop:=∃b,e=bi (.tuple #[.bool b,au E])/\am w w'/\(E≠0->b=false)/\(E=0->∃kb,b=kb s/\lA who (dq gs) ((cL ts).map (List.map lU)) (fun _=>false) kb)
variable {rl:List RV} {s rel:ae}
def rO(h:(bT s&&bC rel)=false):fb rl s rel=(0,⟨#[]⟩,2):=by
 unfold fb;rw [fY];have:(!bT s|| !bC rel)=true:=by
  cases h1:bT s<;>cases h2:bC rel<;>simp_all
 rw [if_pos this]
def uU(h:(bT s&&bC rel)=true)(A:bh (aG s 58).1 rel rl 0= -1):fb rl s rel=(0,⟨#[]⟩,5):=by
 unfold fb;rw [fY];simp only [bO] at h;have e:bh (c9 s).1 rel rl 0= -1:=A;rw [h.1,h.2,e];simp
variable {j:Nat}
def rP(h:(bT s&&bC rel)=true)(A:bh (aG s 58).1 rel rl 0=j):fb rl s rel=((j:Int),(aG s 58).2.1,0):=by
 unfold fb;rw [fY];simp only [bO] at h;have e:bh (c9 s).1 rel rl 0=j:=A;rw [h.1,h.2,e];simp only [mA,my,bJ,aZ];rw [if_neg ai]
 rfl
def Jy(x mv lv gv ts gs w)(h:UQ w x mv lv gv ts gs)(ar:PuR ts gs)(kl rl pl F)(af:o6 pl kl rl ts F)(al:kl=ts.map fun t=>(t.name,t.place))(th rel who)(hs:th.size<=maxLen)(ac:rel.size<=maxLen)(aw:who.size<=maxLen)(J:ko w)(D:1<w.heap.size)(ae:Laid w):
  Calls prog 26 #[bu x,an th,an rel,an who] w (Ud ts gs (j2 kl rl th rel who) ⟨(aG th 58).1,(aG th 58).2.1,rel⟩ ⟨(aG who 58).1,(aG who 58).2.1⟩ w):=by
 obtain ⟨bm,tl,ab⟩:=h.m;have U:∀E,E≠0->j2 kl rl th rel who=E->Calls prog 26 #[bu x,an th,an rel,an who] w (fun e w'=>e=bi (.tuple #[.bool false,au E])/\am w w')->Calls prog 26 #[bu x,an th,an rel,an who] w (Ud ts gs (j2 kl rl th rel who) ⟨(aG th 58).1,(aG th 58).2.1,rel⟩ ⟨(aG who 58).1,(aG who 58).2.1⟩ w):=fun E Q e C=>C.mono fun e' w' ⟨h1,h2⟩=>⟨false,by rw [e];exact h1,h2,fun _=>rfl,fun h0=>absurd (e.symm.trans h0) Q⟩
 cases I:bT who with
 |false=>
  refine U 2 ai ?_ (Jw x th rel who w aw I);unfold j2;rw [fY,I]
  rfl
 |true=>
  have Z:=ou I;have Q:j2 kl rl th rel who=if (fb rl th rel).2.2≠0 then (fb rl th rel).2.2 else if !(kl.any fun k=>eqs k.1 (c9 who).1) then 5 else 0:=by
   unfold j2;rw [fY,I]
   rfl
  cases R:bT th&&bC rel with
  |false=>
   refine U 2 ai (by rw [Q,rO R];rfl) (ul x 2 _ _ _ th rel who w Z I J D (.inl rfl) (fun w' k=>yj x th rel w' hs ac R))
  |true=>
   have A:=R;simp only [bO] at A;have hs:=ou A.1;have av:rel.size<=1000:=by have:=dl A.2;omega
   rcases cR af.k.d af.k.b (aG th 58).1 rel with ⟨e,ap⟩|⟨j,t,r,e,h1,h2,_⟩
   ·exact U 5 ai (by rw [Q,uU R e];rfl) (ul x 5 _ _ _ th rel who w Z I J D (.inr rfl) (fun w' k=>yi x bm mv lv gv ts gs tl w' (h.p.below k) (ab.below k) th rel hs A.1 ac A.2 ap (ae.below k ai) (J.below k D) (cM D k.size)))
   have ak:=fun w' (k:am w w')=>xH x bm mv lv gv ts gs tl w' (h.p.below k) (ab.below k) th rel hs A.1 ac A.2 t h1 r h2 (J.below k D) (cM D k.size)
   have V:j2 kl rl th rel who=if !(bW ts (aG who 58).1).isSome then 5 else 0:=by
    rw [Q,rP R e,al,Ab]
    rfl
   cases Y:bW ts (aG who 58).1 with
   |none=>
    rw [Y] at V;exact U 5 ai V (Jx x bm mv lv gv ts gs tl _ _ th rel who w h.p ab Z I J D ae Y ak)
   |some t'=>
    rw [Y] at V;have ad:j2 kl rl th rel who=0:=V;refine (Tc x mv lv gv ts gs w h ar th rel who hs A.1 av A.2 t h1 r h2 Z I t' Y J D).mono ?_;rintro e' w' ⟨kb,ag,ah,aj⟩;exact ⟨_,by rw [ad];exact ag,ah,fun h0=>absurd ad h0,fun _=>⟨kb,rfl,aj⟩⟩
def NO(y bm tv kv rv pv kl rl pl l ss ts F s rel who b w)(C:DU w y (.pointer (some (aC bm 5))) tv ss)(D:DM w bm kv rv pv kl rl pl l)(hmb:∃cs,aL w bm cs 252)(Z:ss.length<=24)(h:o6 pl kl rl ts F)(V:∀t∈ss.map tt,CI ts t)(hs:s.size<=maxLen)(ab:who.size<=maxLen)(U:j2 kl rl s rel who≠0->b=false)(R:j2 kl rl s rel who=0->∃kb:Sj->Bool,b=kb ⟨(aG s 58).1,(aG s 58).2.1,rel⟩/\lA ⟨(aG who 58).1,(aG who 58).2.1⟩ (dq (ss.map tt)) ((cL ts).map (List.map lU)) (fun _=>false) kb):
  Calls prog 86 #[bu y,an s,an rel,an who] w fun e w'=>e=bi (.tuple #[.bool b,au (j2 kl rl s rel who)])/\am w w':=by
 have e:b=(j2 kl rl s rel who==0&&b):=by
  by_cases h0:j2 kl rl s rel who=0
  ·rw [h0];simp
  rw [U h0];simp
 rw [e];refine Jr y bm tv kv rv pv kl rl pl l ss s rel who b w C D hs ab (fun h0 w' k=> ?_);obtain ⟨kb,e1,Y⟩:=R h0;have ha:(fb rl s rel).2.2=0:=by
  unfold j2 at h0
  split at h0
  ·cases h0
  split at h0
  ·rename_i I;exact h0
  rename_i I
  simpa using I
 cases A:bT s&&bC rel with
 |false=>rw [rO A] at ha;cases ha
 |true=>
  rcases cR h.k.d h.k.b (aG s 58).1 rel with ⟨e',ae⟩|⟨j,t,r,e',h1,h2,J⟩
  ·rw [uU A e'] at ha;cases ha
  rw [rP A e'];obtain ⟨X,Q,ac,ad,_⟩:=cS.get rl _ j _ h.k.f J;have:=yh y bm tv kv rv pv kl rl pl l ss (c9 who).1 (c9 who).2.1 (aG s 58).2.1 j F X ts kb w' (C.below k) (D.below k) Yv Q Z h V Y;rw [ac,ad,(cF h2).2] at this;rw [e1];exact this
end
def lZ(s:ae):Prop:=∀c∈bB s,c≠58
def F6{c:UInt8}(h:dx c=true):c≠58:=by
 intro e;subst e
 revert h
 decide
def WY(l:List UInt8)(h:dC (mk (l.take (df l)))=true):lZ (mk (l.take (df l))):=by
 intro c hc
 cases l with
 |nil=>simp [dC,j6] at h
 |cons a r=>
  by_cases ha:letter a.toNat=true
  ·have e:(a::r).take (df (a::r))=a::r.takeWhile dx:=by
    simp only [df,ha,if_true];rw [rU,List.take_succ_cons]
    congr 1
    have:=List.takeWhile_prefix (l:=r) dx;exact (List.prefix_iff_eq_take.1 this).symm
   rw [e,j6] at hc
   rcases cG.1 hc with rfl|hc
   ·exact F6 (by unfold dx;rw [ha];rfl)
   exact F6 (l8.1 (List.all_takeWhile) c hc)
  have e:(a::r).take (df (a::r))=[a]:=by simp [df,ha]
  rw [e] at h;simp [dC,j6,ha] at h
variable {s:ae} {i:Nat}
def aae(h:dC (TT s i)=true):lZ (TT s i):=by
 unfold TT cI jb at h ⊢;exact WY _ h
variable {x:ae} {j:Nat}
def F7{T:Nat->ae}{u:Unit}(h:b9 T x i=.ok (u,j)):dC (T i)=true:=by
 unfold b9 dh at h
 cases hn:dC (T i) with
 |true=>rfl
 |false=>rw [hn] at h;simp at h
section
variable (T:Nat->ae)(P:Nat->Nat)
variable {i j:Nat} {t:Ty}
def Ue(h:j8 T P i=.ok (t,j)):∃k,t.name=T k/\dC (T k)=true:=by
 unfold j8 at h
 split at h
 ·split at h
  ·simp at h
  rename_i h1
  split at h
  ·simp at h
  simp at h;obtain ⟨rfl,rfl⟩:=h;exact ⟨_,rfl,F7 h1⟩
 simp at h
def AG:∀f acc i ts j,(∀t∈acc,∃k,t.name=T k/\dC (T k)=true)->cQ T P f acc i=.ok (ts,j)->∀t∈ts,∃k,t.name=T k/\dC (T k)=true
 |0,_,i,x,j,_,h=>by simp [cQ] at h
 |f+1,acc,i,x,j,ha,h=>by
  unfold cQ at h
  split at h
  ·exact I7
  split at h
  ·simp at h
  split at h
  ·simp at h
  rename_i C;refine AG f _ _ _ _ (fun t A=> ?_) h;rw [aW,aX] at A
  rcases A with A|rfl
  ·exact ha t A
  exact Ue T P C
end
variable {s:ae} {ts:List Ty} {m:Nat}
def NP(h:dJ (TT s) (PP s)=.ok (ts,m)):∀t∈ts,lZ t.name:=fun t C=>by
 obtain ⟨k,e,A⟩:=AG _ _ _ _ _ _ _ ar h t C;rw [e];exact aae A
def Uf{α:Type}(p:α->Bool):∀(a b:List α),a.all p=true->(∀c r,b=c::r->p c=false)->(a++b).takeWhile p=a
 | [],b,_,hb=>by
  cases b with
  |nil=>rfl
  |cons c r=>simp [hb c r rfl]
 |x::a,b,ha,hb=>by
  simp only [List.all_cons,bO] at ha;simp only [List.cons_append,iK,ha.1,if_true];rw [Uf p a b ha.2 hb]
def aaf{k i:ae}(h:lZ k):aG ((k++sg 58)++i) 58=(k,i,true):=by
 have el:bB ((k++sg 58)++i)=bB k++58::bB i:=by
  rw [de,de];simp [show bB (sg 58)=[58] from rfl]
 unfold aG;rw [el];have e1:(bB k++58::bB i).takeWhile (· != 58)=bB k:=Uf _ _ _ (l8.2 fun c hc=>by simpa using h c hc) (fun c r e=>by cases e;decide);have A:(bB k++58::bB i).dropWhile (· != 58)=58::bB i:=by
  have:=IG (p:=(· != 58)) (l:=bB k++58::bB i);rw [e1] at this;exact List.append_cancel_left this
 rw [e1,A];simp [cW]
def C6{t:Tg}(h:lZ t.kind):aG (rG t) 58=(t.kind,t.id,true):=aaf h
def C8{a b:Tg}(ha:lZ a.kind)(h:lZ b.kind)(e:rG a=rG b):a=b:=by
 have h1:=C6 ha;rw [e,C6 h] at h1;obtain ⟨C,A⟩:=a;obtain ⟨I,D⟩:=b;simp only [gY] at h1;obtain ⟨rfl,rfl,_⟩:=h1
 rfl
def NQ(a b:ae):eqs a b=true↔a=b:=by
 unfold eqs;rw [dS]
 constructor
 ·intro h;rw [<-cW a,<-cW b,h]
 intro h;rw [h]
def yk(l:List ae)(x a:ae):a∈m6 l x↔a∈l\/a=x:=by
 unfold m6
 split
 ·rename_i h;obtain ⟨y,C,A⟩:=dg.1 h;rw [NQ] at A;subst A
  constructor
  ·exact .inl
  rintro (h|rfl)
  ·exact h
  exact C
 rw [aW,aX]
variable {l:List ae}
def Da(h:l.Nodup)(x:ae):(m6 l x).Nodup:=by
 unfold m6
 split
 ·exact h
 rename_i hn;refine sR.2 ⟨h,ar,fun a ha b A=> ?_⟩;rw [aX] at A;subst A;rintro rfl;exact hn (dg.2 ⟨a,ha,(NQ a a).2 rfl⟩)
def inT(T:Tu)(a:ae):Prop:=a=rG ⟨T.kind,T.id⟩\/(T.who≠sg 42/\a=rG ⟨T.sub,T.who⟩)
def Ug(l:List ae)(T:Tu)(a:ae):a∈allT l T↔a∈l\/inT T a:=by
 unfold allT inT
 split
 ·rename_i h;rw [NQ] at h;rw [yk]
  constructor
  ·rintro (h1|h1)
   ·exact .inl h1
   exact .inr (.inl h1)
  rintro (h1|h1|⟨h1,_⟩)
  ·exact .inl h1
  ·exact .inr h1
  exact absurd h h1
 rename_i h;have hn:T.who≠sg 42:=fun e=>h ((NQ _ _).2 e)
 rw [yk,yk]
 constructor
 ·rintro ((h1|h1)|h1)
  ·exact .inl h1
  ·exact .inr (.inl h1)
  exact .inr (.inr ⟨hn,h1⟩)
 rintro (h1|h1|⟨_,h1⟩)
 ·exact .inl (.inl h1)
 ·exact .inl (.inr h1)
 exact .inr h1
def WZ(h:l.Nodup)(T:Tu):(allT l T).Nodup:=by
 unfold allT
 split
 ·exact Da h _
 exact Da (Da h _) _
def F8(ss:List ae):∀(l:List ae)(a:ae),a∈mS l ss↔a∈l\/∃s∈ss,inT (tt s) a:=by
 induction ss with
 |nil=>intro l a;simp [mS]
 |cons s ss ih=>
  intro l a;rw [mS,ih,Ug]
  constructor
  ·rintro ((h|h)|⟨q,A,h⟩)
   ·exact .inl h
   ·exact .inr ⟨s,eu,h⟩
   exact .inr ⟨q,eY _ A,h⟩
  rintro (h|⟨q,A,h⟩)
  ·exact .inl (.inl h)
  rcases cG.1 A with rfl|A
  ·exact .inl (.inr h)
  exact .inr ⟨q,A,h⟩
def W1(ss:List ae):∀{l:List ae},l.Nodup->(mS l ss).Nodup:=by
 induction ss with
 |nil=>intro l h;exact h
 |cons s ss ih=>intro l h;exact ih (WZ h _)
def Db(n:ae):n++(⟨#[58,42]⟩:ae)=rG ⟨n,sg 42⟩:=by
 unfold rG;rw [<-cW (n++_),<-cW ((n++sg 58)++sg 42),de,de,de,ct]
 rfl
def inB(l:List ae)(a:ae):Bool:=l.any fun y=>eqs y a
def Ls(l:List ae)(a:ae):inB l a=true↔a∈l:=by
 unfold inB;rw [dg]
 constructor
 ·rintro ⟨y,A,e⟩;rw [NQ] at e;exact e▸A
 exact fun h=>⟨a,h,(NQ a a).2 rfl⟩
structure Uh(ts:List Ty)(kl:List (ae×Nat))(ss:List ae):Prop where
 kl:kl=ts.map fun t=>(t.name,t.place)
 col:∀t∈ts,lZ t.name
 nd:(ts.map fun t=>t.name).Nodup
 kd:∀s∈ss,∃t∈ts,t.name=(tt s).kind
 sb:∀s∈ss,∃t∈ts,t.name=(tt s).sub
 id:∀s∈ss,(tt s).id≠sg 42
variable {ss:List ae}
def Uh.noc{kl:List (ae×Nat)}(h:Uh ts kl ss):∀t∈b6 ts (ss.map tt),lZ t.kind:=by
 intro t A;unfold b6 at A
 rcases aW.1 A with A|A
 ·obtain ⟨y,C,rfl⟩:=aU.1 A;exact h.col y C
 obtain ⟨u,D,A⟩:=bZ.1 A;obtain ⟨s,hs,rfl⟩:=aU.1 D;simp only [uz,cG,iT,jG] at A
 rcases A with rfl|rfl
 ·obtain ⟨y,C,e⟩:=h.kd s hs;exact e▸h.col y C
 obtain ⟨y,C,e⟩:=h.sb s hs;exact e▸h.col y C
def Uh.all{kl:List (ae×Nat)}(h:Uh ts kl ss)(a:ae):a∈yd kl ss↔∃t∈b6 ts (ss.map tt),rG t=a:=by
 unfold yd b6;rw [aW,F8]
 constructor
 ·rintro ((hn|⟨s,hs,hi|⟨_,hi⟩⟩)|D)
  ·cases hn
  ·exact ⟨_,qt _ (bZ.2 ⟨_,aU.2 ⟨s,hs,rfl⟩,eu⟩),hi.symm⟩
  ·exact ⟨_,qt _ (bZ.2 ⟨_,aU.2 ⟨s,hs,rfl⟩,eY _ eu⟩),hi.symm⟩
  unfold yU at D;rw [h.kl,fU] at D;obtain ⟨t,A,rfl⟩:=aU.1 D;exact ⟨jv t,mO _ (aU.2 ⟨t,A,rfl⟩),(Db t.name).symm⟩
 rintro ⟨t,A,rfl⟩;have J:∀y∈ts,rG ⟨y.name,sg 42⟩∈yU kl:=fun y C=>by
  unfold yU;rw [h.kl,fU,<-Db];exact aU.2 ⟨y,C,rfl⟩
 rcases aW.1 A with A|A
 ·obtain ⟨y,C,rfl⟩:=aU.1 A;exact .inr (J y C)
 obtain ⟨u,Q,A⟩:=bZ.1 A;obtain ⟨s,hs,rfl⟩:=aU.1 Q;simp only [uz,cG,iT,jG] at A
 rcases A with rfl|rfl
 ·exact .inl (.inr ⟨s,hs,.inl rfl⟩)
 by_cases I:(tt s).who=sg 42
 ·obtain ⟨y,C,e⟩:=h.sb s hs;rw [<-e,I];exact .inr (J y C)
 exact .inl (.inr ⟨s,hs,.inr ⟨I,rfl⟩⟩)
def Uh.nodup{kl:List (ae×Nat)}(h:Uh ts kl ss):(yd kl ss).Nodup:=by
 unfold yd;have Q:(yU kl).Nodup:=by
  unfold yU;rw [h.kl,fU];refine sP.2 ((sP.1 h.nd).imp fun {a b} J e=>J ?_);have A:=congrArg bB (show a.name++(⟨#[58,42]⟩:ae)=b.name++(⟨#[58,42]⟩:ae) from e);rw [de,de] at A;have I:=List.append_cancel_right A;rw [<-cW a.name,<-cW b.name,I]
 refine sR.2 ⟨W1 ss List.nodup_nil,Q,fun a ha b C e=> ?_⟩;subst e;unfold yU at C;rw [h.kl,fU] at C;obtain ⟨y,U,e⟩:=aU.1 C;rw [Function.comp_apply,Db] at e;rw [F8] at ha;have hc:lZ (⟨y.name,sg 42⟩:Tg).kind:=h.col y U
 rcases ha with ha|⟨s,hs,ha|⟨R,ha⟩⟩
 ·cases ha
 ·obtain ⟨z,D,A⟩:=h.kd s hs;have:=C8 hc (show lZ (⟨(tt s).kind,(tt s).id⟩:Tg).kind from A▸h.col z D) (e.trans ha);simp only [Tg.mk.injEq] at this;exact h.id s hs this.2.symm
 obtain ⟨z,D,A⟩:=h.sb s hs;have:=C8 hc (show lZ (⟨(tt s).sub,(tt s).who⟩:Tg).kind from A▸h.col z D) (e.trans ha);simp only [Tg.mk.injEq] at this;exact R this.2.symm
def Ui{kl:List (ae×Nat)}(h:Uh ts kl ss)(X:Nat):
  NL (inB (o5 X (b6 ts (ss.map tt)))) kl ss=o5 X (b6 ts (ss.map tt)):=by
 unfold NL;rw [<-oQ];refine Lf _ _ (NA (h.nodup.filter _)) (Tq _ _) (fun s=> ?_);rw [Ax];unfold Lo;rw [tj,Ls]
 constructor
 ·exact fun q=>q.2
 ·intro q;refine ⟨?_,q⟩;obtain ⟨i,t,hi,_,e⟩:=(FT _ _ _).1 q;exact (h.all s).2 ⟨t,bF hi,e⟩
variable {hs:List Hp} {i:Nat}
def W3{kl:List (ae×Nat)}(h:Uh ts kl ss){gs:List (List TR)}{K:Sj->Nat}(D:(b6 ts (ss.map tt)).length<=64)(Q:∀g∈gs,∀x∈g,Cz x.2.body)(J:Run (b6 ts (ss.map tt)) hs gs (fun _=>0) K)(A:Sj){t:Tg}(hi:(b6 ts (ss.map tt))[i]? =some t):
  (K A).testBit i=inB (o5 (K A) (b6 ts (ss.map tt))) (rG t):=by
 have key:(K A).testBit i=true↔rG t∈o5 (K A) (b6 ts (ss.map tt)):=by
  rw [FT]
  constructor
  ·exact fun q=>⟨i,t,hi,q,rfl⟩
  rintro ⟨j,C,I,U,e⟩;have R:C=t:=C8 (h.noc _ (bF I)) (h.noc _ (bF hi)) e;subst R;have V:lA C hs (gs.map (List.map lU)) (fun _=>false) (fun s=>(K s).testBit i):=by simpa using FF D hi Q J
  have Y:lA C hs (gs.map (List.map lU)) (fun _=>false) (fun s=>(K s).testBit j):=by simpa using FF D I Q J
  have:=congrFun (FG V Y) A;rw [<-U];exact this
 rw [gW,Ls];exact key
def AH(x c:Nat)(k i r th rel:ae)(w:af)(D:c=2\/c=5)(C:Calls prog 56 #[bu x,an th,an rel] w fun e w''=>e=bi (.tuple #[.agg #[an k,an i,an r],au c])/\am w w''):
  Calls prog 31 #[bu x,an th,an rel] w fun e w'=>e=bi (.tuple #[aA none 0 0,au c])/\am w w':=by
 have I:((c:Int) != 0)=true:=by rw [gX];omega
 have J:((c:Int)==0)=false:=by rw [bR];omega
 go_enter func31,ntmps31;go_wp2_with fail;refine C.mono ?_;rintro e w1 ⟨rfl,h⟩;have A:=h.alloc h.size (cf k i r);go_wp2;go_ret2;exact ⟨rfl,A⟩
def Uj(ts:List Ty)(gs:List Tu)(E:Nat)(aq:Sj)(w:af)(e:Ending)(w':af):Prop:=∃v L,e=bi (.tuple #[v,au E])/\am w w'/\w'.ownsRow w.heap.size 9 1 v L.length (dO L)/\(E≠0->L=[])/\(E=0->∃K,Run (b6 ts gs) (dq gs) (cL ts) (fun _=>0) K/\L=o5 (K aq) (b6 ts gs))
def Uk(x:Nat)(mv lv gv:ag)(ts:List Ty)(gs:List Tu)(w:af)(h:UQ w x mv lv gv ts gs)(ar:PuR ts gs)(kl:List (ae×Nat))(rl:List RV)(pl:List PV)(F:Nat)(Q:o6 pl kl rl ts F)(th rel:ae)(hs:th.size<=maxLen)(U:rel.size<=maxLen)(aj:(b6 ts gs).length<=64)(ak:∀t∈b6 ts gs,t.kind.size+t.id.size<=1000)(R:ko w)(V:1<w.heap.size)(al:Laid w):
  Calls prog 31 #[bu x,an th,an rel] w (Uj ts gs (fb rl th rel).2.2 ⟨(aG th 58).1,(aG th 58).2.1,rel⟩ w):=by
 obtain ⟨bm,tl,ad⟩:=h.m;have J:∀E,E≠0->(fb rl th rel).2.2=E->Calls prog 31 #[bu x,an th,an rel] w (fun e w'=>e=bi (.tuple #[aA none 0 0,au E])/\am w w')->Calls prog 31 #[bu x,an th,an rel] w (Uj ts gs (fb rl th rel).2.2 ⟨(aG th 58).1,(aG th 58).2.1,rel⟩ w):=fun E I e C=>C.mono fun e' w' ⟨h1,h2⟩=>⟨_,[],by rw [e];exact h1,h2,bP,fun _=>rfl,fun h0=>absurd (e.symm.trans h0) I⟩
 cases D:bT th&&bC rel with
 |false=>exact J 2 ai (by rw [rO D]) (AH x 2 _ _ _ th rel w (.inl rfl) (yj x th rel w hs U D))
 |true=>
  have A:=D;simp only [bO] at A;have hs:=ou A.1;have av:rel.size<=1000:=by have:=dl A.2;omega
  rcases cR Q.k.d Q.k.b (aG th 58).1 rel with ⟨e,ap⟩|⟨j,t,r,e,h1,h2,_⟩
  ·exact J 5 ai (by rw [uU D e]) (AH x 5 _ _ _ th rel w (.inr rfl) (yi x bm mv lv gv ts gs tl w h.p ad th rel hs A.1 U A.2 ap al R V))
  have I:(fb rl th rel).2.2=0:=by rw [rP D e]
  have ah:0<(b6 ts gs).length:=by
   unfold b6;rw [bf,bN];have:0<ts.length:=by
    cases ts with
    |nil=>simp [bW] at h1
    |cons a l=>simp
   omega
  refine (ZM x mv lv gv ts gs w h ar th rel hs A.1 av A.2 t h1 r h2 ah aj ak R V).mono ?_;rintro e' w' ⟨v,K,Y,Z,ab,ac⟩;exact ⟨v,_,by rw [I];exact Y,Z,ac,fun h0=>absurd I h0,fun _=>⟨K,ab,rfl⟩⟩
variable {aD bq:Prop}
def Yw (h:aD:=by
 obtain ⟨cs,hc⟩:=hdt.blk;exact ⟨cs,hc.below k⟩):aD:=h
def Ul (h:aD:=by
 rw [<-hgs];exact hgd):aD:=h
def Um (h:aD:=by
 go_wp2;go_ret;exact ⟨rfl,lv,hV,gT,us,ms,hS.below B2,(bw.mono YL).trans (B2.mono hbase),ai,hus,ai⟩):aD:=h
variable {gs:List Tu}
def Yx(h:sW gs ss)(J:tZ ts gs):gs=ss.map tt/\∀t∈gs,CI ts t:=by
 refine ⟨h.eq,fun t C=> ?_⟩;have D:=C;rw [h.eq] at D;obtain ⟨s,hs,rfl⟩:=aU.1 D;have ho:=h.ok s hs;have A:=EZ ho;have Y:=(lJ ho).1;have h1:bT (aG (aG s 64).1 35).1=true:=by
  unfold dM at ho;simp only [bO] at ho;exact ho.1.1
 unfold bT at h1;simp only [bO] at h1;have h2:=dl h1.1;have V:=dl h1.2;have hid:bC (uy s).id=true:=h1.2;refine ⟨J _ C,hid,?_,?_,?_,?_,?_⟩
 ·show (aG (aG (aG s 64).1 35).1 58).1.size<=maxLen
  unfold maxLen;omega
 ·show (aG (aG (aG s 64).1 35).1 58).2.1.size<=maxLen
  unfold maxLen;omega
 ·show (nA (aG (aG s 64).2.1 35).1 (aG (aG s 64).2.1 35).2.2).1.size<=maxLen
  have Q:=(eo s 64).2;have R:=(eo (aG s 64).2.1 35).1;have I:=(eo (aG (aG s 64).2.1 35).1 58).1;have U:(nA (aG (aG s 64).2.1 35).1 (aG (aG s 64).2.1 35).2.2).1.size<=(aG (aG s 64).2.1 35).1.size:=by
   unfold nA c9
   split<;>first|exact I|(simp only;omega)
  unfold maxLen;omega
 ·show (b7 s).1.who.size<=maxLen
  rcases A with ⟨e,_⟩|⟨e,_⟩|⟨e,_⟩
  ·rw [e];decide
  ·have:=dl e;unfold maxLen;omega
  have:=dl e;unfold maxLen;omega
 show (b7 s).1.of.size<=maxLen
 rcases A with ⟨_,e⟩|⟨_,e⟩|⟨_,e⟩
 ·rw [e];unfold maxLen;omega
 ·rw [e];unfold maxLen;omega
 have:=dl e;unfold maxLen;omega
variable {w:af} {mv lv gv:ag}
def Yy{x}(h:N4 w x mv lv gv ts gs):UQ w x mv lv gv ts gs:=⟨h.p,h.m,h.l⟩
variable {base b:Nat} {hV gT:ag} {us:List ez} {u:ez}
def Jz{ms}(h:WS base w b lv hV gT us ms)(U:u∈us)(ee s rr ww)(hs:s.size<=maxLen)(al:rr.size<=maxLen)(V:ww.size<=maxLen)(I:Env w):
  Calls prog 47 #[bu b,.agg #[bu u.x,bu u.y],.agg #[au 7,au ee,an s,an rr,an ww]] w (eZ base b us.length ms.length w):=by
 have bw:am w ((w.alloc (gt u.x u.y)).alloc (.cells #[au 7,au ee,an s,an rr,an ww] 34)):=((az _ w).alloc aH _).alloc ar _;have YL:base<=w.heap.size:=by have:=h.low;have:=h.blk.lt;omega
 have hus:1<=us.length:=List.length_pos_of_mem U;obtain ⟨W,R⟩:∃W,((w.alloc (gt u.x u.y)).alloc (.cells #[au 7,au ee,an s,an rr,an ww] 34))=W:=⟨_,rfl⟩;have ac:=(aL.new w #[bu u.x,bu u.y] 86).alloc (.cells #[au 7,au ee,an s,an rr,an ww] 34);have D:=aL.new' (w.alloc (gt u.x u.y)) #[au 7,au ee,an s,an rr,an ww] 34 (w.heap.size+1) ar;rw [R] at bw ac D;have hS:=h.below bw;have A:=hS.ur u U;obtain ⟨hgs,hgd⟩:=Yx A.both A.lets;obtain ⟨kv,rv,pv,kl,rl,pl,l,aK,hdt,aA,⟨ax,src,m,av,ap,ak,ae,Q⟩,_⟩:=A.ud.r;obtain ⟨F,J⟩:=Yu av ap ak ae Q;obtain ⟨bm,tl,ah⟩:=A.up.m;have aB:=A.ud.most;have ay:u.gs.length<=1000:=by rw [hgs,bN];omega
 have aN:=I.lt;have Y:=Jy u.x u.mv u.lv u.gv u.ts u.gs W (Yy A.up) (To ah J.m hgd ay) kl rl pl F J Q.1 s rr ww hs al V (I.max.below bw ai) Ff (I.laid.below bw ai);have Z:=fun (w':af) (k:am W w') (b:Bool) (h0:j2 kl rl s rr ww≠0->b=false) (h1:j2 kl rl s rr ww=0->∃kb:Sj->Bool,b=kb ⟨(aG s 58).1,(aG s 58).2.1,rr⟩/\lA ⟨(aG ww 58).1,(aG ww 58).2.1⟩ (dq u.gs) ((cL u.ts).map (List.map lU)) (fun _=>false) kb)=>NO u.y u.bm u.tv kv rv pv kl rl pl l u.ss u.ts F s rr ww b w' (A.ud.d.below k) (hdt.dm.below k) Yw aB J Ul hs V h0 (by rw [<-hgs];exact h1)
 have aM:j2 kl rl s rr ww<=5:=by
  unfold j2;have:=uT rl s rr
  split
  ·omega
  split
  ·exact this
  split<;>omega
 generalize j2 kl rl s rr ww=E at*;have aw:=aj R;have aO:=bw.size;have hbase:base<=W.heap.size:=by have:=hS.low;have:=hS.blk.lt;omega
 clear h A U R hgs hgd hdt aA ax av ap ak ae Q J ah I hs al V;go_enter func47,ntmps47;go_wp2_with fail;rw [aw.u];refine Y.mono ?_;rintro e w1 ⟨ad,rfl,C,h0,h1⟩;have ab:=Z w1 C ad h0 h1;obtain ⟨aE,p1⟩:=gh (ac.below C);have aF:w1.cell? (aC (w.heap.size+1) 2)=some (an s):=(D.below C).cell rfl;have aI:w1.cell? (aC (w.heap.size+1) 3)=some (an rr):=(D.below C).cell rfl;have aJ:w1.cell? (aC (w.heap.size+1) 4)=some (an ww):=(D.below C).cell rfl;clear Y Z h0 h1;go_wp2_with fail;refine ab.mono ?_;rintro e aP ⟨rfl,ag⟩;have B2:=C.trans (ag.mono C.size);clear ag ab aE p1 aF aI aJ
 cases ad
 ·exact Um
 ·exact Um
variable {rl:List RV} {pl:List PV} {F:Nat}
def aah{kl:List (ae×Nat)}(h:o6 pl kl rl ts F)(Q:kl=ts.map fun t=>(t.name,t.place))(J:∀t∈ts,lZ t.name)(A:∀t∈ss.map tt,CI ts t):Uh ts kl ss where
 kl:=Q
 col:=J
 nd:=sP.2 h.k.d.ty
 kd:=fun s hs=>by
  obtain ⟨y,q,g,h1,_⟩:=kJ A (aU.2 ⟨s,hs,rfl⟩);exact ⟨y,(cw h1).1,(cw h1).2⟩
 sb:=fun s hs=>by
  obtain ⟨y,q,g,h1,h2,D,I,_⟩:=kJ A (aU.2 ⟨s,hs,rfl⟩);obtain ⟨u,C,_⟩:=h.grant (cw h1).1 (cF h2).1 D;rw [I] at C;exact ⟨u,(cw C).1,(cw C).2⟩
 id:=fun s hs e=>by
  have:=(A _ (aU.2 ⟨s,hs,rfl⟩)).id;rw [e] at this;exact absurd this (by rw [show sg 42=(⟨#[42]⟩:ae) from rfl,tq];decide)
def W4(y bm:Nat)(tv kv rv pv:ag)(kl:List (ae×Nat))(rl:List RV)(pl:List PV)(l:List PX)(ss:List ae)(ts:List Ty)(F:Nat)(s rel:ae)(K:Sj->Nat)(w:af)(J:DU w y (.pointer (some (aC bm 5))) tv ss)(Q:DM w bm kv rv pv kl rl pl l)(hmb:∃cs,aL w bm cs 252)(R:ss.length<=24)(h:o6 pl kl rl ts F)(ad:∀t∈ss.map tt,CI ts t)(A:Uh ts kl ss)(hs:s.size<=maxLen)(ak:∀a∈ss,mL (tt a))(ah:∀k∈kl,k.1.size<=500)(hc:(b6 ts (ss.map tt)).length<=64)(ac:∀t∈b6 ts (ss.map tt),t.kind.size+t.id.size<=1000)(U:∀g∈cL ts,∀x∈g,Cz x.2.body)
  (aj:(fb rl s rel).2.2=0->Run (b6 ts (ss.map tt)) (dq (ss.map tt)) (cL ts) (fun _=>0) K):
  Calls prog 90 #[bu y,an s,an rel] w (Js (fb rl s rel).2.2 (if (fb rl s rel).2.2=0 then o5 (K ⟨(aG s 58).1,(aG s 58).2.1,rel⟩) (b6 ts (ss.map tt)) else []) w):=by
 have ab:∀a∈yd kl ss,a.size<=maxLen:=fun a ha=>by
  obtain ⟨t,C,rfl⟩:=(A.all a).1 ha;have:=ac t C;unfold rG;rw [bc,bc,show (sg 58).size=1 from rfl];unfold maxLen;omega
 have:=T4 y bm tv kv rv pv kl rl pl l ss s rel (inB (o5 (K ⟨(aG s 58).1,(aG s 58).2.1,rel⟩) (b6 ts (ss.map tt)))) w J Q hs R ak ah ab (fun ha a ai w' k=>by
  obtain ⟨t,C,rfl⟩:=(A.all a).1 ai;obtain ⟨i,hi⟩:=iw.1 C;rw [C6 (A.noc t C)]
  cases D:bT s&&bC rel with
  |false=>rw [rO D] at ha;cases ha
  |true=>
   rcases cR h.k.d h.k.b (aG s 58).1 rel with ⟨e',ap⟩|⟨j,t2,r,e',h1,h2,V⟩
   ·rw [uU D e'] at ha;cases ha
   have I:=aj ha;have Y:lA t (dq (ss.map tt)) ((cL ts).map (List.map lU)) (fun _=>false) (fun s=>(K s).testBit i):=by simpa using FF hc hi U I
   rw [rP D e'];obtain ⟨X,Z,al,am,_⟩:=cS.get rl _ j _ h.k.f V;have:=yh y bm tv kv rv pv kl rl pl l ss t.kind t.id (aG s 58).2.1 j F X ts _ w' (J.below k) (Q.below k) Yv Z R h ad Y;rw [al,am,(cF h2).2] at this;rw [<-W3 A hc U I _ hi];exact this)
 rw [Ui A] at this;exact this
def NR(X:Nat)(cs:List Tg):(o5 X cs).length<=cs.length:=by
 unfold o5 iB;have h1:=Wu (gH ((dA X cs cs.length).map rG)) [];rw [oP,bN,List.length_nil] at h1;have:=oS X cs cs.length;omega
def Un{ab:List (ag×Nat)}(h:WS base w b lv hV gT us ab)(aI:u∈us)(ee:Int)(s rr ww:ae)(hs:s.size<=maxLen)(Z:rr.size<=maxLen)(bk:ab.length+4<=8796093022208)(R:Env w):
  Calls prog 47 #[bu b,.agg #[bu u.x,bu u.y],.agg #[au 8,au ee,an s,an rr,an ww]] w (eZ base b us.length ab.length w):=by
 have bw:am w ((w.alloc (gt u.x u.y)).alloc (.cells #[au 8,au ee,an s,an rr,an ww] 34)):=((az _ w).alloc aH _).alloc ar _;have bg:base<=w.heap.size:=by have:=h.low;have:=h.blk.lt;omega
 have br:1<=us.length:=List.length_pos_of_mem aI;obtain ⟨W,ak⟩:∃W,((w.alloc (gt u.x u.y)).alloc (.cells #[au 8,au ee,an s,an rr,an ww] 34))=W:=⟨_,rfl⟩;have aQ:=(aL.new w #[bu u.x,bu u.y] 86).alloc (.cells #[au 8,au ee,an s,an rr,an ww] 34);have ad:=aL.new' (w.alloc (gt u.x u.y)) #[au 8,au ee,an s,an rr,an ww] 34 (w.heap.size+1) ar;rw [ak] at bw aQ ad;have J:=h.below bw;have C:=J.ur u aI;obtain ⟨hgs,hgd⟩:=Yx C.both C.lets;obtain ⟨kv,rv,pv,kl,rl,pl,l,bD,hdt,bn,⟨bb,src,m,a6,a4,ax,aT,ah⟩,_⟩:=C.ud.r;obtain ⟨F,D⟩:=Yu a6 a4 ax aT ah;obtain ⟨bm,tl,a2⟩:=C.up.m;have bo:=C.ud.most;have aF:=(ue C.both).2;have aY:u.gs.length<=1000:=by rw [hgs,bN];omega
 have V:=ah.1;have bp:u.ts.length<=5:=by have:=hdt.dm.kn;rw [V,bN] at this;exact this
 have aS:Uh u.ts kl u.ss:=aah D V (NP ax) Ul;have U:(b6 u.ts u.gs).length<=64:=by
  unfold b6;rw [bf,bN,K4,hgs,bN];omega
 have ay:∀t∈u.ts,t.name.size<=8:=fun t A=>(D.m.n t A).1
 have av:∀t∈b6 u.ts u.gs,t.kind.size+t.id.size<=1000:=fun t A=>by
  unfold b6 at A
  rcases aW.1 A with A|A
  ·obtain ⟨y,bt,rfl⟩:=aU.1 A;have:=ay y bt
   show y.name.size+(⟨#[42]⟩:ae).size<=1000
   have:(⟨#[42]⟩:ae).size=1:=rfl;omega
  obtain ⟨q,Y,A⟩:=bZ.1 A;have bv:=aF q Y;unfold mL at bv;simp only [uz,cG,iT,jG] at A
  rcases A with rfl|rfl<;>(simp only;omega)
 have aA:=To a2 D.m hgd aY;have bG:=R.lt;have a9:=R.pow;have aJ:=Uk u.x u.mv u.lv u.gv u.ts u.gs W (Yy C.up) aA kl rl pl F D s rr hs Z U av (R.max.below bw ai) Ff (R.laid.below bw ai);have aK:=(fun (w':af) (k:am W w') (L:List ae) (h0:(fb rl s rr).2.2≠0->L=[]) (h1:(fb rl s rr).2.2=0->∃K,Run (b6 u.ts u.gs) (dq u.gs) (cL u.ts) (fun _=>0) K/\L=o5 (K ⟨(aG s 58).1,(aG s 58).2.1,rr⟩) (b6 u.ts u.gs))=>show Calls prog 90 #[bu u.y,an s,an rr] w' (Js (fb rl s rr).2.2 L w') from by
  have aZ:=fun K Z=>W4 u.y u.bm u.tv kv rv pv kl rl pl l u.ss u.ts F s rr K w' (C.ud.d.below k) (hdt.dm.below k) Yw bo D Ul aS hs (fun a ha=>aF _ (by rw [hgs];exact aU.2 ⟨a,ha,rfl⟩)) (fun q Y=>by rw [V] at Y;obtain ⟨t,A,rfl⟩:=aU.1 Y;have:=ay t A;simp only;omega) (by rw [<-hgs];exact U) (by rw [<-hgs];exact av) (fun g bh x bs=>(aA.ln g bh x bs).wf) Z
  by_cases e0:(fb rl s rr).2.2=0
  ·obtain ⟨K,bc,rfl⟩:=h1 e0;have:=aZ K (fun _=>by rw [<-hgs];exact bc);rw [if_pos e0,<-hgs] at this;exact this
  have:=aZ (fun _=>0) (fun e=>absurd e e0);rw [if_neg e0] at this;rw [h0 e0];exact this)
 have bF:=uT rl s rr;have aP:=fun X=>aV (NR X (b6 u.ts u.gs)) U
 generalize (fb rl s rr).2.2=E at*;have ba:=aj ak;have a5:=bw.size;have hbase:base<=W.heap.size:=by have:=J.low;have:=J.blk.lt;omega
 clear h C aI ak hgs hgd hdt bn bb a6 a4 ax aT ah D a2 R hs Z aS U av ay aF aA V bp aY;go_enter func47,ntmps47;go_wp2_with fail;rw [ba.u];refine aJ.mono ?_;rintro e w1 ⟨v1,L,rfl,I,a3,h0,h1⟩;obtain ⟨a1,c1,rfl⟩:=aw a3;have aO:=aK w1 I L h0 h1;have hl:L.length<=64:=by
  by_cases e0:E=0
  ·obtain ⟨K,_,rfl⟩:=h1 e0;exact aP _
  rw [h0 e0];simp
 obtain ⟨bx,p1⟩:=gh (aQ.below I);have bz:w1.cell? (aC (w.heap.size+1) 2)=some (an s):=(ad.below I).cell rfl;have bA:w1.cell? (aC (w.heap.size+1) 3)=some (an rr):=(ad.below I).cell rfl;clear aJ aK h0 h1 aP;go_wp2_with fail;refine aO.mono ?_;rintro e bB ⟨bK,rfl,al,aE⟩;obtain ⟨bE,c2,rfl⟩:=aw aE;have ac:=I.trans (al.mono I.size);have aR:=aB a3 al;have aM:=Fa _ _ _ _ L bB aR aE ai;clear al aE aO bx p1 bz bA;go_wp2_with fail;refine aM.mono ?_;rintro e bL ⟨rfl,ap⟩;have Q:=ac.trans (ap.mono ac.size);have aN:=KM (J.below Q) hbase Q.size L (aB aR ap) ai (fun m bl=>(J.mrk m bl).lim.below Q) (fun k D=>(J.ls.lt k D).2) bk (a9.below (bw.trans (Q.mono a5)) ai);clear ap aM ac I;go_wp2_with fail;refine aN.mono ?_;rintro e bC ⟨rfl,bI,bH,bJ,a7,aX,bj⟩;have a8:=show eZ base b us.length ab.length w (bi (.bool true)) bC from ⟨rfl,_,_,_,_,_,a7,((bw.trans (Q.mono a5)).mono bg).trans aX,ai,br,ai⟩
 clear a7 aX bj aN;go_wp2;go_ret;exact a8
def Uy:X8 [1,2,3,4,5,6,7,8]:=by
 intro base b lv hV gT us Z w x h C D Q J ho A V;have Y:=A.lt;simp only [List.any_cons,List.any_nil,my,lg,dS] at J;obtain ⟨kd,ee,s,rr,ww⟩:=x;simp only at J
 rcases J with rfl|rfl|rfl|rfl|rfl|rfl|rfl|rfl
 ·refine (JD (some (aP b)) ee s rr ww w A.laid).mono ?_;rintro e w' ⟨rfl,R⟩;have U:base<=w.heap.size:=by have:=h.low;have:=h.blk.lt;omega
  exact ⟨rfl,_,_,_,_,_,h.below R,R.mono U,ai,C,ai⟩
 ·exact Sy h C ee s rr ww D A.laid
 ·exact od h C 3 ee s rr ww (.inl rfl) ho.s ho.e0 ho.e1 D A.laid A.max ai
 ·exact od h C 4 ee s rr ww (.inr (.inl rfl)) ho.s ho.e0 ho.e1 D A.laid A.max ai
 ·exact od h C 5 ee s rr ww (.inr (.inr rfl)) ho.s ho.e0 ho.e1 D A.laid A.max ai
 ·exact xw h C 6 ee s rr ww (.inl rfl) ho.e0 ho.e1 D (fun W' k u I=>Fi (h.below k) I ee s rr ww 6 rfl Q (A.pow.below k ai) (by have:=k.size;omega))
 ·exact xw h C 7 ee s rr ww (.inr (.inl rfl)) ho.e0 ho.e1 D (fun W' k u I=>Jz (h.below k) I ee s rr ww ho.s ho.r ho.w (A.below k ai))
 exact xw h C 8 ee s rr ww (.inr (.inr rfl)) ho.e0 ho.e1 D (fun W' k u I=>Un (h.below k) I ee s rr ww ho.s ho.r Q (A.below k ai))
def W9(v:ag)(n:Nat)(w:af)(h:M3 w v n)(R:n<=2199023255488)(A:Env w):
  Calls prog 7 #[v] w fun e w'=>e=bi (.bool true)/\am w w':=by
 have D:=(az w.heap.size w).alloc aH (.cells #[au 1,au 2,au 3,au 4,au 5,au 6,au 7,au 8] 3);have I:=aL.new w #[au 1,au 2,au 3,au 4,au 5,au 6,au 7,au 8] 3;have C:=(M4 [1,2,3,4,5,6,7,8] Uy v n w _ h R w.heap.size 8 ar (fun k Q=>I.cell (by
  match k,Q with
  |0,_=>rfl
  |1,_=>rfl
  |2,_=>rfl
  |3,_=>rfl
  |4,_=>rfl
  |5,_=>rfl
  |6,_=>rfl
  |7,_=>rfl)) D (A.below D A.lt) A.lt)
 have hv:∃a c,v=aA a n c:=by
  rcases h with ⟨rfl,rfl⟩|⟨U,c,z,rfl,h1,_⟩
  ·exact ⟨_,_,rfl⟩
  exact ⟨_,_,rfl⟩
 obtain ⟨V,rc,rfl⟩:=hv;go_enter func7,ntmps7;go_wp2_with fail;refine C.mono ?_;rintro e w1 ⟨rfl,J⟩;go_wp2;go_ret;exact ⟨rfl,J⟩
end Go.Proofs.YtlbpnlngckgcbaaGreatDoor
namespace Go.Proofs.YtlbpnlngckgcbaaGreatDoor
open Go.ChangeShapes Go.WideShapes Go.RowKit Go.Proofs.Tryz
def Xa(v:Value)(n:Nat)(w:World)(h:M3 w v n)(C:n<=2199023255488)(A:Env w):
  Calls Tryz.prog 7 #[v] w fun e w'=>e=bi (.bool true)/\am w w':=W9 v n w h C A
variable {W:World}
def Xb(h:laidMetH Tryz.prog Rows.allRow.laid W)(hs:W.ShapedOpen Tryz.prog):Env W:=by
 obtain ⟨U,A⟩:=laidMetH_iff.1 h;refine ⟨?_,?_,?_,?_⟩
 ·obtain ⟨name,u,ty,e1,I,J,Q,C⟩:=A ("errors.errorType",Rows.laid_errors_errorType) (tj.2 ⟨.tail _ (.tail _ (.tail _ (.head _))),aM⟩);have R:name=[101,114,114,111,114]:=(gM e1).symm;subst R;obtain rfl:=gM (gRt.symm.trans I);have D:ty∈(List.range 445).filter fun t=>Tryz.prog.rowNamed t [101,114,114,111,114]:=tj.2 ⟨List.mem_range.2 (by rw [<-gSize];exact J),Q⟩
  rw [gOne] at D;obtain rfl:=aX.1 D;have A:typeHandle Tryz.prog 77=.pointer (some (aC 5 77)):=aM;rw [A] at C;unfold Laid
  simpa using World.var?_cell gVar C 0
 ·exact cell_of_shapedOpen_int (t:=3) (zero:=#[au 0]) (k:=.i64) hs (by rw [X9];decide) aM rfl aM aM Tryz.underlying3
 ·exact Zs (U:laidMet Tryz.prog [("math/bits.deBruijn32tab",Rows.laid_math_bits_deBruijn32tab),("math/bits.deBruijn64tab",Rows.laid_math_bits_deBruijn64tab),("internal/strconv.uint64pow10",Rows.laid_internal_strconv_uint64pow10)] W)
 obtain ⟨cs,hc,_⟩:=hs.1 4 _ _ (by rw [X9];decide) gFour;exact lt_of_some hc
def Xc(os:Os)(args:Array Value):laidMetH Tryz.prog Rows.allRow.laid ((World.doorLaid Tryz.prog 31 os).forCall (fun _ _=>0) ⟨#[],args,[]⟩).memory:=
 laidMetH_of_parts3 (fuel:=8) (laidMet_of_run' 8 aM aM) aM aM
def JE(os:Os)(ap:os.Started)(H:Type)(enc:TypeId×Value->H):
  ReturnsInHanded {} Tryz.checked os 7 .any (fun w args=>(Rows.allSpec.pre enc Tryz.prog Tryz.f7 [] false w args/\laidMetH Tryz.prog Rows.allRow.laid w)/\sizedMet enc Tryz.prog Tryz.f7 (OpenSpec.ofChange Rows.allSpec) false w args)
   (Rows.allSpec.post enc Tryz.prog Tryz.f7 false true false false):=by
 refine Fm (C:=Tryz.checked) (X:=fun w _=>laidMetH Tryz.prog Rows.allRow.laid w) (fun _ _ _ af h=>h.of_heap af) gOwn ap aM Tryz.func7
  (ChangeSpec.witness_shaped (enc:=enc) (C:=Tryz.checked) (os:=os) (X:=fun w _=>laidMetH Tryz.prog Rows.allRow.laid w) false (World.doorLaid Tryz.prog 31 os) #[aA none 0 0] 8 rfl (World.shaped_of_RefB aM aM) aM aM aM (Xc os _)) ?_
 intro W base args ds gs au ak J _ U aj ab _;have R:∀(j:Nat) t v,Tryz.f7.params[j]? =some t->args[j]? =some v->Value.okWide Tryz.prog W .any base t v:=ak;have Q:=J;obtain ⟨p,q,Y,ac,rfl,ax,ay⟩:=J;have D:DataW.TrodAll enc Tryz.prog W 0 (fun _=>true) true Tryz.f7.params.toList args.toList ds p:=Y;have I:DataW.TrodVars enc Tryz.prog W (fun _=>true) [] gs q:=ac;rw [Tryz.params7] at D R;obtain ⟨V,aB,d0,av,al,az,aw,rfl,rfl,h0,am⟩:=trodAll_cons D;obtain ⟨rfl,rfl,rfl⟩:=trodAll_nil am;obtain rfl:args=#[V]:=by cases args;simp_all
 have Z:=Xb ab aj;obtain ⟨rfl,rfl⟩:gs=[]/\q=[]:=by
  cases gs with
  |nil=>exact ⟨rfl,I⟩
  |cons g r=>exact absurd I (by intro h;cases h)
 obtain ⟨ar,len,cap,rfl⟩:=okWide_slice Tryz.underlying36 (R 0 36 V rfl rfl);simp only [dU] at Q U;obtain ⟨n,ai,ah,ad⟩:=Zq h0;have hn:n<=2199023255488:=by
  rcases ad with ⟨_,rfl⟩|⟨el,an,rfl,rfl⟩
  ·omega
  have A:(el.length+an.length)*Tryz.prog.bytesOf 34<=reachBytes:=sized_slice (j:=0) (t:=36) U (by
   show (Tryz.f7.params.toList++[])[0]? =_
   rw [Tryz.params7]
   rfl) rfl Tryz.underlying36
  rw [Wh] at A;have:reachBytes=140737488351232:=rfl;omega
 refine (Xa _ n W ai hn Z).mono fun e W' ⟨ae,A⟩=> ?_
 subst ae;exact ⟨_,rfl,_,_,_,[],al,[],Q,trodAll_mk1 (shut_bool Tryz.underlying4 true),by
  have:=trodAll_cons_mk (Below.trod gLaid aM (BW aM) h0 A ah) trodAll_mk0;simp only [dU] at this;exact this,rfl,A.frame _,fun h=>by cases h⟩
end Go.Proofs.YtlbpnlngckgcbaaGreatDoor
