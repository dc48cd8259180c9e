import Derived.Test.YtlbpnlngckgcbaaGreatDoorM38
import Derived.Deep.OwnRows
import Derived.Test.YtlbpnlngckgcbaaGreatDoorM39
import Derived.Test.YtlbpnlngckgcbaaGreatDoorM40
import Derived.Test.YtlbpnlngckgcbaaGreatDoorM37
set_option linter.all false
set_option maxHeartbeats 4000000
set_option maxRecDepth 100000
namespace Go.Proofs.YtlbpnlngckgcbaaGreatDoor
open Go.RowKit Go.PlainAid Go.Proofs.Tryz
variable {aD br:Prop}
def KM (h:aD:=by
 simp [aO,he]):aD:=h
def yh(M:Ex->Nat->Prop)(L:Nat->Nat)(b:Nat):Nat->Ex->Prop
 |less,⟨n,some x,some y⟩=>yh M L b less x/\yh M L b (if n.kind=3\/n.kind=4 then less else 1) y
 |less,⟨n,none,r⟩=>∀d,M ⟨n,none,r⟩ d->L d+less<=b
 |_,⟨_,some _,none⟩=>True
section
variable {M:Ex->Nat->Prop}{L:Nat->Nat}{b:Nat}
def KN:∀(rs:List (ae×Nat×Ex)) (less:Nat) (x:Ex),(∀r∈rs,r.1=sg 38\/r.1=sg 45\/r.1=sg 124)->(yh M L b less (cd x rs)↔yh M L b less x/\∀r∈rs,yh M L b (if minus ⟨bB r.1,r.2.1,false⟩=true then 1 else less) r.2.2)
 | [],less,x,_=>by simp [cd]
 |(t,q,y)::rs,less,x,h=>by
  rw [cd,KN rs less _ (fun r A=>h r (eY _ A))];have e1:yh M L b less (dE t q x y)↔yh M L b less x/\yh M L b (if minus ⟨bB t,q,false⟩=true then 1 else less) y:=by
   simp only [dE,yh,qM]
   rcases h (t,q,y) ep with e|e|e
   .have e':t=sg 38:=e;subst e';rw [show eqs (sg 38) (sg 45)=false from ay,show kindOf (sg 38)=4 from by decide];simp
   .have e':t=sg 45:=e;subst e';rw [show eqs (sg 45) (sg 45)=true from ay,show kindOf (sg 45)=5 from by decide];simp
   have e':t=sg 124:=e;subst e';rw [show eqs (sg 124) (sg 45)=false from ay,show kindOf (sg 124)=3 from by decide];simp
  rw [e1];simp only [cG,forall_eq_or_imp];exact and_assoc
def IL{c:Nat}(A:∀d,L d<=c):∀(x:Ex)(less:Nat),less<=1->yh M L (c+1) less x
 |⟨n,some x,some y⟩,less,h=>⟨IL A x less h,IL A y _ (by split<;>omega)⟩
 |⟨n,none,r⟩,less,h=>fun d _=>by have:=A d;omega
 |⟨_,some _,none⟩,less,h=>trivial
def ut:∀(x:Ex)(less:Nat),less<=1->yh M L b less x->∀e∈aO x,∀d,M e d->L d+less<=b
 |⟨n,some x,some y⟩,less,hl,h,e,A,d,hd=>by
  simp only [aO,aW] at A
  rcases A with A|A
  .exact ut x less hl h.1 e A d hd
  have:=ut y _ (by split<;>omega) h.2 e A d hd
  split at this<;>omega
 |⟨n,none,r⟩,less,hl,h,e,A,d,hd=>by
  simp only [aO,aX] at A;subst A;exact h d hd
 |⟨_,some _,none⟩,less,hl,h,e,A,d,hd=>by simp [aO] at A
def Co:∀(x:Ex)(less:Nat),less<=1->yh M L b less x->∀e∈ye x,∀d,M e d->L d+1<=b
 |⟨n,some x,some y⟩,less,hl,h,e,A,d,hd=>by
  unfold ye at A;obtain ⟨h1,h2⟩:=h
  split at A
  .rename_i C;rw [if_pos C] at h2
   rcases aW.1 A with A|A
   .exact Co x less hl h1 e A d hd
   exact Co y less hl h2 e A d hd
  rename_i C;rw [if_neg C] at h2
  rcases aW.1 A with A|A
  .exact Co x less hl h1 e A d hd
  exact ut y 1 ai h2 e A d hd
 |⟨n,none,r⟩,less,hl,h,e,A,d,hd=>by simp [ye] at A
 |⟨_,some _,none⟩,less,hl,h,e,A,d,hd=>by simp [ye] at A
def IM:∀(x:Ex),(∀e∈aO x,∀d,M e d->L d+1<=b)->yh M L b 1 x
 |⟨n,some x,some y⟩,h=>by
  refine ⟨IM x (fun e he=>h e KM),?_⟩;rw [ite_self];exact IM y (fun e he=>h e KM)
 |⟨n,none,r⟩,h=>fun d A=>h _ (by simp [aO]) d A
 |⟨_,some _,none⟩,h=>trivial
def IP:∀(x:Ex),(∀e∈aO x,∀d,M e d->L d<=b)->(∀e∈ye x,∀d,M e d->L d+1<=b)->yh M L b 0 x
 |⟨n,some x,some y⟩,h,hn=>by
  unfold ye at hn;refine ⟨IP x (fun e he=>h e KM) (fun e he=>hn e ?_),?_⟩
  .split<;>exact mF _ he
  by_cases A:n.kind=3\/n.kind=4
  .rw [if_pos A];exact IP y (fun e he=>h e KM) (fun e he=>hn e (by rw [if_pos A];exact pZ _ he))
  rw [if_neg A];exact IM y (fun e he=>hn e (by rw [if_neg A];exact pZ _ he))
 |⟨n,none,r⟩,h,hn=>fun d C=>h _ (by simp [aO]) d C
 |⟨_,some _,none⟩,h,hn=>trivial
end
def IQ{f b}:∀{k:Nat},qY k f<=b↔∀j,j<k->f j<=b
 |0=>by simp [qY]
 |k+1=>by
  rw [qY]
  constructor
  .intro h j A
   by_cases e:j=k
   .subst e;omega
   exact IQ.1 (show qY k f<=b by omega) j ai
  intro h;have h1:qY k f<=b:=IQ.2 (fun j A=>h j ai);have:=h k ai;omega
section
variable (bm:Nat)(kv rv pv:ag)(kl:List (ae×Nat))(rl:List RV)(pl:List PV)(l:List PX)(tV:ag)(lv:List Nat)
def NdK(M:Ex->Nat->Prop)(X:RV)(body:Ex)(L:List Nat):Prop:=∀m e,m∈L->Tr pl 1 m e->e∈aO body->∃nd:List Nat,nd.length<=2000000/\(∀d∈nd,d<lv.length)/\(∀d,d∈nd↔M e d)/\∀w,DM w bm kv rv pv kl rl pl l->Calls prog 231 #[.pointer (some (aC bm 5)),aj X.kd,ar m,ar X.ex] w fun e w'=>∃sv,e=bj sv/\an w w'/\w'.ownsRow w.heap.size 3 1 sv nd.length (nd.map fun n:Nat=>ar n)
def xp(M:Ex->Nat->Prop)(i:Nat)(X:RV)(body:Ex)(ac:List Nat)(au:rl[i]? =some X)(ar:NdK bm kv rv pv kl rl pl l lv M X body ac)(al:∀x∈lv,x<=10000):∀(f n:Nat)(x:Ex),Tr pl f n x->(aO x).length<=1000->(∀e∈aO x,e∈aO body)->(∀m∈aJ pl f n,m∈ac)->∀less,less<=1->∃R,Ur bm kv rv pv kl rl pl l tV lv i n less R/\∀b,R<=b↔yh M (fun d=>lv.getD d 0) b less x
 |0,_,_,h,_,_,_,_,_=>h.elim
 |f+1,n,x,⟨p,hp,h⟩,hl,ho,hL,less,hls=>by
  have aS:=xp M i X body ac au ar al f;have aF:∀d,lv.getD d 0<=10000:=fun d=>by
   rw [ey]
   cases Y:lv[d]? with
   |none=>simp
   |some x=>exact al x (bG Y)
  have leaf:¬(p.kind=4\/p.kind=5)->(∃m e,m=n/\Tr pl 1 m e/\x=e)->p.ps=[]->x.l=none->∃R,Ur bm kv rv pv kl rl pl l tV lv i n less R/\∀b,R<=b↔yh M (fun d=>lv.getD d 0) b less x:=by
   rintro V ⟨m,e,rfl,Q,rfl⟩ aN ag;have aH:m∈ac:=hL m (by rw [aJ];simp only [hp];rw [if_neg V];simp);have aK:x∈aO x:=by
    obtain ⟨aX,aT,aZ⟩:=x;simp only at ag;subst ag;simp [aO]
   obtain ⟨nd,h1,h2,A,J⟩:=ar m x aH Q (ho x aK);refine ⟨_,IK bm kv rv pv kl rl pl l tV lv i m less X p nd hp au aN h1 h2 al hls J,fun b=> ?_⟩;rw [ZB];obtain ⟨aX,aT,aZ⟩:=x;simp only at ag;subst ag;simp only [aU,forall_exists_index,and_imp,forall_apply_eq_imp_iff₂,yh];exact ⟨fun h d aj=>h d ((A d).2 aj),fun h d aj=>h d ((A d).1 aj)⟩
  have parts:∀(x0:Ex) (rs:List (ae×Nat×Ex)) (V:p.kind=4\/p.kind=5),cu (Tr pl f) p.ps (x0::rs.map fun r=>r.2.2)->x=cd x0 rs->(∀r∈rs,r.1=sg 38\/r.1=sg 45\/r.1=sg 124)->(p.kind=4->p.sg=⟨[],0,false⟩::rs.map (fun r=>⟨bB r.1,r.2.1,false⟩))->(p.kind=5->∀r∈rs,r.1=sg 124)->∃R,Ur bm kv rv pv kl rl pl l tV lv i n less R/\∀b,R<=b↔yh M (fun d=>lv.getD d 0) b less x:=by
   intro x0 rs V XX aQ aP J Z;subst aQ;refine IJ ?_;intro hpl;have aR:∀y∈x0::rs.map (fun r=>r.2.2),∀e∈aO y,e∈aO (cd x0 rs):=fun y hy e he=>by
    exact II
   have aG:∀y∈x0::rs.map (fun r=>r.2.2),(aO y).length<=(aO (cd x0 rs)).length:=fun y hy=>by
    exact Tj
   have aM:p.ps.length<=1000:=by
    rw [hpl];refine aV (xo _ (fun y hy=> ?_)) ?_
    .obtain ⟨m,_,C⟩:=cu.memr _ _ XX y hy;exact Cl pl f m y C
    rw [dG] at hl
    simpa using hl
   have aC:∃I:Nat->Nat,∀j,I j=if p.kind=4/\(∃t,p.sg[j]? =some t/\minus t=true) then 1 else less:=by
    exact ⟨fun j=>if p.kind=4/\(∃t,p.sg[j]? =some t/\minus t=true) then 1 else less,fun j=>rfl⟩
   obtain ⟨I,af⟩:=aC;have av:∀j,I j<=1:=fun j=>by rw [af];split<;>omega
   have aL:∀j,∃R:Nat,(∀m,p.ps[j]? =some m->Ur bm kv rv pv kl rl pl l tV lv i m (I j) R)/\R<=100000/\∀y,(x0::rs.map fun r=>r.2.2)[j]? =some y->∀b,R<=b↔yh M (fun d=>lv.getD d 0) b (I j) y:=fun j=>by
    cases Y:p.ps[j]? with
    |none=>
     refine ⟨0,fun m C=>(by cases C),ai,fun y hy=> ?_⟩;have:=(bD.1 hy).1;rw [<-hpl] at this;rw [aI this] at Y
     cases Y
    |some m=>
     obtain ⟨y,hy,Q⟩:=uq XX Y;have ax:=bG hy;obtain ⟨R,a0,az⟩:=aS m y Q (aV (aG y ax) hl) (fun e he=>ho e (aR y ax e he)) (fun ay ab=>hL ay (by rw [aJ];simp only [hp];rw [if_pos V];exact b6.2 ⟨m,bG Y,ab⟩)) (I j) (av j);refine ⟨R,fun ay ab=>(by cases ab;exact a0),aV ((az 10001).2 (IL aF y _ (av j))) ai,fun a3 aw=> ?_⟩;rw [hy] at aw
     cases aw
     exact az
   obtain ⟨aA,am⟩:=Classical.axiomOfChoice aL;refine ⟨_,Fw bm kv rv pv kl rl pl l tV lv i n less p aA I hp V aM (by rw [hpl];simp) (fun e=>by rw [hpl,J e];simp) af (fun j m C=>(am j).1 m C) (fun j=>(am j).2.1) hls,fun b=> ?_⟩;rw [IQ,KN rs less x0 aP];have key:∀j y,(x0::rs.map fun r=>r.2.2)[j]? =some y->(aA j<=b↔yh M (fun d=>lv.getD d 0) b (I j) y):=fun j y hy=>(am j).2.2 y hy b
   have k0:I 0=less:=by
    rw [af,if_neg];rintro ⟨e,t,Q,C⟩;rw [J e] at Q
    cases Q
    rw [zY] at C
    cases C
   have ks:∀j r,rs[j]? =some r->I (j+1)=if minus ⟨bB r.1,r.2.1,false⟩=true then 1 else less:=fun j r D=>by
    rw [af]
    rcases V with an|aB
    .have:p.sg[j+1]? =some ⟨bB r.1,r.2.1,false⟩:=by rw [J an,vo,eo,D];rfl
     by_cases C:minus ⟨bB r.1,r.2.1,false⟩=true
     .rw [if_pos ⟨an,_,this,C⟩,if_pos C]
     rw [if_neg C,if_neg];rintro ⟨_,t,Q,ab⟩;rw [this] at Q
     cases Q
     exact C ab
    have aE:=Z aB r (bG D);rw [if_neg (fun e=>by have:=e.1;omega),qM,aE,show eqs (sg 124) (sg 45)=false from by decide];simp
   constructor
   .intro h;refine ⟨?_,fun r D=> ?_⟩
    .have:=(key 0 x0 rfl).1 (h 0 (by rw [hpl];simp));rw [k0] at this;exact this
    obtain ⟨j,U⟩:=ip.1 D;have:=(key (j+1) r.2.2 (by rw [vo,eo,U];rfl)).1 (h (j+1) (by have:=(bD.1 U).1;rw [hpl];simp;omega));rw [ks j r U] at this;exact this
   rintro ⟨h0,D⟩ j U
   rcases j with _|j
   .refine (key 0 x0 rfl).2 ?_;rw [k0];exact h0
   have ak:j<rs.length:=by rw [hpl] at U;simp at U;omega
   refine (key (j+1) rs[j].2.2 (by rw [vo,eo,aI ak];rfl)).2 ?_;rw [ks j rs[j] (aI ak)];exact D _ (bu ak)
  rcases h with ⟨h1,h2,A⟩|⟨h1,h0,h2,A⟩|⟨h1,h0,h2,A⟩|⟨h1,h0,aY,ns,x0,rs,A,J,Z,ad,⟨ap,a2⟩,ah⟩|⟨h1,h0,a1,aY,ns,x0,rs,A,J,Z,ad,ap,ah⟩
  .exact leaf ai ⟨n,x,rfl,⟨p,hp,.inl ⟨h1,h2,A⟩⟩,rfl⟩ h2.1 (by rw [A])
  .exact leaf ai ⟨n,x,rfl,⟨p,hp,.inr (.inl ⟨h1,h0,h2,A⟩)⟩,rfl⟩ h2.1 (by rw [A])
  .exact leaf ai ⟨n,x,rfl,⟨p,hp,.inr (.inr (.inl ⟨h1,h0,h2,A⟩))⟩,rfl⟩ h2.1 (by rw [A])
  .exact parts x0 rs (.inl h1) (by rw [A];exact ⟨J,Z⟩) ah (fun r D=>(ap r D).elim .inl (fun e=> .inr (.inl e))) (fun _=>ad) (fun e=>ai)
  exact parts x0 rs (.inr h1) (by rw [A];exact ⟨J,Z⟩) ah (fun r D=> .inr (.inr (ad r D))) (fun e=>ai) (fun _=>ad)
end
def z8{f g:Nat->Nat}:∀(l:List Nat),(∀x∈l,f x<=g x)->(l.map f).sum<=(l.map g).sum
 | [],_=>au
 |x::l,h=>by
  have:=z8 l (fun y A=>h y (eY _ A));have:=h x ep;exact BC
def Aa{f g:Nat->Nat}:∀(l:List Nat)(x:Nat),(∀x∈l,f x<=g x)->x∈l->f x<g x->(l.map f).sum<(l.map g).sum
 | [],x,_,A,_=>by simp at A
 |y::l,x,h,A,hlt=>by
  simp only [bZ,List.sum_cons]
  rcases cG.1 A with rfl|A
  .have:=z8 l (fun z C=>h z (eY _ C));omega
  have:=Aa l x (fun z C=>h z (eY _ C)) A hlt;have:=h y ep;omega
def ZC(ρ:Nat->Nat)(R:Nat)(lv:List Nat):Nat:=((List.range R).map fun i=>ρ i-lv.getD i 0).sum
variable {i:Nat}
def xr{lv:List Nat}{v:Nat}(hi:i<lv.length)(d:Nat):(lv.set i v).getD d 0=if d=i then v else lv.getD d 0:=by
 rw [ey,ey,List.getElem?_set]
 by_cases e:i=d
 .subst e;rw [if_pos rfl,if_pos rfl,if_pos hi]
  rfl
 rw [if_neg e,if_neg (fun e'=>e e'.symm)]
variable {w:af} {g:Nat} {xs:List ag} {e:TypeId}
def xu(h:aL w g xs.toArray e)(A:xs.length<=maxLen):w.ownsRow 0 e 1 (aw (some (aN g)) xs.length xs.length) xs.length xs:=
 ⟨au,.inr ⟨g,xs.length,xs.toArray,rfl,gS _,h,bV _,A,au,au⟩⟩
def CF(l:List Nat):List ag:=l.map fun n:Nat=>ar n
structure ZD(ρ:Nat->Nat)(R:Nat)(Bd:List Nat->Nat->Nat->Prop)(Us lv:List Nat)(again:Bool)(i:Nat):Prop where
 len:lv.length=R
 le:∀j,lv.getD j 0<=ρ j
 no:again=false->lv=Us/\∀j,j<i->Bd Us j (Us.getD j 0)
 yes:again=true->ZC ρ R lv<ZC ρ R Us
variable {again:Bool}
def ZD.same{ρ R Bd Us lv}(h:ZD ρ R Bd Us lv again i)(A:Bd lv i (lv.getD i 0)):ZD ρ R Bd Us lv again (i+1):=
 ⟨h.len,h.le,fun e=>⟨(h.no e).1,fun j C=>by
  by_cases e':j=i
  .subst e';rw [(h.no e).1] at A;exact A
  exact (h.no e).2 j ai⟩,h.yes⟩
def ZD.up{ρ R Bd Us lv again i v}(h:ZD ρ R Bd Us lv again i)(hi:i<R)(I:lv.getD i 0<v)(D:v<=ρ i):ZD ρ R Bd Us (lv.set i v) true (i+1):=by
 have A:i<lv.length:=by rw [h.len];exact hi
 refine ⟨by rw [fU];exact h.len,fun j=> ?_,fun e=>Bool.noConfusion e,fun _=> ?_⟩
 .rw [xr A]
  split
  .rename_i e;subst e;exact D
  exact h.le j
 have h1:ZC ρ R (lv.set i v)<ZC ρ R lv:=Aa _ i (fun j _=>by
  rw [xr A]
  split
  .rename_i e;subst e;omega
  .omega) (List.mem_range.2 hi) (by
  rw [xr A,if_pos rfl];omega)
 cases C:again
 .rw [(h.no C).1] at h1 ⊢;exact h1
 exact Nat.lt_trans h1 (h.yes C)
def ZE(ρ:Nat->Nat)(h:List Nat->Nat->Nat->Prop)(R:Nat)(w:af)(e:Ending)(w':af):Prop:=∃b lv,e=bj (aw (some (aN b)) R R)/\an w w'/\lv.length=R/\w'.ownsRow 0 3 1 (aw (some (aN b)) R R) R (CF lv)/\(∀j,lv.getD j 0<=ρ j)/\∀j,j<R->h lv j (lv.getD j 0)
section
variable (bm:Nat)(kv rv pv:ag)(kl:List (ae×Nat))(rl:List RV)(pl:List PV)(l:List PX)
def IR(I:Nat->Nat)(U:List Nat->Nat->Nat->Prop)(aX:∀j,I j<=10000)(aJ:∀(tV:ag)(lv:List Nat)(i:Nat)(X:RV),lv.length=rl.length->(∀j,lv.getD j 0<=I j)->rl[i]? =some X->∃R,Ur bm kv rv pv kl rl pl l tV lv i X.ex 0 R/\R<=I i/\∀b,R<=b↔U lv i b)(w:af)(h:DM w bm kv rv pv kl rl pl l)(h0:0<rl.length):
  Calls prog 198 #[.pointer (some (aC bm 5))] w (ZE I U rl.length w):=by
 obtain ⟨a2,rc,aU⟩:=ax h.rt;have ab:=h.c6;rw [aU] at ab;have aW:=h.rn;have aV:∀w,(Instr.makeSlice 29 (ar (rl.length:Int)) (ar (rl.length:Int))).run prog w=.ok (aw (some (aN w.heap.size)) rl.length rl.length) (w.alloc (.cells (madeCells #[ar 0] rl.length) 3)):=fun w=>run_make_row' 29 3 (ar 0) 8 underlying29 Tryz.infoInt rfl .i64 .i64 rl.length ai ai w
 have az:=(show aL (w.alloc (.cells (madeCells #[ar 0] rl.length) 3)) w.heap.size (CF (List.replicate rl.length 0)).toArray 3 from by
  have e:madeCells #[ar 0] rl.length=(CF (List.replicate rl.length 0)).toArray:=by
   apply Array.ext_getElem?;intro i
   by_cases hi:i<rl.length
   .simp [madeCells,CF,hi,Nat.mod_one]
   simp [madeCells,CF,hi]
  rw [e];exact aL.new w _ _)
 have ay:=(aA w.heap.size w).alloc aH (.cells (madeCells #[ar 0] rl.length) 3);go_enter func198,ntmps198;go_wp2_with fail;generalize w.alloc (.cells (madeCells #[ar 0] rl.length) 3)=W at*
 go_loopg [4] (2*ZC I rl.length (List.replicate rl.length 0)+2) (fun k ac wr=>∃(b:Bool)(lv:List Nat),ac=.bool b/\an w wr/\aL wr w.heap.size (CF lv).toArray 3/\(lv.length=rl.length/\(∀j,lv.getD j 0<=I j)/\(b=false->∀j,j<rl.length->U lv j (lv.getD j 0))/\2*ZC I rl.length lv+(if b then 1 else 0)<k))
 .exact ⟨true,_,rfl,ay,az,ak ⟨au,(fun j=>by
  rw [ey,List.getElem?_replicate]
  split<;>simp),(fun e=>by cases e),au⟩⟩
 .obtain ⟨b,lv,rfl,D,Q,J⟩:=hrel
  cases b with
  |false=>
   have aB:=xu Q (by unfold CF maxLen;rw [bO,J.1];omega);go_wp2;go_ret;refine ⟨w.heap.size,lv,rfl,D,J.1,?_,J.2.1,J.2.2.1 (by first|rfl|trivial)⟩;have:=aB;have e:(CF lv).length=rl.length:=by unfold CF;rw [bO,J.1]
   rw [e] at this;exact this
  |true=>
   go_wp2_with fail
   go_loopw [4,5] (fun ac ad ap=>∃(b:Bool)(i:Nat)(A:List Nat),ac=.bool b/\ad=ar i/\i<=rl.length/\an w ap/\aL ap w.heap.size (CF A).toArray 3/\(ZD I rl.length U lv A b i)) (fun _ ad _=>rl.length-(intOf ad).toNat)
   .exact ⟨false,0,lv,rfl,rfl,ai,D,Q,ak ⟨J.1,J.2.1,(fun _=>⟨rfl,fun j al=>ai⟩),(fun e=>by cases e)⟩⟩
   obtain ⟨b,i,A,rfl,rfl,hi,D,Q,C⟩:=hrel
   by_cases Z:i<rl.length
   .have aS:(i:Int)<(rl.length:Int):=by omega
    obtain ⟨X,ah⟩:∃X,rl[i]? =some X:=⟨_,aI Z⟩;obtain ⟨R,aK,aM,aO⟩:=aJ (aw (some (aN w.heap.size)) rl.length rl.length) A i X C.len C.le ah;have am:=xu Q (by unfold CF maxLen;rw [bO,C.len];omega);have aG:(CF A).length=rl.length:=by unfold CF;rw [bO,C.len]
    rw [aG] at am;have av:=aK wr (h.below D) (by rw [C.len];exact am);obtain ⟨a3,a4,aT,aZ,a0,a1,r3⟩:=(h.below D).rat i X ah;have ab:=(h.below D).c6;rw [aT] at ab;go_wp2_with fail;refine av.mono ?_;rintro e w1 ⟨rfl,aj⟩;have ae:=D.trans (aj.mono D.size);have V:=Q.below aj;have aR:i<A.length:=by rw [C.len];exact Z
    have aY:w1.cell? (aC w.heap.size i)=some (ar (A.getD i 0:Nat)):=V.cell (by
     unfold CF;simp [ey,aR])
    have fz:=V.fz;have aF:=(show aL (w1.setCell (aC w.heap.size i) (ar (R:Nat))) w.heap.size (CF (A.set i R)).toArray 3 from by
     have:=V.set i (ar (R:Nat));unfold CF at this ⊢;rw [pM]
     simpa using this)
    have aE:=ae.setCell (p:=⟨w.heap.size,i,none⟩) aH (ar (R:Nat))
    by_cases aQ:A.getD i 0<R
    .have Y:=C.up Z aQ aM;have aP:((A.getD i 0:Nat):Int)<(R:Int):=ai;generalize A.getD i 0=lo at*;go_wp2_with fail;exact ⟨⟨true,i+1,_,rfl,by go_num,ai,aE,aF,Y⟩,by simp [intOf];omega⟩
    have Y:=C.same ((aO _).1 ai);have aP:¬(((A.getD i 0:Nat):Int)<(R:Int)):=ai;generalize A.getD i 0=lo at*;go_wp2_with fail;exact ⟨⟨b,i+1,A,rfl,by go_num,ai,ae,V,Y⟩,by simp [intOf];omega⟩
   obtain rfl:i=rl.length:=ai;have aS:¬((rl.length:Int)<(rl.length:Int)):=ai;go_wp2
   go_roundg (2*ZC I rl.length A+(if b then 1 else 0)+1)
   case measure=>
    have h1:=J.2.2.2
    cases b with
    |false=>simp at h1 ⊢;rw [(C.no rfl).1];omega
    |true=>have:=C.yes rfl;simp at h1 ⊢;omega
   case rel=>exact ⟨b,A,rfl,D,Q,ak ⟨C.len,C.le,(fun e j al=>by rw [(C.no e).1];exact (C.no e).2 j al),ai⟩⟩
end
def Tryz.info2s:(Tryz.prog.info? 382).map (fun i=>(i.zero,i.size,i.bytes))=some (some (.agg #[aj ⟨#[]⟩,aj ⟨#[]⟩]),2,32):=by kernel_rfl
def eP(th:List (ae×ae))(x n:ae):List (ae×ae):=if xj th x n<0 then th++[(x,n)] else th
variable {x:ae}
def iA{th n}:(xj th x n= -1/\(x,n)∉th)\/∃m:Nat,xj th x n=m/\th[m]? =some (x,n):=by
 unfold xj
 cases A:th.findIdx? (fun p=>eqs p.1 x&&eqs p.2 n) with
 |none=>
  rw [pj] at A;refine .inl ⟨rfl,fun C=> ?_⟩;have:=A _ C;rw [(bz _ _).2 rfl,(bz _ _).2 rfl] at this
  cases this
 |some i=>
  obtain ⟨hi,h,_⟩:=kV.1 A;rw [bP,bz,bz] at h;exact .inr ⟨i,rfl,by rw [aI hi];congr 1;exact Prod.ext h.1 h.2⟩
def lQ{th n}:(x,n)∈eP th x n/\∀p∈th,p∈eP th x n:=by
 unfold eP
 rcases iA (th:=th) (x:=x) (n:=n) with ⟨e,_⟩|⟨m,e,C⟩
 .rw [if_pos ai];exact ⟨au,fun p A=>mF _ A⟩
 rw [if_neg ai];exact ⟨bG C,fun p A=>A⟩
def n8{th n}:(eP th x n).length<=th.length+1:=by
 unfold eP
 split<;>simp
def Cp{th n}(h:th.Nodup):(eP th x n).Nodup:=by
 unfold eP
 rcases iA (th:=th) (x:=x) (n:=n) with ⟨e,C⟩|⟨m,e,C⟩
 .rw [if_pos ai,sm];exact ⟨h,au,fun a ha b A e=>by rw [aX] at A;subst A;subst e;exact C ha⟩
 rw [if_neg ai];exact h
def Tp(B b:Nat)(c0 c1 c2 h:ag)(th:List (ae×ae))(w:af)(e:Ending)(w':af):Prop:=e=bj (.tuple #[])/\∃gv,aL w' b #[c0,c1,c2,gv,h] 351/\w'.ownsRow B 382 2 gv th.length (th.flatMap NB)/\Below B w w'
def xw(B b c0 c1 c2 c4 gv th x n w)(D:aL w b #[c0,c1,c2,gv,c4] 351)(I:w.ownsRow B 382 2 gv th.length (th.flatMap NB))(az:th.length<=900)(am:B<=b):
  Calls prog 197 #[bc b,aj x,aj n] w (Tp B b c0 c1 c2 c4 (eP th x n) w):=by
 have C:=xk b c0 c1 c2 c4 gv th x n w D (bn I (gS _)) ai;obtain ⟨ga,gc,rfl⟩:=ax I;have av:w.cell? (aC b 3)=some (aw ga th.length gc):=D.cell rfl;have aB:=D.lt;have ar:=iA (th:=th) (x:=x) (n:=n);have Q:=ak (show eP th x n=if xj th x n<0 then th++[(x,n)] else th from rfl);generalize eP th x n=V at*;generalize xj th x n=tn at*;go_enter func197,ntmps197;go_wp2_with fail;refine C.mono ?_;rintro e w1 ⟨rfl,af⟩;rw [af];clear af w1 C
 by_cases ad:tn<0
 .have R:V=th++[(x,n)]:=by rw [Q.u,if_pos ad]
  have ah:=ak R;clear R Q;go_wp2_with (at_builtin;go_must (refine ez rfl underlying348 Tryz.info2s B (I.alloc _) w.heap.size 1 [aj x,aj n] (w.heap.size+1) ?uQ))
  case uQ=>
   intro Z Y ac ae ab al an;have U:=I.alloc (.cells #[aj x,aj n] 382);have J:=D.alloc (.cells #[aj x,aj n] 382);have A:aL ac b #[c0,c1,c2,aw ga th.length gc,c4] 351:=(ab.block b J.lt (own_ne U J ay)).trans J;have au:=A.fz;have k3:ac.cell? (aC b 3)=some (aw ga th.length gc):=A.cell rfl;have ag:=(show Tp B b c0 c1 c2 c4 V w (bj (.tuple #[])) (ac.setCell (aC b 3) (aw (some (aN Z)) (th.length+1) Y)) from by
    refine ⟨rfl,aw (some (aN Z)) (th.length+1) Y,A.set 3 _,?_,?_⟩
    .rw [ah.u];have:=mI ae A ay 3 (aw (some (aN Z)) (th.length+1) Y)
     simpa [NB] using this
    exact (cA ((aA B w).alloc ai (.cells #[aj x,aj n] 382)) ab aS (fun q ap=>(U.lt q ap).1)).setCell (p:=⟨b,3,none⟩) am _)
   clear U J ae ab al an A;go_wp2;go_end0;exact ag
 .have R:V=th:=by rw [Q.u,if_neg ad]
  subst R;clear Q;go_wp2;go_end0;exact ⟨rfl,_,D,I,aA _ _⟩
def p9(th:List (ae×ae))(ss:List ae):List (ae×ae):=ss.foldl (fun th s=>eP (eP th (tt s).kind (tt s).id) (tt s).sub (tt s).who) th
def Cr:∀(ss:List ae) (th:List (ae×ae)),(p9 th ss).length<=th.length+2*ss.length
 | [],th=>by simp [p9]
 |s::ss,th=>by
  have:=Cr ss (eP (eP th (tt s).kind (tt s).id) (tt s).sub (tt s).who);have h1:=n8 (th:=th) (x:=(tt s).kind) (n:=(tt s).id);have h2:=n8 (th:=eP th (tt s).kind (tt s).id) (x:=(tt s).sub) (n:=(tt s).who);unfold p9 at this ⊢;rw [nG];simp only [List.length_cons];omega
def Tq(th ss s):p9 th (ss++[s])=eP (eP (p9 th ss) (tt s).kind (tt s).id) (tt s).sub (tt s).who:=by simp [p9]
structure GwI(B:Nat)(W wr:af)(b y:Nat)(kd who:ae)(yv:ag)(th:List (ae×ae)):Prop where
 ex:∃gv,aL wr b #[bc y,aj kd,aj who,gv,yv] 351/\wr.ownsRow B 382 2 gv th.length (th.flatMap NB)
 low:Below B W wr
def Tryz.infoBo:(Tryz.prog.info? 4).map (fun i=>(i.zero,i.size,i.bytes))=some (some (.bool false),1,1):=by kernel_rfl
def Tryz.infoBs:(Tryz.prog.info? 353).map (fun i=>(i.zero,i.size,i.bytes))=some (some (aw none 0 0),1,24):=by kernel_rfl
def YwI(B:Nat)(W wr:af)(b y:Nat)(kd who:ae)(th:List (ae×ae))(r:Nat):Prop:=∃(gv yv:ag)(bs:List Nat),aL wr b #[bc y,aj kd,aj who,gv,yv] 351/\wr.ownsRow B 382 2 gv th.length (th.flatMap NB)/\wr.ownsRow B 353 1 yv r (bs.map fun q=>aw (some (aN q)) th.length th.length)/\bs.length=r/\(∀q∈bs,B<=q/\yf wr q th.length (fun _=>false) 4)/\bs.Nodup/\Below B W wr
variable {B b g5 bf:Nat} {W w5:af} {kd:ae} {gv:ag}
def Ts{C:af}{y:Nat}{who:ae}{th:List (ae×ae)}{r:Nat}{yv:ag}{bs:List Nat}{mc:Array ag}(ap:aL C b #[bc y,aj kd,aj who,gv,yv] 351)(Y:C.ownsRow B 382 2 gv th.length (th.flatMap NB))(aI:C.ownsRow B 353 1 yv r (bs.map fun q=>aw (some (aN q)) th.length th.length))(ar:bs.length=r)(ah:∀q∈bs,B<=q/\yf C q th.length (fun _=>false) 4)(aF:bs.Nodup)(az:Below B W C)(an:B<=b)(ac:B<=C.heap.size)(aE:madeCells #[.bool false] th.length=mc)
  (Q:((C.alloc (.cells mc 4)).alloc (.cells #[aw (some (aN C.heap.size)) th.length th.length] 353)).drew.grownBy w5 yv.ownBlock) (aG:w5.ownsRow B 353 1 (aw (some (aN g5)) (r+1) bf) (r+1) ((bs.map fun q=>aw (some (aN q)) th.length th.length)++[aw (some (aN C.heap.size)) th.length th.length])):
  YwI B W (w5.setCell (aC b 4) (aw (some (aN g5)) (r+1) bf)) b y kd who th (r+1):=by
 have A:=((aA C.heap.size C).alloc aH (.cells mc 4)).alloc au (.cells #[aw (some (aN C.heap.size)) th.length th.length] 353) |>.drew;have I:=cQ ((aI.alloc (.cells mc 4)).alloc (.cells #[aw (some (aN C.heap.size)) th.length th.length] 353));have R:=ap.below A;have J:aL w5 b _ 351:=(Q.block b R.lt (own_ne I R ay)).trans R;have U:aL ((C.alloc (.cells mc 4)).alloc (.cells #[aw (some (aN C.heap.size)) th.length th.length] 353)).drew C.heap.size mc 4:=((aL.new C mc 4).alloc _).drew;have Z:aL w5 C.heap.size mc 4:=(Q.block _ U.lt (own_ne I U ay)).trans U;have e:mc=((IG th.length (fun _=>false)).map Value.bool).toArray:=by
  rw [<-aE];apply Array.ext_getElem?;intro i
  by_cases hi:i<th.length
  .simp [madeCells,IG,hi,Nat.mod_one]
  simp [madeCells,IG,hi]
 have ak:Below B C w5:=cA (A.mono ac) Q aS (fun q D=>(I.lt q D).1);refine ⟨gv,aw (some (aN g5)) (r+1) bf,bs++[C.heap.size],J.set 4 _,?_,?_,by simp [ar],fun q D=> ?_,?_,(az.trans ak).setCell (p:=⟨b,4,none⟩) an _⟩
 .exact mI (cH (aB Y A) (fun g cs f av ax=>Q.block g (lt_of_some ax) (fun e=>by
   obtain ⟨m,c,e1⟩:=oF (aB Y A) av;obtain ⟨aO,aJ,am⟩:=oF I e.symm;have ai:=aB Y A;rw [e1] at ai;obtain ⟨aK,b1,_⟩:=dF ai;rw [am] at I;obtain ⟨aM,al,_⟩:=dF I;exact sR b1 al ay rfl))) J ay 4 _
 .rw [cK];exact mI aG J ay 4 _
 .rcases aW.1 D with D|D
  .obtain ⟨h1,h2⟩:=ah q D;have V:aL _ q _ 4:=(h2.below A);have ab:aL w5 q _ 4:=(Q.block q V.lt (own_ne I V ay)).trans V;exact ⟨h1,aL.other ab (sR ab J ay) _⟩
  rw [aX] at D;subst D;refine ⟨ac,aL.other (by rw [<-e];exact Z:aL w5 C.heap.size ((IG th.length (fun _=>false)).map Value.bool).toArray 4) (sR Z J ay) _⟩
 .rw [sm];refine ⟨aF,au,fun a ha b ad e=> ?_⟩;rw [aX] at ad;subst ad;subst e;have:=(ah _ ha).2.lt;omega
def uu:∀(ss:List ae) (th:List (ae×ae)) (p:ae×ae),p∈th->p∈p9 th ss
 | [],th,p,h=>h
 |s::ss,th,p,h=>uu ss _ p (lQ.2 _ (lQ.2 _ h))
inductive mS(g:GP)(lv:List Nat)(bd:Nat->Ex)(n:Nat)(K0:Nat->Nat->Bool):(Nat->Nat->Bool)->Prop
 |nil:mS g lv bd n K0 K0
 |up {K:Nat->Nat->Bool} {r k:Nat} {X:RV} {q:ae×ae}:mS g lv bd n K0 K->g.rl[r]? =some X->g.th[k]? =some q->lv[r]? =some n->q.1=X.kd->ll g K X k q.2 (bd r)=true->mS g lv bd n K0 (Ch K r k)
inductive tW(g:GP)(lv:List Nat)(bd:Nat->Ex):Nat->(Nat->Nat->Bool)->Prop
 |zero:tW g lv bd 0 (fun _ _=>false)
 |succ {n:Nat} {K0 K:Nat->Nat->Bool}:tW g lv bd n K0->mS g lv bd n K0 K->ZA g lv bd n K->tW g lv bd (n+1) K
variable {w w':af} {n:Nat} {xs:List ag}
def Wo{g K tV}(A:GI w g K)(h:w.ownsRow 0 3 1 tV n xs)(C:bK (fun k=>k∈g.bs) w w'):w'.ownsRow 0 3 1 tV n xs:=
 cH h (fun q cs f J D=>C.block q (lt_of_some D) (fun I=>by
  obtain ⟨m,c,e1⟩:=oF h J;rw [e1] at h;obtain ⟨R,b1,_⟩:=dF h;obtain ⟨r,Q,e⟩:=dB I;exact sR b1 (A.yb r q (by rw [<-e];exact aI Q)) ay rfl))
structure XZ(g:GP)(b y bm:Nat)(kl:List (ae×Nat))(rl:List RV)(pl:List PV)(l:List PX)(ss:List ae)(th:List (ae×ae))(kd who:ae):Prop where
 b:g.b=b
 y:g.y=y
 bm:g.bm=bm
 kl:g.kl=kl
 rl:g.rl=rl
 pl:g.pl=pl
 l:g.l=l
 ss:g.ss=ss
 th:g.th=th
 kd:g.kd=kd
 who:g.who=who
def ZF(ρ:Nat->Nat)(h:List Nat->Nat->Nat->Prop)(bd:Nat->Ex)(y bm:Nat)(kl:List (ae×Nat))(rl:List RV)(pl:List PV)(l:List PX)(ss:List ae)(kd who id:ae)(rel:Nat)(X:RV)(w:af)(e:Ending)(w':af):Prop:=∃g lv K m,e=bj (.bool (K rel m))/\an w w'/\XZ g (w.heap.size+1) y bm kl rl pl l ss (p9 (eP [] X.kd id) ss) kd who/\xj (p9 (eP [] X.kd id) ss) X.kd id=(m:Nat)/\m<(p9 (eP [] X.kd id) ss).length/\lv.length=rl.length/\(∀j,lv.getD j 0<=ρ j)/\(∀j,j<rl.length->h lv j (lv.getD j 0))/\tW g lv bd (rl.length+1) K
def IU(ρ Bd bd)(y bm:Nat)(tv kv rv pv kl rl pl l ss kd who id)(rel:Nat)(X w)(aO:DU w y (.pointer (some (aC bm 5))) tv ss)(ah:DM w bm kv rv pv kl rl pl l)(bJ:∃cs,aL w bm cs 252)(a5:rl[rel]? =some X)(dn:ss.length<=24)(cP:∀j,ρ j<=10000)(ck:∀(tV:ag)(lv:List Nat)(i:Nat)(X:RV),lv.length=rl.length->(∀j,lv.getD j 0<=ρ j)->rl[i]? =some X->∃R,Ur bm kv rv pv kl rl pl l tV lv i X.ex 0 R/\R<=ρ i/\∀b,R<=b↔Bd lv i b)(co:∀g,XZ g (w.heap.size+1) y bm kl rl pl l ss (p9 (eP [] X.kd id) ss) kd who->∀av r k X q,g.rl[r]? =some X->g.th[k]? =some q->Te g av r k X.ex (ll g av X k q.2 (bd r))):
  Calls prog 138 #[bc y,aj kd,aj who,.agg #[ar rel,aj id]] w (ZF ρ Bd bd y bm kl rl pl l ss kd who id rel X w):=by
 have bw:=(aA w.heap.size w).alloc aH (.cells #[ar rel,aj id] 270);have aJ:=bw.alloc bw.size (.cells #[bc y,aj kd,aj who,aw none 0 0,aw none 0 0] 351);have aV:=(aL.new w #[ar rel,aj id] 270).alloc (.cells #[bc y,aj kd,aj who,aw none 0 0,aw none 0 0] 351);have bh:=aL.new' (w.alloc (.cells #[ar rel,aj id] 270)) #[bc y,aj kd,aj who,aw none 0 0,aw none 0 0] 351 (w.heap.size+1) au;have aF:=aO.below aJ;have bi:=ah.below aJ;have dm:=ah.rn;have cK:=(bD.1 a5).1;have dk:(rel:Int)<(rl.length:Int):=ai;have dv:=aO.blk.lt;have b4:=(show ∀(A n c:Nat),tv=aw (some (aN A)) n c->A<w.heap.size from fun A n c e=>by
  have a9:=aO.row;rw [e] at a9;obtain ⟨cY,V,_⟩:=dF a9;exact V.lt)
 have dg:bm<w.heap.size:=by obtain ⟨cs,h⟩:=bJ;exact h.lt
 obtain ⟨ap,rc,bL,be,cR,cS,dA⟩:=ah.rat rel X a5;have dj:ap<w.heap.size:=World.block_lt_of_cell? w ⟨ap,rel*4,none⟩ be;have c2:=am be aJ;go_enter func138,ntmps138
 go_upto_region 2 with fail
 generalize (w.alloc (.cells #[ar rel,aj id] 270)).alloc (.cells #[bc y,aj kd,aj who,aw none 0 0,aw none 0 0] 351)=W at*;obtain ⟨B,c4⟩:∃B,B=w.heap.size+1:=⟨_,rfl⟩;have c8:B<=W.heap.size:=by have:=bh.lt;omega
 have c0:W.cell? (aN y)=some (.pointer (some (aC bm 5))):=aF.blk.cell rfl;have c1:=bi.c6;rw [bL] at c1;have c3:W.cell? (aN w.heap.size)=some (ar rel):=aV.cell rfl;have bx:W.cell? (aC w.heap.size 1)=some (aj id):=aV.cell rfl;have a0:=fun (w':af) (V:an W w')=>xw B (w.heap.size+1) (bc y) (aj kd) (aj who) (aw none 0 0) (aw none 0 0) [] X.kd id w' (bh.below V) (bQ) au ai
 have az:=aA W.heap.size W
 go_region_held3 (fun w'=>w'.cell? (aN y)=some (.pointer (some (aC bm 5)))/\w'.cell? (aC bm 6)=some (aw (some (aN ap)) rl.length rc)/\w'.cell? (aC ap (rel*4))=some (aj X.kd)/\w'.cell? (aN w.heap.size)=some (ar rel)/\w'.cell? (aC w.heap.size 1)=some (aj id)) (go_keep)
  ((go_at_call 197;refine (a0 _ ((cq az):an W _)).mono ?_;rintro e w1 ⟨rfl,ae⟩;have cd:=ae;obtain ⟨_,_,_,aM⟩:=ae;have J:=(ld (((cq az):an W _).mono ai:Below B W _) aM:Below B W w1);have d0:=(J.cell (p:=⟨y,0,none⟩) (show y<B by omega)).trans c0;have d1:=(J.cell (p:=⟨bm,6,none⟩) (show bm<B by omega)).trans c1;have d2:=(J.cell (p:=⟨ap,rel*4,none⟩) (show ap<B by omega)).trans c2;have d3:=(J.cell (p:=⟨w.heap.size,0,none⟩) (show w.heap.size<B by omega)).trans c3;have d4:=(J.cell (p:=⟨w.heap.size,1,none⟩) (show w.heap.size<B by omega)).trans bx))
 have b6:=(show GwI B W w1 (w.heap.size+1) y kd who (aw none 0 0) (p9 (eP [] X.kd id) (ss.take 0)) from by
  obtain ⟨gv,a2,a3,_⟩:=aE cd;exact ⟨⟨gv,by simpa using a2,by simpa [p9] using a3⟩,J⟩)
 go_wp2_with fail
 go_loopw [10] (fun u wr=>∃i:Nat,i<=ss.length/\u=ar i/\GwI B W wr (w.heap.size+1) y kd who (aw none 0 0) (p9 (eP [] X.kd id) (ss.take i))) (fun u _=>ss.length-(intOf u).toNat)
 .exact ⟨0,ai,rfl,b6⟩
 .obtain ⟨i,hi,rfl,cl⟩:=hrel;obtain ⟨⟨gv,Y,al⟩,D⟩:=cl;obtain ⟨ta,bO,ba⟩:=ax aF.row;have cT:W.cell? (aC y 1)=some tv:=aF.blk.cell rfl;have c0:wr.cell? (aC y 1)=some tv:=(D.cell (p:=⟨y,1,none⟩) (show y<B by omega)).trans cT;rw [ba] at c0
  by_cases bF:i<ss.length
  .have cz:(i:Int)<(ss.length:Int):=by omega
   obtain ⟨A,tc,e1,hc⟩:=bo JN 7 (fun _=>rfl) aF.row i ss[i] (aI bF);rw [ba] at e1;simp only [aK,bY] at e1;obtain ⟨rfl,rfl⟩:=e1;have dp:A<w.heap.size:=b4 A _ _ ba;have bv:=(by rw [cD bF,Tq]:p9 (eP [] X.kd id) (ss.take (i+1))=eP (eP (p9 (eP [] X.kd id) (ss.take i)) (tt ss[i]).kind (tt ss[i]).id) (tt ss[i]).sub (tt ss[i]).who);have dq:=Cr (ss.take i) (eP [] X.kd id);have cN:=n8 (th:=[]) (x:=X.kd) (n:=id);have dr:(ss.take i).length<=24:=by rw [dZ];omega
   have f0:=(D.cell (p:=⟨A,i*7+0,none⟩) (show A<B by omega)).trans (hc 0 _ ai rfl);have f1:=(D.cell (p:=⟨A,i*7+1,none⟩) (show A<B by omega)).trans (hc 1 _ ai rfl);have f3:=(D.cell (p:=⟨A,i*7+3,none⟩) (show A<B by omega)).trans (hc 3 _ ai rfl);have f4:=(D.cell (p:=⟨A,i*7+4,none⟩) (show A<B by omega)).trans (hc 4 _ ai rfl);rw [nZ] at f0;unfold tt at bv;generalize p9 (eP [] X.kd id) (ss.take i)=C at*;simp only [List.length_nil] at cN;have cp:C.length<=60:=ai;generalize (b8 ss[i]).1=T at*;obtain ⟨Q,a4⟩:∃z,z=wr:=⟨_,rfl⟩;subst a4;have bN:=D.size;have a0:=fun (w':af) (V:an Q w')=>xw B (w.heap.size+1) (bc y) (aj kd) (aj who) (aw none 0 0) gv C T.kind T.id w' (Y.below V) (aB al V) ai ai
   have az:=aA Q.heap.size Q;have bM:B<=Q.heap.size:=ai
   go_upto_region 6 with fail
   go_region_held3 (fun w'=>w'.cell? (aC y 1)=some (aw (some (aN A)) ss.length bO)/\w'.cell? (aC A (i*7))=some (aj T.kind)/\w'.cell? (aC A (i*7+1))=some (aj T.id)) (go_keep)
    ((go_at_call 197;refine (a0 _ ((cq az):an Q _)).mono ?_;rintro e ac ⟨rfl,ae⟩;have ce:=ae;obtain ⟨_,_,_,aM⟩:=ae;have J:=(ld (((cq az):an Q _).mono ai:Below B Q _) aM:Below B Q ac);have d0:=(J.cell (p:=⟨y,1,none⟩) (show y<B by omega)).trans c0;have d1:=(J.cell (p:=⟨A,i*7,none⟩) (show A<B by omega)).trans f0;have d2:=(J.cell (p:=⟨A,i*7+1,none⟩) (show A<B by omega)).trans f1))
   obtain ⟨ci,cw,cL,_⟩:=aE ce;have ds:=J.size;have b3:=D.trans J;have d3:=(J.cell (p:=⟨A,i*7+3,none⟩) (show A<B by omega)).trans f3;have d4:=(J.cell (p:=⟨A,i*7+4,none⟩) (show A<B by omega)).trans f4;have da:=n8 (th:=C) (x:=T.kind) (n:=T.id);have cV:=(⟨_,rfl⟩:∃cg,cg=eP C T.kind T.id);generalize c9:eP C T.kind T.id=ch at*;have bS:=fun (w':af) (V:an ac w')=>xw B (w.heap.size+1) (bc y) (aj kd) (aj who) (aw none 0 0) ci ch T.sub T.who w' (cw.below V) (aB cL V) ai ai
   have bg:=aA ac.heap.size ac;have dt:B<=ac.heap.size:=ai
   go_upto_region 7 with fail
   go_region_held3 (fun w'=>w'.cell? (aC y 1)=some (aw (some (aN A)) ss.length bO)/\w'.cell? (aC A (i*7+3))=some (aj T.sub)/\w'.cell? (aC A (i*7+4))=some (aj T.who)) (go_keep)
    ((go_at_call 197;refine (bS _ ((cq bg):an ac _)).mono ?_;rintro e bP ⟨rfl,ae⟩;have cf:=ae;obtain ⟨_,_,_,aM⟩:=ae;have J:=(ld (((cq bg):an ac _).mono ai:Below B ac _) aM:Below B ac bP);have d0:=(J.cell (p:=⟨y,1,none⟩) (show y<B by omega)).trans d0;have d1:=(J.cell (p:=⟨A,i*7+3,none⟩) (show A<B by omega)).trans d3;have d2:=(J.cell (p:=⟨A,i*7+4,none⟩) (show A<B by omega)).trans d4))
   have b7:=(show GwI B W bP (w.heap.size+1) y kd who (aw none 0 0) (p9 (eP [] X.kd id) (ss.take (i+1))) from by
    obtain ⟨cj,a2,a3,_⟩:=aE cf;rw [bv];exact ⟨⟨cj,a2,a3⟩,b3.trans J⟩)
   go_wp2_with fail;exact ⟨⟨i+1,ai,by go_num,b7⟩,by simp [intOf];omega⟩
  obtain rfl:i=ss.length:=ai;have cz:¬((ss.length:Int)<(ss.length:Int)):=ai;have dd:=Cr ss (eP [] X.kd id);have cB:=n8 (th:=[]) (x:=X.kd) (n:=id);simp only [List.length_nil] at cB;rw [km] at al;have b5:=(show ∃m:Nat,xj (p9 (eP [] X.kd id) ss) X.kd id=m/\m<(p9 (eP [] X.kd id) ss).length from by
   rcases iA (th:=p9 (eP [] X.kd id) ss) (x:=X.kd) (n:=id) with h|⟨m,h1,h2⟩
   .exact (h.2 (uu _ _ _ lQ.1)).elim
   exact ⟨m,h1,(bD.1 h2).1⟩)
  generalize cr:p9 (eP [] X.kd id) ss=C at*;have cp:C.length<=60:=ai;have bN:=D.size;have b9:=(⟨gv,aw none 0 0,[],Y,al,bQ,rfl,(fun q aP=>by cases aP),List.nodup_nil,D⟩:YwI B W wr (w.heap.size+1) y kd who C 0);go_wp2_with fail
  go_loopw [11] (fun u ad=>∃r:Nat,r<=rl.length/\u=ar r/\YwI B W ad (w.heap.size+1) y kd who C r) (fun u _=>rl.length-(intOf u).toNat)
  .exact ⟨0,ai,rfl,b9⟩
  obtain ⟨r,a9,rfl,ct⟩:=hrel;obtain ⟨gv,yv,bs,Y,al,aY,a6,a7,bK,D⟩:=ct;have c0:wr.cell? (aN y)=some (.pointer (some (aC bm 5))):=(D.cell (p:=⟨y,0,none⟩) (show y<B by omega)).trans (aF.blk.cell rfl);have c1:wr.cell? (aC bm 6)=some (aw (some (aN ap)) rl.length rc):=(D.cell (p:=⟨bm,6,none⟩) (show bm<B by omega)).trans (by have:=bi.c6;rw [bL] at this;exact this);have bN:=D.size;have bM:B<=wr.heap.size:=ai;obtain ⟨ga,gc,cy⟩:=ax al;obtain ⟨aQ,aR,bb⟩:=ax aY;subst cy;subst bb
  by_cases dl:r<rl.length
  .have cI:(r:Int)<(rl.length:Int):=by omega
   obtain ⟨Q,a4⟩:∃z,z=wr:=⟨_,rfl⟩;subst a4;have cW:Q.cell? (aC (w.heap.size+1) 3)=some (aw ga C.length gc):=Y.cell rfl;have cX:Q.cell? (aC (w.heap.size+1) 4)=some (aw aQ r aR):=Y.cell rfl;have df:∀w,(Instr.makeSlice 353 (ar (C.length:Int)) (ar (C.length:Int))).run prog w=.ok (aw (some (aN w.heap.size)) C.length C.length) (w.alloc (.cells (madeCells #[.bool false] C.length) 4)):=fun w=>run_make_row' 353 4 (.bool false) 1 underlying353 Tryz.infoBo rfl .i64 .i64 C.length ai ai w
   have bV:=a6
   go_upto_region 11 with fail
   generalize cE:madeCells #[.bool false] C.length=mc at*;have a6:=Y.lt;have cZ:(Q.alloc (.cells mc 4)).cell? (aC (w.heap.size+1) 4)=some (aw aQ r aR):=(Y.alloc _).cell rfl;have f4:((Q.alloc (.cells mc 4)).alloc (.cells #[aw (some (aN Q.heap.size)) C.length C.length] 353)).cell? (aC (w.heap.size+1) 4)=some (aw aQ r aR):=((Y.alloc _).alloc _).cell rfl
   go_region_law (refine AC rfl underlying349 Tryz.infoBs B (cQ ((aY.alloc _).alloc _)) (((Y.alloc (.cells mc 4)).alloc (.cells #[aw (some (aN Q.heap.size)) C.length C.length] 353)).drew) (Q.heap.size+1) 1 [aw (some (aN Q.heap.size)) C.length C.length] (Q.heap.size+2) ?_;intro g5 bf w5 cH cx db dc aW;have cS:w5.cell? (aC (w.heap.size+1) 4)=some (aw aQ r aR):=aW.cell rfl;have zq:=aW.fz;have cU:=aW;have bU:=cx;have cb:=cH;have dx:=aW.lt)
   all_goals (
    have bW:=(Ts Y al aY bV a7 bK D ai ai cE bU cb:YwI B W (w5.setCell (aC (w.heap.size+1) 4) (aw (some (aN g5)) (r+1) bf)) (w.heap.size+1) y kd who C (r+1));go_wp2_with fail;exact ⟨⟨r+1,ai,by go_num,bW⟩,by simp [intOf];omega⟩)
  obtain rfl:r=rl.length:=ai;have cI:¬((rl.length:Int)<(rl.length:Int)):=ai;have ab:an w wr:=aJ.trans (D.mono ai);obtain ⟨g,a8⟩:∃g:GP,g=⟨w.heap.size+1,y,bm,tv,aw ga C.length gc,aw aQ rl.length aR,kv,rv,pv,kl,rl,pl,l,ss,C,bs,kd,who⟩:=⟨_,rfl⟩;have b0:=(show GI wr g (fun _ _=>false) from by
   rw [a8];exact ⟨Y,aO.below ab,ah.below ab,bn al (gS _),(by show C.length<=1000;omega),bn aY (gS _),a6,(fun r q aP=>(a7 q (bG aP)).2),(by obtain ⟨cs,h⟩:=aE bJ;exact ⟨cs,h.below ab⟩),bK⟩)
  have U:=(by rw [a8];exact ⟨rfl,rfl,rfl,rfl,rfl,rfl,rfl,rfl,rfl,rfl,rfl⟩:XZ g (w.heap.size+1) y bm kl rl pl l ss C kd who);have bZ:=(by rw [a8];exact fun q aP=>(a7 q aP).1:∀q∈g.bs,B<=q);have b2:=co g U;have bR:=IR bm kv rv pv kl rl pl l ρ Bd cP ck wr (ah.below ab) ai;go_wp2_with fail;refine bR.mono ?_;rintro e dD ⟨lb,lv,rfl,bB,cC,ay,cA,cu⟩;have bX:=b0.below bB;have aT:=D.trans (bB.mono bM);have aG:=(⟨cC,cA,cu⟩:lv.length=rl.length/\(∀j,lv.getD j 0<=ρ j)/\(∀j,j<rl.length->Bd lv j (lv.getD j 0)));go_wp2_with fail
  go_loopw [13] (fun u ad=>∃(n:Nat)(K:Nat->Nat->Bool),n<=rl.length+1/\u=ar n/\GI ad g K/\ad.ownsRow 0 3 1 (aw (some (aN lb)) rl.length rl.length) rl.length (CF lv)/\Below B W ad/\(tW g lv bd n K)) (fun u _=>rl.length+1-(intOf u).toNat)
  .exact ⟨0,_,ai,rfl,bX,ay,aT,ak .zero⟩
  obtain ⟨n,K,hn,rfl,Z,ay,D,bt⟩:=hrel
  by_cases di:n<=rl.length
  .have cF:(n:Int)<=(rl.length:Int):=by omega
   go_wp2_with fail
   go_loopg [] (Cm g K+1) (fun k ad=>∃(av:Nat->Nat->Bool),GI ad g av/\ad.ownsRow 0 3 1 (aw (some (aN lb)) rl.length rl.length) rl.length (CF lv)/\Below B W ad/\(mS g lv bd n K av/\Cm g av<k))
   .exact ⟨K,Z,ay,D,ak ⟨.nil,ai⟩⟩
   obtain ⟨K1,Z,ay,D,bu⟩:=hrel;have aS:=Fv g K1 (aw (some (aN lb)) rl.length rl.length) lv bd n (mS g lv bd n K) wr Z (by rw [aG.1];exact ay) (by rw [aG.1,U.rl]) b2 (fun K r k X q h a b c d e=> .up h a b c d e) bu.1;rw [U.b] at aS;have du:=D.size;have aS:=aS;go_wp2_with fail;refine aS.mono ?_;rintro e w5 ⟨a1,more,rfl,bz,bA,bE,dh,cG,cO⟩;have bq:=Wo Z ay bE;have aT:=D.trans (bE.below (B:=B) ai bZ)
   cases more with
   |false=>
    have aU:=cG rfl;go_wp2_with fail;exact ⟨⟨n+1,a1,ai,by go_num,bz,bq,aT,(.succ bt bA (by rw [aU.1];exact aU.2))⟩,by simp [intOf];omega⟩
   |true=>
    have aU:=cO rfl;go_wp2
    go_roundg (Cm g a1+1)
    case measure=>have:=bu.2;have:=aU;omega
    case rel=>exact ⟨a1,bz,bq,aT,ak ⟨bA,ai⟩⟩
  obtain rfl:n=rl.length+1:=ai;have cF:¬(((rl.length+1:Nat):Int)<=(rl.length:Int)):=ai;obtain ⟨m,bH,bI⟩:=aE b5;have ab:an w wr:=aJ.trans (D.mono ai);obtain ⟨aX,bC⟩:∃aX,g.bs[rel]? =some aX:=⟨_,aI (by rw [Z.bl,U.rl];exact cK)⟩;obtain ⟨dG,dE,bb,c1⟩:=aZ Z.yr rel (aw (some (aN aX)) g.th.length g.th.length) (by rw [eo,bC];rfl);have c2:=(Z.yb rel aX bC).cell (i:=m) (by rw [U.th];exact bI);obtain ⟨dy,dz,be,cR,c0⟩:=Z.five;rw [bb,U.b,U.rl] at c0;rw [U.th] at c1;have c3:wr.cell? (aN w.heap.size)=some (ar rel):=(D.cell (p:=⟨w.heap.size,0,none⟩) (show w.heap.size<B by omega)).trans (aV.cell rfl);have bx:wr.cell? (aC w.heap.size 1)=some (aj id):=(D.cell (p:=⟨w.heap.size,1,none⟩) (show w.heap.size<B by omega)).trans (aV.cell rfl);have c5:wr.cell? (aN y)=some (.pointer (some (aC bm 5))):=(aO.below ab).blk.cell rfl;obtain ⟨dB,dC,cM,c7,_,_,_⟩:=(ah.below ab).rat rel X a5;have c6:=(ah.below ab).c6;rw [cM] at c6;have de:(m:Int)<(C.length:Int):=ai;have bT:=(fun (w':af) (V:an wr w')=>show Calls prog 200 #[bc (w.heap.size+1),aj X.kd,aj id] w' (fun e w''=>e=bj (ar (m:Int))/\w''=w') from by
   have I:=Z.below V;have:=xk g.b _ _ _ _ _ g.th X.kd id w' I.blk I.th I.few;rw [U.th,bH,U.b] at this;exact this)
  have bk:=(⟨bH,bI⟩:xj C X.kd id=(m:Nat)/\m<C.length);generalize cm:K rel m=dw at*
  go_upto_region 17 with fail
  go_quiet ((go_at_call 200;exact Calls.quiet_of_same (bT _ aaU)))
  go_wp2;go_ret;subst cr;exact ⟨g,lv,K,m,by rw [cm];rfl,cJ ab _,U,bk.1,bk.2,aG.1,aG.2.1,aG.2.2,bt⟩
def fd(rl:List RV)(s rel:ae):Int×ae×Nat:=if !(db s).2.2|| !bC rel then (0,⟨#[]⟩,2) else if bi (db s).1 rel rl 0<0 then (0,⟨#[]⟩,5) else (bi (db s).1 rel rl 0,(db s).2.1,0)
def xx(y bm tv kv rv pv kl rl pl l ss s rel w)(ag:DU w y (.pointer (some (aC bm 5))) tv ss)(ah:DM w bm kv rv pv kl rl pl l)(hs:s.size<=maxLen):
  Calls prog 135 #[bc y,aj s,aj rel] w fun e w'=>e=bj (.tuple #[.agg #[ar (fd rl s rel).1,aj (fd rl s rel).2.1],ar (fd rl s rel).2.2])/\an w w':=by
 have U:an w (w.alloc (.cells #[ar 0,aj ⟨#[]⟩] 270)):=(aA _ w).alloc aH _;have J:=l8 s (w.alloc (.cells #[ar 0,aj ⟨#[]⟩] 270)) hs;have ac:=fun w=>iL rel w
 have Q:=fun (w':af) (k:an w w')=>ef bm kv rv pv kl rl pl l (db s).1 rel w' (ah.below k)
 have ad:=aL.new w #[ar 0,aj ⟨#[]⟩] 270;have c0:w.cell? (aN y)=some (.pointer (some (aC bm 5))):=ag.blk.cell rfl;obtain ⟨R,A⟩:∃R,R=fd rl s rel:=⟨_,rfl⟩;rw [<-A];unfold fd at A;have C:=A;generalize db s=X at*;obtain ⟨ai,id,ok⟩:=X;simp only at J Q C;generalize bi ai rel rl 0=N at*;generalize bC rel=ak at*;go_enter func135,ntmps135;go_wp2_with fail;refine J.mono ?_;rintro e w1 ⟨rfl,Y⟩;have D:=U.trans (Y.mono U.size);have ae:=ad.below Y;go_wp2_with fail;refine (ac _).mono ?_;rintro e av ⟨rfl,rfl⟩;have c1:=am c0 D;go_wp2_with fail;refine (Q _ D).mono ?_;rintro e ab ⟨rfl,Z⟩;have I:=D.trans (Z.mono D.size);have R3:=ae.below Z;have au:=R3.fz;have al:ab.cell? (aN w.heap.size)=some (ar 0):=R3.cell rfl;have ap:ab.cell? (aC w.heap.size 1)=some (aj ⟨#[]⟩):=R3.cell rfl
 cases ok
 .have A:=C;simp only [nC,rO,if_true] at A;subst A;go_wp2;refine bF (v:=.tuple #[.agg #[ar 0,aj ⟨#[]⟩],ar 2]) (cf results135 _ _ w.heap.size _ 270 _ _ rfl rfl ?hB underlying270 rfl aM) rfl ?post
  case hB=>exact ⟨_,(cZ R3),bL⟩
  case post=>exact ⟨rfl,(cq I)⟩
 .cases ak
  .have A:=C;simp only [nC,mm,Bool.or_true,if_true] at A;subst A;go_wp2;refine bF (v:=.tuple #[.agg #[ar 0,aj ⟨#[]⟩],ar 2]) (cf results135 _ _ w.heap.size _ 270 _ _ rfl rfl ?hB underlying270 rfl aM) rfl ?post
   case hB=>exact ⟨_,(cZ R3),bL⟩
   case post=>exact ⟨rfl,(cq I)⟩
  by_cases V:N<0
  .have A:=C;simp only [mm,mj,bJ,a8,if_pos V] at A;subst A;go_wp2;refine bF (v:=.tuple #[.agg #[ar 0,aj ⟨#[]⟩],ar 5]) (cf results135 _ _ w.heap.size _ 270 _ _ rfl rfl ?hB underlying270 rfl aM) rfl ?post
   case hB=>exact ⟨_,(cZ R3),bL⟩
   case post=>exact ⟨rfl,(cq I)⟩
  have A:=C;simp only [mm,mj,bJ,a8,if_neg V] at A;subst A;go_wp2;refine bF (v:=.tuple #[.agg #[ar N,aj id],ar 0]) (cf results135 _ _ w.heap.size _ 270 _ _ rfl rfl ?hB underlying270 rfl aM) rfl ?post
  case hB=>exact ⟨_,(cZ R3),bL⟩
  case post=>exact ⟨rfl,(cq I)⟩
variable {aD br:Prop}
def Tt (h:aD:=by
 simp only [nC,if_true] at hE;subst hE;clear hS;go_wp2;go_ret2;exact ⟨rfl,B4⟩):aD:=h
def jZ(kl:List (ae×Nat))(rl:List RV)(s rel who:ae):Nat:=if !(db who).2.2 then 2 else if (fd rl s rel).2.2≠0 then (fd rl s rel).2.2 else if !(kl.any fun k=>eqs k.1 (db who).1) then 5 else 0
def uv(rl s rel):(fd rl s rel).2.2<=5:=by
 unfold fd
 split
 .decide
 split
 .exact bV _
 exact gS _
def IV(y bm tv kv rv pv kl rl pl l ss s rel who ans w)(D:DU w y (.pointer (some (aC bm 5))) tv ss)(ac:DM w bm kv rv pv kl rl pl l)(hs:s.size<=maxLen)(ap:who.size<=maxLen)(hS:jZ kl rl s rel who=0->∀w',an w w'->Calls prog 138 #[bc y,aj (db who).1,aj (db who).2.1,.agg #[ar (fd rl s rel).1,aj (fd rl s rel).2.1]] w' fun e w''=>e=bj (.bool ans)/\an w' w''):
  Calls prog 86 #[bc y,aj s,aj rel,aj who] w fun e w'=>e=bj (.tuple #[.bool (jZ kl rl s rel who==0&&ans),ar (jZ kl rl s rel who)])/\an w w':=by
 have J:=fun (w':af) (k:an w w')=>xx y bm tv kv rv pv kl rl pl l ss s rel w' (D.below k) (ac.below k) hs
 have Q:=fun w'=>l8 who w' ap
 have CK:=fun (w':af) (k:an w w')=>s9 bm kv rv pv kl rl pl l (db who).1 w' (ac.below k)
 have c0:w.cell? (aN y)=some (.pointer (some (aC bm 5))):=D.blk.cell rfl;have aK:=D.blk.lt;have ay:=uv rl s rel;obtain ⟨E,hE⟩:∃E,E=jZ kl rl s rel who:=⟨_,rfl⟩;rw [<-hE] at hS ⊢;unfold jZ at hE;generalize fd rl s rel=aw at*;obtain ⟨Y,V,ax⟩:=aw;generalize db who=X at*;obtain ⟨aE,id,ok⟩:=X;simp only at J CK Q hE hS ay;generalize (kl.any fun k=>eqs k.1 aE)=aB at*;clear D ac hs ap;have I:=aA w.heap.size w;go_enter func86,ntmps86;go_wp2_with fail;refine (J _ I).mono ?_;rintro e w1 ⟨rfl,ah⟩;have C:=I.trans ah;have U:=C.alloc C.size (.cells #[ar Y,aj V] 270);have ae:=aL.new w1 #[ar Y,aj V] 270;have aJ:=C.size;have aM:¬(y=w1.heap.size):=ai;clear ah J I C;go_wp2_with fail;refine (Q _).mono ?_;rintro e aO ⟨rfl,Z⟩;have A:=U.trans (Z.mono U.size);have ag:=ae.below Z;have c1:=am c0 A;clear Z Q ae U;go_wp2_with fail;refine (CK _ A).mono ?_;rintro e au ⟨rfl,ab⟩;have B4:=A.trans (ab.mono A.size);have R:=ag.below ab;have aF:au.cell? (aN w1.heap.size)=some (ar Y):=R.cell rfl;have aG:au.cell? (aC w1.heap.size 1)=some (aj V):=R.cell rfl;clear ab CK c0 c1 ag A R
 cases ok
 .exact Tt
 .simp only [mm,bJ,a8] at hE
  by_cases al:ax=0
  .subst al;simp only [ne_eq,not_true,a8] at hE
   cases aB
   .exact Tt
   simp only [mm,bJ,a8] at hE;subst hE;have ad:=hS rfl;clear hS;go_wp2_with fail;refine (ad _ B4).mono ?_;rintro e w5 ⟨rfl,ak⟩;have av:=B4.trans (ak.mono B4.size);clear ak ad B4 aF aG;go_wp2;go_ret2;exact ⟨rfl,av⟩
  simp only [ne_eq,al,not_false_eq_true,if_true] at hE;subst hE;have aI:((E:Int) != 0)=true:=by rw [gV];omega
  have az:(E==0)=false:=by rw [bW];omega
  have aH:((E:Int)==0)=false:=by rw [bW];omega
  clear hS;go_wp2;go_ret2;exact ⟨by rw [az];rfl,B4⟩
def allT(l:List ae)(T:Tu):List ae:=if eqs T.who (sg 42) then mV l ((T.kind++sg 58)++T.id) else mV (mV l ((T.kind++sg 58)++T.id)) ((T.sub++sg 58)++T.who)
def mJ(l:List ae):List ae->List ae
 | []=>l
 |s::ss=>mJ (allT l (tt s)) ss
def Nb(l ss:List ae)(s:ae):mJ l (ss++[s])=allT (mJ l ss) (tt s):=by
 induction ss generalizing l with
 |nil=>rfl
 |cons a ss ih=>exact ih _
def xy(l:List ae)(x:ae):(mV l x).length<=l.length+1:=by
 unfold mV
 split
 .omega
 simp
def Tv(l:List ae)(T:Tu):(allT l T).length<=l.length+2:=by
 unfold allT;have h1:=xy l ((T.kind++sg 58)++T.id);have h2:=xy (mV l ((T.kind++sg 58)++T.id)) ((T.sub++sg 58)++T.who)
 split<;>omega
def Fx(ss l:List ae):(mJ l ss).length<=l.length+2*ss.length:=by
 induction ss generalizing l with
 |nil=>simp [mJ]
 |cons a ss ih=>
  have:=ih (allT l (tt a));have:=Tv l (tt a);simp only [mJ,List.length_cons];omega
def yi(kl:List (ae×Nat)):List ae:=kl.map fun k=>k.1++(⟨#[58,42]⟩:ae)
def xz(kl:List (ae×Nat))(ss:List ae):List ae:=mJ [] ss++yi kl
def KO(st:ae->Bool)(l:List ae):List ae:=l.filter st
def Nc(st:ae->Bool)(kl:List (ae×Nat))(ss:List ae):List ae:=jn (KO st (xz kl ss))
def IW(E:Nat)(L:List ae)(w:af)(e:Ending)(w':af):Prop:=∃v,e=bj (.tuple #[v,ar E])/\an w w'/\w'.ownsRow w.heap.size 9 1 v L.length (dM L)
variable {g:Nat} {wr:af} {v:ag}
def de(h:Below B W wr){o:Nat}(C:g<B)(A:W.cell? (aC g o)=some v):wr.cell? (aC g o)=some v:=(h.cell (p:=⟨g,o,none⟩) C).trans A
def Z9(B:Nat)(W wr:af)(v:ag)(l:List ae):Prop:=Below B W wr/\wr.ownsRow B 9 1 v l.length (dM l)
def Tw(y bm:Nat)(tv kv rv pv:ag)(kl:List (ae×Nat))(rl:List RV)(pl:List PV)(l:List PX)(ss:List ae)(s rel:ae)(st:ae->Bool)(w:af)(aY:DU w y (.pointer (some (aC bm 5))) tv ss)(bw:DM w bm kv rv pv kl rl pl l)(hs:s.size<=maxLen)(dp:ss.length<=24)(ce:∀a∈ss,mD (tt a))(b6:∀k∈kl,k.1.size<=500)(cO:∀a∈xz kl ss,a.size<=maxLen)
  (aW:(fd rl s rel).2.2=0->∀a∈xz kl ss,∀w',an w w'->Calls prog 138 #[bc y,aj (aG a 58).1,aj (aG a 58).2.1,.agg #[ar (fd rl s rel).1,aj (fd rl s rel).2.1]] w' fun e w''=>e=bj (.bool (st a))/\an w' w''):
  Calls prog 90 #[bc y,aj s,aj rel] w (IW (fd rl s rel).2.2 (if (fd rl s rel).2.2=0 then Nc st kl ss else []) w):=by
 have a7:=xx y bm tv kv rv pv kl rl pl l ss s rel w aY bw hs;have b3:=uv rl s rel;have dv:=aY.blk.lt;obtain ⟨aR,bq⟩:∃aR,aR=if (fd rl s rel).2.2=0 then Nc st kl ss else []:=⟨_,rfl⟩
 rw [<-bq];have aO:=ak bq;clear bq;generalize fd rl s rel=cr at*;obtain ⟨av,au,aU⟩:=cr;simp only at a7 aW aO b3 ⊢;clear hs;go_enter func90,ntmps90;go_wp2_with fail;refine a7.mono ?_;rintro e w1 ⟨rfl,ab⟩;have bp:=aL.new w1 #[ar av,aj au] 270;have dk:=ab.size;clear a7
 by_cases b5:¬aU=0
 .have df:((aU:Int) != 0)=true:=by rw [gV];omega
  have dg:((aU:Int)==0)=false:=by rw [bW];omega
  have cl:=ab.alloc ab.size (.cells #[ar av,aj au] 270);clear aW bp;go_wp2;go_ret2;exact ⟨_,rfl,cl,by rw [aE aO,if_neg b5];exact bQ⟩
 .have cP:aU=0:=by omega
  subst cP;have cp:=aW rfl;have cy:=ak (show aR=Nc st kl ss from by rw [aE aO,if_pos rfl]);clear aW b5 b3 aO;have b0:=ab.alloc ab.size (.cells #[ar av,aj au] 270);go_wp2_with fail;obtain ⟨W,aX⟩:∃W,W=(w1.alloc (.cells #[ar av,aj au] 270)):=⟨_,rfl⟩;have ad:=show an w W from aX▸b0
  have aQ:=show aL W w1.heap.size #[ar av,aj au] 270 from aX▸bp
  have dn:=aQ.lt;have du:=ad.size;have ah:=aY.below ad;have al:=bw.below ad;rw [<-aX];clear b0 ab bp aX aY bw;obtain ⟨B,da,db⟩:∃B,B<=W.heap.size/\W.heap.size<=B:=⟨W.heap.size,bV _,bV _⟩;have ci:W.cell? (aN y)=some (.pointer (some (aC bm 5))):=ah.blk.cell rfl;have cj:W.cell? (aC y 1)=some tv:=ah.blk.cell rfl;obtain ⟨ta,ch,cV⟩:=ax ah.row;subst cV;have cw:=show Z9 B W W (aw none 0 0) [] from ⟨aA _ _,bQ⟩
  go_loopw [10,11] (fun bF bG wr=>∃i:Nat,i<=ss.length/\bG=ar i/\Z9 B W wr bF (mJ [] (ss.take i))) (fun _ bG _=>ss.length-(intOf bG).toNat)
  .exact ⟨0,ai,rfl,cw⟩
  obtain ⟨i,hi,rfl,C,I⟩:=hrel;obtain ⟨bC,bD,rfl⟩:=ax I;have c0:=de C ai cj;have a3:=C.size
  by_cases bv:i<ss.length
  .have cS:(i:Int)<(ss.length:Int):=by omega
   obtain ⟨Q,tc,e1,hc⟩:=bo JN 7 (fun _=>rfl) ah.row i ss[i] (aI bv);simp only [aK,bY] at e1;obtain ⟨rfl,rfl⟩:=e1;have dq:=ei (hc 0 _ ai rfl);have U:=ak (show mJ [] (ss.take (i+1))=allT (mJ [] (ss.take i)) (tt ss[i]) from by rw [cD bv,Nb]);have aV:=Fx (ss.take i) [];have cL:(ss.take i).length<=24:=by rw [dZ];omega
   have bA:=ce _ (bu bv);have f0:=de C ai (hc 0 _ ai rfl);have f1:=de C ai (hc 1 _ ai rfl);have f3:=de C ai (hc 3 _ ai rfl);have f4:=de C ai (hc 4 _ ai rfl);rw [nZ] at f0;unfold mD at bA;unfold tt at U bA;generalize mJ [] (ss.take i)=A at*;generalize (b8 ss[i]).1=T at*;simp only [List.length_nil] at aV;have c9:A.length<=60:=ai;have c3:¬9223372036854775807<T.kind.size+1:=ai;have dy:¬9223372036854775807<T.kind.size+1+T.id.size:=ai;have dz:¬9223372036854775807<T.sub.size+1:=ai;have dA:¬9223372036854775807<T.sub.size+1+T.who.size:=ai;obtain ⟨Y,cN⟩:∃z,z=wr:=⟨_,rfl⟩;subst cN;have bN:=fun (w':af) (ay:an Y w')=>Fe B (aw bC A.length bD) A ((T.kind++sg 58)++T.id) w' (aB I ay) ai (by have:=ay.size;omega)
   have a5:=aA Y.heap.size Y;clear I hc aV cL bA
   go_upto_region 8 with fail
   go_region_held3 (fun w'=>w'.cell? (aC y 1)=some (aw (some (aN Q)) ss.length ch)/\w'.cell? (aC Q (i*7))=some (aj T.kind)/\w'.cell? (aC Q (i*7+1))=some (aj T.id)) (go_keep)
    ((go_at_call 140;refine (bN _ (show an Y _ from (cq a5))).mono ?_;rintro e V ⟨dB,rfl,aF,b9⟩;have bn:=b9;have J:=(show Below B Y V from ld (show Below B Y _ from (show an Y _ from (cq a5)).mono ai) aF);have d0:=de J (show y<B by omega) c0;have d1:=de J (show Q<B by omega) f0;have d2:=de J (show Q<B by omega) f1;clear aF b9))
   have dt:=J.size;have be:=C.trans J;have d3:=de J (show Q<B by omega) f3;have d4:=de J (show Q<B by omega) f4;have c8:=xy A ((T.kind++sg 58)++T.id);unfold allT at U;generalize mV A ((T.kind++sg 58)++T.id)=bM at*;clear c0 f0 f1 d1 d2 f3 f4 bN a5 J C
   cases ac:eqs T.who (sg 42)
   .have cQ:(T.who.toList== [42])=false:=by rw [<-ac];unfold eqs;rw [aT];rfl
    rw [ac] at U;simp only [bJ,a8] at U;obtain ⟨cZ,c2,rfl⟩:=ax bn;have bO:=fun (w':af) (ay:an V w')=>Fe B (aw cZ bM.length c2) bM ((T.sub++sg 58)++T.who) w' (aB bn ay) ai (by have:=ay.size;omega)
    have a6:=aA V.heap.size V;clear ac
    go_upto_region 10 with fail
    go_region_held3 (fun w'=>w'.cell? (aC y 1)=some (aw (some (aN Q)) ss.length ch)/\w'.cell? (aC Q (i*7+3))=some (aj T.sub)/\w'.cell? (aC Q (i*7+4))=some (aj T.who)) (go_keep)
     ((go_at_call 140;refine (bO _ (show an V _ from (cq a6))).mono ?_;rintro e bK ⟨dC,rfl,aF,cb⟩;have cH:=cb;have J:=(show Below B V bK from ld (show Below B V _ from (show an V _ from (cq a6)).mono ai) aF);have d0:=de J (show y<B by omega) d0;have d1:=de J (show Q<B by omega) d3;have d2:=de J (show Q<B by omega) d4;clear aF cb))
    have cB:=be.trans J;clear d0 d3 d4 d1 d2 bO a6 J be;go_wp2;go_roundw
    .exact ⟨i+1,ai,by go_num,cB,by rw [aE U];exact cH⟩
    simp [intOf];omega
   have cQ:(T.who.toList== [42])=true:=by rw [<-ac];unfold eqs;rw [aT];rfl
   rw [ac] at U;simp only [if_true] at U;clear ac;go_wp2;go_roundw
   .exact ⟨i+1,ai,by go_num,be,by rw [aE U];exact bn⟩
   simp [intOf];omega
  obtain rfl:i=ss.length:=ai;have cS:¬((ss.length:Int)<(ss.length:Int)):=ai;have c6:=km (l:=ss);rw [km] at I ⊢;have aV:=Fx ss [];simp only [List.length_nil] at aV;obtain ⟨cX,cY,cU⟩:=ax al.kt;subst cU;have b7:=al.kn;have bB:W.cell? (aC bm 5)=some (aw cX kl.length cY):=al.c5;have dd:=ei bB;have bT:=al.kt;have bR:=ak (show xz kl ss=mJ [] ss++yi kl from rfl);have bZ:=(show Z9 B W wr (aw bC (mJ [] ss).length bD) (mJ [] ss++yi (kl.take 0)) from by
   rw [show yi (kl.take 0)=[] from rfl,dS];exact ⟨C,I⟩)
  generalize mJ [] ss=A at*;clear C I ce ah al;go_wp2_with fail;clear c0
  go_loopw [10,12] (fun bF bH bL=>∃j:Nat,j<=kl.length/\bH=ar j/\Z9 B W bL bF (A++yi (kl.take j))) (fun _ bH _=>kl.length-(intOf bH).toNat)
  .exact ⟨0,ai,rfl,bZ⟩
  obtain ⟨j,di,rfl,C,I⟩:=hrel;obtain ⟨bC,bD,rfl⟩:=ax I;have c0:=de C ai ci;have c1:=de C ai bB;have a3:=C.size;have a1:(yi (kl.take j)).length=j:=by simp [yi];omega
  by_cases bt:j<kl.length
  .have cT:(j:Int)<(kl.length:Int):=by omega
   obtain ⟨dx,dw,e1,hc⟩:=bo kC 2 (fun _=>rfl) bT j kl[j] (aI bt);simp only [aK,bY] at e1;obtain ⟨rfl,rfl⟩:=e1;have dj:=ei (hc 0 _ ai rfl);have f0:=de C ai (hc 0 _ ai rfl);rw [nZ] at f0;have dm:=b6 _ (bu bt);have cz:=ak (show A++yi (kl.take (j+1))=A++yi (kl.take j)++[kl[j].1++(⟨#[58,42]⟩:ae)] from by rw [cD bt,yi,cK,<-ct];rfl);have dc:(A++yi (kl.take j)).length<=100:=by rw [bg,a1];omega
   generalize A++yi (kl.take j)=M at*;generalize kl[j].1=nm at*;have c3:¬9223372036854775807<nm.size+2:=ai;have bi:=ak (show dM (M++[nm++(⟨#[58,42]⟩:ae)])=dM M++[aj (nm++(⟨#[58,42]⟩:ae))] from by simp [dM]);clear hc a1;go_wp2_with (at_builtin;go_must (refine ez rfl underlying22 Tryz.infoStr B (I.alloc _) wr.heap.size 1 [aj (nm++(⟨#[58,42]⟩:ae))] (wr.heap.size+1) ?ZG))
   case ZG=>
    intro g5 bf bK bz aH bs cR;have ap:=I.alloc (bE aj (nm++(⟨#[58,42]⟩:ae)));have a4:=cA (C.alloc ai (bE aj (nm++(⟨#[58,42]⟩:ae)))) aH aS (fun k aZ=>(ap.lt k aZ).1);clear ap aH bs;go_wp2;go_roundw
    .exact ⟨j+1,ai,by go_num,a4,by rw [cz.u,bg,bi.u];exact bz⟩
    simp [intOf];omega
  obtain rfl:j=kl.length:=ai;have cT:¬((kl.length:Int)<(kl.length:Int)):=ai;obtain ⟨R,cM⟩:∃z,z=wr:=⟨_,rfl⟩;subst cM;have dl:(A++yi (kl.take kl.length)).length<=100:=by rw [bg,a1];omega
  have bS:=ak (show A++yi (kl.take kl.length)=xz kl ss from by rw [km,bR.u]);have bl:=show an w R from ad.trans (C.mono ai)
  have aJ:=de C (show w1.heap.size<B by omega) (aQ.cell (o:=0) rfl);have aM:=de C (show w1.heap.size<B by omega) (aQ.cell (o:=1) rfl);have bb:=I;have cg:=bl.size;generalize A++yi (kl.take kl.length)=D at*;have cF:=aJ;have cG:=aM;have cf:w1.heap.size<R.heap.size:=ai;have cu:=show Z9 R.heap.size R R (aw none 0 0) (KO st (D.take 0)) from ⟨aA _ _,bQ⟩
  clear a1 I C aJ aM ad aQ bR bT bB ci cj b6 bZ;go_wp2_with fail;clear c0 c1
  go_loopw [13,14] (fun c4 bI bL=>∃k:Nat,k<=D.length/\bI=ar k/\Z9 R.heap.size R bL c4 (KO st (D.take k))) (fun _ bI _=>D.length-(intOf bI).toNat)
  .exact ⟨0,ai,rfl,cu⟩
  obtain ⟨k,aZ,rfl,C,I⟩:=hrel;obtain ⟨dE,dF,rfl⟩:=ax I;have a3:=C.size;have cE:=aB bb C;have cW:(KO st (D.take k)).length<=100:=by
   have:=List.length_filter_le st (D.take k);rw [dZ] at this;unfold KO;omega
  by_cases a2:k<D.length
  .have b7:(k:Int)<(D.length:Int):=by omega
   obtain ⟨g,c,e1,_,_⟩:=qV bb ai;simp only [aK,bY] at e1;obtain ⟨rfl,rfl⟩:=e1;have c0:=jt cE (aI a2);have dh:=ei (jt bb (aI a2));have bx:D[k]∈xz kl ss:=by rw [<-bS.u];exact bu a2
   have a9:=fun w'=>lu D[k] 58 58 rfl w' (cO _ bx)
   have ba:=cp _ bx;have aP:=ak (show KO st (D.take (k+1))=KO st (D.take k)++(if st D[k] then [D[k]] else []) from by
    rw [cD a2,KO,List.filter_append]
    congr 1
    simp only [List.filter_cons,List.filter_nil])
   have aJ:=de C cf cF;have aM:=de C cf cG;generalize KO st (D.take k)=M at*;generalize D[k]=a at*;generalize st a=sa at*;clear bx;generalize aG a 58=cJ at*;obtain ⟨ck,c7,co⟩:=cJ;simp only at a9 ba;go_wp2_with fail;refine (a9 _).mono ?_;rintro e dG ⟨rfl,Z⟩;have bh:=C.trans (Z.mono a3);have bX:=aB I Z;have e0:=am aJ Z;have e1:=am aM Z;have b2:=am c0 Z;have dr:=Z.size;clear Z a9 aJ aM c0 C I;go_wp2_with fail;refine (ba _ (bl.trans (bh.mono cg))).mono ?_;rintro e w5 ⟨rfl,az⟩;have bU:=bh.trans (az.mono ai);have bk:=aB bX az;have c5:=am b2 az;have ds:=az.size;clear az ba e0 e1 b2 bh bX
   cases sa
   .simp only [bJ,a8,dS] at aP;go_wp2;go_roundw
    .exact ⟨k+1,ai,by go_num,bU,by rw [aE aP];exact bk⟩
    simp [intOf];omega
   simp only [if_true] at aP;have bi:=ak (show dM (M++[a])=dM M++[aj a] from by simp [dM]);go_wp2_with (at_builtin;go_must (refine ez rfl underlying22 Tryz.infoStr R.heap.size (bk.alloc _) w5.heap.size 1 [aj a] (w5.heap.size+1) ?ZH))
   case ZH=>
    intro g5 bf bK bz aH bs cR;have ap:=bk.alloc (bE aj a);have a4:=cA (bU.alloc ai (bE aj a)) aH aS (fun k aZ=>(ap.lt k aZ).1);clear ap aH bs;go_wp2;go_roundw
    .exact ⟨k+1,ai,by go_num,a4,by rw [aE aP,bg,bi.u];exact bz⟩
    simp [intOf];omega
  obtain rfl:k=D.length:=ai;have b7:¬((D.length:Int)<(D.length:Int)):=ai;rw [km] at I cW;have cx:=ak (show jn (KO st D)=aR from by rw [cy.u,Nc,bS.u]);have cC:=ak (oA (KO st D));have bP:=wL R.heap.size _ (KO st D) wr I ai;rw [km];generalize KO st D=M at*;clear I;go_wp2_with fail;refine bP.mono ?_;rintro e dH ⟨dD,rfl,b4,cd⟩;have cm:=bl.trans ((C.trans (b4.mono a3)).mono cg);have cI:=BP cd (show w.heap.size<=wr.heap.size by omega);clear b4 cd bP;go_wp2;go_ret2;exact ⟨_,rfl,cm,by rw [<-cx.u,cC.u];exact cI⟩
def qa(g:GP)(K:Nat->Nat->Bool)(s:Sj):Bool:=decide (0<=bi s.kind s.rel g.rl 0)&&(decide (0<=xj g.th s.kind s.id)&&K (bi s.kind s.rel g.rl 0).toNat (xj g.th s.kind s.id).toNat)
def xA(g:GP):List Tu:=g.ss.map tt
structure IX(g:GP)(ts:List Ty)(F:Nat)(bd:Nat->Ex)(lv:List Nat):Prop where
 m:Fk ts
 k:Kn g.pl g.rl ts F
 gd:∀t∈xA g,Cc ts t
 nd:g.th.Nodup
 th:∀t∈xA g,(t.kind,t.id)∈g.th/\(t.sub,t.who)∈g.th
 sub:∀t∈xA g,Tc g t
 bdy:∀(i:Nat)(p:ae×Rl),(bx ts)[i]? =some p->bd i=p.2.body
 own:∀(i:Nat)(X:RV)(p:ae×Rl),g.rl[i]? =some X->(bx ts)[i]? =some p->∀e∈aO p.2.body,e.nd.kind=1->0<=bi X.kd e.nd.n1 g.rl 0
 len:lv.length=g.rl.length
 lvk:XO ts (fun d=>lv.getD (bi d.1 d.2 g.rl 0).toNat 0)
 top:∀j,lv.getD j 0<=g.rl.length
variable {k:Nat}
def Cs{th}(A:th.Nodup){n}(h:th[k]? =some (x,n)):xj th x n=k:=by
 rcases iA (th:=th) (x:=x) (n:=n) with ⟨_,h2⟩|⟨m,h1,h2⟩
 .exact absurd (bG h) h2
 rw [h1];have:m=k:=(List.getElem?_inj (bD.1 h2).1 A).1 (h2.trans h.symm);rw [this]
def ZI{th n}(h:(x,n)∈th):0<=xj th x n:=by
 rcases iA (th:=th) (x:=x) (n:=n) with ⟨_,h2⟩|⟨m,h1,h2⟩
 .exact absurd h h2
 rw [h1];omega
def Fy{a}:a.size=0↔eqs a M4=true:=by
 rw [bz]
 constructor
 .intro h;apply ByteArray.ext;exact Array.eq_empty_of_size_eq_zero h
 intro h;rw [h];rfl
section
variable {g:GP}{ts:List Ty}{F:Nat}{bd:Nat->Ex}{lv:List Nat}{K:Nat->Nat->Bool}
variable {gs:List Tu} {kd id:ae}
def Tx{f}:(lk gs kd id).any f=gs.any fun t=>(eqs t.kind kd&&eqs t.id id)&&f t:=by
 unfold lk;rw [List.any_filter];refine j1 (fun t _=> ?_)
 congr 1
 rw [gU,eI,bP,bz,bz];exact ⟨fun h=>⟨h.1.symm,h.2.symm⟩,fun h=>⟨h.1.symm,h.2.symm⟩⟩
def Tz{a b}:decide (a=b)=eqs a b:=by rw [gU,bz,fF]
def qZ(h:IX g ts F bd lv)(D:∀s,lP (xA g) s->qa g K s=false){X:RV}{k:Nat}{id:ae}(I:g.th[k]? =some (X.kd,id)):∀e,(∀l∈aO e,l.nd.kind=1->0<=bi X.kd l.nd.n1 g.rl 0)->ll g K X k id e=cW (qa g K) ⟨g.kd,g.who⟩ X.kd id (lk (xA g) X.kd id) X.nm e
 |⟨n,some x,some y⟩,ho=>by
  rw [ll,cW,qZ h D I x (fun l hl=>ho l (by simp [aO,hl])),qZ h D I y (fun l hl=>ho l (by simp [aO,hl]))]
 |⟨n,none,r⟩,ho=>by
  rw [ll,cW]
  split
  .rw [Tx];unfold tI xA;rw [pK];refine j1 (fun s hs=> ?_);have J:tt s∈xA g:=aU.2 ⟨s,hs,rfl⟩;have V:=h.sub _ J;simp only [Function.comp_apply];unfold M5 XU g8;rw [Tz,rY,rY,rY]
   congr 1
   congr 1
   congr 1
   show (Uo g (tt s)||ofQ g K (tt s))=if (tt s).of.size=0 then _ else _
   unfold Uo ofQ
   by_cases ho:(tt s).of.size=0
   .rw [if_pos ho];have C:=Fy.1 ho;rw [C];unfold lh EP fb;simp only [fS,mm,eK,mj];rw [<-n7,<-aQ,<-aQ];rw [gU];simp only [bP,kZ,bz]
    constructor
    .rintro ⟨e1,A|A⟩
     .exact .inl ⟨e1.symm,A.symm⟩
     exact .inr ⟨A,e1.symm⟩
    rintro (⟨e1,A⟩|⟨e1,A⟩)
    .exact ⟨e1.symm,.inl A.symm⟩
    exact ⟨A.symm,.inr e1⟩
   rw [if_neg ho];have C:eqs (tt s).of M4=false:=by
    cases Q:eqs (tt s).of M4
    .rfl
    exact absurd (Fy.2 Q) ho
   obtain ⟨n1,ad,R,ab,U,ac⟩:=V C;rw [C];unfold qa fb;simp only [eK,nC,fS,uS];rw [R,U];simp
  split
  .rename_i h0 h1;unfold qa;have f1:=ho ⟨n,none,r⟩ (by simp [aO]) h1;simp only;rw [Cs h.nd I];simp only at f1;simp [f1]
  rw [Tx];unfold tiN xl xA;rw [pK];refine j1 (fun s hs=> ?_);have J:tt s∈xA g:=aU.2 ⟨s,hs,rfl⟩;have Y:=(h.th _ J).2;simp only [Function.comp_apply];unfold Td NC Iq fb;rw [Tz];simp only [rY]
  congr 1
  congr 1
  congr 1
  by_cases ho:(tt s).of.size=0
  .rw [if_pos ho,Fy.1 ho];simp only [fS]
   cases Z:eqs (tt s).who zX
   .unfold qa;simp only [nC,fS]
    congr 1
    have:=ZI Y;simp [this]
   rw [D ⟨(tt s).sub,(tt s).who,n.n2⟩ (kG h.gd (by
    show bC (tt s).who=false
    rw [(bz _ _).1 Z];exact sO))]
   simp
  rw [if_neg ho];have C:eqs (tt s).of M4=false:=by
   cases Q:eqs (tt s).of M4
   .rfl
   exact absurd (Fy.2 Q) ho
  rw [C];simp
 |⟨_,some _,none⟩,ho=>by rw [ll,cW]
end
variable {aD br:Prop}
def KP (h:aD:=by
 rw [hv];simp;omega):aD:=h
def Ct{pl:List PV}:∀(rl:List RV) (ps:List (ae×Rl)) (i:Nat) (X:RV),dc pl rl ps->rl[i]? =some X->∃p,ps[i]? =some p/\X.kd=p.1/\X.nm=p.2.name
 | [],[],i,X,_,h=>by simp at h
 |x::xs,p::ps,0,X,h,e=>by
  simp only [List.getElem?_cons_zero,aR] at e;subst e;exact ⟨p,rfl,h.1.1,h.1.2.1⟩
 |x::xs,p::ps,i+1,X,h,e=>Ct xs ps i X h.2 (by simpa using e)
 | [],_::_,_,_,h,_=>h.elim
 |_::_,[],_,_,h,_=>h.elim
section
variable {g:GP}{ts:List Ty}{F:Nat}{bd:Nat->Ex}{lv:List Nat}{K K0 K1:Nat->Nat->Bool}{n:Nat}
def jv(h:mS g lv bd n K0 K):(∀r k,K0 r k=true->K r k=true)/\∀r k,lv[r]? ≠some n->K r k=K0 r k:=by
 induction h with
 |nil=>exact ⟨fun _ _ h=>h,fun _ _ _=>rfl⟩
 |up _ h1 h2 h3 h4 h5 ih=>
  refine ⟨fun r k h=>KL (ih.1 r k h),fun r k h=> ?_⟩;unfold Ch
  split
  .rename_i e;rw [e.1] at h;exact absurd h3 h
  exact ih.2 r k h
def Wp(h:tW g lv bd n K):∀r k,K r k=true->∃v,lv[r]? =some v/\v<n:=by
 induction h with
 |zero=>intro r k h;cases h
 |@succ n K0 K h1 h2 h3 ih=>
  intro r k h
  by_cases e:lv[r]? =some n
  .exact ⟨n,e,ai⟩
  rw [(jv h2).2 r k e] at h;obtain ⟨v,hv,hl⟩:=ih r k h;exact ⟨v,hv,ai⟩
variable {N:Nat}
def IY(h:tW g lv bd N K):∀n,n<N->∃K0 K1,tW g lv bd n K0/\mS g lv bd n K0 K1/\ZA g lv bd n K1/\(∀r v,lv[r]? =some v->v<=n->∀k,K r k=K1 r k)/\(∀r v,lv[r]? =some v->v<n->∀k,K r k=K0 r k)/\∀r k,K1 r k=true->K r k=true:=by
 induction h with
 |zero=>intro n h;omega
 |@succ n' K' K h1 h2 h3 ih=>
  intro n hn
  by_cases e:n=n'
  .subst e;exact ⟨K',K,h1,h2,h3,fun _ _ _ _ _=>rfl,fun r v hv hl k=>(jv h2).2 r k KP,fun _ _ h=>h⟩
  obtain ⟨K0,K1,A,C,D,I,J,Q⟩:=ih n ai;exact ⟨K0,K1,A,C,D,fun r v hv hl k=>((jv h2).2 r k KP).trans (I r v hv hl k),fun r v hv hl k=>((jv h2).2 r k KP).trans (J r v hv hl k),fun r k h=>(jv h2).1 r k (Q r k h)⟩
variable {k:Nat}
def Wq(h:mS g lv bd n K0 K1){r}(h1:K1 r k=true):K0 r k=true\/∃A X q,mS g lv bd n K0 A/\(∀a b,A a b=true->K1 a b=true)/\g.rl[r]? =some X/\g.th[k]? =some q/\lv[r]? =some n/\q.1=X.kd/\ll g A X k q.2 (bd r)=true:=by
 induction h with
 |nil=>exact .inl h1
 |@up K r' k' X q h0 a1 a2 a3 a4 a5 ih=>
  by_cases e:r=r'/\k=k'
  .obtain ⟨rfl,rfl⟩:=e;exact .inr ⟨K,X,q,h0,fun a b=>KL,a1,a2,a3,a4,a5⟩
  have:K r k=true:=by
   unfold Ch at h1;rw [if_neg e] at h1;exact h1
  rcases ih this with h|⟨A,C,Q,b1,D,I⟩
  .exact .inl h
  exact .inr ⟨A,C,Q,b1,fun a b J=>KL (D a b J),I⟩
def Nf(g:GP)(K:Nat->Nat->Bool):Prop:=∀s,lP (xA g) s->qa g K s=false
variable {i:Nat} {X:RV}
def IX.rel(h:IX g ts F bd lv)(J:g.rl[i]? =some X):∃t r,t∈ts/\r∈t.rels/\X.kd=t.name/\X.nm=r.name/\(bx ts)[i]? =some (t.name,r)/\bd i=r.body/\bi t.name r.name g.rl 0=i:=by
 obtain ⟨p,A,e1,D⟩:=Ct _ _ i X h.k.b J;obtain ⟨t,R,C,Q⟩:=dz.1 (bG A);have I:p=(t.name,p.2):=by rw [C]
 refine ⟨t,p.2,R,Q,by rw [e1,C],D,by rw [<-I];exact A,h.bdy i p A,?_⟩;rw [C];exact h.k.num A
variable {t:Ty} {r:Rl}
def IX.idx(h:IX g ts F bd lv)(I:t∈ts)(D:r∈t.rels):∃i X n,bi t.name r.name g.rl 0=(i:Nat)/\g.rl[i]? =some X/\X.kd=t.name/\X.nm=r.name/\bd i=r.body/\(bx ts)[i]? =some (t.name,r)/\lv[i]? =some n/\lv.getD i 0=n/\n<=g.rl.length:=by
 obtain ⟨i,hi⟩:=ip.1 (dz.2 ⟨t,I,rfl,D⟩:(t.name,r)∈bx ts);obtain ⟨X,A,e1,C,_⟩:=cT.get g.rl _ i _ h.k.f hi;have hl:i<lv.length:=by rw [h.len];exact (bD.1 A).1
 refine ⟨i,X,lv.getD i 0,h.k.num hi,A,e1,C,h.bdy i _ hi,hi,?_,rfl,h.top i⟩;rw [ey,aI hl]
 rfl
def X0{s}(I:lv.length=g.rl.length)(A:∀r:Nat,bi s.kind s.rel g.rl 0=r->lv[r]? =some (lv.getD r 0)->∀k,K r k=K1 r k):qa g K s=qa g K1 s:=by
 unfold qa
 rcases xm s.kind s.rel g.rl 0 with e|⟨j,e,_,D⟩
 .rw [e];rfl
 rw [e];have C:j<lv.length:=ai;simp only [Int.toNat_natCast];rw [A j e (by rw [ey,aI C];rfl)]
def q8(h:IX g ts F bd lv)(C:Nf g K){s}(A:fi ts s=false):qa g K s=false:=by
 unfold fi at A;rw [Aw] at A
 rcases A with A|A
 .rcases cS h.k.d h.k.b s.kind s.rel with ⟨e,_⟩|⟨j,t,r,_,h1,h2,_⟩
  .unfold qa;rw [e];rfl
  unfold tG at A;rw [h1] at A;simp [h2] at A
 exact C s (kG h.gd A)
variable {id:ae}
def X1(h:IX g ts F bd lv)(e:bi t.name r.name g.rl 0=(i:Nat))(A:g.th[k]? =some (t.name,id)):qa g K ⟨t.name,id,r.name⟩=K i k:=by
 unfold qa;simp only;rw [e,Cs h.nd A];simp
def TA{s}(h:qa g K s=true):∃i k:Nat,bi s.kind s.rel g.rl 0=i/\g.th[k]? =some (s.kind,s.id)/\K i k=true:=by
 unfold qa at h;simp only [bP,fF] at h;obtain ⟨h1,h2,A⟩:=h
 rcases iA (th:=g.th) (x:=s.kind) (n:=s.id) with ⟨e,_⟩|⟨m,e1,C⟩
 .omega
 rw [e1] at A;exact ⟨(bi s.kind s.rel g.rl 0).toNat,m,ai,C,A⟩
def IX.own2(h:IX g ts F bd lv)(A:g.rl[i]? =some X)(C:(bx ts)[i]? =some (t.name,r)):∀l∈aO r.body,l.nd.kind=1->0<=bi X.kd l.nd.n1 g.rl 0:=h.own i X _ A C
def q9(h:IX g ts F bd lv)(h0:Nf g K0)(hs:mS g lv bd n K0 K):Nf g K:=by
 induction hs with
 |nil=>exact h0
 |@up K r k X q _ a1 a2 a3 a4 a5 ih=>
  intro s J
  cases hv:qa g (Ch K r k) s
  .rfl
  exfalso;obtain ⟨i,m,e1,A,C⟩:=TA hv;unfold Ch at C
  split at C
  .rename_i e;obtain ⟨rfl,rfl⟩:=e;rw [A] at a2
   cases a2
   obtain ⟨t,r,ab,Z,c1,c2,c3,R,c5⟩:=h.rel a1;have D:s.kind=X.kd:=a4;have U:g.th[m]? =some (X.kd,s.id):=by rw [<-D];exact A
   rw [R,qZ h ih U _ (h.own2 a1 c3)] at a5;have Q:lk (xA g) X.kd s.id=[]:=by rw [<-D];exact J
   rw [Q,ju (fun m=>ih ⟨X.kd,s.id,m⟩ Q)] at a5
   cases a5
  have:qa g K s=true:=by
   unfold qa
   rcases iA (th:=g.th) (x:=s.kind) (n:=s.id) with ⟨e,h2⟩|⟨Y,V,I⟩
   .exact absurd (bG A) h2
   have:Y=m:=(List.getElem?_inj (bD.1 I).1 h.nd).1 (I.trans A.symm);rw [e1,V,this];simp [C]
  rw [ih s J] at this
  cases this
def xB(h:IX g ts F bd lv)(A:tW g lv bd n K):Nf g K:=by
 induction A with
 |zero=>intro s _;unfold qa;simp
 |succ _ h2 _ ih=>exact q9 h ih h2
end
section
variable {g:GP}{ts:List Ty}{F:Nat}{bd:Nat->Ex}{lv:List Nat}{K Kc:Nat->Nat->Bool}{n:Nat}
variable {t:Ty} {r:Rl} {i k:Nat} {X:RV} {id:ae}
def TC(h:IX g ts F bd lv)(V:Nf g K)(I:Nf g Kc)(ae:∀r v,lv[r]? =some v->v<n->∀k,Kc r k=K r k)(aj:t∈ts)(ag:r∈t.rels)(e:bi t.name r.name g.rl 0=(i:Nat))(Y:g.rl[i]? =some X)(e1:X.kd=t.name)(R:X.nm=r.name)(Z:bd i=r.body)(ab:(bx ts)[i]? =some (t.name,r))(ad:lv.getD i 0=n)(ac:g.th[k]? =some (t.name,id))(C:ll g Kc X k id (bd i)=true):
  bC id=true/\iu (qa g Kc) (qa g K) ⟨g.kd,g.who⟩ t.name id (lk (xA g) t.name id) r.name r.body=true:=by
 rw [Z,qZ h I (by rw [e1];exact ac) _ (h.own2 Y ab),e1,R] at C;refine ⟨?_,?_⟩
 .cases af:bC id
  .have D:lP (xA g) ⟨t.name,id,r.name⟩:=kG (s:=⟨t.name,id,r.name⟩) h.gd af;have J:lk (xA g) t.name id=[]:=D;rw [J,ju (fun m=>I ⟨t.name,id,m⟩ J)] at C
   cases C
  rfl
 .rw [<-gt] at C;rw [<-gw _ (fun _ _=>rfl) (fun s hs=> ?_)]
  .exact C
  have A:=Kw h.m h.lvk h.gd aj ag hs;simp only at A;rw [e,kh,ad] at A
  by_cases Q:fi ts s=true
  .unfold Nz at A;rw [if_pos Q] at A;exact X0 (lv:=lv) h.len (fun al U ah ak=>by
    simp only at A;rw [U,kh] at A;exact ae al _ ah ai ak)
  have D:fi ts s=false:=by simpa using Q
  rw [q8 h I D,q8 h V D]
def Fz(h:IX g ts F bd lv)(an:tW g lv bd (g.rl.length+1) K):sG (fJ ts (xA g) ⟨g.kd,g.who⟩) (qa g K):=by
 have R:=xB h an;refine ⟨fun s=> ?_,fun ar aL=> ?_⟩
 .rcases nW (ts:=ts) (gs:=xA g) (who:=⟨g.kd,g.who⟩) s with ⟨t,I,r,D,id,aN,rfl⟩|⟨h1,h2⟩
  .rw [xf h.m I D aN,gt];obtain ⟨i,X,n,e,ae,e1,ad,af,ag,hl,ah,hn⟩:=h.idx I D
   by_cases aC:(t.name,id)∈g.th
   .obtain ⟨k,Z⟩:=ip.1 aC;obtain ⟨K0,K1,V,Y,ak,ac,al,aF⟩:=IY an n ai;have d0:=xB h V;have d1:=q9 h d0 Y;rw [X1 h e Z]
    cases hv:cW (qa g K) ⟨g.kd,g.who⟩ t.name id (lk (xA g) t.name id) r.name r.body
    .cases aj:K i k
     .rfl
     exfalso;rw [ac i n hl aH k] at aj
     rcases Wq Y aj with aj|⟨aT,aU,q,b1,aG,au,av,aV,aW,aI⟩
     .obtain ⟨v,A,ab⟩:=Wp V i k aj;rw [hl] at A
      cases A
      omega
     rw [ae] at au
     cases au
     rw [Z] at av
     cases av
     have:=(TC h R (q9 h d0 b1) (fun J v A ab C=>by
      rw [al J v A ab C];exact (jv b1).2 J C (by rw [A];simp;omega)) I D e ae e1 ad af ag ah Z aI).2
     have:=g9 (FP:=qa g K) (fun s hs=>by
      obtain ⟨i',C,c1,c2,c3⟩:=TA hs;unfold qa;rw [c1,Cs h.nd c2];simp only [Int.toNat_natCast];rw [aF i' C (aG i' C c3)];simp) _ this
     rw [gt,hv] at this
     cases this
    have aQ:cW (qa g K1) ⟨g.kd,g.who⟩ t.name id (lk (xA g) t.name id) r.name r.body=true:=by
     rw [<-hv];refine gu _ (fun s hs=> ?_);have U:=SO h.m h.lvk h.gd I D hs;simp only at U;rw [e,kh,ah] at U
     by_cases az:fi ts s=true
     .unfold Nz at U;rw [if_pos az] at U;exact X0 (lv:=lv) h.len (fun J aJ aO C=>by
       simp only at U;rw [aJ,kh] at U;exact (ac J _ aO ai C).symm)
     have ay:fi ts s=false:=by simpa using az
     rw [q8 h d1 ay,q8 h R ay]
    rw [ac i n hl aH k];refine ak i k X (t.name,id) ae Z hl e1.symm ?_;rw [af,qZ h d1 (by rw [e1];exact Z) _ (h.own2 ae ag),e1,ad];exact aQ
   have am:lk (xA g) t.name id=[]:=by
    rw [IA];intro u aP;obtain ⟨h1,h2,aw⟩:=lO.1 aP;exact aC (by rw [<-h2,<-aw];exact (h.th u h1).1)
   rw [am,ju (fun m=>R ⟨t.name,id,m⟩ am)];exact R ⟨t.name,id,r.name⟩ am
  rw [h2,q8 h R h1]
 have key:∀N Q,tW g lv bd N Q->(∀r v,lv[r]? =some v->v<N->∀k,K r k=Q r k)->∀s,qa g Q s=true->ar s=true:=by
  intro N Q aM
  induction aM with
  |zero=>intro _ s hs;unfold qa at hs;simp at hs
  |@succ n K0 Q h1 h2 aw ih=>
   intro aK;have ax:∀r v,lv[r]? =some v->v<n->∀k,K r k=K0 r k:=fun r v hv ab k=>(aK r v hv ai k).trans ((jv h2).2 r k KP)
   have aR:=ih ax;have d0:=xB h h1;have aS:∀Kc,mS g lv bd n K0 Kc->∀s,qa g Kc s=true->ar s=true:=by
    intro Kc hs
    induction hs with
    |nil=>exact aR
    |@up Kc r k X q hst V Y ak ac al ih2=>
     intro s hv;obtain ⟨i',C,c1,c2,c3⟩:=TA hv;unfold Ch at c3
     split at c3
     .rename_i ee;obtain ⟨rfl,rfl⟩:=ee;rw [c2] at Y
      cases Y
      obtain ⟨t,r,I,D,e1,ad,ag,af,e⟩:=h.rel V;have aB:(s.kind,s.rel)=(t.name,r.name):=h.k.inj (s:=(s.kind,s.rel)) (s':=(t.name,r.name)) c1 e;simp only [gW] at aB;obtain ⟨ap,aA⟩:=aB;have ah:lv.getD i' 0=n:=by rw [ey,ak];rfl
      obtain ⟨f1,f2⟩:=TC h R (q9 h d0 hst) (fun J v A ab aE=>by
       rw [ax J v A ab aE];exact (jv hst).2 J aE (by rw [A];simp;omega)) I D e V e1 ad af ag ah (by rw [<-ap];exact c2) al
      refine aL s ?_;obtain ⟨sk,aX,aY⟩:=s;simp only at ap aA f1 f2 ⊢;subst ap;subst aA;rw [xf h.m I D f1];exact g9 (fun s hs=>ih2 s hs) _ f2
     refine ih2 s ?_;unfold qa;rw [c1,Cs h.nd c2];simp [c3]
   exact aS Q h2
 exact key _ K an (fun _ _ _ _ _=>rfl)
def TD(h:IX g ts F bd lv)(C:tW g lv bd (g.rl.length+1) K){kb}(A:lj ⟨g.kd,g.who⟩ (dr (xA g)) ((cL ts).map (List.map lM)) (fun _=>false) kb)(s):qa g K s=kb s:=
 Ir (sys_f h.m h.lvk h.gd) (Fz h C) (IB h.m (SQ h.m) h.gd (iy ts) (Iz _) A) s
end
structure oQ(pl:List PV)(kl:List (ae×Nat))(rl:List RV)(ts:List Ty)(F:Nat):Prop where
 k:Kn pl rl ts F
 g:nL rl pl (eH rl pl (aJ pl F))
 r:kz kl rl pl (eH rl pl (aJ pl F)) (aJ pl F)=none
 n:ff (gX ts) ts=none
 m:Fk ts
variable {s:ae} {ts:List Ty} {m:Nat} {rl:List RV} {pl:List PV}
def X2{kl}(hs:s.size<=500)(A:dy s=.ok ts)(h:dI (TT s) (PP s)=.ok (ts,m))(V:Gd s m)(Q:tO pl kl rl ts):∃F,oQ pl kl rl ts F:=by
 have C:=md_of A;obtain ⟨F,hF⟩:=dc.fuel rl _ Q.2;have U:=sized h V hs;have J:=sq h;obtain ⟨rfl,I⟩:=id Q;have hn:=tw C.d I hF J;have R:ff (gX ts) ts=none:=by
  unfold dy at A
  split at A
  .cases A
  split at A
  .cases A
  rename_i ts' ad ac
  split at A
  .cases A
  rename_i hc
  cases A
  unfold eB at hc
  split at hc
  .cases hc
  split at hc
  .cases hc
  rename_i h2;exact h2
 rw [R] at hn;exact ⟨F,⟨C.d,I,hF,J,fun t D r A=>(kB h t D r A).1,fun t D r A=>(((iR (TT s) (PP s) ts m h).1 t D).1 r A).wf,U,fun x ab n Y p Z=>qI _ _ _ hn x ab n Y p Z⟩,Bz hF U,hn,R,C⟩
section
variable {pl:List PV}{kl:List (ae×Nat)}{rl:List RV}{ts:List Ty}{F:Nat}{t:Ty}{r:Rl}{e:Ex}{d:Sp}
def oQ.nm(h:oQ pl kl rl ts F)(I:t∈ts)(D:r∈t.rels)(C:e∈aF r.body):gC ts t e=none:=by
 have h1:=h.n;unfold ff at h1;have h2:=(ko.1 h1) t I;have A:=(ko.1 h2) r D;exact (ko.1 A) e C
def oQ.grant(h:oQ pl kl rl ts F)(Q:t∈ts)(J:r∈t.rels){g}(A:g∈bR r.body):∃u,bX ts g.ty=some u/\(g.reach=2->∃q,b9 u g.rel=some q):=by
 rw [dv] at A;obtain ⟨e,C,A⟩:=b6.1 A;obtain ⟨h1,h2⟩:=(fl _ e).1 C;rw [lH h2] at A
 split at A
 .rename_i D;have:=h.nm Q J h1;unfold gC at this;rw [h2] at this;simp only [if_pos D] at this;have:=(ko.1 this) g A;unfold l7 at this
  split at this
  .cases this
  rename_i u R;refine ⟨u,R,fun h2=> ?_⟩;rw [if_pos h2] at this
  split at this
  .cases this
  rename_i q I;exact ⟨q,I⟩
 cases A
def oQ.need(h:oQ pl kl rl ts F)(J:t∈ts)(U:r∈t.rels)(Q:e∈aO r.body)(A:d∈dU ts t r e):∃u∈ts,∃q∈u.rels,d=(u.name,q.name):=by
 rw [gm (iZ Q)] at A;obtain ⟨Z,hl⟩:=(fl _ e).1 Q
 split at A
 .unfold mf at A;obtain ⟨g,R,e1⟩:=mC.1 A;obtain ⟨u,C,h2⟩:=h.grant J U R;unfold l9 at e1
  split at e1
  .rename_i ab;obtain ⟨q,I⟩:=h2 ab
   cases e1
   obtain ⟨V,Y⟩:=cw C;obtain ⟨b1,D⟩:=cF I;exact ⟨u,V,q,b1,by rw [Y,D]⟩
  cases e1
 rename_i h0;unfold tQ at A;rw [if_neg h0] at A
 split at A
 .rename_i h1;rw [aX] at A;have:=h.nm J U Z;unfold gC at this;rw [hl] at this;simp only [if_neg h0,if_pos h1] at this
  split at this
  .cases this
  rename_i q I;obtain ⟨b1,D⟩:=cF I;exact ⟨t,J,q,b1,by rw [A,D]⟩
 obtain ⟨u,C,rfl⟩:=aU.1 A;unfold nk at C
 split at C
 .cases C
 obtain ⟨g,R,e1⟩:=mC.1 C;unfold iM at e1
 split at e1
 .split at e1
  .cases e1
  rename_i v hv
  split at e1
  .rename_i ac
   cases e1
   obtain ⟨q,I⟩:=Option.isSome_iff_exists.1 ac;obtain ⟨b1,D⟩:=cF I;exact ⟨u,(cw hv).1,q,b1,by rw [D]⟩
  cases e1
 cases e1
def oQ.own(h:oQ pl kl rl ts F)(C:t∈ts)(R:r∈t.rels)(I:e∈aO r.body)(J:e.nd.kind=1):∃j:Nat,bi t.name e.nd.n1 rl 0=j/\j<rl.length:=by
 obtain ⟨Q,hl⟩:=(fl _ e).1 I;have:=h.nm C R Q;unfold gC at this;rw [hl] at this;simp only [show ¬e.nd.kind=0 by omega,a8,if_pos J] at this
 split at this
 .cases this
 rename_i q A
 rcases cS h.k.d h.k.b t.name e.nd.n1 with ⟨_,h2⟩|⟨j,Y,V,e1,_,_,D⟩
 .rw [h2 t (h.m.k.fnd t C)] at A
  cases A
 obtain ⟨x,U,_⟩:=cT.get rl _ j _ h.k.f D;exact ⟨j,e1,(bD.1 U).1⟩
def oQ.num(h:oQ pl kl rl ts F)(J:t∈ts)(I:r∈t.rels):∃(j:Nat)(X:RV),bi t.name r.name rl 0=j/\(bx ts)[j]? =some (t.name,r)/\rl[j]? =some X/\X.kd=t.name/\X.nm=r.name/\Tr pl F X.ex r.body:=by
 obtain ⟨i,hi⟩:=ip.1 (dz.2 ⟨t,J,rfl,I⟩:(t.name,r)∈bx ts);obtain ⟨X,D,e1,A,_,C⟩:=cT.get rl _ i _ h.k.f hi;exact ⟨i,X,h.k.num hi,hi,D,e1,A,C⟩
variable {i:Nat} {X:RV}
def oQ.at_(h:oQ pl kl rl ts F)(D:rl[i]? =some X):∃t r,t∈ts/\r∈t.rels/\(bx ts)[i]? =some (t.name,r)/\X.kd=t.name/\X.nm=r.name/\Tr pl F X.ex r.body/\bi t.name r.name rl 0=i:=by
 obtain ⟨p,A,e1,J⟩:=Ct _ _ i X h.k.b D;obtain ⟨t,V,C,U⟩:=dz.1 (bG A);obtain ⟨Y,I,_,_,_,R⟩:=cT.get rl _ i _ h.k.f A;rw [D] at I
 cases I
 have Q:p=(t.name,p.2):=by rw [C]
 refine ⟨t,p.2,V,U,by rw [<-Q];exact A,by rw [e1,C],J,R,?_⟩;rw [C];exact h.k.num A
def FA:∀(rl:List RV) (ps:List (ae×Rl)),dc pl rl ps->ps.length=rl.length
 | [],[],_=>rfl
 |x::xs,p::ps,h=>by simp [FA xs ps h.2]
 | [],_::_,h=>h.elim
 |_::_,[],h=>h.elim
def oQ.rk(h:oQ pl kl rl ts F)(R:t∈ts)(Q:r∈t.rels):Ff ts (t.name,r.name)<=rl.length:=by
 unfold Ff;have:=oH (cU ts [(t.name,r.name)]) ((bx ts).map fun p=>(p.1,p.2.name)) (ix _ _ _ _ au) (fun z D=>by
  rw [fk] at D;have key:∃u∈ts,∃q∈u.rels,z=(u.name,q.name):=by
   induction D with
   |base hx=>rw [aX] at hx;exact ⟨t,R,r,Q,hx⟩
   |step _ hy ih=>
    obtain ⟨u,C,q,A,rfl⟩:=ih;rw [h.m.k.need C A,eN] at hy;obtain ⟨e,J,I⟩:=hy;exact h.need C A J I
  obtain ⟨u,C,q,A,rfl⟩:=key;exact aU.2 ⟨(u.name,q),dz.2 ⟨u,C,rfl,A⟩,rfl⟩)
 rw [bO,FA rl _ h.k.b] at this;exact this
end
def exN:Ex:=⟨⟨0,0,em,0,em,0,[]⟩,none,none⟩
def Ng(ts:List Ty)(i:Nat):Ex:=match (bx ts)[i]? with
 |some p=>p.2.body
 |none=>exN
def ND(ts:List Ty)(j:Nat):Nat:=match (bx ts)[j]? with
 |some p=>Ff ts (p.1,p.2.name)
 |none=>0
def MnF(ts:List Ty)(rl:List RV)(i:Nat)(e:Ex)(d:Nat):Prop:=∃t r,t∈ts/\r∈t.rels/\(bx ts)[i]? =some (t.name,r)/\∃s∈dU ts t r e,bi s.1 s.2 rl 0=d
def ZJ(ts:List Ty)(rl:List RV)(lv:List Nat)(i b:Nat):Prop:=yh (MnF ts rl i) (fun d=>lv.getD d 0) b 0 (Ng ts i)
section
variable {pl:List PV}{kl:List (ae×Nat)}{rl:List RV}{ts:List Ty}{F:Nat}{t:Ty}{r:Rl}
variable {i d:Nat}
def oQ.mn(h:oQ pl kl rl ts F)(C:t∈ts)(I:r∈t.rels)(hi:(bx ts)[i]? =some (t.name,r)){e}:MnF ts rl i e d↔∃s∈dU ts t r e,bi s.1 s.2 rl 0=d:=by
 constructor
 .rintro ⟨Q,U,J,R,A,hs⟩;rw [hi] at A;simp only [aR,gW] at A;obtain ⟨e1,D⟩:=A;subst D;have f1:=h.m.k.fnd t C;have f2:=h.m.k.fnd Q J;rw [e1,f2] at f1
  cases f1
  exact hs
 exact fun hs=>⟨t,r,C,I,hi,hs⟩
variable {f m:Nat}
def TE{e}(h:Tr pl 1 m e):aJ pl (f+1) m=[m]/\Tr pl (f+1) m e:=by
 obtain ⟨p,A,h⟩:=h
 rcases h with h|h|h|⟨_,_,D,ns,I,rs,_,C,_⟩|⟨_,_,_,D,ns,I,rs,_,C,_⟩
 .exact ⟨by rw [aJ];simp only [A];rw [if_neg ai],⟨p,A,.inl h⟩⟩
 .exact ⟨by rw [aJ];simp only [A];rw [if_neg ai],⟨p,A,.inr (.inl h)⟩⟩
 .exact ⟨by rw [aJ];simp only [A];rw [if_neg ai],⟨p,A,.inr (.inr (.inl h))⟩⟩
 .exact C.elim
 exact C.elim
variable {X:RV}
def oQ.ndk(h:oQ pl kl rl ts F)(bm kv rv pv l lv)(ae:lv.length=rl.length)(Z:rl[i]? =some X)(R:t∈ts)(Q:r∈t.rels)(hi:(bx ts)[i]? =some (t.name,r))(ac:X.kd=t.name)(D:Tr pl F X.ex r.body):NdK bm kv rv pv kl rl pl l lv (MnF ts rl i) X r.body (aJ pl F X.ex):=by
 intro m e I ah ab;obtain ⟨f,rfl⟩:∃f,F=f+1:=by
  cases F with
  |zero=>exact D.elim
  |succ f=>exact ⟨f,rfl⟩
 obtain ⟨l1,t1⟩:=TE (f:=f) ah;have C:=bG Z;have ad:aO e=[e]:=by
  have:=iZ ab;obtain ⟨ar,ap,av⟩:=e;simp only at this;subst this;simp [aO]
 have ag:YK pl (f+1) X t r m e:=⟨t1,D,by rw [l1];intro n hn;rw [aX] at hn;rw [hn];exact I,ac⟩;have af:=(jV h.k.f h.k.z X C).1;obtain ⟨U,ak,V,_,_⟩:=nO h.k.f h.k.z kl h.r X C [m] (fun n hn=>by rw [aX] at hn;rw [hn];exact I) au;obtain ⟨b1,al,am,an,Y⟩:=nO h.k.f h.k.z kl h.r X C (aJ pl (f+1) X.ex) (fun n hn=>hn) af;have J:=fun j=>h.k.need C R Q ag j
 rw [l1] at J;refine ⟨fL rl pl (eH rl pl (aJ pl (f+1))) X.kd [m] (aJ pl (f+1) X.ex),?_,fun d A=> ?_,fun d=> ?_,fun w aj=> ?_⟩
 .unfold fL;rw [bg]
  split
  .omega
  simp only [List.length_nil];omega
 .rw [ae];unfold fL at A
  rcases aW.1 A with A|A
  .exact V d A
  split at A
  .exact Y d A
  cases A
 .rw [J d,h.mn R Q hi];simp only [eN,ad,aX,exists_eq_left]
 exact we bm kv rv pv kl rl pl l (eH rl pl (aJ pl (f+1))) X.kd m X.ex [m] (aJ pl (f+1) X.ex) w aj h.g ⟨by rw [<-l1];exact hP pl (f+1) m e t1 (by rw [l1];simp),au,U⟩ ⟨hP pl (f+1) X.ex r.body D ai,ai,b1⟩ ai ai
def oQ.lev(h:oQ pl kl rl ts F)(av:rl.length<=500)(bm kv rv pv l tV lv i X)(ag:lv.length=rl.length)(U:∀j,lv.getD j 0<=ND ts j)(Q:rl[i]? =some X):∃R,Ur bm kv rv pv kl rl pl l tV lv i X.ex 0 R/\R<=ND ts i/\∀b,R<=b↔ZJ ts rl lv i b:=by
 obtain ⟨t,r,J,I,hi,e1,ar,Z,au⟩:=h.at_ Q;have an:=bG Q;have ad:Ng ts i=r.body:=by unfold Ng;rw [hi]
 have ak:ND ts i=Ff ts (t.name,r.name):=by unfold ND;rw [hi]
 have al:∀j,ND ts j<=500:=fun j=>by
  unfold ND
  cases V:(bx ts)[j]? with
  |none=>simp
  |some p=>
   obtain ⟨u,Y,C,aj⟩:=dz.1 (bG V);have:=h.rk Y aj;simp only;rw [<-C];omega
 have af:(aO r.body).length<=1000:=by
  rw [<-cu.len _ _ (eg pl F _ _ Z)];have:=(jV h.k.f h.k.z X an).1;omega
 obtain ⟨R,h1,h2⟩:=xp bm kv rv pv kl rl pl l tV lv (MnF ts rl i) i X r.body (aJ pl F X.ex) Q (h.ndk bm kv rv pv l lv ag Q J I hi e1 Z) (fun x am=>by
  obtain ⟨j,ae⟩:=ip.1 am;have:=U j;rw [ey,ae] at this;have:=al j;simp only [Option.getD_some] at*;omega) F X.ex r.body Z af (fun e A=>A) (fun m ah=>ah) 0 ai
 have key:∀e d,e∈aO r.body->MnF ts rl i e d->∃s∈dU ts t r e,ND ts d=Ff ts s:=fun e d A D=>by
  obtain ⟨s,hs,ab⟩:=(h.mn J I hi).1 D;obtain ⟨u,Y,q,V,rfl⟩:=h.need J I A hs;obtain ⟨j,ap,C,ac,_⟩:=h.num Y V;have:j=d:=by rw [C] at ab;exact Int.ofNat.inj ab
  subst this;exact ⟨_,hs,by unfold ND;rw [ac]⟩
 refine ⟨R,h1,?_,fun b=>by rw [h2];unfold ZJ;rw [ad]⟩;rw [h2,ak];refine IP _ (fun e A d D=> ?_) (fun e A d D=> ?_)
 .obtain ⟨s,hs,C⟩:=key e d A D;have:=U d;have:=h.m.k.rkp J I A hs;omega
 obtain ⟨s,hs,C⟩:=key e d (oI _ _ A) D;have:=U d;have:=h.m.k.rkn J I A hs;omega
def oQ.lvk(h:oQ pl kl rl ts F){lv:List Nat}(V:∀j,j<rl.length->ZJ ts rl lv j (lv.getD j 0)):XO ts (fun d=>lv.getD (bi d.1 d.2 rl 0).toNat 0) where
 pos:=fun t C r A e J d I=>by
  obtain ⟨i,X,e1,hi,Q,_⟩:=h.num C A;have:=V i (bD.1 Q).1;unfold ZJ at this;rw [show Ng ts i=r.body from by unfold Ng;rw [hi]] at this;obtain ⟨u,U,q,R,rfl⟩:=h.need C A J I;obtain ⟨j,_,D,_⟩:=h.num U R;have:=ut _ 0 ai this e J j ((h.mn C A hi).2 ⟨_,I,D⟩);simp only [e1,D,Int.toNat_natCast];omega
 neg:=fun t C r A e J d I=>by
  obtain ⟨i,X,e1,hi,Q,_⟩:=h.num C A;have:=V i (bD.1 Q).1;unfold ZJ at this;rw [show Ng ts i=r.body from by unfold Ng;rw [hi]] at this;obtain ⟨u,U,q,R,rfl⟩:=h.need C A (oI _ _ J) I;obtain ⟨j,_,D,_⟩:=h.num U R;have:=Co _ 0 ai this e J j ((h.mn C A hi).2 ⟨_,I,D⟩);simp only [e1,D,Int.toNat_natCast];omega
end
def TF:∀(ss:List ae) (th:List (ae×ae)),th.Nodup->(p9 th ss).Nodup
 | [],th,h=>h
 |s::ss,th,h=>TF ss _ (Cp (Cp h))
def KQ:∀(ss:List ae) (th:List (ae×ae)),∀s∈ss,((tt s).kind,(tt s).id)∈p9 th ss/\((tt s).sub,(tt s).who)∈p9 th ss
 | [],th,s,h=>by cases h
 |a::ss,th,s,h=>by
  rcases cG.1 h with rfl|h
  .exact ⟨uu ss _ _ (lQ.2 _ lQ.1),uu ss _ _ lQ.1⟩
  exact KQ ss _ s h
section
variable {pl:List PV}{kl:List (ae×Nat)}{rl:List RV}{l:List PX}{ts:List Ty}{F:Nat}{ss:List ae}{g:GP}{b y bm:Nat}{k0 i0 kd who:ae}
variable {s:ae}
def IZ(h:XZ g b y bm kl rl pl l ss (p9 (eP [] k0 i0) ss) kd who)(hs:s∈g.ss):((tt s).kind,(tt s).id)∈g.th/\((tt s).sub,(tt s).who)∈g.th:=by
 rw [h.ss] at hs;rw [h.th];exact KQ ss _ s hs
def KR(h:oQ pl kl rl ts F)(A:XZ g b y bm kl rl pl l ss (p9 (eP [] k0 i0) ss) kd who)(R:∀t∈ss.map tt,Cc ts t)(hs:s∈g.ss):Tc g (tt s):=fun D=>by
 have Z:=(IZ A hs).2;rw [A.ss] at hs;obtain ⟨y,q,g0,f1,f2,U,e1,C,J⟩:=kF R (aU.2 ⟨s,hs,rfl⟩);obtain ⟨I,ad⟩:=cw f1;obtain ⟨b1,ae⟩:=cF f2;obtain ⟨u,ab,V⟩:=h.grant I b1 U;have ac:¬(tt s).of.size=0:=fun e=>by rw [Fy.1 e] at D;cases D
 unfold im at C;rw [if_neg ac] at C;obtain ⟨af,Y⟩:=V C;obtain ⟨c1,c2⟩:=cw ab;obtain ⟨d1,d2⟩:=cF Y;obtain ⟨j,X,n1,_,Q,_⟩:=h.num c1 d1;rw [c2,d2,e1,J] at n1
 rcases iA (th:=g.th) (x:=(tt s).sub) (n:=(tt s).who) with ⟨_,h2⟩|⟨m,h1,h2⟩
 .exact absurd Z h2
 exact ⟨j,m,by rw [A.rl];exact n1,by rw [A.rl];exact (bD.1 Q).1,h1,(bD.1 h2).1⟩
def Wr(h:XZ g b y bm kl rl pl l ss (p9 (eP [] k0 i0) ss) kd who)(hs:s∈g.ss):ThK g (tt s):=by
 rcases iA (th:=g.th) (x:=(tt s).sub) (n:=(tt s).who) with ⟨_,h2⟩|⟨m,h1,h2⟩
 .exact absurd (IZ h hs).2 h2
 exact ⟨m,h1,(bD.1 h2).1⟩
def TG(h:oQ pl kl rl ts F)(j):ND ts j<=rl.length:=by
 unfold ND
 cases C:(bx ts)[j]? with
 |none=>simp
 |some p=>
  obtain ⟨u,I,A,D⟩:=dz.1 (bG C);have:=h.rk I D;simp only;rw [<-A];exact this
def ZK(h:oQ pl kl rl ts F)(A:XZ g b y bm kl rl pl l ss (p9 (eP [] k0 i0) ss) kd who)(J:∀t∈ss.map tt,Cc ts t){lv:List Nat}(Z:lv.length=rl.length)(Y:∀j,lv.getD j 0<=ND ts j)(R:∀j,j<rl.length->ZJ ts rl lv j (lv.getD j 0)):IX g ts F (Ng ts) lv where
 m:=h.m
 k:=by rw [A.pl,A.rl];exact h.k
 gd:=by unfold xA;rw [A.ss];exact J
 nd:=by rw [A.th];exact TF ss _ (Cp au)
 th:=fun t C=>by
  obtain ⟨s,hs,rfl⟩:=aU.1 C;exact IZ A hs
 sub:=fun t C=>by
  obtain ⟨s,hs,rfl⟩:=aU.1 C;exact KR h A J hs
 bdy:=fun i p D=>by unfold Ng;rw [D]
 own:=fun i X p I D e U V=>by
  rw [A.rl] at I ⊢;obtain ⟨t,r,C,ab,hi,e1,_⟩:=h.at_ I;rw [hi] at D
  cases D
  obtain ⟨j,Q,_⟩:=h.own C ab U V;rw [e1,Q];omega
 len:=by rw [A.rl];exact Z
 lvk:=by rw [A.rl];exact h.lvk R
 top:=fun j=>by
  rw [A.rl];have:=Y j;have:=TG h j;omega
def ZL(h:oQ pl kl rl ts F)(A:XZ g b y bm kl rl pl l ss (p9 (eP [] k0 i0) ss) kd who)(V:∀t∈ss.map tt,Cc ts t):∀C r k X q,g.rl[r]? =some X->g.th[k]? =some q->Te g C r k X.ex (ll g C X k q.2 (Ng ts r)):=fun C r k X q I Z=>by
 have D:=I;rw [A.rl] at D;obtain ⟨t,Q,ac,ab,hi,e1,_,J,_⟩:=h.at_ D;have R:Ng ts r=Q.body:=by unfold Ng;rw [hi]
 rw [R];refine zZ g C r k X q I Z (fun s hs=>KR h A V hs) (fun s hs=>Wr A hs) F X.ex Q.body (by rw [A.pl];exact J) ?_ (fun e U Y=> ?_)
 .rw [<-cu.len _ _ (eg pl F _ _ J)];have:=(jV h.k.f h.k.z X (bG D)).1;omega
 rw [A.rl,e1];exact h.own ac ab U Y
end
def xC(y bm:Nat)(tv kv rv pv kl rl pl l ss kd who id)(rel F:Nat)(X ts kb w)(ae:DU w y (.pointer (some (aC bm 5))) tv ss)(R:DM w bm kv rv pv kl rl pl l)(ag:∃cs,aL w bm cs 252)(C:rl[rel]? =some X)(ak:ss.length<=24)(h:oQ pl kl rl ts F)(Q:∀t∈ss.map tt,Cc ts t)(ab:lj ⟨kd,who⟩ (dr (ss.map tt)) ((cL ts).map (List.map lM)) (fun _=>false) kb):
  Calls prog 138 #[bc y,aj kd,aj who,.agg #[ar rel,aj id]] w fun e w'=>e=bj (.bool (kb ⟨X.kd,id,X.nm⟩))/\an w w':=by
 have ah:=R.rn;refine (IU (ND ts) (ZJ ts rl) (Ng ts) y bm tv kv rv pv kl rl pl l ss kd who id rel X w ae R ag C ak (fun j=>by have:=TG h j;omega) (fun tV lv i X I D C=>h.lev ah bm kv rv pv l tV lv i X I D C) (fun g A=>ZL h A Q)).mono ?_;rintro e w' ⟨g,lv,K,m,rfl,ad,A,U,am,I,D,ac,V⟩;refine ⟨?_,ad⟩;have J:=ZK h A Q I D ac;rw [<-A.rl] at V;have af:xA g=ss.map tt:=by unfold xA;rw [A.ss]
 have key:=TD J V (kb:=kb) (by rw [af,A.kd,A.who];exact ab) ⟨X.kd,id,X.nm⟩;obtain ⟨t,r,au,ap,hi,e1,Y,_,Z⟩:=h.at_ C;rw [<-key,e1,Y];rw [X1 J (i:=rel) (k:=m) (by rw [A.rl];exact Z) (by
  rw [A.th]
  rcases iA (th:=p9 (eP [] X.kd id) ss) (x:=X.kd) (n:=id) with ⟨c1,_⟩|⟨al,c1,c2⟩
  .rw [c1] at U;omega
  rw [c1] at U;have:al=m:=ai;rw [<-this,<-e1];exact c2)]
section
variable {aD br:Prop}
def X3 (h:aD:=by
 obtain ⟨cs,hc⟩:=hmb;exact ⟨cs,hc.below k⟩):aD:=h
def TH(ts:List Ty)(gs:List Tu)(E:Nat)(s:Sj)(who:Tg)(w:af)(e:Ending)(w':af):Prop:=∃b,e=bj (.tuple #[.bool b,ar E])/\an w w'/\(E≠0->b=false)/\(E=0->∃kb,b=kb s/\lj who (dr gs) ((cL ts).map (List.map lM)) (fun _=>false) kb)
variable {rl:List RV} {s rel:ae}
def rb(h:(bS s&&bC rel)=false):fd rl s rel=(0,⟨#[]⟩,2):=by
 unfold fd;rw [fX];have:(!bS s|| !bC rel)=true:=by
  cases h1:bS s<;>cases h2:bC rel<;>simp_all
 rw [if_pos this]
def uw(h:(bS s&&bC rel)=true)(A:bi (aG s 58).1 rel rl 0= -1):fd rl s rel=(0,⟨#[]⟩,5):=by
 unfold fd;rw [fX];simp only [bP] at h;have e:bi (db s).1 rel rl 0= -1:=A;rw [h.1,h.2,e];simp
variable {j:Nat}
def re(h:(bS s&&bC rel)=true)(A:bi (aG s 58).1 rel rl 0=j):fd rl s rel=((j:Int),(aG s 58).2.1,0):=by
 unfold fd;rw [fX];simp only [bP] at h;have e:bi (db s).1 rel rl 0=j:=A;rw [h.1,h.2,e];simp only [mm,mj,bJ,a8];rw [if_neg ai]
 rfl
def I4(x mv lv gv ts gs w)(h:UQ w x mv lv gv ts gs)(au:PuR ts gs)(kl rl pl F)(af:oQ pl kl rl ts F)(am:kl=ts.map fun t=>(t.name,t.place))(th rel who)(hs:th.size<=maxLen)(ac:rel.size<=maxLen)(aw:who.size<=maxLen)(J:kj w)(D:1<w.heap.size)(ae:Laid w):
  Calls prog 26 #[bc x,aj th,aj rel,aj who] w (TH ts gs (jZ kl rl th rel who) ⟨(aG th 58).1,(aG th 58).2.1,rel⟩ ⟨(aG who 58).1,(aG who 58).2.1⟩ w):=by
 obtain ⟨bm,tl,ab⟩:=h.m;have U:∀E,E≠0->jZ kl rl th rel who=E->Calls prog 26 #[bc x,aj th,aj rel,aj who] w (fun e w'=>e=bj (.tuple #[.bool false,ar E])/\an w w')->Calls prog 26 #[bc x,aj th,aj rel,aj who] w (TH ts gs (jZ kl rl th rel who) ⟨(aG th 58).1,(aG th 58).2.1,rel⟩ ⟨(aG who 58).1,(aG who 58).2.1⟩ w):=fun E Q e C=>C.mono fun e' w' ⟨h1,h2⟩=>⟨false,by rw [e];exact h1,h2,fun _=>rfl,fun h0=>absurd (e.symm.trans h0) Q⟩
 cases I:bS who with
 |false=>
  refine U 2 ai ?_ (I0 x th rel who w aw I);unfold jZ;rw [fX,I]
  rfl
 |true=>
  have Z:=n9 I;have Q:jZ kl rl th rel who=if (fd rl th rel).2.2≠0 then (fd rl th rel).2.2 else if !(kl.any fun k=>eqs k.1 (db who).1) then 5 else 0:=by
   unfold jZ;rw [fX,I]
   rfl
  cases R:bS th&&bC rel with
  |false=>
   refine U 2 ai (by rw [Q,rb R];rfl) (tJ x 2 _ _ _ th rel who w Z I J D (.inl rfl) (fun w' k=>xE x th rel w' hs ac R))
  |true=>
   have A:=R;simp only [bP] at A;have hs:=n9 A.1;have av:rel.size<=1000:=by have:=dn A.2;omega
   rcases cS af.k.d af.k.b (aG th 58).1 rel with ⟨e,ap⟩|⟨j,t,r,e,h1,h2,_⟩
   .exact U 5 ai (by rw [Q,uw R e];rfl) (tJ x 5 _ _ _ th rel who w Z I J D (.inr rfl) (fun w' k=>xD x bm mv lv gv ts gs tl w' (h.p.below k) (ab.below k) th rel hs A.1 ac A.2 ap (ae.below k ai) (J.below k D) (cM D k.size)))
   have al:=fun w' (k:an w w')=>w8 x bm mv lv gv ts gs tl w' (h.p.below k) (ab.below k) th rel hs A.1 ac A.2 t h1 r h2 (J.below k D) (cM D k.size)
   have V:jZ kl rl th rel who=if !(bX ts (aG who 58).1).isSome then 5 else 0:=by
    rw [Q,re R e,am,zA]
    rfl
   cases Y:bX ts (aG who 58).1 with
   |none=>
    rw [Y] at V;exact U 5 ai V (I3 x bm mv lv gv ts gs tl _ _ th rel who w h.p ab Z I J D ae Y al)
   |some t'=>
    rw [Y] at V;have ad:jZ kl rl th rel who=0:=V;refine (SH x mv lv gv ts gs w h au th rel who hs A.1 av A.2 t h1 r h2 Z I t' Y J D).mono ?_;rintro e' w' ⟨kb,ag,ah,ak⟩;exact ⟨_,by rw [ad];exact ag,ah,fun h0=>absurd ad h0,fun _=>⟨kb,rfl,ak⟩⟩
def Nh(y bm tv kv rv pv kl rl pl l ss ts F s rel who b w)(C:DU w y (.pointer (some (aC bm 5))) tv ss)(D:DM w bm kv rv pv kl rl pl l)(hmb:∃cs,aL w bm cs 252)(Z:ss.length<=24)(h:oQ pl kl rl ts F)(V:∀t∈ss.map tt,Cc ts t)(hs:s.size<=maxLen)(ab:who.size<=maxLen)(U:jZ kl rl s rel who≠0->b=false)(R:jZ kl rl s rel who=0->∃kb:Sj->Bool,b=kb ⟨(aG s 58).1,(aG s 58).2.1,rel⟩/\lj ⟨(aG who 58).1,(aG who 58).2.1⟩ (dr (ss.map tt)) ((cL ts).map (List.map lM)) (fun _=>false) kb):
  Calls prog 86 #[bc y,aj s,aj rel,aj who] w fun e w'=>e=bj (.tuple #[.bool b,ar (jZ kl rl s rel who)])/\an w w':=by
 have e:b=(jZ kl rl s rel who==0&&b):=by
  by_cases h0:jZ kl rl s rel who=0
  .rw [h0];simp
  rw [U h0];simp
 rw [e];refine IV y bm tv kv rv pv kl rl pl l ss s rel who b w C D hs ab (fun h0 w' k=> ?_);obtain ⟨kb,e1,Y⟩:=R h0;have ha:(fd rl s rel).2.2=0:=by
  unfold jZ at h0
  split at h0
  .cases h0
  split at h0
  .rename_i I;exact h0
  rename_i I
  simpa using I
 cases A:bS s&&bC rel with
 |false=>rw [rb A] at ha;cases ha
 |true=>
  rcases cS h.k.d h.k.b (aG s 58).1 rel with ⟨e',ae⟩|⟨j,t,r,e',h1,h2,J⟩
  .rw [uw A e'] at ha;cases ha
  rw [re A e'];obtain ⟨X,Q,ac,ad,_⟩:=cT.get rl _ j _ h.k.f J;have:=xC y bm tv kv rv pv kl rl pl l ss (db who).1 (db who).2.1 (aG s 58).2.1 j F X ts kb w' (C.below k) (D.below k) X3 Q Z h V Y;rw [ac,ad,(cF h2).2] at this;rw [e1];exact this
end
def lR(s:ae):Prop:=∀c∈bB s,c≠58
def FB{c:UInt8}(h:dx c=true):c≠58:=by
 intro e;subst e
 revert h
 decide
def Wt(l:List UInt8)(h:dC (mk (l.take (dg l)))=true):lR (mk (l.take (dg l))):=by
 intro c hc
 cases l with
 |nil=>simp [dC,j2] at h
 |cons a r=>
  by_cases ha:letter a.toNat=true
  .have e:(a::r).take (dg (a::r))=a::r.takeWhile dx:=by
    simp only [dg,ha,if_true];rw [rj,List.take_succ_cons]
    congr 1
    have:=List.takeWhile_prefix (l:=r) dx;exact (List.prefix_iff_eq_take.1 this).symm
   rw [e,j2] at hc
   rcases cG.1 hc with rfl|hc
   .exact FB (by unfold dx;rw [ha];rfl)
   exact FB (lW.1 (List.all_takeWhile) c hc)
  have e:(a::r).take (dg (a::r))=[a]:=by simp [dg,ha]
  rw [e] at h;simp [dC,j2,ha] at h
variable {s:ae} {i:Nat}
def ZM(h:dC (TT s i)=true):lR (TT s i):=by
 unfold TT cI i7 at h ⊢;exact Wt _ h
variable {x:ae} {j:Nat}
def FC{T:Nat->ae}{u:Unit}(h:cb T x i=.ok (u,j)):dC (T i)=true:=by
 unfold cb di at h
 cases hn:dC (T i) with
 |true=>rfl
 |false=>rw [hn] at h;simp at h
section
variable (T:Nat->ae)(P:Nat->Nat)
variable {i j:Nat} {t:Ty}
def TI(h:j5 T P i=.ok (t,j)):∃k,t.name=T k/\dC (T k)=true:=by
 unfold j5 at h
 split at h
 .split at h
  .simp at h
  rename_i h1
  split at h
  .simp at h
  simp at h;obtain ⟨rfl,rfl⟩:=h;exact ⟨_,rfl,FC h1⟩
 simp at h
def Ab:∀f acc i ts j,(∀t∈acc,∃k,t.name=T k/\dC (T k)=true)->cR T P f acc i=.ok (ts,j)->∀t∈ts,∃k,t.name=T k/\dC (T k)=true
 |0,_,i,x,j,_,h=>by simp [cR] at h
 |f+1,acc,i,x,j,ha,h=>by
  unfold cR at h
  split at h
  .exact Ix
  split at h
  .simp at h
  split at h
  .simp at h
  rename_i C;refine Ab f _ _ _ _ (fun t A=> ?_) h;rw [aW,aX] at A
  rcases A with A|rfl
  .exact ha t A
  exact TI T P C
end
variable {s:ae} {ts:List Ty} {m:Nat}
def Ni(h:dI (TT s) (PP s)=.ok (ts,m)):∀t∈ts,lR t.name:=fun t C=>by
 obtain ⟨k,e,A⟩:=Ab _ _ _ _ _ _ _ au h t C;rw [e];exact ZM A
def TJ{α:Type}(p:α->Bool):∀(a b:List α),a.all p=true->(∀c r,b=c::r->p c=false)->(a++b).takeWhile p=a
 | [],b,_,hb=>by
  cases b with
  |nil=>rfl
  |cons c r=>simp [hb c r rfl]
 |x::a,b,ha,hb=>by
  simp only [List.all_cons,bP] at ha;simp only [List.cons_append,iE,ha.1,if_true];rw [TJ p a b ha.2 hb]
def df(a b:ae):bB (a++b)=bB a++bB b:=by
 unfold bB;simp
def ZN{k i:ae}(h:lR k):aG ((k++sg 58)++i) 58=(k,i,true):=by
 have el:bB ((k++sg 58)++i)=bB k++58::bB i:=by
  rw [df,df];simp [show bB (sg 58)=[58] from rfl]
 unfold aG;rw [el];have e1:(bB k++58::bB i).takeWhile (· != 58)=bB k:=TJ _ _ _ (lW.2 fun c hc=>by simpa using h c hc) (fun c r e=>by cases e;decide);have A:(bB k++58::bB i).dropWhile (· != 58)=58::bB i:=by
  have:=H8 (p:=(· != 58)) (l:=bB k++58::bB i);rw [e1] at this;exact List.append_cancel_left this
 rw [e1,A];simp [cX]
def Cu{t:Tg}(h:lR t.kind):aG (qU t) 58=(t.kind,t.id,true):=ZN h
def Cv{a b:Tg}(ha:lR a.kind)(h:lR b.kind)(e:qU a=qU b):a=b:=by
 have h1:=Cu ha;rw [e,Cu h] at h1;obtain ⟨C,A⟩:=a;obtain ⟨I,D⟩:=b;simp only [gW] at h1;obtain ⟨rfl,rfl,_⟩:=h1
 rfl
def Nj(a b:ae):eqs a b=true↔a=b:=by
 unfold eqs;rw [dQ]
 constructor
 .intro h;rw [<-cX a,<-cX b,h]
 intro h;rw [h]
def xF(l:List ae)(x a:ae):a∈mV l x↔a∈l\/a=x:=by
 unfold mV
 split
 .rename_i h;obtain ⟨y,C,A⟩:=dh.1 h;rw [Nj] at A;subst A
  constructor
  .exact .inl
  rintro (h|rfl)
  .exact h
  exact C
 rw [aW,aX]
variable {l:List ae}
def Cw(h:l.Nodup)(x:ae):(mV l x).Nodup:=by
 unfold mV
 split
 .exact h
 rename_i hn;refine sm.2 ⟨h,au,fun a ha b A=> ?_⟩;rw [aX] at A;subst A;rintro rfl;exact hn (dh.2 ⟨a,ha,(Nj a a).2 rfl⟩)
def inT(T:Tu)(a:ae):Prop:=a=qU ⟨T.kind,T.id⟩\/(T.who≠sg 42/\a=qU ⟨T.sub,T.who⟩)
def TK(l:List ae)(T:Tu)(a:ae):a∈allT l T↔a∈l\/inT T a:=by
 unfold allT inT
 split
 .rename_i h;rw [Nj] at h;rw [xF]
  constructor
  .rintro (h1|h1)
   .exact .inl h1
   exact .inr (.inl h1)
  rintro (h1|h1|⟨h1,_⟩)
  .exact .inl h1
  .exact .inr h1
  exact absurd h h1
 rename_i h;have hn:T.who≠sg 42:=fun e=>h ((Nj _ _).2 e)
 rw [xF,xF]
 constructor
 .rintro ((h1|h1)|h1)
  .exact .inl h1
  .exact .inr (.inl h1)
  exact .inr (.inr ⟨hn,h1⟩)
 rintro (h1|h1|⟨_,h1⟩)
 .exact .inl (.inl h1)
 .exact .inl (.inr h1)
 exact .inr h1
def Wu(h:l.Nodup)(T:Tu):(allT l T).Nodup:=by
 unfold allT
 split
 .exact Cw h _
 exact Cw (Cw h _) _
def FD(ss:List ae):∀(l:List ae)(a:ae),a∈mJ l ss↔a∈l\/∃s∈ss,inT (tt s) a:=by
 induction ss with
 |nil=>intro l a;simp [mJ]
 |cons s ss ih=>
  intro l a;rw [mJ,ih,TK]
  constructor
  .rintro ((h|h)|⟨q,A,h⟩)
   .exact .inl h
   .exact .inr ⟨s,ep,h⟩
   exact .inr ⟨q,eY _ A,h⟩
  rintro (h|⟨q,A,h⟩)
  .exact .inl (.inl h)
  rcases cG.1 A with rfl|A
  .exact .inl (.inr h)
  exact .inr ⟨q,A,h⟩
def Wv(ss:List ae):∀{l:List ae},l.Nodup->(mJ l ss).Nodup:=by
 induction ss with
 |nil=>intro l h;exact h
 |cons s ss ih=>intro l h;exact ih (Wu h _)
def Cx(n:ae):n++(⟨#[58,42]⟩:ae)=qU ⟨n,sg 42⟩:=by
 unfold qU;rw [<-cX (n++_),<-cX ((n++sg 58)++sg 42),df,df,df,ct]
 rfl
def inB(l:List ae)(a:ae):Bool:=l.any fun y=>eqs y a
def KS(l:List ae)(a:ae):inB l a=true↔a∈l:=by
 unfold inB;rw [dh]
 constructor
 .rintro ⟨y,A,e⟩;rw [Nj] at e;exact e▸A
 exact fun h=>⟨a,h,(Nj a a).2 rfl⟩
structure TL(ts:List Ty)(kl:List (ae×Nat))(ss:List ae):Prop where
 kl:kl=ts.map fun t=>(t.name,t.place)
 col:∀t∈ts,lR t.name
 nd:(ts.map fun t=>t.name).Nodup
 kd:∀s∈ss,∃t∈ts,t.name=(tt s).kind
 sb:∀s∈ss,∃t∈ts,t.name=(tt s).sub
 id:∀s∈ss,(tt s).id≠sg 42
variable {ss:List ae}
def TL.noc{kl:List (ae×Nat)}(h:TL ts kl ss):∀t∈b7 ts (ss.map tt),lR t.kind:=by
 intro t A;unfold b7 at A
 rcases aW.1 A with A|A
 .obtain ⟨y,C,rfl⟩:=aU.1 A;exact h.col y C
 obtain ⟨u,D,A⟩:=b6.1 A;obtain ⟨s,hs,rfl⟩:=aU.1 D;simp only [tS,cG,iQ,jD] at A
 rcases A with rfl|rfl
 .obtain ⟨y,C,e⟩:=h.kd s hs;exact e▸h.col y C
 obtain ⟨y,C,e⟩:=h.sb s hs;exact e▸h.col y C
def TL.all{kl:List (ae×Nat)}(h:TL ts kl ss)(a:ae):a∈xz kl ss↔∃t∈b7 ts (ss.map tt),qU t=a:=by
 unfold xz b7;rw [aW,FD]
 constructor
 .rintro ((hn|⟨s,hs,hi|⟨_,hi⟩⟩)|D)
  .cases hn
  .exact ⟨_,pZ _ (b6.2 ⟨_,aU.2 ⟨s,hs,rfl⟩,ep⟩),hi.symm⟩
  .exact ⟨_,pZ _ (b6.2 ⟨_,aU.2 ⟨s,hs,rfl⟩,eY _ ep⟩),hi.symm⟩
  unfold yi at D;rw [h.kl,fT] at D;obtain ⟨t,A,rfl⟩:=aU.1 D;exact ⟨js t,mF _ (aU.2 ⟨t,A,rfl⟩),(Cx t.name).symm⟩
 rintro ⟨t,A,rfl⟩;have J:∀y∈ts,qU ⟨y.name,sg 42⟩∈yi kl:=fun y C=>by
  unfold yi;rw [h.kl,fT,<-Cx];exact aU.2 ⟨y,C,rfl⟩
 rcases aW.1 A with A|A
 .obtain ⟨y,C,rfl⟩:=aU.1 A;exact .inr (J y C)
 obtain ⟨u,Q,A⟩:=b6.1 A;obtain ⟨s,hs,rfl⟩:=aU.1 Q;simp only [tS,cG,iQ,jD] at A
 rcases A with rfl|rfl
 .exact .inl (.inr ⟨s,hs,.inl rfl⟩)
 by_cases I:(tt s).who=sg 42
 .obtain ⟨y,C,e⟩:=h.sb s hs;rw [<-e,I];exact .inr (J y C)
 exact .inl (.inr ⟨s,hs,.inr ⟨I,rfl⟩⟩)
def TL.nodup{kl:List (ae×Nat)}(h:TL ts kl ss):(xz kl ss).Nodup:=by
 unfold xz;have Q:(yi kl).Nodup:=by
  unfold yi;rw [h.kl,fT];refine sj.2 ((sj.1 h.nd).imp fun {a b} J e=>J ?_);have A:=congrArg bB (show a.name++(⟨#[58,42]⟩:ae)=b.name++(⟨#[58,42]⟩:ae) from e);rw [df,df] at A;have I:=List.append_cancel_right A;rw [<-cX a.name,<-cX b.name,I]
 refine sm.2 ⟨Wv ss List.nodup_nil,Q,fun a ha b C e=> ?_⟩;subst e;unfold yi at C;rw [h.kl,fT] at C;obtain ⟨y,U,e⟩:=aU.1 C;rw [Function.comp_apply,Cx] at e;rw [FD] at ha;have hc:lR (⟨y.name,sg 42⟩:Tg).kind:=h.col y U
 rcases ha with ha|⟨s,hs,ha|⟨R,ha⟩⟩
 .cases ha
 .obtain ⟨z,D,A⟩:=h.kd s hs;have:=Cv hc (show lR (⟨(tt s).kind,(tt s).id⟩:Tg).kind from A▸h.col z D) (e.trans ha);simp only [Tg.mk.injEq] at this;exact h.id s hs this.2.symm
 obtain ⟨z,D,A⟩:=h.sb s hs;have:=Cv hc (show lR (⟨(tt s).sub,(tt s).who⟩:Tg).kind from A▸h.col z D) (e.trans ha);simp only [Tg.mk.injEq] at this;exact R this.2.symm
def TM{kl:List (ae×Nat)}(h:TL ts kl ss)(X:Nat):
  Nc (inB (oP X (b7 ts (ss.map tt)))) kl ss=oP X (b7 ts (ss.map tt)):=by
 unfold Nc;rw [<-oC];refine KF _ _ (M1 (h.nodup.filter _)) (SU _ _) (fun s=> ?_);rw [zV];unfold KO;rw [sM,KS]
 constructor
 .exact fun q=>q.2
 .intro q;refine ⟨?_,q⟩;obtain ⟨i,t,hi,_,e⟩:=(Fm _ _ _).1 q;exact (h.all s).2 ⟨t,bG hi,e⟩
variable {hs:List Hp} {i:Nat}
def Ww{kl:List (ae×Nat)}(h:TL ts kl ss){gs:List (List TR)}{K:Sj->Nat}(D:(b7 ts (ss.map tt)).length<=64)(Q:∀g∈gs,∀x∈g,BU x.2.body)(J:Run (b7 ts (ss.map tt)) hs gs (fun _=>0) K)(A:Sj){t:Tg}(hi:(b7 ts (ss.map tt))[i]? =some t):
  (K A).testBit i=inB (oP (K A) (b7 ts (ss.map tt))) (qU t):=by
 have key:(K A).testBit i=true↔qU t∈oP (K A) (b7 ts (ss.map tt)):=by
  rw [Fm]
  constructor
  .exact fun q=>⟨i,t,hi,q,rfl⟩
  rintro ⟨j,C,I,U,e⟩;have R:C=t:=Cv (h.noc _ (bG I)) (h.noc _ (bG hi)) e;subst R;have V:lj C hs (gs.map (List.map lM)) (fun _=>false) (fun s=>(K s).testBit i):=by simpa using E8 D hi Q J
  have Y:lj C hs (gs.map (List.map lM)) (fun _=>false) (fun s=>(K s).testBit j):=by simpa using E8 D I Q J
  have:=congrFun (E9 V Y) A;rw [<-U];exact this
 rw [gU,KS];exact key
def Ac(x c:Nat)(k i r th rel:ae)(w:af)(D:c=2\/c=5)(C:Calls prog 56 #[bc x,aj th,aj rel] w fun e w''=>e=bj (.tuple #[.agg #[aj k,aj i,aj r],ar c])/\an w w''):
  Calls prog 31 #[bc x,aj th,aj rel] w fun e w'=>e=bj (.tuple #[aw none 0 0,ar c])/\an w w':=by
 have I:((c:Int) != 0)=true:=by rw [gV];omega
 have J:((c:Int)==0)=false:=by rw [bW];omega
 go_enter func31,ntmps31;go_wp2_with fail;refine C.mono ?_;rintro e w1 ⟨rfl,h⟩;have A:=h.alloc h.size (bT aj k aj i aj r);go_wp2;go_ret2;exact ⟨rfl,A⟩
def TN(ts:List Ty)(gs:List Tu)(E:Nat)(aq:Sj)(w:af)(e:Ending)(w':af):Prop:=∃v L,e=bj (.tuple #[v,ar E])/\an w w'/\w'.ownsRow w.heap.size 9 1 v L.length (dM L)/\(E≠0->L=[])/\(E=0->∃K,Run (b7 ts gs) (dr gs) (cL ts) (fun _=>0) K/\L=oP (K aq) (b7 ts gs))
def TO(x:Nat)(mv lv gv:ag)(ts:List Ty)(gs:List Tu)(w:af)(h:UQ w x mv lv gv ts gs)(au:PuR ts gs)(kl:List (ae×Nat))(rl:List RV)(pl:List PV)(F:Nat)(Q:oQ pl kl rl ts F)(th rel:ae)(hs:th.size<=maxLen)(U:rel.size<=maxLen)(ak:(b7 ts gs).length<=64)(al:∀t∈b7 ts gs,t.kind.size+t.id.size<=1000)(R:kj w)(V:1<w.heap.size)(am:Laid w):
  Calls prog 31 #[bc x,aj th,aj rel] w (TN ts gs (fd rl th rel).2.2 ⟨(aG th 58).1,(aG th 58).2.1,rel⟩ w):=by
 obtain ⟨bm,tl,ad⟩:=h.m;have J:∀E,E≠0->(fd rl th rel).2.2=E->Calls prog 31 #[bc x,aj th,aj rel] w (fun e w'=>e=bj (.tuple #[aw none 0 0,ar E])/\an w w')->Calls prog 31 #[bc x,aj th,aj rel] w (TN ts gs (fd rl th rel).2.2 ⟨(aG th 58).1,(aG th 58).2.1,rel⟩ w):=fun E I e C=>C.mono fun e' w' ⟨h1,h2⟩=>⟨_,[],by rw [e];exact h1,h2,bQ,fun _=>rfl,fun h0=>absurd (e.symm.trans h0) I⟩
 cases D:bS th&&bC rel with
 |false=>exact J 2 ai (by rw [rb D]) (Ac x 2 _ _ _ th rel w (.inl rfl) (xE x th rel w hs U D))
 |true=>
  have A:=D;simp only [bP] at A;have hs:=n9 A.1;have av:rel.size<=1000:=by have:=dn A.2;omega
  rcases cS Q.k.d Q.k.b (aG th 58).1 rel with ⟨e,ap⟩|⟨j,t,r,e,h1,h2,_⟩
  .exact J 5 ai (by rw [uw D e]) (Ac x 5 _ _ _ th rel w (.inr rfl) (xD x bm mv lv gv ts gs tl w h.p ad th rel hs A.1 U A.2 ap am R V))
  have I:(fd rl th rel).2.2=0:=by rw [re D e]
  have ah:0<(b7 ts gs).length:=by
   unfold b7;rw [bg,bO];have:0<ts.length:=by
    cases ts with
    |nil=>simp [bX] at h1
    |cons a l=>simp
   omega
  refine (Zk x mv lv gv ts gs w h au th rel hs A.1 av A.2 t h1 r h2 ah ak al R V).mono ?_;rintro e' w' ⟨v,K,Y,Z,ab,ac⟩;exact ⟨v,_,by rw [I];exact Y,Z,ac,fun h0=>absurd I h0,fun _=>⟨K,ab,rfl⟩⟩
variable {aD br:Prop}
def X4 (h:aD:=by
 obtain ⟨cs,hc⟩:=ZO.blk;exact ⟨cs,hc.below k⟩):aD:=h
def TP (h:aD:=by
 rw [<-hgs];exact hgd):aD:=h
def TQ (h:aD:=by
 go_wp2;go_ret;exact ⟨rfl,lv,hT,gR,us,ms,hS.below B2,(bw.mono Yj).trans (B2.mono hbase),ai,hus,ai⟩):aD:=h
variable {gs:List Tu}
def X5(h:sy gs ss)(J:tB ts gs):gs=ss.map tt/\∀t∈gs,Cc ts t:=by
 refine ⟨h.eq,fun t C=> ?_⟩;have D:=C;rw [h.eq] at D;obtain ⟨s,hs,rfl⟩:=aU.1 D;have ho:=h.ok s hs;have A:=Eu ho;have Y:=(lB ho).1;have h1:bS (aG (aG s 64).1 35).1=true:=by
  unfold dK at ho;simp only [bP] at ho;exact ho.1.1
 unfold bS at h1;simp only [bP] at h1;have h2:=dn h1.1;have V:=dn h1.2;have hid:bC (tR s).id=true:=h1.2;refine ⟨J _ C,hid,?_,?_,?_,?_,?_⟩
 .show (aG (aG (aG s 64).1 35).1 58).1.size<=maxLen
  unfold maxLen;omega
 .show (aG (aG (aG s 64).1 35).1 58).2.1.size<=maxLen
  unfold maxLen;omega
 .show (nj (aG (aG s 64).2.1 35).1 (aG (aG s 64).2.1 35).2.2).1.size<=maxLen
  have Q:=(ej s 64).2;have R:=(ej (aG s 64).2.1 35).1;have I:=(ej (aG (aG s 64).2.1 35).1 58).1;have U:(nj (aG (aG s 64).2.1 35).1 (aG (aG s 64).2.1 35).2.2).1.size<=(aG (aG s 64).2.1 35).1.size:=by
   unfold nj db
   split<;>first|exact I|(simp only;omega)
  unfold maxLen;omega
 .show (b8 s).1.who.size<=maxLen
  rcases A with ⟨e,_⟩|⟨e,_⟩|⟨e,_⟩
  .rw [e];decide
  .have:=dn e;unfold maxLen;omega
  have:=dn e;unfold maxLen;omega
 show (b8 s).1.of.size<=maxLen
 rcases A with ⟨_,e⟩|⟨_,e⟩|⟨_,e⟩
 .rw [e];unfold maxLen;omega
 .rw [e];unfold maxLen;omega
 have:=dn e;unfold maxLen;omega
variable {w:af} {mv lv gv:ag}
def X6{x}(h:Nx w x mv lv gv ts gs):UQ w x mv lv gv ts gs:=⟨h.p,h.m,h.l⟩
variable {base b:Nat} {hT gR:ag} {us:List ew} {u:ew}
def I5{ms}(h:WS base w b lv hT gR us ms)(U:u∈us)(ee s rr ww)(hs:s.size<=maxLen)(am:rr.size<=maxLen)(V:ww.size<=maxLen)(I:Env w):
  Calls prog 47 #[bc b,.agg #[bc u.x,bc u.y],.agg #[ar 7,ar ee,aj s,aj rr,aj ww]] w (e8 base b us.length ms.length w):=by
 have bw:an w ((w.alloc (gq bc u.x bc u.y)).alloc (eZ ar 7 ar ee aj s aj rr aj ww)):=((aA _ w).alloc aH _).alloc au _;have Yj:base<=w.heap.size:=by have:=h.low;have:=h.blk.lt;omega
 have hus:1<=us.length:=List.length_pos_of_mem U;obtain ⟨W,R⟩:∃W,((w.alloc (gq bc u.x bc u.y)).alloc (eZ ar 7 ar ee aj s aj rr aj ww))=W:=⟨_,rfl⟩;have ac:=(aL.new w #[bc u.x,bc u.y] 86).alloc (eZ ar 7 ar ee aj s aj rr aj ww);have D:=aL.new' (w.alloc (gq bc u.x bc u.y)) #[ar 7,ar ee,aj s,aj rr,aj ww] 34 (w.heap.size+1) au;rw [R] at bw ac D;have hS:=h.below bw;have A:=hS.ur u U;obtain ⟨hgs,hgd⟩:=X5 A.both A.lets;obtain ⟨kv,rv,pv,kl,rl,pl,l,aK,ZO,az,⟨ax,src,m,av,ap,al,ae,Q⟩,_⟩:=A.ud.r;obtain ⟨F,J⟩:=X2 av ap al ae Q;obtain ⟨bm,tl,ah⟩:=A.up.m;have aB:=A.ud.most;have ay:u.gs.length<=1000:=by rw [hgs,bO];omega
 have aN:=I.lt;have Y:=I4 u.x u.mv u.lv u.gv u.ts u.gs W (X6 A.up) (SR ah J.m hgd ay) kl rl pl F J Q.1 s rr ww hs am V (I.max.below bw ai) EH (I.laid.below bw ai);have Z:=fun (w':af) (k:an W w') (b:Bool) (h0:jZ kl rl s rr ww≠0->b=false) (h1:jZ kl rl s rr ww=0->∃kb:Sj->Bool,b=kb ⟨(aG s 58).1,(aG s 58).2.1,rr⟩/\lj ⟨(aG ww 58).1,(aG ww 58).2.1⟩ (dr u.gs) ((cL u.ts).map (List.map lM)) (fun _=>false) kb)=>Nh u.y u.bm u.tv kv rv pv kl rl pl l u.ss u.ts F s rr ww b w' (A.ud.d.below k) (ZO.dm.below k) X4 aB J TP hs V h0 (by rw [<-hgs];exact h1)
 have aM:jZ kl rl s rr ww<=5:=by
  unfold jZ;have:=uv rl s rr
  split
  .omega
  split
  .exact this
  split<;>omega
 generalize jZ kl rl s rr ww=E at*;have aw:=ak R;have aO:=bw.size;have hbase:base<=W.heap.size:=by have:=hS.low;have:=hS.blk.lt;omega
 clear h A U R hgs hgd ZO az ax av ap al ae Q J ah I hs am V;go_enter func47,ntmps47;go_wp2_with fail;rw [aw.u];refine Y.mono ?_;rintro e w1 ⟨ad,rfl,C,h0,h1⟩;have ab:=Z w1 C ad h0 h1;obtain ⟨aE,p1⟩:=fZ (ac.below C);have aF:w1.cell? (aC (w.heap.size+1) 2)=some (aj s):=(D.below C).cell rfl;have aI:w1.cell? (aC (w.heap.size+1) 3)=some (aj rr):=(D.below C).cell rfl;have aJ:w1.cell? (aC (w.heap.size+1) 4)=some (aj ww):=(D.below C).cell rfl;clear Y Z h0 h1;go_wp2_with fail;refine ab.mono ?_;rintro e aP ⟨rfl,ag⟩;have B2:=C.trans (ag.mono C.size);clear ag ab aE p1 aF aI aJ
 cases ad
 .exact TQ
 .exact TQ
variable {rl:List RV} {pl:List PV} {F:Nat}
def ZP{kl:List (ae×Nat)}(h:oQ pl kl rl ts F)(Q:kl=ts.map fun t=>(t.name,t.place))(J:∀t∈ts,lR t.name)(A:∀t∈ss.map tt,Cc ts t):TL ts kl ss where
 kl:=Q
 col:=J
 nd:=sj.2 h.k.d.ty
 kd:=fun s hs=>by
  obtain ⟨y,q,g,h1,_⟩:=kF A (aU.2 ⟨s,hs,rfl⟩);exact ⟨y,(cw h1).1,(cw h1).2⟩
 sb:=fun s hs=>by
  obtain ⟨y,q,g,h1,h2,D,I,_⟩:=kF A (aU.2 ⟨s,hs,rfl⟩);obtain ⟨u,C,_⟩:=h.grant (cw h1).1 (cF h2).1 D;rw [I] at C;exact ⟨u,(cw C).1,(cw C).2⟩
 id:=fun s hs e=>by
  have:=(A _ (aU.2 ⟨s,hs,rfl⟩)).id;rw [e] at this;exact absurd this (by rw [show sg 42=(⟨#[42]⟩:ae) from rfl,sO];decide)
def Wx(y bm:Nat)(tv kv rv pv:ag)(kl:List (ae×Nat))(rl:List RV)(pl:List PV)(l:List PX)(ss:List ae)(ts:List Ty)(F:Nat)(s rel:ae)(K:Sj->Nat)(w:af)(J:DU w y (.pointer (some (aC bm 5))) tv ss)(Q:DM w bm kv rv pv kl rl pl l)(hmb:∃cs,aL w bm cs 252)(R:ss.length<=24)(h:oQ pl kl rl ts F)(ad:∀t∈ss.map tt,Cc ts t)(A:TL ts kl ss)(hs:s.size<=maxLen)(al:∀a∈ss,mD (tt a))(ah:∀k∈kl,k.1.size<=500)(hc:(b7 ts (ss.map tt)).length<=64)(ac:∀t∈b7 ts (ss.map tt),t.kind.size+t.id.size<=1000)(U:∀g∈cL ts,∀x∈g,BU x.2.body)
  (ak:(fd rl s rel).2.2=0->Run (b7 ts (ss.map tt)) (dr (ss.map tt)) (cL ts) (fun _=>0) K):
  Calls prog 90 #[bc y,aj s,aj rel] w (IW (fd rl s rel).2.2 (if (fd rl s rel).2.2=0 then oP (K ⟨(aG s 58).1,(aG s 58).2.1,rel⟩) (b7 ts (ss.map tt)) else []) w):=by
 have ab:∀a∈xz kl ss,a.size<=maxLen:=fun a ha=>by
  obtain ⟨t,C,rfl⟩:=(A.all a).1 ha;have:=ac t C;unfold qU;rw [be,be,show (sg 58).size=1 from rfl];unfold maxLen;omega
 have:=Tw y bm tv kv rv pv kl rl pl l ss s rel (inB (oP (K ⟨(aG s 58).1,(aG s 58).2.1,rel⟩) (b7 ts (ss.map tt)))) w J Q hs R al ah ab (fun ha a ai w' k=>by
  obtain ⟨t,C,rfl⟩:=(A.all a).1 ai;obtain ⟨i,hi⟩:=ip.1 C;rw [Cu (A.noc t C)]
  cases D:bS s&&bC rel with
  |false=>rw [rb D] at ha;cases ha
  |true=>
   rcases cS h.k.d h.k.b (aG s 58).1 rel with ⟨e',ap⟩|⟨j,t2,r,e',h1,h2,V⟩
   .rw [uw D e'] at ha;cases ha
   have I:=ak ha;have Y:lj t (dr (ss.map tt)) ((cL ts).map (List.map lM)) (fun _=>false) (fun s=>(K s).testBit i):=by simpa using E8 hc hi U I
   rw [re D e'];obtain ⟨X,Z,am,an,_⟩:=cT.get rl _ j _ h.k.f V;have:=xC y bm tv kv rv pv kl rl pl l ss t.kind t.id (aG s 58).2.1 j F X ts _ w' (J.below k) (Q.below k) X3 Z R h ad Y;rw [am,an,(cF h2).2] at this;rw [<-Ww A hc U I _ hi];exact this)
 rw [TM A] at this;exact this
def Nk(X:Nat)(cs:List Tg):(oP X cs).length<=cs.length:=by
 unfold oP iw;have h1:=V2 (gG ((dA X cs cs.length).map qU)) [];rw [oB,bO,List.length_nil] at h1;have:=oE X cs cs.length;omega
def TS{ab:List (ag×Nat)}(h:WS base w b lv hT gR us ab)(aI:u∈us)(ee:Int)(s rr ww:ae)(hs:s.size<=maxLen)(Z:rr.size<=maxLen)(bp:ab.length+4<=8796093022208)(R:Env w):
  Calls prog 47 #[bc b,.agg #[bc u.x,bc u.y],.agg #[ar 8,ar ee,aj s,aj rr,aj ww]] w (e8 base b us.length ab.length w):=by
 have bw:an w ((w.alloc (gq bc u.x bc u.y)).alloc (eZ ar 8 ar ee aj s aj rr aj ww)):=((aA _ w).alloc aH _).alloc au _;have bl:base<=w.heap.size:=by have:=h.low;have:=h.blk.lt;omega
 have bv:1<=us.length:=List.length_pos_of_mem aI;obtain ⟨W,al⟩:∃W,((w.alloc (gq bc u.x bc u.y)).alloc (eZ ar 8 ar ee aj s aj rr aj ww))=W:=⟨_,rfl⟩;have aQ:=(aL.new w #[bc u.x,bc u.y] 86).alloc (eZ ar 8 ar ee aj s aj rr aj ww);have ad:=aL.new' (w.alloc (gq bc u.x bc u.y)) #[ar 8,ar ee,aj s,aj rr,aj ww] 34 (w.heap.size+1) au;rw [al] at bw aQ ad;have J:=h.below bw;have C:=J.ur u aI;obtain ⟨hgs,hgd⟩:=X5 C.both C.lets;obtain ⟨kv,rv,pv,kl,rl,pl,l,bG,ZO,bs,⟨bi,src,m,a9,a7,aw,aT,ah⟩,_⟩:=C.ud.r;obtain ⟨F,D⟩:=X2 a9 a7 aw aT ah;obtain ⟨bm,tl,a5⟩:=C.up.m;have bt:=C.ud.most;have aF:=(tD C.both).2;have aY:u.gs.length<=1000:=by rw [hgs,bO];omega
 have V:=ah.1;have bu:u.ts.length<=5:=by have:=ZO.dm.kn;rw [V,bO] at this;exact this
 have aS:TL u.ts kl u.ss:=ZP D V (Ni aw) TP;have U:(b7 u.ts u.gs).length<=64:=by
  unfold b7;rw [bg,bO,Ku,hgs,bO];omega
 have ay:∀t∈u.ts,t.name.size<=8:=fun t A=>(D.m.n t A).1
 have av:∀t∈b7 u.ts u.gs,t.kind.size+t.id.size<=1000:=fun t A=>by
  unfold b7 at A
  rcases aW.1 A with A|A
  .obtain ⟨y,bz,rfl⟩:=aU.1 A;have:=ay y bz
   show y.name.size+(⟨#[42]⟩:ae).size<=1000
   have:(⟨#[42]⟩:ae).size=1:=rfl;omega
  obtain ⟨q,Y,A⟩:=b6.1 A;have bA:=aF q Y;unfold mD at bA;simp only [tS,cG,iQ,jD] at A
  rcases A with rfl|rfl<;>(simp only;omega)
 have az:=SR a5 D.m hgd aY;have bI:=R.lt;have be:=R.pow;have aJ:=TO u.x u.mv u.lv u.gv u.ts u.gs W (X6 C.up) az kl rl pl F D s rr hs Z U av (R.max.below bw ai) EH (R.laid.below bw ai);have aK:=(fun (w':af) (k:an W w') (L:List ae) (h0:(fd rl s rr).2.2≠0->L=[]) (h1:(fd rl s rr).2.2=0->∃K,Run (b7 u.ts u.gs) (dr u.gs) (cL u.ts) (fun _=>0) K/\L=oP (K ⟨(aG s 58).1,(aG s 58).2.1,rr⟩) (b7 u.ts u.gs))=>show Calls prog 90 #[bc u.y,aj s,aj rr] w' (IW (fd rl s rr).2.2 L w') from by
  have aZ:=fun K Z=>Wx u.y u.bm u.tv kv rv pv kl rl pl l u.ss u.ts F s rr K w' (C.ud.d.below k) (ZO.dm.below k) X4 bt D TP aS hs (fun a ha=>aF _ (by rw [hgs];exact aU.2 ⟨a,ha,rfl⟩)) (fun q Y=>by rw [V] at Y;obtain ⟨t,A,rfl⟩:=aU.1 Y;have:=ay t A;simp only;omega) (by rw [<-hgs];exact U) (by rw [<-hgs];exact av) (fun g bn x bx=>(az.ln g bn x bx).wf) Z
  by_cases e0:(fd rl s rr).2.2=0
  .obtain ⟨K,bk,rfl⟩:=h1 e0;have:=aZ K (fun _=>by rw [<-hgs];exact bk);rw [if_pos e0,<-hgs] at this;exact this
  have:=aZ (fun _=>0) (fun e=>absurd e e0);rw [if_neg e0] at this;rw [h0 e0];exact this)
 have bH:=uv rl s rr;have aP:=fun X=>aV (Nk X (b7 u.ts u.gs)) U
 generalize (fd rl s rr).2.2=E at*;have bh:=ak al;have a8:=bw.size;have hbase:base<=W.heap.size:=by have:=J.low;have:=J.blk.lt;omega
 clear h C aI al hgs hgd ZO bs bi a9 a7 aw aT ah D a5 R hs Z aS U av ay aF az V bu aY;go_enter func47,ntmps47;go_wp2_with fail;rw [bh.u];refine aJ.mono ?_;rintro e w1 ⟨v1,L,rfl,I,a6,h0,h1⟩;obtain ⟨a1,c1,rfl⟩:=ax a6;have aO:=aK w1 I L h0 h1;have hl:L.length<=64:=by
  by_cases e0:E=0
  .obtain ⟨K,_,rfl⟩:=h1 e0;exact aP _
  rw [h0 e0];simp
 obtain ⟨bB,p1⟩:=fZ (aQ.below I);have bC:w1.cell? (aC (w.heap.size+1) 2)=some (aj s):=(ad.below I).cell rfl;have bD:w1.cell? (aC (w.heap.size+1) 3)=some (aj rr):=(ad.below I).cell rfl;clear aJ aK h0 h1 aP;go_wp2_with fail;refine aO.mono ?_;rintro e bE ⟨bM,rfl,am,aE⟩;obtain ⟨a2,c2,rfl⟩:=ax aE;have ac:=I.trans (am.mono I.size);have aR:=aB a6 am;have aM:=ED _ _ _ _ L bE aR aE ai;clear am aE aO bB p1 bC bD;go_wp2_with fail;refine aM.mono ?_;rintro e bN ⟨rfl,ap⟩;have Q:=ac.trans (ap.mono ac.size);have aN:=Kf (J.below Q) hbase Q.size L (aB aR ap) ai (fun m bq=>(J.mrk m bq).lim.below Q) (fun k D=>(J.ls.lt k D).2) bp (be.below (bw.trans (Q.mono a8)) ai);clear ap aM ac I;go_wp2_with fail;refine aN.mono ?_;rintro e bF ⟨rfl,bK,bJ,bL,ba,aX,bo⟩;have bb:=show e8 base b us.length ab.length w (bj (.bool true)) bF from ⟨rfl,_,_,_,_,_,ba,((bw.trans (Q.mono a8)).mono bl).trans aX,ai,bv,ai⟩
 clear ba aX bo aN;go_wp2;go_ret;exact bb
def T6:XE [1,2,3,4,5,6,7,8]:=by
 intro base b lv hT gR us Z w x h C D Q J ho A V;have Y:=A.lt;simp only [List.any_cons,List.any_nil,mj,kZ,dQ] at J;obtain ⟨kd,ee,s,rr,ww⟩:=x;simp only at J
 rcases J with rfl|rfl|rfl|rfl|rfl|rfl|rfl|rfl
 .refine (I9 (some (aN b)) ee s rr ww w A.laid).mono ?_;rintro e w' ⟨rfl,R⟩;have U:base<=w.heap.size:=by have:=h.low;have:=h.blk.lt;omega
  exact ⟨rfl,_,_,_,_,_,h.below R,R.mono U,ai,C,ai⟩
 .exact RR h C ee s rr ww D A.laid
 .exact nR h C 3 ee s rr ww (.inl rfl) ho.s ho.e0 ho.e1 D A.laid A.max ai
 .exact nR h C 4 ee s rr ww (.inr (.inl rfl)) ho.s ho.e0 ho.e1 D A.laid A.max ai
 .exact nR h C 5 ee s rr ww (.inr (.inr rfl)) ho.s ho.e0 ho.e1 D A.laid A.max ai
 .exact wP h C 6 ee s rr ww (.inl rfl) ho.e0 ho.e1 D (fun W' k u I=>EK (h.below k) I ee s rr ww 6 rfl Q (A.pow.below k ai) (by have:=k.size;omega))
 .exact wP h C 7 ee s rr ww (.inr (.inl rfl)) ho.e0 ho.e1 D (fun W' k u I=>I5 (h.below k) I ee s rr ww ho.s ho.r ho.w (A.below k ai))
 exact wP h C 8 ee s rr ww (.inr (.inr rfl)) ho.e0 ho.e1 D (fun W' k u I=>TS (h.below k) I ee s rr ww ho.s ho.r Q (A.below k ai))
def WB(v:ag)(n:Nat)(w:af)(h:Mt w v n)(R:n<=2199023255488)(A:Env w):
  Calls prog 7 #[v] w fun e w'=>e=bj (.bool true)/\an w w':=by
 have D:=(aA w.heap.size w).alloc aH (.cells #[ar 1,ar 2,ar 3,ar 4,ar 5,ar 6,ar 7,ar 8] 3);have I:=aL.new w #[ar 1,ar 2,ar 3,ar 4,ar 5,ar 6,ar 7,ar 8] 3;have C:=(Mu [1,2,3,4,5,6,7,8] T6 v n w _ h R w.heap.size 8 au (fun k Q=>I.cell (by
  match k,Q with
  |0,_=>rfl
  |1,_=>rfl
  |2,_=>rfl
  |3,_=>rfl
  |4,_=>rfl
  |5,_=>rfl
  |6,_=>rfl
  |7,_=>rfl)) D (A.below D A.lt) A.lt)
 have hv:∃a c,v=aw a n c:=by
  rcases h with ⟨rfl,rfl⟩|⟨U,c,z,rfl,h1,_⟩
  .exact ⟨_,_,rfl⟩
  exact ⟨_,_,rfl⟩
 obtain ⟨V,rc,rfl⟩:=hv;go_enter func7,ntmps7;go_wp2_with fail;refine C.mono ?_;rintro e w1 ⟨rfl,J⟩;go_wp2;go_ret;exact ⟨rfl,J⟩
end Go.Proofs.YtlbpnlngckgcbaaGreatDoor
namespace Go.Proofs.YtlbpnlngckgcbaaGreatDoor
open Go.ChangeShapes Go.WideShapes Go.RowKit Go.Proofs.Tryz
def WC(v:Value)(n:Nat)(w:World)(h:Mt w v n)(C:n<=2199023255488)(A:Env w):
  Calls Tryz.prog 7 #[v] w fun e w'=>e=bj (.bool true)/\an w w':=WB v n w h C A
variable {W:World}
def WD(h:laidMetH Tryz.prog Rows.allRow.laid W)(hs:W.ShapedOpen Tryz.prog):Env W:=by
 obtain ⟨U,A⟩:=laidMetH_iff.1 h;refine ⟨?_,?_,?_,?_⟩
 .obtain ⟨name,u,ty,e1,I,J,Q,C⟩:=A ("errors.errorType",Rows.laid_errors_errorType) (sM.2 ⟨.tail _ (.tail _ (.tail _ (.head _))),aM⟩);have R:name=[101,114,114,111,114]:=(gK e1).symm;subst R;obtain rfl:=gK (gRt.symm.trans I);have D:ty∈(List.range 445).filter fun t=>Tryz.prog.rowNamed t [101,114,114,111,114]:=sM.2 ⟨List.mem_range.2 (by rw [<-gSize];exact J),Q⟩
  rw [gOne] at D;obtain rfl:=aX.1 D;have A:typeHandle Tryz.prog 77=.pointer (some (aC 5 77)):=aM;rw [A] at C;unfold Laid
  simpa using World.var?_cell gVar C 0
 .exact cell_of_shapedOpen_int (t:=3) (zero:=#[ar 0]) (k:=.i64) hs (by rw [XF];decide) aM rfl aM aM Tryz.underlying3
 .exact Y0 (U:laidMet Tryz.prog [("math/bits.deBruijn32tab",Rows.laid_math_bits_deBruijn32tab),("math/bits.deBruijn64tab",Rows.laid_math_bits_deBruijn64tab),("internal/strconv.uint64pow10",Rows.laid_internal_strconv_uint64pow10)] W)
 obtain ⟨cs,hc,_⟩:=hs.1 4 _ _ (by rw [XF];decide) gFour;exact lt_of_some hc
def WE(os:Os)(args:Array Value):laidMetH Tryz.prog Rows.allRow.laid ((World.doorLaid Tryz.prog 31 os).forCall (fun _ _=>0) ⟨#[],args,[]⟩).memory:=
 laidMetH_of_parts3 (fuel:=8) (laidMet_of_run' 8 aM aM) aM aM
def Ja(os:Os)(ap:os.Started)(H:Type)(enc:TypeId×Value->H):
  ReturnsInHanded {} Tryz.checked os 7 .any (fun w args=>(Rows.allSpec.pre enc Tryz.prog Tryz.f7 [] false w args/\laidMetH Tryz.prog Rows.allRow.laid w)/\sizedMet enc Tryz.prog Tryz.f7 (OpenSpec.ofChange Rows.allSpec) false w args)
   (Rows.allSpec.post enc Tryz.prog Tryz.f7 false true false false):=by
 refine EO (C:=Tryz.checked) (X:=fun w _=>laidMetH Tryz.prog Rows.allRow.laid w) (fun _ _ _ af h=>h.of_heap af) gOwn ap aM Tryz.func7
  (ChangeSpec.witness_shaped (enc:=enc) (C:=Tryz.checked) (os:=os) (X:=fun w _=>laidMetH Tryz.prog Rows.allRow.laid w) false (World.doorLaid Tryz.prog 31 os) #[aw none 0 0] 8 rfl (World.shaped_of_RefB aM aM) aM aM aM (WE os _)) ?_
 intro W base args ds gs au ak J _ U aj ab _;have R:∀(j:Nat) t v,Tryz.f7.params[j]? =some t->args[j]? =some v->Value.okWide Tryz.prog W .any base t v:=ak;have Q:=J;obtain ⟨p,q,Y,ac,rfl,ay,az⟩:=J;have D:DataW.TrodAll enc Tryz.prog W 0 (fun _=>true) true Tryz.f7.params.toList args.toList ds p:=Y;have I:DataW.TrodVars enc Tryz.prog W (fun _=>true) [] gs q:=ac;rw [Tryz.params7] at D R;obtain ⟨V,aB,d0,av,al,aA,ax,rfl,rfl,h0,am⟩:=trodAll_cons D;obtain ⟨rfl,rfl,rfl⟩:=trodAll_nil am;obtain rfl:args=#[V]:=by cases args;simp_all
 have Z:=WD ab aj;obtain ⟨rfl,rfl⟩:gs=[]/\q=[]:=by
  cases gs with
  |nil=>exact ⟨rfl,I⟩
  |cons g r=>exact absurd I (by intro h;cases h)
 obtain ⟨ar,len,cap,rfl⟩:=okWide_slice Tryz.underlying36 (R 0 36 V rfl rfl);simp only [dS] at Q U;obtain ⟨n,ai,ah,ad⟩:=YY h0;have hn:n<=2199023255488:=by
  rcases ad with ⟨_,rfl⟩|⟨el,an,rfl,rfl⟩
  .omega
  have A:(el.length+an.length)*Tryz.prog.bytesOf 34<=reachBytes:=sized_slice (j:=0) (t:=36) U (by
   show (Tryz.f7.params.toList++[])[0]? =_
   rw [Tryz.params7]
   rfl) rfl Tryz.underlying36
  rw [VP] at A;have:reachBytes=140737488351232:=rfl;omega
 refine (WC _ n W ai hn Z).mono fun e W' ⟨ae,A⟩=> ?_
 subst ae;exact ⟨_,rfl,_,_,_,[],al,[],Q,trodAll_mk1 (shut_bool Tryz.underlying4 true),by
  have:=trodAll_cons_mk (Below.trod gLaid aM (Bp aM) h0 A ah) trodAll_mk0;simp only [dS] at this;exact this,rfl,A.frame _,fun h=>by cases h⟩
end Go.Proofs.YtlbpnlngckgcbaaGreatDoor
