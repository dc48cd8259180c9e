import Derived.Test.YtlbpnlngckgcbaaGreatDoorM36
set_option linter.all false
set_option maxHeartbeats 4000000
set_option maxRecDepth 100000
namespace Go.Proofs.YtlbpnlngckgcbaaGreatDoor
open Go.RowKit Go.PlainAid Go.Proofs.Tryz
variable {aD bq:Prop} {α:Type} {i j b k a base size n q:Nat} {x s kd id:ae} {r:Rl} {t:Ty} {ts:List Ty} {gs:List Tu} {w w':af} {mv v:ag} {cs:Array ag} {T T' e:TypeId} {xs:List ag} {X:RV} {more:Bool}
def Th (h:aD:=by
 obtain ⟨m,a,b,h1,h2⟩:=hx h;exact ⟨m,a,b,up _ (.inl h1),h2⟩):aD:=h
def oV{α:Type}:∀(l m:List α),l.Nodup->(∀x∈l,x∈m)->l.length<=m.length
 | [],m,_,_=>ar
 |x::l,m,h,hs=>by
  rw [List.nodup_cons] at h;obtain ⟨a,b,rfl⟩:=se (hs x eu);have:=oV l (a++b) h.2 (fun y A=>by
   have:=hs y (eY _ A);rw [aW,cG] at this;rw [aW]
   rcases this with h1|rfl|h1
   ·exact .inl h1
   ·exact absurd A h.1
   exact .inr h1)
  simp only [bf,List.length_cons] at this ⊢;omega
def iC(nd):∀(k:Nat)(q f:List Sp),f.Nodup->(ed nd k q f).Nodup
 |0,_,f,h=>h
 |k+1,[],f,h=>h
 |k+1,x::q,f,h=>by
  rw [ed]
  split
  ·exact iC nd k q f h
  rename_i C;refine iC nd k _ _ ?_;rw [sR];refine ⟨h,ar,fun a ha b A e=> ?_⟩;rw [aX] at A;subst A;subst e;exact C ((Iv f a).2 ha)
def FL(ts:List Ty)(s:Sp):Nat:=(cT ts [s]).length
def CG{nd:α->List α}{S T:List α}(h:∀x∈S,Ci nd T x){y:α}(k:Ci nd S y):Ci nd T y:=by
 induction k using Ci.ind with
 |base hx=>exact h _ hx
 |step _ hy ih=>exact .step ih hy
section
variable {ts:List Ty}{x y:Sp}
def ZN(h:Ci (bg ts) [x] y):FL ts y<=FL ts x:=
 oV _ _ (iC _ _ _ _ ar) (fun z A=>by
  rw [fj] at A ⊢;exact CG (fun a ha=>by rw [aX] at ha;subst ha;exact h) A)
def ZO(h:Ci (bg ts) [x] y)(C:¬Ci (bg ts) [y] x):FL ts y<FL ts x:=by
 have:=oV (x::cT ts [y]) (cT ts [x]) (by
  rw [List.nodup_cons];exact ⟨fun e=>C ((fj _ _ _).1 e),iC _ _ _ _ ar⟩) (fun z A=>by
  rw [fj]
  rcases cG.1 A with rfl|A
  ·exact .bz ar
  rw [fj] at A;exact CG (fun a ha=>by rw [aX] at ha;subst ha;exact h) A)
 exact this
def K6:0<FL ts x:=by
 have:x∈cT ts [x]:=(fj _ _ _).2 (.bz ar);exact List.length_pos_of_mem this
end
def yR:Ex->List Ex
 |⟨n,some x,some y⟩=>if n.kind=3\/n.kind=4 then yR x++yR y else yR x++aN y
 |_=>[]
def CH:∀(e p:Ex),p∈yR e->∃n x y,(⟨n,some x,some y⟩:Ex)∈aF e/\¬(n.kind=3\/n.kind=4)/\p∈aN y
 |⟨n,some x,some y⟩,p,h=>by
  have hx:=CH x p;have D:=CH y p;unfold yR at h;have up:∀q,q∈aF x\/q∈aF y->q∈aF ⟨n,some x,some y⟩:=fun q A=>by
   simp only [aF,aW,aX]
   rcases A with A|A
   ·exact .inl (.inl A)
   exact .inr A
  split at h
  ·rcases aW.1 h with h|h
   ·exact Th
   obtain ⟨m,a,b,h1,h2⟩:=D h;exact ⟨m,a,b,up _ (.inr h1),h2⟩
  rename_i C
  rcases aW.1 h with h|h
  ·exact Th
  exact ⟨n,x,y,by simp [aF],C,h⟩
 |⟨n,none,r⟩,p,h=>by simp [yR] at h
 |⟨n,some x,none⟩,p,h=>by simp [yR] at h
def tm:∀(e q p:Ex),q∈aF e->p∈aN q->p∈aN e
 |⟨n,some x,some y⟩,q,p,h,hp=>by
  simp only [aF,aW,aX] at h;simp only [aN,aW]
  rcases h with (h|rfl)|h
  ·exact .inl (tm x q p h hp)
  ·simpa [aN] using hp
  exact .inr (tm y q p h hp)
 |⟨n,none,r⟩,q,p,h,hp=>by
  simp only [aF,aX] at h;subst h;exact hp
 |⟨n,some x,none⟩,q,p,h,hp=>by simp [aF] at h
structure ZP(ts:List Ty):Prop where
 fnd:∀t∈ts,bW ts t.name=some t
 fnr:∀t∈ts,∀r∈t.rels,b8 t r.name=some r
 loops:∀t∈ts,∀r∈t.rels,jH ts t r=none
 less:∀t∈ts,∀r∈t.rels,∀p∈aF r.body,p.l.isSome=true->¬(p.nd.kind=3\/p.nd.kind=4)->fi p.nd.kind=246
section
variable {ts:List Ty}{t:Ty}{r:Rl}{e:Ex}{d:Sp}
def ZP.need(h:ZP ts)(A:t∈ts)(C:r∈t.rels):bg ts (t.name,r.name)=dw ts t r r.body:=by
 unfold bg;simp only [h.fnd t A,h.fnr t A r C]
def ZP.rkp(h:ZP ts)(I:t∈ts)(D:r∈t.rels)(C:e∈aN r.body)(A:d∈dW ts t r e):FL ts d<=FL ts (t.name,r.name):=
 ZN (.step (.bz (aX.2 rfl)) (by rw [h.need I D,eP];exact ⟨e,C,A⟩))
def ZP.rkn(h:ZP ts)(I:t∈ts)(D:r∈t.rels)(R:e∈yR r.body)(J:d∈dW ts t r e):FL ts d<FL ts (t.name,r.name):=by
 obtain ⟨n,x,y,C,U,hl⟩:=CH _ _ R;have V:e∈aN r.body:=tm _ _ _ C (by simp only [aN,aW];exact .inr hl);have A:lI ts t r ⟨n,some x,some y⟩=none:=(ku.1 (h.loops t I r D)) _ C;have Q:=h.less t I r D _ C rfl U;unfold lI at A;simp only at A Q;rw [if_pos Q] at A;have hn:¬ip ts (dw ts t r y) (t.name,r.name)=true:=fun e=>by
  rw [if_pos e] at A
  cases A
 rw [xc] at hn;refine ZO (.step (.bz (aX.2 rfl)) (by rw [h.need I D,eP];exact ⟨e,V,J⟩)) (fun k=>hn ?_);exact CG (fun a ha=>by rw [aX] at ha;subst ha;exact .bz ((eP _ _ _ _ _).2 ⟨e,hl,J⟩)) k
end
def I7 (h:aD:=by
 simp at h;obtain ⟨rfl,rfl⟩:=h;exact ha):aD:=h
def I8 (h:aD:=by
 show (⟨#[]⟩:ae).size<=500;decide):aD:=h
def N5:Ex->Prop
 |⟨n,some x,some y⟩=>(n.kind=3\/n.kind=4\/n.kind=5)/\N5 x/\N5 y
 |⟨n,none,_⟩=>(n.kind=0\/n.kind=1\/n.kind=2)/\n.n1.size<=8/\n.n2.size<=8
 |⟨_,some _,none⟩=>False
def Yg(r:Nat->eL Ex):Prop:=∀i x j,r i=.ok (x,j)->N5 x
def mP{T u}(h:dh T i=.ok (u,j)):(T i).size<=8:=by
 unfold dh at h
 split at h
 ·split at h
  ·cases h
  omega
 cases h
def Wx(t p){x y}(A:N5 x)(C:N5 y):N5 (dF t p x y):=by
 refine ⟨?_,A,C⟩
 show kindOf t=3\/kindOf t=4\/kindOf t=5
 unfold kindOf;exact OI
section
variable (T:Nat->ae)(P:Nat->Nat)
def Ti:Yg (j7 T P):=by
 intro i x j h;unfold j7 at h
 split at h
 ·simp at h
 simp at h;obtain ⟨rfl,rfl⟩:=h;exact ⟨.inl rfl,by show em.size<=8;decide,by show em.size<=8;decide⟩
def Ny:Yg (h6 T P):=by
 intro i x j h;unfold h6 at h
 split at h
 ·simp at h
 rename_i h1
 split at h
 ·split at h
  ·simp at h
  rename_i h2;simp at h;obtain ⟨rfl,rfl⟩:=h;exact ⟨.inr (.inr rfl),mP h1,mP h2⟩
 simp at h;obtain ⟨rfl,rfl⟩:=h;exact ⟨.inr (.inl rfl),mP h1,by show em.size<=8;decide⟩
def FM(D:Bool)(A:Nat->eL Ex)(hi:Yg A):Yg (eR T P D A):=by
 intro i x j h;unfold eR at h
 split at h
 ·exact Ti T P _ _ _ h
 split at h
 ·split at h
  ·split at h
   ·simp at h
   rename_i C;have:=hi _ _ _ C
   split at h<;>simp at h
   obtain ⟨rfl,rfl⟩:=h;exact this
  simp at h
 exact Ny T P _ _ _ h
def FN(l:List ae)(part:Nat->eL Ex)(A:Yg part):∀f y i x j,N5 y->joinL T P l part f y i=.ok (x,j)->N5 x
 |0,_,i,x,j,hb,h=>by simp [joinL] at h
 |f+1,y,i,x,j,hb,h=>by
  unfold joinL at h
  split at h
  ·split at h
   ·simp at h
   rename_i C;exact FN l part A f _ _ _ _ (Wx _ _ hb (A _ _ _ C)) h
  simp at h;obtain ⟨rfl,rfl⟩:=h;exact hb
def rI(l:List ae)(part:Nat->eL Ex)(A:Yg part):Yg (eU T P l part):=by
 intro i x j h;unfold eU at h
 split at h
 ·simp at h
 rename_i C;exact FN T P l part A _ _ _ _ _ (A _ _ _ C) h
def FO:∀n,Yg (fp T P n)
 |0=>rI T P _ _ (rI T P _ _ (FM T P false _ (fun i x j h=>by simp at h)))
 |n+1=>rI T P _ _ (rI T P _ _ (FM T P true _ (FO n)))
end
def As:∀e,N5 e->Cz e
 |⟨n,some x,some y⟩,h=>⟨As x h.2.1,As y h.2.2⟩
 |⟨n,none,r⟩,_=>trivial
 |⟨n,some x,none⟩,h=>h.elim
def xL(rel):∀(e:Ex)(m:Nat),N5 e->(bp rel m e).length<=6*(aF e).length
 |⟨n,some x,some y⟩,m,h=>by
  have A:=xL rel x;have C:=xL rel y;rw [bp];simp only [aF,bf,List.length_cons,List.length_nil]
  split
  ·have:=A m h.2.1;have:=C (m+(bp rel m x).length) h.2.2;simp only [bf,List.length_cons,List.length_nil];omega
  have:=A m h.2.1;have:=C (m+(bp rel m x).length+1) h.2.2;simp only [bf,List.length_cons,List.length_nil];omega
 |⟨n,none,r⟩,m,h=>by
  rw [bp];simp only [aF,List.length_cons,List.length_nil]
  split
  ·simp [gQ]
  split
  ·simp
  simp [gQ]
 |⟨n,some x,none⟩,m,h=>h.elim
def xM(rel)(A:rel.size<=500):∀(e:Ex)(m:Nat),N5 e->∀i∈bp rel m e,i.rel.size<=500
 |⟨n,some x,some y⟩,m,h,i,hi=>by
  have C:=xM rel A x;have D:=xM rel A y;rw [bp] at hi
  split at hi
  ·simp only [aW,aX] at hi
   rcases hi with (hi|hi)|rfl
   ·exact C _ h.2.1 i hi
   ·exact D _ h.2.2 i hi
   exact I8
  simp only [aW,aX] at hi
  rcases hi with ((hi|rfl)|hi)|rfl
  ·exact C _ h.2.1 i hi
  ·exact I8
  ·exact D _ h.2.2 i hi
  exact I8
 |⟨n,none,r⟩,m,h,i,hi=>by
  obtain ⟨_,h1,h2⟩:=h;rw [bp] at hi;have z:(⟨#[]⟩:ae).size<=500:=ax
  split at hi
  ·simp only [gQ,cG,iT,jG] at hi
   rcases hi with rfl|rfl|rfl|rfl|rfl<;>first|exact A|exact z
  split at hi
  ·rw [aX] at hi;subst hi
   show n.n1.size<=500
   omega
  simp only [gQ,cG,iT,jG] at hi
  rcases hi with rfl|rfl|rfl|rfl|rfl<;>first|exact z|(show n.n1.size<=500;omega)|(show n.n2.size<=500;omega)
 |⟨n,some x,none⟩,m,h,i,hi=>h.elim
section
variable (T:Nat->ae)(P:Nat->Nat)
def pw{T u}(h:b9 T x i=.ok (u,j)):(T i).size<=8:=by
 unfold b9 at h
 split at h
 ·cases h
 rename_i h1;exact mP h1
def Wy(h:kW T P i=.ok (r,j)):r.name.size<=8:=by
 unfold kW at h
 split at h
 ·simp at h
 rename_i h1
 split at h
 ·simp at h
 split at h<;>simp at h
 obtain ⟨rfl,rfl⟩:=h;exact pw h1
def FP:∀f acc i rs j,(∀r∈acc,r.name.size<=8)->di T P f acc i=.ok (rs,j)->∀r∈rs,r.name.size<=8
 |0,_,i,x,j,_,h=>by simp [di] at h
 |f+1,acc,i,x,j,ha,h=>by
  unfold di at h
  split at h
  ·exact I7
  split at h
  ·simp at h
  split at h
  ·simp at h
  rename_i C;refine FP f _ _ _ _ (fun r A=> ?_) h;rw [aW,aX] at A
  rcases A with A|rfl
  ·exact ha r A
  exact Wy T P C
def Tj(h:j8 T P i=.ok (t,j)):t.name.size<=8/\∀r∈t.rels,r.name.size<=8:=by
 unfold j8 at h
 split at h
 ·split at h
  ·simp at h
  rename_i h1
  split at h
  ·simp at h
  rename_i A;simp at h;obtain ⟨rfl,rfl⟩:=h;exact ⟨pw h1,FP T P _ _ _ _ _ ar A⟩
 simp at h
def Au:∀f acc i ts j,(∀t∈acc,t.name.size<=8/\∀r∈t.rels,r.name.size<=8)->cQ T P f acc i=.ok (ts,j)->∀t∈ts,t.name.size<=8/\∀r∈t.rels,r.name.size<=8
 |0,_,i,x,j,_,h=>by simp [cQ] at h
 |f+1,acc,i,x,j,ha,h=>by
  unfold cQ at h
  split at h
  ·exact I7
  split at h
  ·simp at h
  split at h
  ·simp at h
  rename_i C;refine Au f _ _ _ _ (fun t A=> ?_) h;rw [aW,aX] at A
  rcases A with A|rfl
  ·exact ha t A
  exact Tj T P C
end
structure FQ(ts:List Ty):Prop where
 k:ZP ts
 d:ew ts
 g:wW ts
 e:∀t∈ts,∀r∈t.rels,N5 r.body
 n:∀t∈ts,t.name.size<=8/\∀r∈t.rels,r.name.size<=8
def md_of(h:dy s=.ok ts):FQ ts:=by
 unfold dy at h
 split at h
 ·cases h
 rename_i hs
 split at h
 ·cases h
 rename_i ts' m I
 split at h
 ·cases h
 rename_i hc
 cases h
 unfold eD at hc
 split at hc
 ·cases hc
 rename_i h1
 split at hc
 ·cases hc
 rename_i h2
 split at hc
 ·cases hc
 rename_i J;have D:=(lO _ _ h1).2;refine ⟨⟨fun t A=>dn D A,fun t A r C=> ?_,fun t A r C=> ?_,fun t A r C p U _ Q=> ?_⟩,D,sT I,fun t A r C=> ?_,Au _ _ _ _ _ _ _ ar I⟩
 ·exact qi (D.2 t A) C
 ·unfold fe at J;have:=(ku.1 J) t A;exact (ku.1 this) r C
 ·unfold fi;rw [if_neg (fun e=>Q (.inl e)),if_neg (fun e=>Q (.inr e))]
 obtain ⟨_,i0,V,R,_⟩:=kF I t A r C;exact FO _ _ _ _ _ _ R
structure CI(ts:List Ty)(t:Tu):Prop where
 lets:mY ts t=0
 id:bC t.id=true
 low:t.kind.size<=maxLen/\t.id.size<=maxLen/\oe (e9 t)
def ui(ts:List Ty)(k n:ae):Bool:=((bW ts k).bind fun t=>b8 t n).isSome
def tq:bC (⟨#[42]⟩:ae)=false:=by kernel_rfl
def fg(ts:List Ty)(s:Sj):Bool:=ui ts s.kind s.rel&&bC s.id
def N6(ts:List Ty)(ρ:Sp->Nat)(s:Sj):Nat:=if fg ts s then ρ (s.kind,s.rel)+1 else 0
def lB(gs:List Tu)(kd id:ae):List Tu:=gs.filter fun t=>lT ⟨kd,id,[]⟩ t
def lW{t}:t∈lB gs kd id↔t∈gs/\t.kind=kd/\t.id=id:=by
 unfold lB;rw [tj,eK];exact ⟨fun ⟨h,e1,A⟩=>⟨h,e1.symm,A.symm⟩,fun ⟨h,e1,A⟩=>⟨h,e1.symm,A.symm⟩⟩
section
variable {ts:List Ty}{gs:List Tu}{t:Ty}{r:Rl}{e:Ex}{id:ae}{s:Sj}
def kJ(C:∀t∈gs,CI ts t){u}(I:u∈gs):∃y q g,bW ts u.kind=some y/\b8 y u.rel=some q/\g∈bS q.body/\g.ty=u.sub/\g.reach=ir u.who u.of/\g.rel=u.of:=by
 have h:=(C u I).lets;unfold mY at h
 cases h1:bW ts u.kind with
 |none=>rw [h1] at h;simp at h
 |some y=>
  rw [h1] at h;simp only at h
  cases h2:b8 y u.rel with
  |none=>rw [h2] at h;simp at h
  |some q=>
   rw [h2] at h;simp only at h
   split at h
   ·rename_i D;obtain ⟨g,C,A⟩:=dg.1 D;unfold gE at A;simp only [bO,bz,dS] at A;exact ⟨y,q,g,rfl,h2,C,A.1,A.2.1,A.2.2⟩
   cases h
def Av(h:FQ ts)(ac:∀t∈gs,CI ts t)(R:t∈ts)(ae:r∈t.rels)(ad:e∈aN r.body)(af:Gm t.name id (lB gs t.name id) r.name e s)(A:fg ts s=true):(s.kind,s.rel)∈dW ts t r e:=by
 have ab:=i8 ad;obtain ⟨n,ai,rr⟩:=e;simp only at ab;subst ab;rw [gq rfl];have Q:=h.k
 rcases af with ⟨h0,u,U,e1,D,rfl⟩|⟨h1,rfl⟩|⟨h0,h1,u,U,e1,D,rfl⟩
 ·rw [if_pos h0];obtain ⟨V,Y,ag⟩:=lW.1 U;obtain ⟨y,q,g,f1,f2,J,I,C,Z⟩:=kJ ac V;rw [Y,Q.fnd t R] at f1
  cases f1
  rw [e1,Q.fnr t R r ae] at f2
  cases f2
  unfold ir at C;rw [if_neg D] at C;unfold mq;rw [mK];exact ⟨g,J,by unfold mo;rw [if_pos C,I,Z];rfl⟩
 ·rw [if_neg (by show ¬n.kind=0;omega)];unfold ux;rw [if_neg (by show ¬n.kind=0;omega),if_pos h1];simp
 rw [if_neg h0];unfold ux;rw [if_neg h0,if_neg h1];obtain ⟨V,Y,ag⟩:=lW.1 U;obtain ⟨y,q,g,f1,f2,J,I,C,Z⟩:=kJ ac V;rw [Y,Q.fnd t R] at f1
 cases f1
 rw [e1] at f2;have ah:¬eqs u.who dL=true:=fun e=>by
  unfold fg at A;simp only [bO] at A;rw [show u.who=⟨#[42]⟩ from (bz _ _).1 e,tq] at A
  cases A.2
 unfold ir at C;rw [if_pos D,if_neg ah] at C;unfold fg ui at A;simp only [bO] at A;rw [aU]
 cases f3:bW ts u.sub with
 |none=>rw [f3] at A;cases A.1
 |some v=>
  rw [f3] at A;refine ⟨v,?_,by rw [(cw f3).2]⟩;unfold nB;rw [f2];rw [mK];refine ⟨g,J,?_⟩;unfold iQ;rw [if_pos C,I,f3];simp only;rw [if_pos (by simpa using A.1)]
end
structure Yh(ts:List Ty)(ρ:Sp->Nat):Prop where
 pos:∀t∈ts,∀r∈t.rels,∀e∈aN r.body,∀d∈dW ts t r e,ρ d<=ρ (t.name,r.name)
 neg:∀t∈ts,∀r∈t.rels,∀e∈yR r.body,∀d∈dW ts t r e,ρ d<ρ (t.name,r.name)
def Yi(h:FQ ts):Yh ts (FL ts):=⟨fun t I r D e C d A=>h.k.rkp I D C A,fun t I r D e C d A=>h.k.rkn I D C A⟩
section
variable {kd id:ae}{tu:List Tu}{rel:ae}{s:Sj}
def uN:∀x,Gm kd id tu rel x s->∃e∈aN x,Gm kd id tu rel e s
 |⟨n,some x,some y⟩,h=>by
  simp only [aN,aW]
  rcases h with h|h
  ·obtain ⟨e,A,h⟩:=uN x h;exact ⟨e,.inl A,h⟩
  obtain ⟨e,A,h⟩:=uN y h;exact ⟨e,.inr A,h⟩
 |⟨n,none,r⟩,h=>⟨_,by simp [aN],h⟩
 |⟨n,some x,none⟩,h=>h.elim
def CJ:∀x,Nh kd id tu rel x s->∃e∈yR x,Gm kd id tu rel e s
 |⟨n,some x,some y⟩,h=>by
  unfold Nh at h;unfold yR
  rcases h with h|h
  ·obtain ⟨e,A,h⟩:=CJ x h
   split
   ·exact ⟨e,mO _ A,h⟩
   exact ⟨e,mO _ A,h⟩
  split at h
  ·rename_i C;obtain ⟨e,A,h⟩:=CJ y h;rw [if_pos C];exact ⟨e,qt _ A,h⟩
  rename_i C;obtain ⟨e,A,h⟩:=uN y h;rw [if_neg C];exact ⟨e,qt _ A,h⟩
 |⟨n,none,r⟩,h=>h.elim
 |⟨n,some x,none⟩,h=>h.elim
end
def oW:∀(x e:Ex),e∈yR x->e∈aN x
 |⟨n,some x,some y⟩,e,h=>by
  unfold yR at h;simp only [aN,aW]
  split at h
  ·rcases aW.1 h with h|h
   ·exact .inl (oW x e h)
   exact .inr (oW y e h)
  rcases aW.1 h with h|h
  ·exact .inl (oW x e h)
  exact .inr h
 |⟨n,none,r⟩,e,h=>by simp [yR] at h
 |⟨n,some x,none⟩,e,h=>by simp [yR] at h
section
variable {ts:List Ty}{gs:List Tu}{ρ:Sp->Nat}{t:Ty}{r:Rl}{id:ae}{s:Sj}
def Tl(h:FQ ts)(Q:Yh ts ρ)(I:∀t∈gs,CI ts t)(D:t∈ts)(C:r∈t.rels)(J:Gm t.name id (lB gs t.name id) r.name r.body s):N6 ts ρ s<=ρ (t.name,r.name)+1:=by
 unfold N6
 split
 ·rename_i hl;obtain ⟨e,A,h1⟩:=uN _ J;have:=Q.pos t D r C e A _ (Av h I D C A h1 hl);omega
 omega
def K7(h:FQ ts)(Q:Yh ts ρ)(I:∀t∈gs,CI ts t)(D:t∈ts)(C:r∈t.rels)(J:Nh t.name id (lB gs t.name id) r.name r.body s):N6 ts ρ s<ρ (t.name,r.name)+1:=by
 unfold N6
 split
 ·rename_i hl;obtain ⟨e,A,h1⟩:=CJ _ J;have:=Q.neg t D r C e A _ (Av h I D C (oW _ _ A) h1 hl);omega
 omega
end
def fJ(ts:List Ty)(gs:List Tu)(who:Tg)(kp kn:Sj->Bool)(s:Sj):Bool:=
 if bC s.id then (match bW ts s.kind with
  |none=>false
  |some t=>match b8 t s.rel with
   |none=>false
   |some r=>iz kp kn who s.kind s.id (lB gs s.kind s.id) s.rel r.body) else false
section
variable {ts:List Ty}{gs:List Tu}{who:Tg}{ρ:Sp->Nat}{kp kn:Sj->Bool}
def xN(h:FQ ts)(A:t∈ts)(D:r∈t.rels)(C:bC id=true):fJ ts gs who kp kn ⟨t.name,id,r.name⟩=iz kp kn who t.name id (lB gs t.name id) r.name r.body:=by
 unfold fJ;rw [if_pos C];simp only [h.k.fnd t A,h.k.fnr t A r D]
def oj(s):(∃t∈ts,∃r∈t.rels,∃id,bC id=true/\s=⟨t.name,id,r.name⟩)\/(fg ts s=false/\∀kp kn,fJ ts gs who kp kn s=false):=by
 obtain ⟨k,id,n⟩:=s
 cases h:bC id
 ·exact .inr ⟨by simp [fg,h],fun kp kn=>by unfold fJ;rw [if_neg (by simp [h])]⟩
 cases h1:bW ts k with
 |none=>exact .inr ⟨by simp [fg,ui,h1],fun kp kn=>by unfold fJ;rw [if_pos h];simp only [h1]⟩
 |some t=>
  cases h2:b8 t n with
  |none=>exact .inr ⟨by simp [fg,ui,h1,h2],fun kp kn=>by unfold fJ;rw [if_pos h];simp only [h1,h2]⟩
  |some r=>
   obtain ⟨A,C⟩:=cw h1;obtain ⟨b1,D⟩:=cF h2;exact .inl ⟨t,A,r,b1,id,h,by rw [C,D]⟩
def Wz(h:FQ ts)(A:t∈ts)(D:r∈t.rels)(C:bC id=true):fg ts ⟨t.name,id,r.name⟩=true:=by
 unfold fg ui;simp [h.k.fnd t A,h.k.fnr t A r D,C]
def sys_f(h:FQ ts)(Q:Yh ts ρ)(J:∀t∈gs,CI ts t):Sys (fJ ts gs who) (N6 ts ρ) where
 mono:=fun kp Gl kn s R hs=>by
  rcases oj (ts:=ts) (gs:=gs) (who:=who) s with ⟨t,C,r,A,id,D,rfl⟩|⟨_,h2⟩
  ·rw [xN h C A D] at hs ⊢;exact hD R _ hs
  rw [h2] at hs;cases hs
 dep:=fun kp Gl kn kn' s h1 h2=>by
  rcases oj (ts:=ts) (gs:=gs) (who:=who) s with ⟨t,C,r,A,id,D,rfl⟩|⟨_,I⟩
  ·rw [xN h C A D,xN h C A D];have e:N6 ts ρ ⟨t.name,id,r.name⟩=ρ (t.name,r.name)+1:=by unfold N6;rw [if_pos (Wz h C A D)]
   refine gx _ (fun s hs=>h1 s ?_) (fun s hs=>h2 s ?_)
   ·rw [e];exact Tl h Q J C A hs
   rw [e];exact K7 h Q J C A hs
  rw [I,I]
end
structure GrL(ts:List Ty)(G:List (List TR))(ρ:Sp->Nat):Prop where
 mem:∀i g,G[i]? =some g->∀x∈g,x.1∈ts/\x.2∈x.1.rels/\ρ (x.1.name,x.2.name)=i
 cov:∀t∈ts,∀r∈t.rels,∃g,G[ρ (t.name,r.name)]? =some g/\(t,r)∈g
structure HsK(gs:List Tu)(hs:List Hp):Prop where
 ts:∀h∈hs,h.ts=lB gs h.kd h.id
 all:∀t∈gs,∃h∈hs,h.kd=t.kind/\h.id=t.id
def I9(gs:List Tu):HsK gs (dq gs) where
 ts:=fun h A=>((jh gs).ts h A).1
 all:=fun t C=>by
  obtain ⟨h,A,e⟩:=(jh gs).all t C;exact ⟨h,A,eK.1 e⟩
def jy{K who kd id rel}(h:∀n,K ⟨kd,id,n⟩=false):∀e,cV K who kd id [] rel e=false
 |⟨n,some x,some y⟩=>by
  have A:=jy (who:=who) (rel:=rel) h x;have C:=jy (who:=who) (rel:=rel) h y;rw [cV,A,C];simp
 |⟨n,none,_⟩=>by
  rw [cV];simp [h]
 |⟨_,some _,none⟩=>by rw [cV]
def lX(gs:List Tu)(s:Sj):Prop:=lB gs s.kind s.id=[]
section
variable {ts:List Ty}{gs:List Tu}{who:Tg}{hs:List Hp}{g:List TR}{k0 k1 k:Sj->Bool}
def K8(U:HsK gs hs)(ab:∀x∈g,Cz x.2.body)(h:FE who hs (g.map lU) k0 k1)(h0:∀s,lX gs s->k0 s=false):∀s,lX gs s->k1 s=false:=by
 classical
 intro s C
 by_cases J:lV (g.map lU) hs s
 ·cases V:k1 s
  ·rfl
  have:=h.least (fun s=>if lV (g.map lU) hs s then decide (¬lX gs s) else k0 s) (fun s hs=>by rw [if_neg hs]) (fun x Q y R e A=>by
   have Z:lV (g.map lU) hs ⟨y.kd,y.id,x.nm⟩:=⟨x,Q,y,R,e,rfl⟩
   show (if lV (g.map lU) hs ⟨y.kd,y.id,x.nm⟩ then decide (¬lX gs ⟨y.kd,y.id,x.nm⟩) else _)=true
   rw [if_pos Z,fE];intro I;obtain ⟨p,Y,rfl⟩:=aU.1 Q;have e1:y.ts=[]:=(U.ts y R).trans I;rw [e1] at A;have:=jy (K:=fun s=>if lV (g.map lU) hs s then decide (¬lX gs s) else k0 s) (who:=who) (kd:=y.kd) (id:=y.id) (rel:=p.2.name) (fun n=>by
    have D:lX gs ⟨y.kd,y.id,n⟩:=I
    show (if lV (g.map lU) hs ⟨y.kd,y.id,n⟩ then decide (¬lX gs ⟨y.kd,y.id,n⟩) else k0 ⟨y.kd,y.id,n⟩)=false
    split
    ·simp [D]
    exact h0 _ D) p.2.body
   rw [oU _ _ _ _ _ _ _ (ab p Y)] at this;rw [show hX (fun s=>if lV (g.map lU) hs s then decide (¬lX gs s) else k0 s) who y.kd y.id [] (lU p).nm (lU p).sh=false from this] at A
   cases A) s V
  rw [if_pos J,fE] at this;exact absurd C this
 rw [h.old s J];exact h0 s C
def uO(C:HsK gs hs):∀{A:List (List TR)} {k a:Sj->Bool},(∀g∈A,∀x∈g,Cz x.2.body)->lA who hs (A.map (List.map lU)) k a->(∀s,lX gs s->k s=false)->∀s,lX gs s->a s=false
 | [],k,a,_,h,h0=>by rw [show a=k from h];exact h0
 |g::A,k,a,hw,⟨k1,h1,h2⟩,h0=>uO C (fun g' D=>hw g' (eY _ D)) h2 (K8 C (hw g eu) h1 h0)
end
abbrev Ja:=@List.eq_nil_iff_forall_not_mem
def Tm (h:aD:=by
 obtain ⟨j,A⟩:=iw.1 hg;obtain ⟨h1,h2,_⟩:=hG.mem j g A x hx;exact As _ (hm.e _ h1 _ h2)):aD:=h
section
variable {ts:List Ty}{gs:List Tu}{who:Tg}{ρ:Sp->Nat}{G:List (List TR)}{hs:List Hp}{kb:Sj->Bool}
def tw(A:GrL ts G ρ){g}(hi:G[i]? =some g){s}(h:lV (g.map lU) hs s):ρ (s.kind,s.rel)=i:=by
 obtain ⟨x,C,y,D,e,rfl⟩:=xI.1 h;have:=(A.mem i g hi x C).2.2
 show ρ (y.kd,x.2.name)=i
 rw [e];exact this
def uP(A:FQ ts)(C:GrL ts G ρ){g}(hi:G[i]? =some g){s}(h:lV (g.map lU) hs s):ui ts s.kind s.rel=true:=by
 obtain ⟨x,D,y,I,e,rfl⟩:=xI.1 h;obtain ⟨h1,h2,_⟩:=C.mem i g hi x D;unfold ui
 show ((bW ts y.kd).bind fun t=>b8 t x.2.name).isSome=true
 rw [e,A.k.fnd _ h1];simp [A.k.fnr _ h1 _ h2]
def kK(C:∀t∈gs,CI ts t){s}(h:bC s.id=false):lX gs s:=by
 unfold lX;rw [Ja];intro t D;obtain ⟨h1,h2,A⟩:=lW.1 D;have:=(C t h1).id;rw [A,h] at this
 cases this
structure ZQ(G:List (List TR))(gs:List Tu)(who:Tg)(hs:List Hp)(ρ:Sp->Nat)(i:Nat)(g:List TR)(kb k0 k1:Sj->Bool):Prop where
 sol:FE who hs (g.map lU) k0 k1
 lt:∀s,ρ (s.kind,s.rel)<i->kb s=k0 s
 le:∀s,ρ (s.kind,s.rel)<=i->kb s=k1 s
 ge:∀s,i<=ρ (s.kind,s.rel)->k0 s=false
 dry:∀s,lX gs s->k0 s=false/\k1 s=false/\kb s=false
 no:∀s,(∀(j:Nat)(g':List TR),G[j]? =some g'->¬lV (g'.map lU) hs s)->k0 s=false/\k1 s=false/\kb s=false
def K9(hm:FQ ts)(hG:GrL ts G ρ)(J:HsK gs hs)(ab:lA who hs (G.map (List.map lU)) (fun _=>false) kb){g}(hi:G[i]? =some g):∃k0 k1,ZQ G gs who hs ρ i g kb k0 k1:=by
 have R:∀g∈G,∀x∈g,Cz x.2.body:=fun g hg x hx=>by
  exact Tm
 obtain ⟨hl,e0⟩:=bD.1 hi;have ag:G=G.take i++g::G.drop (i+1):=by
  rw [<-e0,<-c8 hl,pL]
 have ac:=ab;rw [ag,cK,bY] at ac;obtain ⟨a,Z,k1,h1,ah⟩:=xJ ac;have ak:∀g'∈G.take i,∃j,j<i/\G[j]? =some g':=fun g' D=>by
  obtain ⟨j,C⟩:=iw.1 D;rw [vU] at C
  split at C
  ·rename_i aj;exact ⟨j,aj,C⟩
  cases C
 have al:∀g'∈G.drop (i+1),∃j,i<j/\G[j]? =some g':=fun g' D=>by
  obtain ⟨j,C⟩:=iw.1 D;rw [rV] at C;exact ⟨_,ai,C⟩
 have ae:∀s,(∀j g',j<i->G[j]? =some g'->¬lV (g'.map lU) hs s)->a s=false:=fun s h=>rF Z s (fun g' D=>by
  obtain ⟨x,hx,rfl⟩:=aU.1 D;obtain ⟨j,C,e⟩:=ak x hx;exact h j x C e)
 have U:∀s,(∀j g',i<j->G[j]? =some g'->¬lV (g'.map lU) hs s)->kb s=k1 s:=fun s h=>rF ah s (fun g' D=>by
  obtain ⟨x,hx,rfl⟩:=aU.1 D;obtain ⟨j,C,e⟩:=al x hx;exact h j x C e)
 have V:=uO J (fun g' D=>R g' (List.mem_of_mem_take D)) Z (fun _ _=>rfl);have af:=K8 J (R g (bF hi)) h1 V;refine ⟨a,k1,h1,fun s ad=> ?_,fun s ad=> ?_,fun s ad=> ?_,fun s Q=>⟨V s Q,af s Q,uO J R ab (fun _ _=>rfl) s Q⟩,fun s hn=> ?_⟩
 ·rw [U s (fun j g' C e I=>by have:=tw hG e I;omega),h1.old s (fun I=>by have:=tw hG hi I;omega)]
 ·exact U s (fun j g' C e I=>by have:=tw hG e I;omega)
 ·exact ae s (fun j g' C e I=>by have:=tw hG e I;omega)
 have e1:=ae s (fun j g' _ e=>hn j g' e);have Y:k1 s=false:=by rw [h1.old s (hn i g hi),e1]
 exact ⟨e1,Y,by rw [U s (fun j g' _ e=>hn j g' e),Y]⟩
def ZQ.dead(I:FQ ts)(C:GrL ts G ρ)(D:∀t∈gs,CI ts t){g k0 k1}(h:ZQ G gs who hs ρ i g kb k0 k1){s}(A:fg ts s=false):k0 s=false/\k1 s=false/\kb s=false:=by
 unfold fg at A;rw [A6] at A
 rcases A with A|A
 ·exact h.no s (fun j g' e J=>by rw [uP I C e J] at A;cases A)
 exact h.dry s (kK D A)
def Jb(hm:FQ ts)(au:Yh ts ρ)(hg:∀t∈gs,CI ts t)(hG:GrL ts G ρ)(R:HsK gs hs)(ag:lA who hs (G.map (List.map lU)) (fun _=>false) kb):s8 (fJ ts gs who) kb:=by
 have aK:∀g∈G,∀x∈g,Cz x.2.body:=fun g hg x hx=>by
  exact Tm
 have ak:=uO R aK ag (fun _ _=>rfl);have dead:∀s,fg ts s=false->kb s=false:=fun s C=>by
  unfold fg at C;rw [A6] at C
  rcases C with C|C
  ·exact rF ag s (fun g' ax I=>by
    obtain ⟨x,hx,rfl⟩:=aU.1 ax;obtain ⟨j,aC⟩:=iw.1 hx;rw [uP hm hG aC I] at C
    cases C)
  exact ak s (kK hg C)
 refine ⟨fun s=> ?_,fun ab az=> ?_⟩
 ·rcases oj (ts:=ts) (gs:=gs) (who:=who) s with ⟨t,I,r,Z,id,an,rfl⟩|⟨h1,h2⟩
  ·obtain ⟨g,Y,ar⟩:=hG.cov t I r Z;obtain ⟨k0,k1,N⟩:=K9 hm hG R ag Y;rw [xN hm I Z an,gu]
   by_cases ap:∃y∈hs,y.kd=t.name/\y.id=id
   ·obtain ⟨y,Q,e1,af⟩:=ap;have f:=N.sol.fix (lU (t,r)) (aU.2 ⟨_,ar,rfl⟩) y Q e1;rw [e1,af,R.ts y Q,e1,af] at f;have f':cV k1 who t.name id (lB gs t.name id) r.name r.body=k1 ⟨t.name,id,r.name⟩:=by
     rw [oU _ _ _ _ _ _ _ (As _ (hm.e t I r Z))];exact f
    rw [N.le _ aH,<-f'];refine (gw _ (fun s D=> ?_)).symm;have ad:=Tl hm au hg I Z D
    by_cases hl:fg ts s=true
    ·unfold N6 at ad;rw [if_pos hl] at ad;exact N.le s ai
    have C:fg ts s=false:=by simpa using hl
    obtain ⟨_,aj,ah⟩:=N.dead hm hG hg C;rw [aj,ah]
   have U:lB gs t.name id=[]:=by
    rw [Ja];intro u aJ;obtain ⟨h1,h2,ay⟩:=lW.1 aJ;obtain ⟨y,Q,e1,af⟩:=R.all u h1;exact ap ⟨y,Q,e1.trans h2,af.trans ay⟩
   have av:∀n,kb ⟨t.name,id,n⟩=false:=fun n=>ak _ U
   rw [U,jy av];exact av r.name
  rw [h2,dead s h1]
 have key:∀n s,ρ (s.kind,s.rel)<n->kb s=true->ab s=true:=by
  intro n
  induction n with
  |zero=>intro s h;omega
  |succ n ih=>
   intro s hn ac
   rcases oj (ts:=ts) (gs:=gs) (who:=who) s with ⟨t,I,r,Z,id,an,rfl⟩|⟨h1,h2⟩
   ·obtain ⟨g,Y,ar⟩:=hG.cov t I r Z;obtain ⟨k0,k1,N⟩:=K9 hm hG R ag Y;generalize hi:ρ (t.name,r.name)=i at*
    classical
    obtain ⟨ae,J⟩:∃ae:Sj->Bool,∀s,ae s=if lV (g.map lU) hs s/\¬lX gs s then ab s else k0 s:=⟨fun s=>if lV (g.map lU) hs s/\¬lX gs s then ab s else k0 s,fun _=>rfl⟩
    have aL:∀s,ae s=true->ab s=true:=fun s D=>by
     rw [J] at D
     split at D
     ·exact D
     by_cases aE:ρ (s.kind,s.rel)<i
     ·exact ih s ai (by rw [N.lt s aE];exact D)
     rw [N.ge s ai] at D;cases D
    have:=N.sol.least ae (fun s D=>by rw [J,if_neg (fun e=>D e.1)]) (fun x hx y Q e aA=>by
     obtain ⟨p,aF,rfl⟩:=aU.1 hx;obtain ⟨p1,p2,aM⟩:=hG.mem i g Y p aF;have aI:lV (g.map lU) hs ⟨y.kd,y.id,(lU p).nm⟩:=⟨lU p,hx,y,Q,e,rfl⟩;have e':y.kd=p.1.name:=e;have V:cV ae who y.kd y.id y.ts p.2.name p.2.body=true:=by
      rw [oU _ _ _ _ _ _ _ (As _ (hm.e _ p1 _ p2))];exact aA
     rw [R.ts y Q] at V
     by_cases U:lX gs ⟨y.kd,y.id,(lU p).nm⟩
     ·exfalso;have C:lB gs y.kd y.id=[]:=U;rw [C,jy (fun m=>by
       have am:lX gs ⟨y.kd,y.id,m⟩:=C;rw [J,if_neg (fun e=>e.2 am)];exact (N.dry _ am).1)] at V
      cases V
     rw [J,if_pos ⟨aI,U⟩];have aB:bC y.id=true:=by
      cases aG:bC y.id
      ·exact absurd (kK (s:=⟨y.kd,y.id,(lU p).nm⟩) hg aG) U
      rfl
     refine az _ ?_
     show fJ ts gs who ab kb ⟨y.kd,y.id,p.2.name⟩=true
     rw [e'] at V ⊢;rw [xN hm p1 p2 aB];rw [<-gu] at V;refine hD aL _ ?_;rw [<-gx _ (fun _ _=>rfl) (fun s D=> ?_)]
     ·exact V
     have ad:=K7 hm au hg p1 p2 D
     by_cases hl:fg ts s=true
     ·unfold N6 at ad;rw [if_pos hl,aM] at ad;rw [J,if_neg (fun e=>by have:=tw hG Y e.1;omega)];exact (N.lt s ai).symm
     have C:fg ts s=false:=by simpa using hl
     obtain ⟨aw,aj,ah⟩:=N.dead hm hG hg C;rw [J,ah]
     split
     ·rename_i al;unfold fg at C;rw [uP hm hG Y al.1,fT] at C;exact absurd (kK hg C) al.2
     exact aw) _ (show k1 ⟨t.name,id,r.name⟩=true by rw [<-N.le _ (by show ρ (t.name,r.name)<=i;omega)];exact ac)
    rw [J] at this
    split at this
    ·exact this
    rw [N.ge _ (by show i<=ρ (t.name,r.name);omega)] at this
    cases this
   rw [dead s h1] at ac;cases ac
 exact fun s ac=>key _ s (Nat.lt_succ_self _) ac
end
structure SpG{α:Type}(rk:α->Nat)(l:List α)(G:List (List α)):Prop where
 mem:∀(i:Nat)(g:List α),G[i]? =some g->∀x∈g,x∈l/\rk x=i+1
 cov:∀x∈l,∃g,G[rk x-1]? =some g/\x∈g
 sum:(G.map List.length).sum=l.length
def CM(n)(A:List (List α))(i):(gj n A)[i]? =if i<A.length then A[i]? else if i<n then some [] else none:=by
 unfold gj
 by_cases h:i<A.length
 ·rw [nF h,if_pos h]
 rw [nG ai,if_neg h,List.getElem?_replicate]
 by_cases h2:i<n
 ·rw [if_pos h2,if_pos ai]
 rw [if_neg h2,if_neg ai]
def La:∀(l:List Nat)(i v:Nat),i<l.length->(l.set i v).sum+l.getD i 0=l.sum+v
 | [],i,v,h=>by simp at h
 |a::l,0,v,h=>aS
 |a::l,i+1,v,h=>by
  have:=La l i v nv;simp only [List.set_cons_succ,List.sum_cons,List.getD_cons_succ];omega
def WA{rk:α->Nat}{l:List α}{C:List (List α)}(h:SpG rk l C){x:α}(Y:1<=rk x):SpG rk (l++[x]) (gl (rk x) x C):=by
 have Q:rk x-1<(gj (rk x) C).length:=by unfold gj;simp;omega
 obtain ⟨q,D⟩:∃q,(gj (rk x) C)[rk x-1]? =some q:=⟨_,aI Q⟩;have J:(gj (rk x) C).getD (rk x-1) []=q:=by rw [eA,D];rfl
 have V:∀y∈q,y∈l/\rk y=rk x:=fun y A=>by
  rw [CM] at D
  split at D
  ·obtain ⟨h1,h2⟩:=h.mem _ _ D y A;exact ⟨h1,ai⟩
  split at D
  ·cases D;cases A
  cases D
 have at_:∀i,(gl (rk x) x C)[i]? =if i=rk x-1 then some (q++[x]) else (gj (rk x) C)[i]? :=fun i=>by
  unfold gl;rw [J,List.getElem?_set]
  by_cases e:rk x-1=i
  ·rw [if_pos e,if_pos e.symm,if_pos ai]
  rw [if_neg e,if_neg (fun e'=>e e'.symm)]
 refine ⟨fun i g hi y A=> ?_,fun y A=> ?_,?_⟩
 ·rw [at_] at hi
  split at hi
  ·rename_i e
   cases hi
   rcases aW.1 A with A|A
   ·obtain ⟨h1,h2⟩:=V y A;exact ⟨mO _ h1,ai⟩
   rw [aX] at A;subst A;exact ⟨ar,ai⟩
  rw [CM] at hi
  split at hi
  ·obtain ⟨h1,h2⟩:=h.mem _ _ hi y A;exact ⟨mO _ h1,h2⟩
  split at hi
  ·cases hi;cases A
  cases hi
 ·rcases aW.1 A with A|A
  ·obtain ⟨g,I,R⟩:=h.cov y A;rw [at_]
   split
   ·rename_i e;refine ⟨_,rfl,mO _ ?_⟩;rw [e] at I;rw [CM,if_pos (bD.1 I).1,I] at D
    cases D
    exact R
   rw [CM,if_pos (bD.1 I).1];exact ⟨g,I,R⟩
  rw [aX] at A;subst A;rw [at_,if_pos rfl];exact ⟨_,rfl,ar⟩
 unfold gl;rw [J,qd];have h1:((gj (rk x) C).map List.length).sum=l.length:=by
  unfold gj;rw [cK,List.sum_append,h.sum];simp
 have h2:=La ((gj (rk x) C).map List.length) (rk x-1) (q++[x]).length (by simpa using Q);have U:((gj (rk x) C).map List.length).getD (rk x-1) 0=q.length:=by
  rw [eA,et,D]
  rfl
 rw [h1,U] at h2;simp only [bf,List.length_cons,List.length_nil] at h2 ⊢;omega
def Lb{α:Type}{rk:α->Nat}:∀(m l:List α) (G:List (List α)),(∀x∈m,1<=rk x)->SpG rk l G->SpG rk (l++m) (m.foldl (fun g x=>gl (rk x) x g) G)
 | [],l,G,_,h=>by simpa using h
 |x::m,l,G,hx,h=>by
  have:=Lb m (l++[x]) _ (fun y A=>hx y (eY _ A)) (WA h (hx x eu));rw [ct] at this;exact this
def Aw{x}:x∈nU ts↔x.1∈ts/\x.2∈x.1.rels:=by
 unfold nU;rw [bZ]
 constructor
 ·rintro ⟨t,C,h⟩;obtain ⟨r,A,rfl⟩:=aU.1 h;exact ⟨C,A⟩
 rintro ⟨h1,h2⟩;exact ⟨x.1,h1,aU.2 ⟨x.2,h2,rfl⟩⟩
def xO(ts):SpG (rkR ts) (nU ts) (cL ts):=by
 have:=Lb (rk:=rkR ts) (nU ts) [] [] (fun x _=>K6) ⟨ar,ar,ar⟩;rw [List.nil_append] at this;exact this
def rk1(ts:List Ty)(d:Sp):Nat:=FL ts d-1
def Tn(h:FQ ts):Yh ts (rk1 ts) where
 pos:=fun t I r D e C d A=>by
  have:=(Yi h).pos t I r D e C d A;unfold rk1;omega
 neg:=fun t I r D e C d A=>by
  have:=(Yi h).neg t I r D e C d A;have:=K6 (ts:=ts) (x:=d);unfold rk1;omega
def iD(ts:List Ty):GrL ts (cL ts) (rk1 ts) where
 mem:=fun i g hi x I=>by
  obtain ⟨h1,h2⟩:=(xO ts).mem i g hi x I;obtain ⟨h,A⟩:=Aw.1 h1;have J:FL ts (x.1.name,x.2.name)=i+1:=h2;exact ⟨h,A,by unfold rk1;omega⟩
 cov:=fun t D r C=>by
  obtain ⟨g,h1,h2⟩:=(xO ts).cov (t,r) (Aw.2 ⟨D,C⟩);exact ⟨g,h1,h2⟩
section
variable {ts:List Ty}{gs:List Tu}
def WB(h:FQ ts)(J:∀t∈gs,CI ts t):Nj (cL ts) (dq gs) where
 hds:=fun a ha b af e1 A=>ZG (jh gs).ap ha af e1 A
 lns:=fun g J x C y D e1 A=>by
  obtain ⟨i,hi⟩:=iw.1 J;obtain ⟨I,Q,_⟩:=(iD ts).mem i g hi x C;obtain ⟨b1,ac,_⟩:=(iD ts).mem i g hi y D;have f1:=h.k.fnd _ I;rw [e1,h.k.fnd _ b1] at f1;have ad:y.1=x.1:=gM f1;have f2:=h.k.fnr _ I _ Q;rw [<-ad,A,h.k.fnr _ b1 _ ac] at f2;rw [gM f2]
 ap:=by
  rw [iW];intro i j hi ah ak x C y D ⟨e1,A⟩;obtain ⟨_,_,a⟩:=(iD ts).mem i _ (aI hi) x C;obtain ⟨_,_,b⟩:=(iD ts).mem j _ (aI ah) y D;rw [e1,A,b] at a;omega
 str:=fun g ag x C y D e s hs V=>by
  obtain ⟨i,hi⟩:=iw.1 ag;obtain ⟨I,Q,aj⟩:=(iD ts).mem i g hi x C;rw [(I9 gs).ts y D,e] at hs;have U:=K7 h (Tn h) J I Q hs;have Y:=xI.2 V;have am:=tw (iD ts) hi Y;unfold N6 at U
  split at U
  ·omega
  rename_i hl;apply hl;unfold fg;rw [uP h (iD ts) hi Y,fT];obtain ⟨z,al,R,ab,e',rfl⟩:=V
  show bC R.id=true
  have ai:=((jh gs).ts R ab).2;obtain ⟨u,Z⟩:=List.exists_mem_of_ne_nil _ ai;rw [(I9 gs).ts R ab] at Z;obtain ⟨h1,h2,ae⟩:=lW.1 Z;rw [<-ae];exact (J u h1).id
def To{tl}(I:MC b w mv ts tl)(h:FQ ts)(Q:∀t∈gs,CI ts t)(Z:gs.length<=1000):PuR ts gs:=by
 have V:∀t∈ts,t.rels.length<=1000/\∀r∈t.rels,(aF r.body).length<=1000:=fun t A=>by
  rw [<-I.fst] at A;obtain ⟨p,ab,rfl⟩:=aU.1 A;obtain ⟨rl,U⟩:=I.rels p ab;exact ⟨U.len,U.okp⟩
 refine ⟨Z,fun t A=>(Q t A).low,fun g Y x ad=> ?_,WB h Q,?_⟩
 ·obtain ⟨i,hi⟩:=iw.1 Y;obtain ⟨C,D,_⟩:=(iD ts).mem i g hi x ad;have J:=h.e _ C _ D;have hn:=(h.n _ C).2 _ D;refine ⟨As _ J,?_,?_,fun i hi=> ?_⟩
  ·have:=xL x.2.name x.2.body 0 J;have:=(V _ C).2 _ D;omega
  ·unfold maxLen;omega
  unfold gF at hi
  rcases aW.1 hi with hi|hi
  ·have:=xM x.2.name ai x.2.body 0 J i hi;unfold maxLen;omega
  rw [aX] at hi;subst hi
  show (⟨#[]⟩:ae).size<=maxLen
  decide
 rw [(xO ts).sum];unfold nU;rw [List.length_flatMap];have key:∀l:List Ty,(∀t∈l,t.rels.length<=1000)->(l.map fun t=>(t.rels.map fun r=>((t,r):TR)).length).sum<=l.length*1000:=by
  intro l
  induction l with
  |nil=>intro _;simp
  |cons t l ih=>
   intro R;have:=ih (fun u ac=>R u (eY _ ac));have:=R t eu;simp only [bY,List.sum_cons,bN,List.length_cons] at*;omega
 have:=key ts (fun t A=>(V t A).1);have:=I.len;omega
end
abbrev oo:=@Nat.add_zero
def TD (h:aD:=by
 go_wp2;go_roundw
 ·exact ⟨k+1,ai,by go_num,by first|rfl|trivial,HN3⟩
 simp [intOf];omega):aD:=h
structure GP where
 b:Nat
 y:Nat
 bm:Nat
 tv:ag
 gv:ag
 yv:ag
 kv:ag
 rv:ag
 pv:ag
 kl:List (ae×Nat)
 rl:List RV
 pl:List PV
 l:List PX
 ss:List ae
 th:List (ae×ae)
 bs:List Nat
 kd:ae
 who:ae
def N8(p:ae×ae):List ag:=[an p.1,an p.2]
structure GI(w:af)(g:GP)(K:Nat->Nat->Bool):Prop where
 blk:aL w g.b #[bu g.y,an g.kd,an g.who,g.gv,g.yv] 351
 du:DU w g.y (.pointer (some (aC g.bm 5))) g.tv g.ss
 dm:DM w g.bm g.kv g.rv g.pv g.kl g.rl g.pl g.l
 th:w.ownsRow 0 382 2 g.gv g.th.length (g.th.flatMap N8)
 few:g.th.length<=1000
 yr:w.ownsRow 0 353 1 g.yv g.rl.length (g.bs.map fun q=>aA (some (aP q)) g.th.length g.th.length)
 bl:g.bs.length=g.rl.length
 yb:∀(r:Nat)(q:Nat),g.bs[r]? =some q->yS w q g.th.length (K r) 4
 mb:∃cs,aL w g.bm cs 252
 nd:g.bs.Nodup
def GI.below{g K}(h:GI w g K)(k:am w w'):GI w' g K:=
 ⟨h.blk.below k,h.du.below k,h.dm.below k,aB h.th k,h.few,aB h.yr k,h.bl,fun r q C=>(h.yb r q C).below k,by obtain ⟨cs,A⟩:=h.mb;exact ⟨cs,A.below k⟩,h.nd⟩
def GI.five{g K}(h:GI w g K):w.cell? (aP g.b)=some (bu g.y)/\w.cell? (aC g.b 1)=some (an g.kd)/\w.cell? (aC g.b 2)=some (an g.who)/\w.cell? (aC g.b 3)=some g.gv/\w.cell? (aC g.b 4)=some g.yv:=⟨h.blk.cell rfl,h.blk.cell rfl,h.blk.cell rfl,h.blk.cell rfl,h.blk.cell rfl⟩
def xR(th:List (ae×ae))(k n:ae):Int:=match th.findIdx? (fun p=>eqs p.1 k&&eqs p.2 n) with
 |some i=>(i:Int)
 |none=> -1
def ZY{th n}(hk:k<th.length)(hn:∀j,(h:j<th.length)->j<k->(eqs th[j].1 x&&eqs th[j].2 n)=false)(he:(eqs th[k].1 x&&eqs th[k].2 n)=true):xR th x n=k:=by
 unfold xR;have:th.findIdx? (fun p=>eqs p.1 x&&eqs p.2 n)=some k:=by
  exact GW
 rw [this]
def TE{th n}(hn:∀j,(h:j<th.length)->(eqs th[j].1 x&&eqs th[j].2 n)=false):xR th x n= -1:=by
 unfold xR;have:th.findIdx? (fun p=>eqs p.1 x&&eqs p.2 n)=none:=by
  exact GV
 rw [this]
def xS(b c0 c1 c2 c4 gv th x n w)(Y:aL w b #[c0,c1,c2,gv,c4] 351)(Q:w.ownsRow 0 382 2 gv th.length (th.flatMap N8))(ah:th.length<=1000):
  Calls prog 200 #[bu b,an x,an n] w fun e w'=>e=bi (au (xR th x n))/\w'=w:=by
 obtain ⟨ga,gc,rfl⟩:=aw Q;have af:w.cell? (aC b 3)=some (aA ga th.length gc):=Y.cell rfl;generalize hR:xR th x n=R;go_enter func200,ntmps200;go_wp2_with fail
 go_loopw [7] (fun u wr=>∃k:Nat,k<=th.length/\u=au k/\wr=w/\(∀j,(h:j<th.length)->j<k->(eqs th[j].1 x&&eqs th[j].2 n)=false)) (fun u _=>th.length-(intOf u).toNat)
 ·exact ⟨0,ai,rfl,rfl,(fun j h V=>ai)⟩
 ·obtain ⟨k,ag,rfl,ae,D⟩:=hrel;subst ae
  by_cases U:k<th.length
  ·have ac:(k:Int)<(th.length:Int):=by omega
   obtain ⟨g,c,e1,hc⟩:=bn N8 2 (fun _=>rfl) Q k th[k] (aI U);simp only [aK,bX] at e1;obtain ⟨rfl,rfl⟩:=e1;have k0:=hc 0 _ ai rfl;have k1:=hc 1 _ ai rfl;rw [oo] at k0;have I:=(fun (A:(eqs th[k].1 x&&eqs th[k].2 n)=false)=>show ∀j,(h:j<th.length)->j<k+1->(eqs th[j].1 x&&eqs th[j].2 n)=false from fun j h V=>by
    by_cases e:j=k
    ·subst e;exact A
    exact D j h ai)
   have J:=fun (A:(eqs th[k].1 x&&eqs th[k].2 n)=true)=>ZY U D A
   generalize th[k]=p at*;obtain ⟨p1,p2⟩:=p;simp only at k0 k1 I J
   cases A:eqs p1 x
   ·have Z:(p1.toList==x.toList)=false:=by rw [<-aQ];exact A
    have HN3:=I (by rw [A];rfl);exact TD
   have Z:(p1.toList==x.toList)=true:=by rw [<-aQ];exact A
   cases C:eqs p2 n
   ·have ad:(p2.toList==n.toList)=false:=by rw [<-aQ];exact C
    have HN3:=I (by rw [A,C];rfl);exact TD
   have ad:(p2.toList==n.toList)=true:=by rw [<-aQ];exact C
   have hF:=J (by rw [A,C];rfl);exact GL
  have ac:¬((k:Int)<(th.length:Int)):=ai;have hF:=TE (fun j ab=>D j ab ai);exact GL
def CQ(K:Nat->Nat->Bool)(r k a b:Nat):Bool:=if a=r/\b=k then true else K a b
def tA{cs'}(h:aL w a cs T)(k:aL w b cs' T')(A:T≠T'):a≠b:=by
 intro e;subst e;unfold aL at h k;rw [h] at k;exact A (by cases k;rfl)
def mR(h:w.ownsRow base e size v n xs)(C:aL w q cs T)(D:e≠T)(o u):(w.setCell (aC q o) u).ownsRow base e size v n xs:=
 ay h (fun g' I f _ A=>ea _ _ _ _ (fun (e':g'=q)=>by
  subst e';unfold aL at C;rw [C] at A
  cases A
  exact D rfl))
def GI.set{g K}(h:GI w g K){r}(C:g.bs[r]? =some q):GI (w.setCell (aC q k) (.bool true)) g (CQ K r k):=by
 have A:aL w q _ 4:=h.yb r q C;obtain ⟨cs,U⟩:=h.mb;have I:=Y3.kd (w':=w.setCell (aC q k) (.bool true)) (⟨h.dm,cs,U⟩:Y3 w g.bm g.kv g.rv g.pv g.kl g.rl g.pl g.l) (KD.set A Et k (.bool true));refine ⟨h.blk.other (tA h.blk A ax) _,⟨h.du.blk.other (tA h.du.blk A ax) _,mR h.du.row A ax _ _,h.du.apart,h.du.most⟩,I.dm,mR h.th A ax _ _,h.few,mR h.yr A ax _ _,h.bl,fun a D ha=> ?_,I.blk,h.nd⟩
 by_cases e:a=r
 ·subst e;rw [C] at ha
  cases ha
  have:=(h.yb a q C).set k true;refine this.congr (fun b Q=> ?_);unfold CQ
  by_cases e:b=k
  ·rw [if_pos e,if_pos ⟨rfl,e⟩]
  rw [if_neg e,if_neg (fun e'=>e e'.2)]
 have V:D≠q:=fun e'=>by
  subst e';obtain ⟨h1,e1⟩:=bD.1 ha;obtain ⟨h2,J⟩:=bD.1 C;exact e ((List.getElem_inj h.nd).1 (e1.trans J.symm))
 have R:=h.yb a D ha;have:yS (w.setCell (aC q k) (.bool true)) D g.th.length (K a) 4:=aL.other R V _;refine this.congr (fun b Q=> ?_);unfold CQ;rw [if_neg (fun e'=>e e'.1)]
def zc1q (h:aD:=by
 rw [et,aI (by rw [UP.bl];exact hnl)];rfl):aD:=h
def Yk (h:aD:=by
 rw [UP.bl];exact hnl):aD:=h
def TF (h:aD:=by
 rw [jB];intro s hs;obtain ⟨j,A,rfl⟩:=dB hs;rw [h j A];simp):aD:=h
def TG(q:bq) (h:cj bq->aD:=by
 intro zq;have CT:=(fun (w':af) (hb:am W7 w')=>show Calls prog 200 #[bu g.b,an T.sub,an T.who] w' (fun e w''=>e=bi (au (m1:Int))/\w''=w') from by
  have I:=UP.below hb;have:=xS g.b _ _ _ _ _ g.th T.sub T.who w' I.blk I.th I.few;rw [hm1] at this;exact this)
 have ZZ:(n1:Int)<(g.rl.length:Int):=ai;have Z0:(m1:Int)<(g.th.length:Int):=ai
 revert CT ZZ Z0
 exact zq.1):aD:=h ⟨q⟩
def TH(q:bq) (h:cj bq->aD:=by
 intro zq;have b5:=(az wr.heap.size wr).alloc aH (oa T.kind T.id T.rel T.sub T.who T.of S);have Yl:=hb.trans (b5.mono hb.size);have uL:=I1.below b5
 revert b5 Yl uL
 exact zq.1):aD:=h ⟨q⟩
def TI(q:bq) (h:cj bq->aD:=by
 intro zq;obtain ⟨yg,yc,hyv,yn⟩:=aY UP.yr n1 (aA (some (aP (g.bs[n1]'Yk))) g.th.length g.th.length) zc1q;have ym:=(UP.yb n1 _ (aI Yk)).cell hml
 revert yg yc hyv yn ym
 exact zq.1):aD:=h ⟨q⟩
def TJ(q:bq) (h:cj bq->aD:=by
 intro zq;have hin:(i:Int)<(g.ss.length:Int):=by omega
 obtain ⟨tg,tc2,e1,hc⟩:=bn Kj 7 (fun _=>rfl) I1.du.row i g.ss[i] (aI hlt)
 revert hin tg tc2 e1 hc
 exact zq.1):aD:=h ⟨q⟩
def Az:ae:=⟨#[42]⟩
def NC:ae:=⟨#[]⟩
def oX:NC.toList=[]:=by rw [aT];rfl
def oq:Az.toList=[42]:=by rw [aT];rfl
def Ym(X:RV)(id:ae)(t:Tu):Bool:=eqs t.kind X.kd&&(eqs t.id id&&eqs t.rel X.nm)
def UT(g:GP)(t:Tu):Bool:=eqs t.of NC&&(eqs t.sub g.kd&&(eqs t.who g.who||eqs t.who Az))
def ofQ(g:GP)(K:Nat->Nat->Bool)(t:Tu):Bool:= !eqs t.of NC&&K (bh t.sub t.of g.rl 0).toNat (xR g.th t.sub t.who).toNat
def ND(g:GP)(K:Nat->Nat->Bool)(X:RV)(id:ae)(t:Tu):Bool:=Ym X id t&&(UT g t||ofQ g K t)
def uk(g:GP)(K:Nat->Nat->Bool)(X:RV)(id:ae):Bool:=g.ss.any fun s=>ND g K X id (tt s)
def TK(g:GP)(t:Tu):Prop:=eqs t.of NC=false->∃(n m:Nat),bh t.sub t.of g.rl 0=n/\n<g.rl.length/\xR g.th t.sub t.who=m/\m<g.th.length
def WK{g K}(h:∀j,(h:j<g.ss.length)->ND g K X id (tt g.ss[j])=false):uk g K X id=false:=by
 unfold uk;exact TF
def WL{g K}(A:j<g.ss.length)(h:ND g K X id (tt g.ss[j])=true):uk g K X id=true:=dg.2 ⟨_,br A,h⟩
def CR(g K)(r k:Nat)(X)(p:ae×ae)(w)(h:GI w g K)(a8:g.rl[r]? =some X)(aZ:g.th[k]? =some p)(bk:∀s∈g.ss,TK g (tt s)):
  Calls prog 255 #[bu g.b,au r,au k] w fun e w'=>e=bi (.bool (uk g K X p.2))/\am w w':=by
 obtain ⟨bT,rc,bB,bQ,bR,bS,r3⟩:=h.dm.rat r X a8;have bM:=(bD.1 a8).1;have bK:=(bD.1 aZ).1;have bN:(r:Int)<(g.rl.length:Int):=ai;have bL:(k:Int)<(g.th.length:Int):=ai;have bO:=h.du.most;obtain ⟨bF,b1,bG,bH,bI⟩:=h.five;have bY:w.cell? (aP g.y)=some (.pointer (some (aC g.bm 5))):=h.du.blk.cell rfl;have bC:=h.dm.c6;rw [bB] at bC;generalize aW:uk g K X p.2=R;go_enter func255,ntmps255;go_wp2_with fail
 go_loopw [8] (fun u wr=>∃i:Nat,i<=g.ss.length/\u=au i/\am w wr/\aL wr w.heap.size #[an X.kd,an X.nm,au X.pl,au X.ex] 172/\(∀j,(h:j<g.ss.length)->j<i->ND g K X p.2 (tt g.ss[j])=false)) (fun u _=>g.ss.length-(intOf u).toNat)
 ·exact ⟨0,ai,rfl,((az w.heap.size w).alloc aH (qg X.kd X.nm X.pl X.ex)),(aL.new w #[an X.kd,an X.nm,au X.pl,au X.ex] 172),(fun j h bh=>ai)⟩
 ·obtain ⟨i,hi,rfl,hb,aX,aO⟩:=hrel;have I1:=h.below hb;obtain ⟨ba,aF,aG,ah,bb⟩:=I1.five;have bZ:wr.cell? (aP g.y)=some (.pointer (some (aC g.bm 5))):=I1.du.blk.cell rfl;have bE:wr.cell? (aC g.y 1)=some g.tv:=I1.du.blk.cell rfl;obtain ⟨ta,tc,a9⟩:=aw I1.du.row;rw [a9] at bE
  by_cases hlt:i<g.ss.length
  ·refine TJ ?_;intro hin tg tc2 e1 hc;rw [a9] at e1;simp only [aK,bX] at e1;obtain ⟨rfl,rfl⟩:=e1;have t0:=hc 0 _ ai rfl;refine vS ?_;intro t1 t2 t3 t4 t5;have t6:=hc 6 _ ai rfl;rw [oo] at t0;have Z:=(fun (aB:ND g K X p.2 (tt g.ss[i])=false)=>show ∀j,(h:j<g.ss.length)->j<i+1->ND g K X p.2 (tt g.ss[j])=false from fun j h bh=>by
    by_cases e:j=i
    ·subst e;exact aB
    exact aO j h ai)
   have av:=fun (aB:ND g K X p.2 (tt g.ss[i])=true)=>(WL hlt aB).symm.trans aW
   have aS:=bk _ (br hlt);unfold tt at Z av aS;generalize (b7 g.ss[i]).1=T at*;generalize g.ss[i]=S at*;refine TH ?_;intro b5 Yl uL;have ar:=aX.below b5;have ab:=aL.new wr #[an T.kind,an T.id,an T.rel,an T.sub,an T.who,an T.of,an S] 264;have bP:¬(w.heap.size=wr.heap.size):=by have:=aX.lt;omega
   go_wp2_with fail;generalize wr.alloc (oa T.kind T.id T.rel T.sub T.who T.of S)=W at*;generalize wr.heap.size=bt at*;obtain ⟨ba,aF,aG,ah,bb⟩:=uL.five;obtain ⟨bw,bJ,bx,bA⟩:=bn N8 2 (fun _=>rfl) uL.th k p aZ;have k1:W.cell? (aC bw (k*2+1))=some (an p.2):=bA 1 _ ai rfl;rw [bx] at ah;have bV:W.cell? (aP w.heap.size)=some (an X.kd):=ar.cell rfl;have bW:W.cell? (aC w.heap.size 1)=some (an X.nm):=ar.cell rfl;have t0:W.cell? (aP bt)=some (an T.kind):=ab.cell rfl;have t1:W.cell? (aC bt 1)=some (an T.id):=ab.cell rfl;have t2:W.cell? (aC bt 2)=some (an T.rel):=ab.cell rfl;have C:=az W.heap.size W
   go_cut [69] (fun s aJ=>s=.bool (!Ym X p.2 T)/\am W aJ)
   ·cases h1:eqs T.kind X.kd
    ·have V:(T.kind.toList==X.kd.toList)=false:=by rw [<-aQ];exact h1
     go_quiet (fail)
     go_wp2
     go_meet
     case rel=>exact ⟨by simp [Ym,h1],cJ C _⟩
    have V:(T.kind.toList==X.kd.toList)=true:=by rw [<-aQ];exact h1
    cases h2:eqs T.id p.2
    ·have ax:(T.id.toList==p.2.toList)=false:=by rw [<-aQ];exact h2
     go_quiet (fail)
     go_wp2
     go_meet
     case rel=>exact ⟨by simp [Ym,h1,h2],cJ C _⟩
    have ax:(T.id.toList==p.2.toList)=true:=by rw [<-aQ];exact h2
    cases D:eqs T.rel X.nm
    ·have ay:(T.rel.toList==X.nm.toList)=false:=by rw [<-aQ];exact D
     go_quiet (fail)
     go_wp2
     go_meet
     case rel=>exact ⟨by simp [Ym,h1,h2,D],cJ C _⟩
    have ay:(T.rel.toList==X.nm.toList)=true:=by rw [<-aQ];exact D
    go_quiet (fail)
    go_wp2
    go_meet
    case rel=>exact ⟨by simp [Ym,h1,h2,D],cJ C _⟩
   obtain ⟨rfl,J⟩:=hcut;have al:=Yl.trans (J.mono Yl.size);have aN:=uL.below J;have aT:=ar.below J;have ac:=ab.below J
   cases ag:Ym X p.2 T
   ·have U:=Z (by unfold ND;rw [ag];rfl);go_wp2_with fail;exact ⟨⟨i+1,ai,by go_num,al,aT,U⟩,by simp [intOf];omega⟩
   obtain ⟨Q,bo⟩:∃z,z=wc:=⟨_,rfl⟩;subst bo;obtain ⟨ba,aF,aG,ah,bb⟩:=aN.five;have t3:Q.cell? (aC bt 3)=some (an T.sub):=ac.cell rfl;have t4:Q.cell? (aC bt 4)=some (an T.who):=ac.cell rfl;have t5:Q.cell? (aC bt 5)=some (an T.of):=ac.cell rfl;have C:=az Q.heap.size Q
   go_upto_region 7 with fail
   go_cut [95] (fun s aJ=>s=.bool (UT g T)/\am Q aJ)
   ·cases h1:eqs T.of NC
    ·have V:(T.of.toList== [])=false:=by rw [<-h1,aQ,oX]
     go_quiet (fail)
     go_wp2
     go_meet
     case rel=>exact ⟨by simp [UT,h1],cJ C _⟩
    have V:(T.of.toList== [])=true:=by rw [<-h1,aQ,oX]
    cases h2:eqs T.sub g.kd
    ·have ax:(T.sub.toList==g.kd.toList)=false:=by rw [<-aQ];exact h2
     go_quiet (fail)
     go_wp2
     go_meet
     case rel=>exact ⟨by simp [UT,h1,h2],cJ C _⟩
    have ax:(T.sub.toList==g.kd.toList)=true:=by rw [<-aQ];exact h2
    cases D:eqs T.who g.who
    ·have ay:(T.who.toList==g.who.toList)=false:=by rw [<-aQ];exact D
     cases ad:eqs T.who Az
     ·have bj:(T.who.toList== [42])=false:=by rw [<-ad,aQ,oq]
      go_quiet (fail)
      go_wp2
      go_meet
      case rel=>exact ⟨by simp [UT,h1,h2,D,ad],cJ C _⟩
     have bj:(T.who.toList== [42])=true:=by rw [<-ad,aQ,oq]
     go_quiet (fail)
     go_wp2
     go_meet
     case rel=>exact ⟨by simp [UT,h1,h2,D,ad],cJ C _⟩
    have ay:(T.who.toList==g.who.toList)=true:=by rw [<-aQ];exact D
    go_quiet (fail)
    go_wp2
    go_meet
    case rel=>exact ⟨by simp [UT,h1,h2,D],cJ C _⟩
   obtain ⟨rfl,J⟩:=hcut;have Y:=al.trans (J.mono al.size);have UP:=aN.below J;have aU:=aT.below J;have ap:=ac.below J
   cases aE:UT g T
   ·obtain ⟨W7,bp⟩:∃z,z=wc:=⟨_,rfl⟩;subst bp;have t5:W7.cell? (aC bt 5)=some (an T.of):=ap.cell rfl
    cases h1:eqs T.of NC
    ·have V:(T.of.toList== [])=false:=by rw [<-h1,aQ,oX]
     obtain ⟨n1,m1,a7,hnl,hm1,hml⟩:=aS h1;refine TI ?_;intro yg yc hyv yn ym;generalize g.bs[n1]'_=bc at yn ym;have aR:=(show ND g K X p.2 T=K n1 m1 from by
      unfold ND ofQ;rw [ag,aE,h1,a7,hm1];simp)
     generalize K n1 m1=aV at*;obtain ⟨c0,aF,aG,ah,c1⟩:=UP.five;rw [hyv] at c1;have c2:W7.cell? (aP g.y)=some (.pointer (some (aC g.bm 5))):=UP.du.blk.cell rfl;have c3:W7.cell? (aC bt 3)=some (an T.sub):=ap.cell rfl;have bg:W7.cell? (aC bt 4)=some (an T.who):=ap.cell rfl;have bf:=(fun (w':af) (hb:am W7 w')=>show Calls prog 132 #[.pointer (some (aC g.bm 5)),an T.sub,an T.of] w' (fun e w''=>e=bi (au (n1:Int))/\am w' w'') from by
      have:=eh g.bm g.kv g.rv g.pv g.kl g.rl g.pl g.l T.sub T.of w' (UP.dm.below hb);rw [a7] at this;exact this)
     refine TG ?_;intro CT ZZ Z0;have aj:=az W7.heap.size W7
     go_upto_region 9 with fail
     go_region_held3 (fun w'=>w'.cell? (aP g.b)=some (bu g.y)/\w'.cell? (aC g.b 4)=some (aA (some (aP yg)) g.rl.length yc)/\w'.cell? (aP g.y)=some (.pointer (some (aC g.bm 5)))/\w'.cell? (aC bt 3)=some (an T.sub)/\w'.cell? (aC bt 4)=some (an T.who)/\w'.cell? (aC bt 5)=some (an T.of)/\w'.cell? (aC yg n1)=some (aA (some (aP bc)) g.th.length g.th.length)/\w'.cell? (aC bc m1)=some (.bool aV)) (go_keep)
      ((first|(go_at_call 132;refine (bf _ ((by first|exact A|exact (cq aj)):am W7 _)).mono ?_;rintro e w5 ⟨rfl,bv⟩;have A:=(ll (a:=W7) (B:=W7.heap.size) ((by first|exact A|exact (cq aj)):am W7 _) (bv.mono xG));have d0:=ak c0 A;have d1:=ak c1 A;have d2:=ak c2 A;have d3:=ak c3 A;have d4:=ak bg A;have d5:=ak t5 A;have d6:=ak yn A;have d7:=ak ym A)|(go_at_call 200;refine (CT _ ((by first|exact (cq A)|exact (cq aj)):am W7 _)).mono ?_;rintro e bU ⟨rfl,rfl⟩)))
     have aM:=Y.trans (A.mono Y.size)
     cases aV
     ·have U:=Z aR;go_wp2_with fail;exact ⟨⟨i+1,ai,by go_num,aM,(aU.below A),U⟩,by simp [intOf];omega⟩
     have hF:=av aR;subst hF;go_wp2;go_ret;exact ⟨rfl,aM⟩
    have V:(T.of.toList== [])=true:=by rw [<-h1,aQ,oX]
    have U:=Z (by unfold ND ofQ;rw [ag,aE,h1];rfl)
    go_upto_region 9 with fail
    go_quiet (fail)
    go_wp2_with fail;exact ⟨⟨i+1,ai,by go_num,cJ Y _,aU.drewN _,U⟩,by simp [intOf];omega⟩
   have hF:=av (by unfold ND;rw [ag,aE];rfl);subst hF;go_wp2;go_ret;exact ⟨rfl,Y⟩
  have hin:¬((i:Int)<(g.ss.length:Int)):=ai;have hF:=WK (fun j bz=>aO j bz ai);rw [aW] at hF;subst hF;go_wp2;go_ret;exact ⟨rfl,hb⟩
def abo (h:aD:=by
 first|exact cJ bo _|exact az _ _):aD:=h
def N9(g:GP)(X:RV)(Q:PV)(id:ae)(t:Tu):Bool:=eqs t.kind X.kd&&(eqs t.id id&&(eqs t.rel Q.nb&&(eqs t.of NC&&(!eqs t.who Az&&decide (0<=bh t.sub Q.nr g.rl 0)))))
def TL(g:GP)(K:Nat->Nat->Bool)(X:RV)(Q:PV)(id:ae)(t:Tu):Bool:=N9 g X Q id t&&K (bh t.sub Q.nr g.rl 0).toNat (xR g.th t.sub t.who).toNat
def xT(g:GP)(K:Nat->Nat->Bool)(X:RV)(Q:PV)(id:ae):Bool:=g.ss.any fun s=>TL g K X Q id (tt s)
def ThK(g:GP)(t:Tu):Prop:=∃m:Nat,xR g.th t.sub t.who=m/\m<g.th.length
def WM{g K Q}(h:∀j,(h:j<g.ss.length)->TL g K X Q id (tt g.ss[j])=false):xT g K X Q id=false:=by
 unfold xT;exact TF
def WN{g K Q}(A:j<g.ss.length)(h:TL g K X Q id (tt g.ss[j])=true):xT g K X Q id=true:=dg.2 ⟨_,br A,h⟩
def xU(k n):∀(rl:List RV)(i:Nat),bh k n rl i= -1\/∃j:Nat,bh k n rl i=j/\i<=j/\j<i+rl.length
 | [],i=> .inl rfl
 |x::xs,i=>by
  rw [bh]
  split
  ·exact .inr ⟨i,rfl,ai,ar⟩
  rcases xU k n xs (i+1) with h|⟨j,h1,h2,A⟩
  ·exact .inl h
  exact .inr ⟨j,h1,ai,by simp only [List.length_cons];omega⟩
def NE(g K)(r k:Nat)(X)(p:ae×ae)(Q ga pa sa)(V U pn Z ac ab:Nat)(w)(h:GI w g K)(bj:g.rl[r]? =some X)(bf:g.th[k]? =some p)(bL:∀s∈g.ss,ThK g (tt s)):
  Calls prog 256 #[bu g.b,au r,au k,.agg #[au Q.kind,aA ga V U,an Q.nb,an Q.nr,au Q.pa,au Q.pr,aA pa pn Z,aA sa ac ab]] w fun e w'=>e=bi (.bool (xT g K X Q p.2))/\am w w':=by
 have aG:=(az w.heap.size w).alloc aH (dX Q.kind ga V U Q.nb Q.nr Q.pa Q.pr pa pn Z sa ac ab);have ad:=h.below aG;obtain ⟨cg,rc,bU,cd,ce,cf,r3⟩:=ad.dm.rat r X bj;have b8:=(bD.1 bj).1;have b3:=(bD.1 bf).1;have b9:(r:Int)<(g.rl.length:Int):=ai;have b4:(k:Int)<(g.th.length:Int):=ai;have cb:=h.du.most;obtain ⟨a0,a1,a2,a3,a4⟩:=ad.five;have ci:(w.alloc (dX Q.kind ga V U Q.nb Q.nr Q.pa Q.pr pa pn Z sa ac ab)).cell? (aP g.y)=some (.pointer (some (aC g.bm 5))):=ad.du.blk.cell rfl;have bV:=ad.dm.c6;rw [bU] at bV;have aU:=aL.new w (gL Q.kind ga V U Q.nb Q.nr Q.pa Q.pr pa pn Z sa ac ab) 255;have b6:w.heap.size<(w.alloc (dX Q.kind ga V U Q.nb Q.nr Q.pa Q.pr pa pn Z sa ac ab)).heap.size:=aU.lt;generalize bc:xT g K X Q p.2=R;go_enter func256,ntmps256
 go_upto_region 1 with fail
 generalize w.alloc (dX Q.kind ga V U Q.nb Q.nr Q.pa Q.pr pa pn Z sa ac ab)=ag at*;have b1:=(az ag.heap.size ag).alloc aH (qg X.kd X.nm X.pl X.ex);have al:=aG.trans (b1.mono aG.size);have bx:=ad.below b1;have aV:=aU.below b1;have bA:=aL.new ag #[an X.kd,an X.nm,au X.pl,au X.ex] 172;go_wp2_with fail;generalize ag.alloc (qg X.kd X.nm X.pl X.ex)=bC at*;generalize ag.heap.size=bE at*
 go_loopw [10] (fun u wr=>∃i:Nat,i<=g.ss.length/\u=au i/\am bC wr/\(∀j,(h:j<g.ss.length)->j<i->TL g K X Q p.2 (tt g.ss[j])=false)) (fun u _=>g.ss.length-(intOf u).toNat)
 ·exact vo
 ·obtain ⟨i,hi,rfl,hb,aS⟩:=hrel;have I1:=bx.below hb;obtain ⟨bp,aN,aO,av,bv⟩:=I1.five;have bY:wr.cell? (aC g.y 1)=some g.tv:=I1.du.blk.cell rfl;obtain ⟨ta,tc,bk⟩:=aw I1.du.row;rw [bk] at bY
  by_cases hlt:i<g.ss.length
  ·refine TJ ?_;intro hin tg tc2 e1 hc;rw [bk] at e1;simp only [aK,bX] at e1;obtain ⟨rfl,rfl⟩:=e1;have t0:=hc 0 _ ai rfl;refine vS ?_;intro t1 t2 t3 t4 t5;have t6:=hc 6 _ ai rfl;rw [oo] at t0;have aB:=(fun (aM:TL g K X Q p.2 (tt g.ss[i])=false)=>show ∀j,(h:j<g.ss.length)->j<i+1->TL g K X Q p.2 (tt g.ss[j])=false from fun j h b0=>by
    by_cases e:j=i
    ·subst e;exact aM
    exact aS j h ai)
   have ba:=fun (aM:TL g K X Q p.2 (tt g.ss[i])=true)=>(WN hlt aM).symm.trans bc
   have aW:=bL _ (br hlt);unfold tt at aB ba aW;generalize (b7 g.ss[i]).1=T at*;generalize g.ss[i]=S at*;refine TH ?_;intro b5 Yl uL;have aX:=aL.new wr #[an T.kind,an T.id,an T.rel,an T.sub,an T.who,an T.of,an S] 264
   go_upto_region 6 with fail
   generalize wr.alloc (oa T.kind T.id T.rel T.sub T.who T.of S)=W at*;generalize wr.heap.size=bt at*;obtain ⟨c0,aN,aO,av,bv⟩:=uL.five;have c1:W.cell? (aP g.y)=some (.pointer (some (aC g.bm 5))):=uL.du.blk.cell rfl;have c2:W.cell? (aC bt 3)=some (an T.sub):=aX.cell rfl;have c3:W.cell? (aC w.heap.size 3)=some (an Q.nr):=(aV.below Yl).cell rfl;have bw:=fun (w':af) (hb:am W w')=>eh g.bm g.kv g.rv g.pv g.kl g.rl g.pl g.l T.sub Q.nr w' (uL.dm.below hb)
   have aR:=az W.heap.size W;have bP:=xU T.sub Q.nr g.rl 0;generalize ar:bh T.sub Q.nr g.rl 0=fn at*
   go_region_held3 (fun w'=>w'.cell? (aP g.b)=some (bu g.y)/\w'.cell? (aP g.y)=some (.pointer (some (aC g.bm 5)))/\w'.cell? (aC bt 3)=some (an T.sub)/\w'.cell? (aC w.heap.size 3)=some (an Q.nr)) (go_keep)
    ((go_at_call 132;refine (bw _ ((cq aR):am W _)).mono ?_;rintro e w5 ⟨rfl,bN⟩;have A:=(ll (a:=W) (B:=W.heap.size) ((cq aR):am W _) (bN.mono xG));have d0:=ak c0 A;have d1:=ak c1 A;have d2:=ak c2 A;have d3:=ak c3 A))
   have ap:=Yl.trans (A.mono Yl.size);have ay:=uL.below A;have J:=aX.below A;obtain ⟨bp,aN,aO,av,bv⟩:=ay.five;obtain ⟨bQ,b2,bR,bT⟩:=bn N8 2 (fun _=>rfl) ay.th k p bf;have k1:w5.cell? (aC bQ (k*2+1))=some (an p.2):=bT 1 _ ai rfl;rw [bR] at av;have ch:w5.cell? (aP bE)=some (an X.kd):=(bA.below ap).cell rfl;have p2:w5.cell? (aC w.heap.size 2)=some (an Q.nb):=(aV.below ap).cell rfl;have t0:w5.cell? (aP bt)=some (an T.kind):=J.cell rfl;have t1:w5.cell? (aC bt 1)=some (an T.id):=J.cell rfl;have t2:w5.cell? (aC bt 2)=some (an T.rel):=J.cell rfl;have t4:w5.cell? (aC bt 4)=some (an T.who):=J.cell rfl;have t5:w5.cell? (aC bt 5)=some (an T.of):=J.cell rfl;have C:=az w5.heap.size w5
   go_upto_region 7 with fail
   go_cut [98] (fun s bW=>s=.bool (!N9 g X Q p.2 T)/\am w5 bW)
   ·cases h1:eqs T.kind X.kd
    ·have bF:(T.kind.toList==X.kd.toList)=false:=by rw [<-aQ];exact h1
     go_quiet (fail)
     go_wp2
     go_meet
     case rel=>exact ⟨by simp [N9,h1],cJ C _⟩
    have bF:(T.kind.toList==X.kd.toList)=true:=by rw [<-aQ];exact h1
    cases h2:eqs T.id p.2
    ·have bG:(T.id.toList==p.2.toList)=false:=by rw [<-aQ];exact h2
     go_quiet (fail)
     go_wp2
     go_meet
     case rel=>exact ⟨by simp [N9,h1,h2],cJ C _⟩
    have bG:(T.id.toList==p.2.toList)=true:=by rw [<-aQ];exact h2
    cases D:eqs T.rel Q.nb
    ·have bH:(T.rel.toList==Q.nb.toList)=false:=by rw [<-aQ];exact D
     go_quiet (fail)
     go_wp2
     go_meet
     case rel=>exact ⟨by simp [N9,h1,h2,D],cJ C _⟩
    have bH:(T.rel.toList==Q.nb.toList)=true:=by rw [<-aQ];exact D
    cases Y:eqs T.of NC
    ·have bI:(T.of.toList== [])=false:=by rw [<-Y,aQ,oX]
     go_quiet (fail)
     go_wp2
     go_meet
     case rel=>exact ⟨by simp [N9,h1,h2,D,Y],cJ C _⟩
    have bI:(T.of.toList== [])=true:=by rw [<-Y,aQ,oX]
    cases ah:eqs T.who Az
    ·have bJ:(T.who.toList== [42])=false:=by rw [<-ah,aQ,oq]
     by_cases bK:fn<0
     ·have bb:¬(0<=fn):=by omega
      go_quiet (fail)
      go_wp2
      go_meet
      case rel=>exact ⟨by simp [N9,h1,h2,D,Y,ah,ar,bK],cJ C _⟩
     have bb:0<=fn:=ai
     go_quiet (fail)
     go_wp2
     go_meet
     case rel=>exact ⟨by simp [N9,h1,h2,D,Y,ah,ar,bb],cJ C _⟩
    have bJ:(T.who.toList== [42])=true:=by rw [<-ah,aQ,oq]
    go_quiet (fail)
    go_wp2
    go_meet
    case rel=>exact ⟨by simp [N9,h1,h2,D,Y,ah],cJ C _⟩
   obtain ⟨rfl,aJ⟩:=hcut;have ax:=ap.trans (aJ.mono ap.size);have UP:=ay.below aJ;have aZ:=J.below aJ
   cases aj:N9 g X Q p.2 T
   ·have aF:=aB (by unfold TL;rw [aj];rfl);go_wp2_with fail;exact ⟨⟨i+1,ai,by go_num,ax,aF⟩,by simp [intOf];omega⟩
   obtain ⟨W7,bM⟩:∃z,z=wc:=⟨_,rfl⟩;subst bM;obtain ⟨n1,bg,hnl⟩:∃n1:Nat,fn=n1/\n1<g.rl.length:=by
    have h0:0<=bh T.sub Q.nr g.rl 0:=by
     unfold N9 at aj;simp only [bO,fE] at aj;exact aj.2.2.2.2.2
    rw [ar] at h0
    rcases aE bP with e|⟨j,e1,_,bZ⟩
    ·omega
    exact ⟨j,e1,ai⟩
   obtain ⟨m1,hm1,hml⟩:=aE aW;refine TI ?_;intro yg yc hyv yn ym;generalize g.bs[n1]'_=ck at yn ym;have aT:=(show TL g K X Q p.2 T=K n1 m1 from by
    unfold TL;rw [aj,ar,bg,hm1];simp)
   generalize K n1 m1=bB at*;obtain ⟨bp,aN,aO,av,c0⟩:=UP.five;rw [hyv] at c0;have c1:W7.cell? (aC bt 3)=some (an T.sub):=aZ.cell rfl;have c2:W7.cell? (aC bt 4)=some (an T.who):=aZ.cell rfl;refine TG ?_;intro CT ZZ Z0;have bz:=al.trans (ax.mono al.size);subst bg
   go_upto_region 8 with fail
   go_quiet ((go_at_call 200;exact Calls.quiet_of_same (CT _ abo)))
   cases bB
   ·have aF:=aB aT;go_wp2_with fail;exact ⟨⟨i+1,ai,by go_num,cJ ax _,aF⟩,by simp [intOf];omega⟩
   have hF:=ba aT;subst hF;go_wp2;go_ret;exact ⟨rfl,cJ bz _⟩
  have hin:¬((i:Int)<(g.ss.length:Int)):=ai;have hF:=WM (fun j bS=>aS j bS ai);rw [bc] at hF;subst hF;go_wp2;go_ret;exact ⟨rfl,(al.trans (hb.mono al.size))⟩
def Yn (h:aD:=by
 go_enter func234,ntmps234;rw [hk] at*;go_wp2_with fail;refine C.mono ?_;rintro e w1 ⟨rfl,D⟩;have A:=b0.trans (D.mono b0.size);go_wp2;go_ret;exact ⟨rfl,A⟩):aD:=h
def xV(q:bq) (h:cj bq->aD:=by
 intro zq;obtain ⟨pg,pc0,ga,gc,pa,pc,sa,sc,hpv,iR,e0,e1,e2,e3,e4,e5,e6,e7⟩:=h.dm.pat n p hp;have hnl:(n:Int)<(g.pl.length:Int):=by have:=(bD.1 hp).1;omega
 have hpm:=h.dm.pn;have a0:=h.five.1;have y0:w.cell? (aP g.y)=some (.pointer (some (aC g.bm 5))):=h.du.blk.cell rfl;have m7:=h.dm.c7
 revert pg pc0 ga gc pa pc sa sc hpv iR e0 e1 e2 e3 e4 e5 e6 e7 hnl hpm a0 y0 m7
 exact zq.1):aD:=h ⟨q⟩
def CS(q:bq) (h:cj bq->aD:=by
 intro zq;have b0:=(az w.heap.size w).alloc aH (dX p.kind ga p.gs.length gc p.nb p.nr p.pa p.pr pa p.ps.length pc sa p.sg.length sc)
 revert b0
 exact zq.1):aD:=h ⟨q⟩
def CU(q:bq) (h:cj bq->aD:=by
 intro zq;refine CS ?_;intro b0;have HI:=h.below b0;refine qe ?_;intro HP
 revert b0 HI HP
 exact zq.1):aD:=h ⟨q⟩
def tiN(g:GP)(K:Nat->Nat->Bool)(X:RV)(x y id:ae):Bool:=xT g K X ⟨3,[],x,y,0,0,[],[]⟩ id
def lC(g:GP)(K:Nat->Nat->Bool)(X:RV)(k:Nat)(id:ae):Ex->Bool
 |⟨n,some x,some y⟩=>if n.kind=3 then lC g K X k id x||lC g K X k id y else if n.kind=4 then lC g K X k id x&&lC g K X k id y else lC g K X k id x&& !lC g K X k id y
 |⟨n,none,_⟩=>if n.kind=0 then uk g K X id else if n.kind=1 then K (bh X.kd n.n1 g.rl 0).toNat k else tiN g K X n.n1 n.n2 id
 |⟨_,some _,none⟩=>false
def TM(g:GP)(K:Nat->Nat->Bool)(r k n:Nat)(v:Bool):Prop:=∀w,GI w g K->Calls prog 234 #[bu g.b,au r,au k,au n] w fun e w'=>e=bi (.bool v)/\am w w'
def FY(g K X k id):∀(rs:List (ae×Nat×Ex)) (x:Ex),(∀r∈rs,r.1=sg 38\/r.1=sg 45)->lC g K X k id (cb x rs)=(lC g K X k id x&&rs.all fun r=>lC g K X k id r.2.2 != minus ⟨bB r.1,r.2.1,false⟩)
 | [],x,_=>by simp [cb]
 |(t,q,y)::rs,x,h=>by
  rw [cb,FY g K X k id rs _ (fun r A=>h r (eY _ A)),List.all_cons,<-sE]
  congr 1
  simp only [ri]
  rcases h (t,q,y) eu with e|e
  ·have e':t=sg 38:=e;subst e';have h1:eqs (sg 38) (sg 45)=false:=ax;simp [dF,lC,h1,show kindOf (sg 38)=4 from by decide]
  have e':t=sg 45:=e;subst e';have h1:eqs (sg 45) (sg 45)=true:=ax;simp [dF,lC,h1,show kindOf (sg 45)=5 from by decide]
def Lk(g K X k id):∀(rs:List (ae×Nat×Ex)) (x:Ex),(∀r∈rs,r.1=sg 124)->lC g K X k id (cb x rs)=(lC g K X k id x||rs.any fun r=>lC g K X k id r.2.2)
 | [],x,_=>by simp [cb]
 |(t,q,y)::rs,x,h=>by
  rw [cb,Lk g K X k id rs _ (fun r A=>h r (eY _ A)),kj,<-Bool.or_assoc]
  congr 1
  have e':t=sg 124:=h (t,q,y) eu;subst e';simp [dF,lC,show kindOf (sg 124)=3 from by decide]
def NF(g K r k n X)(q:ae×ae)(p)(hp:g.pl[n]? =some p)(hk:p.kind=1)(Q:g.rl[r]? =some X)(J:g.th[k]? =some q)(I:∀s∈g.ss,TK g (tt s)):TM g K r k n (uk g K X q.2):=fun w h=>by
 refine xV ?_;intro pg pc0 ga gc pa pc sa sc hpv iR e0 e1 e2 e3 e4 e5 e6 e7 hnl hpm a0 y0 m7;rw [hpv] at m7;refine CU ?_;intro b0 HI HP;have C:=CR g K r k X q _ HI Q J I;exact Yn
def TN(g K r k n X)(q:ae×ae)(p)(hp:g.pl[n]? =some p)(hk:p.kind=3)(Q:g.rl[r]? =some X)(J:g.th[k]? =some q)(I:∀s∈g.ss,ThK g (tt s)):TM g K r k n (tiN g K X p.nb p.nr q.2):=fun w h=>by
 refine xV ?_;intro pg pc0 ga gc pa pc sa sc hpv iR e0 e1 e2 e3 e4 e5 e6 e7 hnl hpm a0 y0 m7;rw [hpv] at m7;refine CU ?_;intro b0 HI HP;have C:=NE g K r k X q p ga pa sa p.gs.length gc p.ps.length pc p.sg.length sc _ HI Q J I;exact Yn
def WO (h:aD:=by
 rw [et,aI hlt];rfl):aD:=h
def TO(q:bq) (h:cj bq->aD:=by
 intro zq;have x6:wr.cell? (aC w.heap.size 6)=some (aA pa p.ps.length pc):=(HP.below hb).cell rfl;have x7:wr.cell? (aC w.heap.size 7)=some (aA sa p.sg.length sc):=(HP.below hb).cell rfl
 revert x6 x7
 exact zq.1):aD:=h ⟨q⟩
def TP(g K)(r k n n1:Nat)(X p)(hp:g.pl[n]? =some p)(ag:p.kind=2)(R:g.rl[r]? =some X)(ah:k<g.th.length)(ae:bh X.kd p.nr g.rl 0=n1)(D:n1<g.rl.length):TM g K r k n (K n1 k):=fun w h=>by
 refine xV ?_;intro pg pc0 ga gc pa pc sa sc hpv iR e0 e1 e2 e3 e4 e5 e6 e7 hnl hpm a0 y0 m7;rw [hpv] at m7;refine CU ?_;intro b0 HI HP;generalize ac:K n1 k=ab;clear h iR;go_enter func234,ntmps234;rw [ag] at*
 go_upto_region 6 with fail
 clear e0 e1 e2 e3 e4 e5 e6 e7 a0 y0 m7;generalize w.alloc (dX (2:Nat) ga p.gs.length gc p.nb p.nr p.pa p.pr pa p.ps.length pc sa p.sg.length sc)=W at*;obtain ⟨V,ay,al,Y⟩:=aY HI.yr n1 (aA (some (aP (g.bs[n1]'(by rw [HI.bl];exact D)))) g.th.length g.th.length) (by rw [et,aI (by rw [HI.bl];exact D)];rfl);have c7:=(HI.yb n1 _ (aI (by rw [HI.bl];exact D))).cell ah;have c6:=Y;generalize g.bs[n1]'_=Z at c6 c7;rw [ac] at c7;obtain ⟨U,rc,aj,J,aw,ax,r3⟩:=HI.dm.rat r X R;have c3:=HI.dm.c6;rw [aj] at c3;obtain ⟨c0,ap,ar,av,c1⟩:=HI.five;rw [al] at c1;have c2:W.cell? (aP g.y)=some (.pointer (some (aC g.bm 5))):=HI.du.blk.cell rfl;have c5:W.cell? (aC w.heap.size 3)=some (an p.nr):=HP.cell rfl;have aF:(r:Int)<(g.rl.length:Int):=by have:=(bD.1 R).1;omega
 have aB:(k:Int)<(g.th.length:Int):=ai;have aE:(n1:Int)<(g.rl.length:Int):=ai;have I:=(fun (w':af) (ad:am W w')=>show Calls prog 132 #[.pointer (some (aC g.bm 5)),an X.kd,an p.nr] w' (fun e w''=>e=bi (au (n1:Int))/\am w' w'') from by
  have:=eh g.bm g.kv g.rv g.pv g.kl g.rl g.pl g.l X.kd p.nr w' (HI.dm.below ad);rw [ae] at this;exact this)
 have C:=az W.heap.size W;clear Y ap ar av aw ax r3
 go_region_held3 (fun w'=>w'.cell? (aP g.b)=some (bu g.y)/\w'.cell? (aC g.b 4)=some (aA (some (aP V)) g.rl.length ay)/\w'.cell? (aP g.y)=some (.pointer (some (aC g.bm 5)))/\w'.cell? (aC g.bm 6)=some (aA (some (aP U)) g.rl.length rc)/\w'.cell? (aC U (r*4))=some (an X.kd)/\w'.cell? (aC w.heap.size 3)=some (an p.nr)/\w'.cell? (aC V n1)=some (aA (some (aP Z)) g.th.length g.th.length)/\w'.cell? (aC Z k)=some (.bool ab)) (go_keep)
  ((go_at_call 132;refine (I _ ((cq C):am W _)).mono ?_;rintro e w5 ⟨rfl,Q⟩;have A:=(ll (a:=W) (B:=W.heap.size) ((cq C):am W _) (Q.mono xG));have d0:=ak c0 A;have d1:=ak c1 A;have d2:=ak c2 A;have d3:=ak c3 A;have d4:=ak J A;have d5:=ak c5 A;have d6:=ak c6 A;have d7:=ak c7 A;clear Q))
 clear c0 c1 c2 c3 J c5 c6 c7 d0 d1 d2 d3 d4 d5 d6 d7 I C;go_wp2;go_ret;exact ⟨rfl,(b0.trans (A.mono b0.size))⟩
def NG(g K r k n p vf)(hp:g.pl[n]? =some p)(ad:p.kind=5)(af:p.ps.length<=1000)(ae:∀i m,p.ps[i]? =some m->TM g K r k m (vf i)):TM g K r k n (mQ p.ps.length vf):=fun w h=>by
 refine xV ?_;intro pg pc0 ga gc pa pc sa sc hpv iR e0 e1 e2 e3 e4 e5 e6 e7 hnl hpm a0 y0 m7;rw [hpv] at m7;refine CU ?_;intro b0 HI HP;have Z:=aB iR.p b0;generalize I:mQ p.ps.length vf=R;go_enter func234,ntmps234;rw [ad] at*
 go_upto_region 10 with fail
 generalize w.alloc (dX (5:Nat) ga p.gs.length gc p.nb p.nr p.pa p.pr pa p.ps.length pc sa p.sg.length sc)=W at*;go_wp2_with fail
 go_loopw [10] (fun u wr=>∃i:Nat,i<=p.ps.length/\u=au i/\am W wr/\Hid (mQ i vf=false)) (fun u _=>p.ps.length-(intOf u).toNat)
 ·exact ⟨0,ai,rfl,az _ _,rfl⟩
 obtain ⟨i,hi,rfl,A,D⟩:=hrel;have aj:wr.cell? (aC w.heap.size 6)=some (aA pa p.ps.length pc):=(HP.below A).cell rfl;have C:=b0.trans (A.mono b0.size)
 by_cases hlt:i<p.ps.length
 ·have ac:(i:Int)<(p.ps.length:Int):=by omega
  obtain ⟨ah,ag,e1,hc⟩:=aY (aB Z A) i (au (p.ps[i]:Nat)) WO;simp only [aK,bX] at e1;obtain ⟨rfl,rfl⟩:=e1;have Q:=ae i _ (aI hlt) wr (HI.below A);generalize p.ps[i]=m at*;have ab:=(fun e=>by rw [<-I,om];exact ⟨i,hlt,e⟩:vf i=true->R=true);have V:=(fun e=>by rw [mQ,D,e];rfl:vf i=false->mQ (i+1) vf=false);generalize vf i=v at*;go_wp2_with fail;refine Q.mono ?_;rintro e w1 ⟨rfl,J⟩;have U:=C.trans (J.mono C.size)
  cases v
  ·have Y:=V rfl;go_wp2_with fail;exact ⟨⟨i+1,ai,by go_num,(A.trans (J.mono A.size)),Y⟩,by simp [intOf];omega⟩
  have hF:=ab rfl;subst hF;go_wp2;go_ret;exact ⟨rfl,U⟩
 obtain rfl:i=p.ps.length:=ai;have ac:¬((p.ps.length:Int)<(p.ps.length:Int)):=ai;have hF:R=false:=by rw [<-I];exact D
 subst hF;go_wp2;go_ret;exact ⟨rfl,C⟩
def Jh(g)(K:Nat->Nat->Bool)(r k n p)(C A:Nat->Bool)(hp:g.pl[n]? =some p)(aM:p.kind=4)(aO:p.ps.length<=1000)(ag:p.sg.length=p.ps.length)(hs:∀i t,p.sg[i]? =some t->minus t=A i)(ah:∀i m,p.ps[i]? =some m->TM g K r k m (C i)):TM g K r k n (!mQ p.ps.length (fun i=>C i==A i)):=fun w h=>by
 refine xV ?_;intro pg pc0 ga gc pa pc sa sc hpv iR e0 e1 e2 e3 e4 e5 e6 e7 hnl hpm a0 y0 m7;rw [hpv] at m7;refine CS ?_;intro b0;have Z:=aj b0;have ar:=aj (h.below b0);have HP:=aj (aL.new w (gL p.kind ga p.gs.length gc p.nb p.nr p.pa p.pr pa p.ps.length pc sa p.sg.length sc) 255);have aw:=aj (aB iR.p b0);have ay:=aj (aB iR.s b0);have aG:=aj ah;have aF:=aj hs;generalize ad:(!mQ p.ps.length (fun i=>C i==A i))=R;have ac:=aj ad;have aE:=aj ag;clear h b0 iR ah ad hs ag;go_enter func234,ntmps234;rw [aM] at*
 go_upto_region 17 with fail
 clear e0 e1 e2 e3 e4 e5 e6 e7 a0 y0 m7;generalize w.alloc (dX (4:Nat) ga p.gs.length gc p.nb p.nr p.pa p.pr pa p.ps.length pc sa p.sg.length sc)=W at*;go_wp2_with fail
 go_loopw [12] (fun u wr=>∃i:Nat,i<=p.ps.length/\u=au i/\am W wr/\Hid (mQ i (fun i=>C i==A i)=false)) (fun u _=>p.ps.length-(intOf u).toNat)
 ·exact ⟨0,ai,rfl,az _ _,aj rfl⟩
 obtain ⟨i,hi,rfl,hb,J⟩:=hrel;refine TO ?_;intro x6 x7;have I:=aj (Z.trans (hb.mono Z.size))
 by_cases hlt:i<p.ps.length
 ·have aJ:(i:Int)<(p.ps.length:Int):=by omega
  have af:i<p.sg.length:=by rw [aE];exact hlt
  have aQ:(i:Int)<(p.sg.length:Int):=ai;obtain ⟨aS,aR,e1,hc⟩:=aY (aB aw hb) i (au (p.ps[i]:Nat)) WO;simp only [aK,bX] at e1;obtain ⟨rfl,rfl⟩:=e1;obtain ⟨aU,aT,e2,ae⟩:=bn fI 3 (fun _=>rfl) (aB ay hb) i p.sg[i] (aI af);simp only [aK,bX] at e2;obtain ⟨rfl,rfl⟩:=e2;have ak:=ae 0 _ ai rfl;rw [oo] at ak;have Y:=aj (aG i _ (aI hlt) wr (ar.below hb));have aN:=aF i _ (aI af);generalize p.ps[i]=m at*;generalize p.sg[i]=t at*;have U:=aj (show (C i==A i)=true->R=false from fun e=>by
   rw [<-ac];have:mQ p.ps.length (fun i=>C i==A i)=true:=om.2 ⟨i,hlt,e⟩;rw [this];rfl)
  have Q:=aj (fun e=>by rw [mQ,J,e];rfl:(C i==A i)=false->mQ (i+1) (fun i=>C i==A i)=false);have ab:=aj hb;generalize C i=v at*;generalize A i=l at*;unfold minus at aN;clear hb J ae;go_wp2_with fail;refine Y.mono ?_;rintro e w1 ⟨rfl,V⟩;have al:=aj (ab.trans (V.mono ab.size));have ap:=aj (I.trans (V.mono I.size));clear V Y x6 x7 hc ak
  cases D:(v==l)
  ·have av:=aj (Q D);clear Q U
   cases v<;>cases l<;>first|(exact absurd D ax)|(
    clear D;go_wp2_with fail;exact ⟨⟨i+1,ai,by go_num,al,av⟩,by simp [intOf];omega⟩)
  have hF:=U D;subst hF;clear Q U
  cases v<;>cases l<;>first|(exact absurd D ax)|(
   clear D;go_wp2;go_ret;exact ⟨rfl,ap⟩)
 obtain rfl:i=p.ps.length:=ai;have aJ:¬((p.ps.length:Int)<(p.ps.length:Int)):=ai;have hF:R=true:=by rw [<-ac,J];rfl
 subst hF;clear hb;go_wp2;go_ret;exact ⟨rfl,I⟩
def WP (h:aD:=by
 rw [et,aI hi];rfl):aD:=h
def TQ (h:aD:=by
 rw [dH,bf]
 rcases cG.1 hy with rfl|hy
 ·omega
 obtain ⟨a,b,e⟩:=se hy;rw [e];exact QL):aD:=h
def Yo (h:aD:=by
 rw [hpl];refine aV (xW _ (fun y C=> ?_)) ?_
 ·obtain ⟨m,_,A⟩:=cu.memr _ _ Yp y C;exact CV g.pl f m y A
 rw [dH] at hl
 simpa using hl):aD:=h
def Ji (h:aD:=by
 rw [dH,aW]
 rcases cG.1 hy with rfl|hy
 ·exact .inl he
 exact .inr (bZ.2 ⟨y,hy,he⟩)):aD:=h
def Jj(q:bq) (h:cj bq->aD:=by
 intro zq;have hpl:p.ps.length=(x0::rs.map fun r=>r.2.2).length:=cu.len _ _ Yp
 revert hpl
 exact zq.1):aD:=h ⟨q⟩
def uQ{R}:∀{ns:List Nat} {xs:List Ex},cu R ns xs->∀{i m:Nat},ns[i]? =some m->∃y,xs[i]? =some y/\R m y
 | [],[],_,i,m,h=>by simp at h
 |n::ns,x::xs,h,0,m,e=>by
  simp only [List.getElem?_cons_zero,aR] at e;subst e;exact ⟨x,rfl,h.1⟩
 |n::ns,x::xs,h,i+1,m,e=>by
  simp only [List.getElem?_cons_succ] at e ⊢;exact uQ h.2 e
 | [],_::_,h,_,_,_=>h.elim
 |_::_,[],h,_,_,_=>h.elim
def CV(pl):∀(f n:Nat)(x:Ex),Tr pl f n x->0<(aN x).length
 |0,_,_,h=>h.elim
 |f+1,n,x,⟨p,hp,h⟩=>by
  rcases h with ⟨_,_,rfl⟩|⟨_,_,_,rfl⟩|⟨_,_,_,rfl⟩|⟨_,_,C,ns,D,rs,_,A,_,_,_,rfl⟩|⟨_,_,_,C,ns,D,rs,_,A,_,_,_,rfl⟩
  ·simp [aN]
  ·simp [aN]
  ·simp [aN]
  ·have:=CV pl f _ _ A;rw [dH,bf];omega
  have:=CV pl f _ _ A;rw [dH,bf];omega
def xW:∀(A:List Ex),(∀y∈A,0<(aN y).length)->A.length<=(A.flatMap aN).length
 | [],_=>ar
 |y::A,h=>by
  have:=xW A (fun z C=>h z (eY _ C));have:=h y eu;exact BU
def UU{α:Type}(f:α->Bool)(l:List α)(i:Nat):Bool:=match l[i]? with
 |some y=>f y
 |none=>false
def iE{f:α->Bool}{l:List α}{y:α}(h:l[i]? =some y):UU f l i=f y:=by unfold UU;rw [h]
def NH(f:α->Bool):∀(l:List α),mQ l.length (UU f l)=l.any f:=fun l=>by
 rw [gW,om,dg]
 constructor
 ·rintro ⟨i,hi,h⟩;rw [iE (aI hi)] at h;exact ⟨_,br hi,h⟩
 rintro ⟨y,A,h⟩;obtain ⟨i,hi,rfl⟩:=dB A;exact ⟨i,hi,by rw [iE (aI hi)];exact h⟩
def AA:minus ⟨[],0,false⟩=false:=by
 unfold minus;rw [aT]
 rfl
section
variable (g:GP)(K:Nat->Nat->Bool)(r k:Nat)(X:RV)(q:ae×ae)
def AB(R:g.rl[r]? =some X)(Q:g.th[k]? =some q)(ag:∀s∈g.ss,TK g (tt s))(ah:∀s∈g.ss,ThK g (tt s)):∀(f n:Nat)(x:Ex),Tr g.pl f n x->(aN x).length<=1000->(∀e∈aN x,e.nd.kind=1->∃j:Nat,bh X.kd e.nd.n1 g.rl 0=j/\j<g.rl.length)->TM g K r k n (lC g K X k q.2 x)
 |0,_,_,h,_,_=>h.elim
 |f+1,n,x,⟨p,hp,h⟩,hl,ho=>by
  have aj:=AB R Q ag ah f
  rcases h with ⟨h1,_,rfl⟩|⟨h1,_,_,rfl⟩|⟨h1,_,_,rfl⟩|⟨h1,_,an,ns,x0,rs,U,V,Y,J,⟨af,ap⟩,rfl⟩|⟨h1,_,_,an,ns,x0,rs,U,V,Y,J,af,rfl⟩
  ·exact NF g K r k n X q p hp h1 R Q ag
  ·obtain ⟨j,ai,am⟩:=ho ⟨⟨1,p.pa,p.nr,p.pa,em,0,[]⟩,none,none⟩ (aX.2 rfl) rfl;have:=TP g K r k n j X p hp h1 R (bD.1 Q).1 ai am;have e:lC g K X k q.2 ⟨⟨1,p.pa,p.nr,p.pa,em,0,[]⟩,none,none⟩=K j k:=by
    show K (bh X.kd p.nr g.rl 0).toNat k=K j k
    rw [show bh X.kd p.nr g.rl 0=j from ai]
    rfl
   rw [e];exact this
  ·exact TN g K r k n X q p hp h1 R Q ah
  ·have Yp:cu (Tr g.pl f) p.ps (x0::rs.map fun r=>r.2.2):=by rw [U];exact ⟨V,Y⟩
   have ad:∀y∈x0::rs.map (fun r=>r.2.2),∀e∈aN y,e∈aN (cb x0 rs):=fun y hy e he=>by
    exact Ji
   have Z:∀y∈x0::rs.map (fun r=>r.2.2),(aN y).length<=(aN (cb x0 rs)).length:=fun y hy=>by
    exact TQ
   refine Jj ?_;intro hpl;have ac:p.ps.length<=1000:=by
    exact Yo
   have ak:p.sg=((x0,(⟨[],0,false⟩:Tk))::rs.map fun r=>(r.2.2,(⟨bB r.1,r.2.1,false⟩:Tk))).map Prod.snd:=by rw [J];simp
   have al:(x0::rs.map fun r=>r.2.2)=((x0,(⟨[],0,false⟩:Tk))::rs.map fun r=>(r.2.2,(⟨bB r.1,r.2.1,false⟩:Tk))).map Prod.fst:=ar;have:=Jh g K r k n p (UU (lC g K X k q.2) (x0::rs.map fun r=>r.2.2)) (UU minus p.sg) hp h1 ac (by rw [hpl,J];simp) (fun i t D=>(iE D).symm) (fun i m ab=>by
    obtain ⟨y,hy,D⟩:=uQ Yp ab;rw [iE hy];have I:=bF hy;exact aj m y D (aV (Z y I) hl) (fun e he=>ho e (ad y I e he)))
   have e:(!mQ p.ps.length (fun i=>UU (lC g K X k q.2) (x0::rs.map fun r=>r.2.2) i==UU minus p.sg i))=lC g K X k q.2 (cb x0 rs):=by
    rw [FY g K X k q.2 rs x0 af];have ae:∀(L:List (Ex×Tk)),mQ L.length (fun i=>UU (lC g K X k q.2) (L.map Prod.fst) i==UU minus (L.map Prod.snd) i)=L.any (fun z=>lC g K X k q.2 z.1==minus z.2):=fun L=>by
     rw [gW,om,dg]
     constructor
     ·rintro ⟨i,hi,h⟩;rw [iE (y:=L[i].1) WP,iE (y:=L[i].2) WP] at h;exact ⟨_,br hi,h⟩
     rintro ⟨z,ae,h⟩;obtain ⟨i,hi,rfl⟩:=dB ae;exact ⟨i,hi,by rw [iE (y:=L[i].1) WP,iE (y:=L[i].2) WP];exact h⟩
    rw [hpl,ak,al,bN,ae];simp only [List.any_cons,qa,AA];rw [Bool.not_or,List.not_any_eq_all_not]
    congr 1
    ·cases lC g K X k q.2 x0<;>rfl
   rw [e] at this;exact this
  have Yp:cu (Tr g.pl f) p.ps (x0::rs.map fun r=>r.2.2):=by rw [U];exact ⟨V,Y⟩
  have ad:∀y∈x0::rs.map (fun r=>r.2.2),∀e∈aN y,e∈aN (cb x0 rs):=fun y hy e he=>by
   exact Ji
  have Z:∀y∈x0::rs.map (fun r=>r.2.2),(aN y).length<=(aN (cb x0 rs)).length:=fun y hy=>by
   exact TQ
  refine Jj ?_;intro hpl;have ac:p.ps.length<=1000:=by
   exact Yo
  have:=NG g K r k n p (UU (lC g K X k q.2) (x0::rs.map fun r=>r.2.2)) hp h1 ac (fun i m ab=>by
   obtain ⟨y,hy,D⟩:=uQ Yp ab;rw [iE hy];have I:=bF hy;exact aj m y D (aV (Z y I) hl) (fun e he=>ho e (ad y I e he)))
  rw [hpl,NH] at this;rw [Lk g K X k q.2 rs x0 J];rw [kj,qa] at this;exact this
end
def TS (h:aD:=by
 go_wp2_with fail;exact ⟨⟨r+1,K2,FZ,ai,by go_num,rfl,UV,X3,HW2,JO⟩,by simp [intOf];omega⟩):aD:=h
def prs(g:GP):List (Nat×Nat):=(List.range g.rl.length).flatMap fun r=>(List.range g.th.length).map fun k=>(r,k)
def CW(g:GP)(K:Nat->Nat->Bool):Nat:=(prs g).countP fun p=> !K p.1 p.2
def WQ{g r}(A:r<g.rl.length)(h:k<g.th.length):(r,k)∈prs g:=bZ.2 ⟨r,List.mem_range.2 A,aU.2 ⟨k,List.mem_range.2 h,rfl⟩⟩
def Z1{g K r}(D:r<g.rl.length)(C:k<g.th.length)(h:K r k=false):CW g (CQ K r k)<CW g K:=by
 refine te (fun p A=> ?_) _ (r,k) (WQ D C) EP (by simp [CQ]);unfold CQ at A
 split at A
 ·cases A
 exact A
def Ll{K r}(h:K a b=true):CQ K r k a b=true:=by
 unfold CQ
 split
 ·rfl
 exact h
def Z2(g:GP)(lv:List Nat)(bd:Nat->Ex)(n:Nat)(K:Nat->Nat->Bool):Prop:=∀r k X q,g.rl[r]? =some X->g.th[k]? =some q->lv[r]? =some n->q.1=X.kd->lC g K X k q.2 (bd r)=true->K r k=true
def StD(g:GP)(lv:List Nat)(bd:Nat->Ex)(n:Nat)(h:(Nat->Nat->Bool)->Prop):Prop:=∀K r k X q,h K->g.rl[r]? =some X->g.th[k]? =some q->lv[r]? =some n->q.1=X.kd->lC g K X k q.2 (bd r)=true->h (CQ K r k)
structure NI(g:GP)(lv:List Nat)(bd:Nat->Ex)(n:Nat)(J:(Nat->Nat->Bool)->Prop)(K K':Nat->Nat->Bool)(more:Bool)(r0 k0:Nat):Prop where
 j:J K'
 le:∀r k,K r k=true->K' r k=true
 no:more=false->K'=K/\∀r k X q,(r<r0\/(r=r0/\k<k0))->g.rl[r]? =some X->g.th[k]? =some q->lv[r]? =some n->q.1=X.kd->lC g K X k q.2 (bd r)=true->K r k=true
 yes:more=true->CW g K'<CW g K
def TU(g:GP)(lv:List Nat)(bd:Nat->Ex)(n:Nat)(A:(Nat->Nat->Bool)->Prop)(K:Nat->Nat->Bool)(w:af)(e:Ending)(w':af):Prop:=∃h more,e=bi (.bool more)/\GI w' g h/\A h/\bK (fun k=>k∈g.bs) w w'/\(∀r k,K r k=true->h r k=true)/\(more=false->h=K/\Z2 g lv bd n K)/\(more=true->CW g h<CW g K)
def NI.skip{g lv bd}{Q:(Nat->Nat->Bool)->Prop}{K K' r}(h:NI g lv bd n Q K K' more r k)(hs:more=false->∀X q,g.rl[r]? =some X->g.th[k]? =some q->lv[r]? =some n->q.1=X.kd->lC g K X k q.2 (bd r)=true->K r k=true):NI g lv bd n Q K K' more r (k+1):=
 ⟨h.j,h.le,fun A=>⟨(h.no A).1,fun a b X q D C J hl I hv=>by
  rcases D with D|⟨rfl,R⟩
  ·exact (h.no A).2 a b X q (.inl D) C J hl I hv
  by_cases e:b=k
  ·subst e;exact hs A X q C J hl I hv
  exact (h.no A).2 a b X q (.inr ⟨rfl,ai⟩) C J hl I hv⟩,h.yes⟩
def NI.row{g lv bd}{I:(Nat->Nat->Bool)->Prop}{K K' r}(h:NI g lv bd n I K K' more r k)(hs:∀U X q,k<=U->g.rl[r]? =some X->g.th[U]? =some q->lv[r]? =some n->False):NI g lv bd n I K K' more (r+1) 0:=
 ⟨h.j,h.le,fun C=>⟨(h.no C).1,fun a b X q J A D hl R hv=>by
  rcases J with J|⟨_,Q⟩
  ·by_cases e:a=r
   ·subst e
    by_cases Q:b<k
    ·exact (h.no C).2 a b X q (.inr ⟨rfl,Q⟩) A D hl R hv
    exact (hs b X q ai A D hl).elim
   exact (h.no C).2 a b X q (.inl ai) A D hl R hv
  omega⟩,h.yes⟩
def NI.up{g lv bd n}{D:(Nat->Nat->Bool)->Prop}{K K' more r k}(h:NI g lv bd n D K K' more r k)(Q:StD g lv bd n D){X}{C:ae×ae}(I:g.rl[r]? =some X)(J:g.th[k]? =some C)(Y:lv[r]? =some n)(U:C.1=X.kd)(Z:lC g K' X k C.2 (bd r)=true)(V:K' r k=false):NI g lv bd n D K (CQ K' r k) true r (k+1):=
 ⟨Q K' r k X C h.j I J Y U Z,fun a b R=>Ll (h.le a b R),fun A=>Bool.noConfusion A,fun _=>by
  have h1:=Z1 (g:=g) (bD.1 I).1 (bD.1 J).1 V
  cases A:more
  ·rw [(h.no A).1] at h1 ⊢;exact h1
  exact Nat.lt_trans h1 (h.yes A)⟩
def F0(g:GP)(K:Nat->Nat->Bool)(bS:ag)(lv:List Nat)(C:Nat->Ex)(n:Nat)(Q:(Nat->Nat->Bool)->Prop)(w:af)(h:GI w g K)(a4:w.ownsRow 0 3 1 bS lv.length (lv.map fun n:Nat=>au n))(bJ:lv.length=g.rl.length)(bC:∀R r k X q,g.rl[r]? =some X->g.th[k]? =some q->TM g R r k X.ex (lC g R X k q.2 (C r)))(bB:StD g lv C n Q)(h0:Q K):
  Calls prog 199 #[bu g.b,bS,au n] w (TU g lv C n Q K w):=by
 obtain ⟨bP,bQ,rfl⟩:=aw a4;have bY:=aj bC;have bU:=aj bB;have bv:=aj a4;have bo:=aj h;have bV:=aj h0;have cj:=h.few;have co:=h.dm.rn;have bW:=aj bJ;clear h a4 bC bB h0 bJ;go_enter func199,ntmps199;go_wp2_with fail
 go_loopw [7,8] (fun bh ur wr=>∃(r:Nat)(R:Nat->Nat->Bool)(more:Bool),r<=lv.length/\ur=au r/\bh=.bool more/\GI wr g R/\bK (fun k=>k∈g.bs) w wr/\wr.ownsRow 0 3 1 (aA bP lv.length bQ) lv.length (lv.map fun n:Nat=>au n)/\Hid (NI g lv C n Q K R more r 0)) (fun _ ur _=>lv.length-(intOf ur).toNat)
 ·exact ⟨0,K,false,ai,rfl,rfl,bo,bK.refl _ _,bv,aj ⟨bV,fun _ _ h=>h,fun _=>⟨rfl,fun r k X q b8=>ai⟩,fun h=>by cases h⟩⟩
 ·obtain ⟨r,K1,more,b8,rfl,rfl,V,ah,ac,U⟩:=hrel;have aV:=aj V;have aT:=aj ah;have bw:=aj ac;clear V ah ac bo bv
  by_cases bL:r<lv.length
  ·have bM:r<g.rl.length:=by rw [<-bW];exact bL
   have b9:(r:Int)<(lv.length:Int):=ai;have cm:(r:Int)<(g.rl.length:Int):=ai;obtain ⟨X,aJ⟩:∃X,g.rl[r]? =some X:=⟨_,aI bM⟩;obtain ⟨v,hv⟩:∃v,lv[r]? =some v:=⟨_,aI bL⟩;have Z:=aj aJ;have aZ:=aj hv;clear aJ hv;go_wp2_with fail
   go_loopw [7,9] (fun bh bg wr=>∃(k:Nat)(R:Nat->Nat->Bool)(more:Bool),k<=g.th.length/\bg=au k/\bh=.bool more/\GI wr g R/\bK (fun k=>k∈g.bs) w wr/\wr.ownsRow 0 3 1 (aA bP lv.length bQ) lv.length (lv.map fun n:Nat=>au n)/\Hid (NI g lv C n Q K R more r k)) (fun _ bg _=>g.th.length-(intOf bg).toNat)
   ·exact ⟨0,K1,more,ai,rfl,rfl,aV,aT,bw,U⟩
   obtain ⟨k,K2,FZ,ck,rfl,rfl,V,ah,ac,A⟩:=hrel;obtain ⟨aG,b1,bA,a1,aH⟩:=V.five;obtain ⟨ga,gc,bG⟩:=aw V.th;rw [bG] at a1;obtain ⟨ct,cr,e1,cd⟩:=aY ac r (au v) (by rw [et,aZ];rfl);simp only [aK,bX] at e1;obtain ⟨rfl,rfl⟩:=e1;have UV:=aj V;have X3:=aj ah;have HW2:=aj ac;clear V ah ac aV aT bw U
   by_cases a3:k<g.th.length
   ·have b6:(k:Int)<(g.th.length:Int):=by omega
    by_cases a8:v=n
    ·subst a8;obtain ⟨P,a2⟩:∃P,g.th[k]? =some P:=⟨_,aI a3⟩;obtain ⟨ad,b3⟩:∃z,z=wr:=⟨_,rfl⟩;subst b3;obtain ⟨D,aO⟩:∃D,g.bs[r]? =some D:=⟨_,aI (by rw [UV.bl];exact bM)⟩;obtain ⟨cA,cy,a9,bT⟩:=aY UV.yr r (aA (some (aP D)) g.th.length g.th.length) (by rw [et,aO];rfl);have aS:=(UV.yb r D aO).cell a3;rw [a9] at aH;obtain ⟨cf,tc,a7,bN⟩:=bn N8 2 (fun _=>rfl) UV.th k P a2;have t0:ad.cell? (aC cf (k*2))=some (an P.1):=bN 0 _ ai rfl;rw [bG] at a7;simp only [aK,bX] at a7;obtain ⟨rfl,rfl⟩:=a7;obtain ⟨cu,rc,a5,bb,bc,bf,r3⟩:=UV.dm.rat r X Z;have ap:=UV.dm.c6;rw [a5] at ap;have bj:ad.cell? (aP g.y)=some (.pointer (some (aC g.bm 5))):=UV.du.blk.cell rfl;have aF:=aj (az ad.heap.size ad);have ay:=aj a2;have Y:=aj aO;generalize bI:K2 r k=al at aS;have bt:=aj bI;clear bN a2 aO bI bc bf
     go_upto_region 8 with fail
     go_cut [68] (fun s ci=>s=.bool (al|| !eqs P.1 X.kd)/\am ad ci)
     ·cases al
      ·cases h1:eqs P.1 X.kd
       ·have b2:(P.1.toList==X.kd.toList)=false:=by rw [<-aQ];exact h1
        go_quiet (fail)
        go_wp2
        go_meet
        case rel=>exact ⟨by simp [h1],cJ aF _⟩
       have b2:(P.1.toList==X.kd.toList)=true:=by rw [<-aQ];exact h1
       go_quiet (fail)
       go_wp2
       go_meet
       case rel=>exact ⟨by simp [h1],cJ aF _⟩
      go_quiet (fail)
      go_wp2
      go_meet
      case rel=>exact ⟨ar,cJ aF _⟩
     obtain ⟨rfl,aN⟩:=hcut;clear aG b1 bA a1 aH cd bT aS t0 bb r3 ap bj;have J:=aj (UV.below aN);have aU:=aj (X3.trans (bK.of_below aN));have a0:=aj (aB HW2 aN);clear aN UV X3 HW2 aF
     cases hs:(al|| !eqs P.1 X.kd)
     ·have bH:K2 r k=false:=by
       rw [bt]
       cases al
       ·rfl
       simp at hs
      have bE:P.1=X.kd:=by
       rw [<-bz]
       cases al
       ·simpa using hs
       simp at hs
      have bk:=aj (bY K2 r k X P Z ay wc J);obtain ⟨cw,cx,a6,bb,bc,bf,r3⟩:=J.dm.rat r X Z;rw [a5] at a6;simp only [aK,aR,cg,fZ,bX] at a6;obtain ⟨rfl,rfl⟩:=a6;have ap:=J.dm.c6;rw [a5] at ap;have bj:wc.cell? (aP g.y)=some (.pointer (some (aC g.bm 5))):=J.du.blk.cell rfl;have aG:=J.five.1;have aW:=aj (show lC g K2 X k P.2 (C r)=false->NI g lv C v Q K K2 FZ r (k+1) from fun e=>A.skip (fun ab bZ ce ae ak _ _ bO=>by
       rw [Z] at ae;rw [ay] at ak
       cases ae
       cases ak
       rw [<-(A.no ab).1,e] at bO
       cases bO))
      have aX:=aj (fun e=>A.up bU Z ay aZ bE e bH:lC g K2 X k P.2 (C r)=true->NI g lv C v Q K (CQ K2 r k) true r (k+1));generalize lC g K2 X k P.2 (C r)=b0 at*;clear bb bc bf hs bE bH;go_wp2_with fail;refine bk.mono ?_;rintro e ch ⟨rfl,aM⟩;have I:=aj (J.below aM);have av:=aj (aU.trans (bK.of_below aM));have aE:=aj (aB a0 aM);clear aM J aU a0 bk ap bj aG r3
      cases b0
      ·have JO:=aj (aW rfl);clear aW aX A;go_wp2_with fail;go_roundw
       ·first|exact ⟨k+1,K2,FZ,ai,by go_num,rfl,I,av,aE,JO⟩|((repeat apply Exists.intro);exact ⟨⟨k+1,K2,FZ,ai,by go_num,rfl,I,av,aE,JO⟩,rfl⟩)
       simp [intOf];omega
      have JO:=aj (aX rfl);obtain ⟨aG,b1,bA,a1,aH⟩:=I.five;rw [a9] at aH;obtain ⟨cB,cz,ba,bT⟩:=aY I.yr r (aA (some (aP D)) g.th.length g.th.length) (by rw [et,Y];rfl);rw [a9] at ba;simp only [aK,aR,cg,fZ,bX] at ba;obtain ⟨rfl,rfl⟩:=ba;have aS:=(I.yb r D Y).cell a3;generalize K2 r k=cq at aS;have fz:=(I.yb r D Y).fz;have br:=aj (I.set (k:=k) Y);have bp:=aj (av.set (a:=⟨D,k,none⟩) (bF Y) (.bool true));have bx:=aj (mR aE (I.yb r D Y:aL ch D _ 4) ax k (.bool true));clear aW aX A I av aE;go_wp2_with fail;go_roundw
      ·first|exact ⟨k+1,CQ K2 r k,true,ai,by go_num,rfl,br,bp,bx,JO⟩|((repeat apply Exists.intro);exact ⟨⟨k+1,CQ K2 r k,true,ai,by go_num,rfl,br,bp,bx,JO⟩,rfl⟩)
      simp [intOf];omega
     have JO:=aj (A.skip (fun ab bZ ce ae ak _ b5 _=>by
      rw [Z] at ae;rw [ay] at ak
      cases ae
      cases ak
      rw [<-(A.no ab).1,bt];rw [(bz _ _).2 b5] at hs
      simpa using hs))
     clear A hs;go_wp2_with fail;exact ⟨⟨k+1,K2,FZ,ai,by go_num,rfl,J,aU,a0,JO⟩,by simp [intOf];omega⟩
    have cp:((v:Int)==(n:Int))=false:=by rw [bR];omega
    have JO:=aj (A.row (fun cb X q _ _ _ e=>by rw [aZ] at e;exact a8 (gM e)));clear A a8;exact TS
   have b6:¬((k:Int)<(g.th.length:Int)):=ai;have JO:=aj (A.row (fun cb X q cl _ e _=>by have:=(bD.1 e).1;omega));clear A;exact TS
  obtain rfl:r=lv.length:=ai;have b9:¬((lv.length:Int)<(lv.length:Int)):=ai;go_wp2;go_ret;exact (aj (⟨K1,more,rfl,aV,U.j,aT,U.le,fun ab=>⟨(U.no ab).1,fun r k X q aJ b7 hl b4 hv=>(U.no ab).2 r k X q (.inl (bD.1 hl).1) aJ b7 hl b4 hv⟩,U.yes⟩:TU g lv C n Q K w (bi (.bool more)) wr))
def Yq (h:aD:=by
 rw [hkl] at CT;unfold minus at hmi;clear hcs hkf hkl ht h4;exact TV):aD:=h
def TV (h:aD:=by
 go_wp2_with fail;refine (CT _ bo).mono ?_;rintro e w1 ⟨rfl,C⟩;have A:=hb.trans (C.mono hb.size);clear C CT x0 x6 x7 hc;go_wp2_with fail;go_roundw
 ·first|exact ⟨j+1,ai,by go_num,by rw [HMX];first|done|(congr 1;omega),A⟩|((repeat apply Exists.intro);exact ⟨⟨j+1,ai,by go_num,by rw [HMX];first|done|(congr 1;omega),A⟩,rfl⟩)
 simp [intOf];omega):aD:=h
def AC(l:List Nat):Nat:=l.foldl max 0
def rK:Nat->(Nat->Nat)->Nat
 |0,_=>0
 |k+1,f=>max (rK k f) (f k)
def AD(l):∀a,l.foldl max a=max a (AC l):=by
 unfold AC
 induction l with
 |nil=>intro a;simp
 |cons x l ih=>
  intro a;rw [nT,nT,ih,ih (max 0 x)];omega
def WR(a b):AC (a++b)=max (AC a) (AC b):=by
 unfold AC;rw [List.foldl_append,AD]
 rfl
def Z3{l}:AC l<=b↔∀x∈l,x<=b:=by
 induction l with
 |nil=>simp [AC]
 |cons x l ih=>
  have:AC (x::l)=max x (AC l):=by
   unfold AC;rw [nT,AD];unfold AC;omega
  rw [this];simp only [cG,forall_eq_or_imp];rw [<-ih];omega
def TW:∀(l:List Nat)(f:Nat->Nat),(∀i (h:i<l.length),f i=l[i])->rK l.length f=AC l:=by
 intro l f h;have key:∀k,k<=l.length->rK k f=AC (l.take k):=by
  intro k
  induction k with
  |zero=>intro _;simp [rK,AC]
  |succ k ih=>
   intro A;rw [rK,ih ai,cD ai,WR,h k ai];have:AC [l[k]]=l[k]:=by simp [AC]
   rw [this]
 rw [key _ aH,kr]
def UW(bm:Nat)(kv rv pv:ag)(kl:List (ae×Nat))(rl:List RV)(pl:List PV)(l:List PX)(uC:ag)(lv:List Nat)(i n less R:Nat):Prop:=∀w,DM w bm kv rv pv kl rl pl l->w.ownsRow 0 3 1 uC lv.length (lv.map fun n:Nat=>au n)->Calls prog 233 #[.pointer (some (aC bm 5)),uC,au i,au n,au less] w fun e w'=>e=bi (au R)/\am w w'
section
variable (bm:Nat)(kv rv pv:ag)(kl:List (ae×Nat))(rl:List RV)(pl:List PV)(l:List PX)(uC:ag)(lv:List Nat)
def F1(i n less:Nat)(p:PV)(D:Nat->Nat)(I:Nat->Nat)(ab:pl[n]? =some p)(aJ:p.kind=4\/p.kind=5)(aU:p.ps.length<=1000)(aX:0<p.ps.length)(aO:p.kind=4->p.sg.length=p.ps.length)(hs:∀j,I j=if p.kind=4/\(∃t,p.sg[j]? =some t/\minus t=true) then 1 else less)(aQ:∀j m,p.ps[j]? =some m->UW bm kv rv pv kl rl pl l uC lv i m (I j) (D j))(ad:∀j,D j<=100000)(aV:less<=1):UW bm kv rv pv kl rl pl l uC lv i n less (rK p.ps.length D):=fun w h Q=>by
 obtain ⟨bi,bg,ga,gc,pa,pc,sa,sc,aN,U,e0,e1,J,ap,ar,av,ax,ay⟩:=h.pat n p ab;have aZ:(n:Int)<(pl.length:Int):=by have:=(bD.1 ab).1;omega
 have ae:=h.c7;rw [aN] at ae;obtain ⟨bc,bf,rfl⟩:=aw Q;refine CS ?_;intro b0;refine qe ?_;intro HP;have ah:=h.below b0;have aj:=aB Q b0;have ak:=aB U.p b0;have al:=aB U.s b0;have aM:∀k,rK k D<=100000:=by
  intro k
  induction k with
  |zero=>simp [rK]
  |succ k ih=>rw [rK];have:=ad k;omega
 generalize aF:rK p.ps.length D=R;clear h U Q;go_enter func233,ntmps233
 go_upto_region 2 with fail
 clear e0 e1 J ap ar av ax ay ae;generalize w.alloc (dX p.kind ga p.gs.length gc p.nb p.nr p.pa p.pr pa p.ps.length pc sa p.sg.length sc)=W at*;go_wp2_with fail
 go_loopw [12,13] (fun aS u wr=>∃j:Nat,j<=p.ps.length/\u=au j/\aS=au (rK j D)/\am W wr) (fun _ u _=>p.ps.length-(intOf u).toNat)
 ·exact ⟨0,ai,rfl,rfl,az _ _⟩
 obtain ⟨j,aT,rfl,rfl,hb⟩:=hrel;have x0:wr.cell? (aP w.heap.size)=some (au p.kind):=(HP.below hb).cell rfl;refine TO ?_;intro x6 x7;have ag:=b0.trans (hb.mono b0.size);have aW:=aM j
 by_cases hlt:j<p.ps.length
 ·have aG:(j:Int)<(p.ps.length:Int):=by omega
  obtain ⟨bj,bh,e1,hc⟩:=aY (aB ak hb) j (au (p.ps[j]:Nat)) WO;simp only [aK,bX] at e1;obtain ⟨rfl,rfl⟩:=e1;have CT:=fun (w':af) (Y:am wr w')=>aQ j _ (aI hlt) w' (ah.below (hb.trans (Y.mono hb.size))) (aB aj (hb.trans (Y.mono hb.size)))
  have hkf:=hs j;have bb:=ad j;have HMX:=show rK (j+1) D=max (rK j D) (D j) from rfl
  generalize p.ps[j]=m at*;generalize D j=v at*;generalize rK j D=o at*
  rcases aE aJ with h4|V
  ·obtain ⟨t,ht⟩:∃t,p.sg[j]? =some t:=⟨_,aI (by rw [aO h4];exact hlt)⟩;obtain ⟨bl,bk,J,hcs⟩:=bn fI 3 (fun _=>rfl) (aB al hb) j t ht;simp only [aK,bX] at J;obtain ⟨rfl,rfl⟩:=J;have aR:=hcs 0 _ ai rfl;rw [oo] at aR;have ba:(j:Int)<(p.sg.length:Int):=by have:=(bD.1 ht).1;omega
   rw [h4] at x0
   cases hmi:minus t
   ·have hkl:I j=less:=by
     rw [hkf,if_neg];rintro ⟨_,bp,ac,Z⟩;rw [ht] at ac
     cases ac
     rw [hmi] at Z
     cases Z
    exact Yq
   have hkl:I j=1:=by rw [hkf,if_pos ⟨h4,t,ht,hmi⟩]
   exact Yq
  have hkl:I j=less:=by rw [hkf,if_neg (fun e=>by have:=e.1;omega)]
  rw [hkl] at CT;rw [V] at x0;clear hkf hkl V;exact TV
 obtain rfl:j=p.ps.length:=ai;have aG:¬((p.ps.length:Int)<(p.ps.length:Int)):=ai;have hF:R=rK p.ps.length D:=aF.symm;subst hF;clear hb;go_wp2;go_ret;exact ⟨rfl,ag⟩
def Jk(i n less:Nat)(X:RV)(p:PV)(nd:List Nat)(av:pl[n]? =some p)(ag:rl[i]? =some X)(ap:p.ps=[])(bz:nd.length<=2000000)(I:∀d∈nd,d<lv.length)(ar:∀x∈lv,x<=10000)(bw:less<=1)(ba:∀w,DM w bm kv rv pv kl rl pl l->Calls prog 231 #[.pointer (some (aC bm 5)),an X.kd,au n,au X.ex] w fun e w'=>∃sv,e=bi sv/\am w w'/\w'.ownsRow w.heap.size 3 1 sv nd.length (nd.map fun n:Nat=>au n)):UW bm kv rv pv kl rl pl l uC lv i n less (AC (nd.map fun d=>lv.getD d 0+less)):=fun w h V=>by
 obtain ⟨bL,bK,ga,gc,pa,pc,sa,sc,bh,bk,e0,e1,D,aU,aV,aW,aX,aZ⟩:=h.pat n p av;have bA:(n:Int)<(pl.length:Int):=by have:=(bD.1 av).1;omega
 have aE:=h.c7;rw [bh] at aE;obtain ⟨bG,bH,rfl⟩:=aw V;refine CS ?_;intro b0;refine qe ?_;intro aR;have U:=h.below b0;have aO:=aB V b0;have aM:=I;have C:p.ps.length=0:=by rw [ap];rfl
 have ay:∀d,lv.getD d 0+less<=10001:=fun d=>by
  rw [eA]
  cases bj:lv[d]? with
  |none=>simp;omega
  |some x=>have:=ar x (bF bj);simp;omega
 have bf:∀k,rK k (fun j=>(nd.map fun d=>lv.getD d 0+less).getD j 0)<=10001:=by
  intro k
  induction k with
  |zero=>simp [rK]
  |succ k ih=>
   rw [rK];have:(nd.map fun d=>lv.getD d 0+less).getD k 0<=10001:=by
    rw [eA,et]
    cases nd[k]? with
    |none=>simp
    |some d=>exact ay d
   omega
 have aT:=aj (show rK nd.length (fun j=>(nd.map fun d=>lv.getD d 0+less).getD j 0)=AC (nd.map fun d=>lv.getD d 0+less) from by
  have:=TW (nd.map fun d=>lv.getD d 0+less) (fun j=>(nd.map fun d=>lv.getD d 0+less).getD j 0) (fun j al=>by rw [eA,aI al];rfl);rw [bN] at this;exact this)
 generalize AC (nd.map fun d=>lv.getD d 0+less)=R at*;have aS:=aj C;clear h bk V I ay ap C;go_enter func233,ntmps233
 go_upto_region 2 with fail
 clear e0 e1 D aU aV aW aX aZ aE;generalize w.alloc (dX p.kind ga p.gs.length gc p.nb p.nr p.pa p.pr pa p.ps.length pc sa p.sg.length sc)=W at*;go_wp2_with fail
 go_loopw [12,13] (fun ac u wr=>u=au 0/\ac=au 0/\wr=W) (fun _ u _=>0)
 ·exact ⟨rfl,rfl,rfl⟩
 obtain ⟨rfl,rfl,Y⟩:=hrel;subst Y;have aG:wr.cell? (aC w.heap.size 6)=some (aA pa p.ps.length pc):=aR.cell rfl;have C:=aS.u;have bg:¬((0:Int)<(p.ps.length:Int)):=ai;rw [C] at aG bg;obtain ⟨ab,rc,bl,aF,bn,bo,r3⟩:=U.rat i X ag;have Z:=U.c6;rw [bl] at Z;have bB:(i:Int)<(rl.length:Int):=by have:=(bD.1 ag).1;omega
 clear C bn bo
 go_upto_region 12 with fail
 have ad:=fun (w':af) (bb:am wr w')=>ba w' (U.below bb)
 have Q:=az wr.heap.size wr;clear aG
 go_region_held3 (fun w'=>w'.cell? (aC bm 6)=some (aA (some (aP ab)) rl.length rc)/\w'.cell? (aC ab (i*4))=some (an X.kd)/\w'.cell? (aC ab (i*4+3))=some (au X.ex)) (go_keep)
  ((go_at_call 231;refine (ad _ ((cq Q):am wr _)).mono ?_;rintro e w5 ⟨sv,rfl,ah,ax⟩;have A:=(ll (a:=wr) (B:=wr.heap.size) ((cq Q):am wr _) (ah.mono xG));have ae:=ax;have d0:=ak Z A;have d1:=ak aF A;have d2:=ak r3 A;clear ah ax))
 obtain ⟨da,bs,rfl⟩:=aw ae;have aJ:=b0.trans (A.mono b0.size);have aN:=aB aO A;clear Z aF r3 d0 d1 d2 ad Q A;go_wp2_with fail
 go_loopw [12,16] (fun ac u bp=>∃j:Nat,j<=nd.length/\u=au j/\ac=au (rK j (fun j=>(nd.map fun d=>lv.getD d 0+less).getD j 0))/\bp=w5) (fun _ u _=>nd.length-(intOf u).toNat)
 ·exact ⟨0,ai,rfl,rfl,rfl⟩
 obtain ⟨j,al,rfl,rfl,Y⟩:=hrel;subst Y;have bx:=bf j
 by_cases hlt:j<nd.length
 ·have bc:(j:Int)<(nd.length:Int):=by omega
  obtain ⟨bu,bt,e1,d0⟩:=aY ae j (au (nd[j]:Nat)) WO;simp only [aK,bX] at e1;obtain ⟨rfl,rfl⟩:=e1;have I:=aM _ (br hlt);obtain ⟨x,J⟩:∃x,lv[nd[j]]? =some x:=⟨_,aI I⟩;obtain ⟨bJ,bI,D,bE⟩:=aY aN nd[j] (au (x:Nat)) (by rw [et,J];rfl);simp only [aK,bX] at D;obtain ⟨rfl,rfl⟩:=D;have bC:=ar x (bF J);have aQ:=aj (show rK (j+1) (fun j=>(nd.map fun d=>lv.getD d 0+less).getD j 0)=max (rK j (fun j=>(nd.map fun d=>lv.getD d 0+less).getD j 0)) (x+less) from by
   have e:(nd.map fun d=>lv.getD d 0+less).getD j 0=x+less:=by
    rw [eA,et,aI hlt];simp [J]
   rw [rK,e])
  have bv:((nd[j]:Nat):Int)<(lv.length:Int):=ai;generalize nd[j]=d at*;generalize rK j (fun j=>(nd.map fun d=>lv.getD d 0+less).getD j 0)=o at*;clear J;go_wp2_with fail;exact ⟨⟨j+1,ai,by go_num,by rw [aQ];first|done|(congr 1;omega),by first|rfl|trivial⟩,by simp [intOf];omega⟩
 obtain rfl:j=nd.length:=ai;have bc:¬((nd.length:Int)<(nd.length:Int)):=ai;have hF:=aT.u;rw [hF] at*;go_wp2;go_ret;exact ⟨rfl,aJ⟩
end
