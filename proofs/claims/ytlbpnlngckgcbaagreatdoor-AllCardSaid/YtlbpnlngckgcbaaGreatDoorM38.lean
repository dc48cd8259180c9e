import Derived.Test.YtlbpnlngckgcbaaGreatDoorM36
set_option linter.all false
set_option maxHeartbeats 4000000
set_option maxRecDepth 100000
namespace Go.Proofs.YtlbpnlngckgcbaaGreatDoor
open Go.RowKit Go.PlainAid Go.Proofs.Tryz
variable {aD br:Prop} {α:Type} {i j b k a base size n q:Nat} {x s kd id:ae} {r:Rl} {t:Ty} {ts:List Ty} {gs:List Tu} {w w':af} {mv v:ag} {cs:Array ag} {T T' e:TypeId} {xs:List ag} {X:RV} {more:Bool}
def SL (h:aD:=by
 obtain ⟨m,a,b,h1,h2⟩:=hx h;exact ⟨m,a,b,up _ (.inl h1),h2⟩):aD:=h
def oH{α:Type}:∀(l m:List α),l.Nodup->(∀x∈l,x∈m)->l.length<=m.length
 | [],m,_,_=>au
 |x::l,m,h,hs=>by
  rw [List.nodup_cons] at h;obtain ⟨a,b,rfl⟩:=rI (hs x ep);have:=oH l (a++b) h.2 (fun y A=>by
   have:=hs y (eY _ A);rw [aW,cG] at this;rw [aW]
   rcases this with h1|rfl|h1
   .exact .inl h1
   .exact absurd A h.1
   exact .inr h1)
  simp only [bg,List.length_cons] at this ⊢;omega
def ix(nd):∀(k:Nat)(q f:List Sp),f.Nodup->(eb nd k q f).Nodup
 |0,_,f,h=>h
 |k+1,[],f,h=>h
 |k+1,x::q,f,h=>by
  rw [eb]
  split
  .exact ix nd k q f h
  rename_i C;refine ix nd k _ _ ?_;rw [sm];refine ⟨h,au,fun a ha b A e=> ?_⟩;rw [aX] at A;subst A;subst e;exact C ((HS f a).2 ha)
def Ff(ts:List Ty)(s:Sp):Nat:=(cU ts [s]).length
def Ca{nd:α->List α}{S T:List α}(h:∀x∈S,BE nd T x){y:α}(k:BE nd S y):BE nd T y:=by
 induction k with
 |base hx=>exact h _ hx
 |step _ hy ih=>exact .step ih hy
section
variable {ts:List Ty}{x y:Sp}
def Zl(h:BE (bh ts) [x] y):Ff ts y<=Ff ts x:=
 oH _ _ (ix _ _ _ _ au) (fun z A=>by
  rw [fk] at A ⊢;exact Ca (fun a ha=>by rw [aX] at ha;subst ha;exact h) A)
def Zm(h:BE (bh ts) [x] y)(C:¬BE (bh ts) [y] x):Ff ts y<Ff ts x:=by
 have:=oH (x::cU ts [y]) (cU ts [x]) (by
  rw [List.nodup_cons];exact ⟨fun e=>C ((fk _ _ _).1 e),ix _ _ _ _ au⟩) (fun z A=>by
  rw [fk]
  rcases cG.1 A with rfl|A
  .exact .base au
  rw [fk] at A;exact Ca (fun a ha=>by rw [aX] at ha;subst ha;exact h) A)
 exact this
def Kv:0<Ff ts x:=by
 have:x∈cU ts [x]:=(fk _ _ _).2 (.base au);exact List.length_pos_of_mem this
end
def ye:Ex->List Ex
 |⟨n,some x,some y⟩=>if n.kind=3\/n.kind=4 then ye x++ye y else ye x++aO y
 |_=>[]
def Cb:∀(e p:Ex),p∈ye e->∃n x y,(⟨n,some x,some y⟩:Ex)∈aF e/\¬(n.kind=3\/n.kind=4)/\p∈aO y
 |⟨n,some x,some y⟩,p,h=>by
  have hx:=Cb x p;have D:=Cb y p;unfold ye at h;have up:∀q,q∈aF x\/q∈aF y->q∈aF ⟨n,some x,some y⟩:=fun q A=>by
   simp only [aF,aW,aX]
   rcases A with A|A
   .exact .inl (.inl A)
   exact .inr A
  split at h
  .rcases aW.1 h with h|h
   .exact SL
   obtain ⟨m,a,b,h1,h2⟩:=D h;exact ⟨m,a,b,up _ (.inr h1),h2⟩
  rename_i C
  rcases aW.1 h with h|h
  .exact SL
  exact ⟨n,x,y,by simp [aF],C,h⟩
 |⟨n,none,r⟩,p,h=>by simp [ye] at h
 |⟨n,some x,none⟩,p,h=>by simp [ye] at h
def sN:∀(e q p:Ex),q∈aF e->p∈aO q->p∈aO e
 |⟨n,some x,some y⟩,q,p,h,hp=>by
  simp only [aF,aW,aX] at h;simp only [aO,aW]
  rcases h with (h|rfl)|h
  .exact .inl (sN x q p h hp)
  .simpa [aO] using hp
  exact .inr (sN y q p h hp)
 |⟨n,none,r⟩,q,p,h,hp=>by
  simp only [aF,aX] at h;subst h;exact hp
 |⟨n,some x,none⟩,q,p,h,hp=>by simp [aF] at h
structure Zn(ts:List Ty):Prop where
 fnd:∀t∈ts,bX ts t.name=some t
 fnr:∀t∈ts,∀r∈t.rels,b9 t r.name=some r
 loops:∀t∈ts,∀r∈t.rels,jE ts t r=none
 less:∀t∈ts,∀r∈t.rels,∀p∈aF r.body,p.l.isSome=true->¬(p.nd.kind=3\/p.nd.kind=4)->fj p.nd.kind=246
section
variable {ts:List Ty}{t:Ty}{r:Rl}{e:Ex}{d:Sp}
def Zn.need(h:Zn ts)(A:t∈ts)(C:r∈t.rels):bh ts (t.name,r.name)=dw ts t r r.body:=by
 unfold bh;simp only [h.fnd t A,h.fnr t A r C]
def Zn.rkp(h:Zn ts)(I:t∈ts)(D:r∈t.rels)(C:e∈aO r.body)(A:d∈dU ts t r e):Ff ts d<=Ff ts (t.name,r.name):=
 Zl (.step (.base (aX.2 rfl)) (by rw [h.need I D,eN];exact ⟨e,C,A⟩))
def Zn.rkn(h:Zn ts)(I:t∈ts)(D:r∈t.rels)(R:e∈ye r.body)(J:d∈dU ts t r e):Ff ts d<Ff ts (t.name,r.name):=by
 obtain ⟨n,x,y,C,U,hl⟩:=Cb _ _ R;have V:e∈aO r.body:=sN _ _ _ C (by simp only [aO,aW];exact .inr hl);have A:lA ts t r ⟨n,some x,some y⟩=none:=(ko.1 (h.loops t I r D)) _ C;have Q:=h.less t I r D _ C rfl U;unfold lA at A;simp only at A Q;rw [if_pos Q] at A;have hn:¬ij ts (dw ts t r y) (t.name,r.name)=true:=fun e=>by
  rw [if_pos e] at A
  cases A
 rw [wA] at hn;refine Zm (.step (.base (aX.2 rfl)) (by rw [h.need I D,eN];exact ⟨e,V,J⟩)) (fun k=>hn ?_);exact Ca (fun a ha=>by rw [aX] at ha;subst ha;exact .base ((eN _ _ _ _ _).2 ⟨e,hl,J⟩)) k
end
def Ix (h:aD:=by
 simp at h;obtain ⟨rfl,rfl⟩:=h;exact ha):aD:=h
def Iy (h:aD:=by
 show (⟨#[]⟩:ae).size<=500;decide):aD:=h
def Ny:Ex->Prop
 |⟨n,some x,some y⟩=>(n.kind=3\/n.kind=4\/n.kind=5)/\Ny x/\Ny y
 |⟨n,none,_⟩=>(n.kind=0\/n.kind=1\/n.kind=2)/\n.n1.size<=8/\n.n2.size<=8
 |⟨_,some _,none⟩=>False
def XN(r:Nat->eJ Ex):Prop:=∀i x j,r i=.ok (x,j)->Ny x
def mG{T u}(h:di T i=.ok (u,j)):(T i).size<=8:=by
 unfold di at h
 split at h
 .split at h
  .cases h
  omega
 cases h
def V5(t p){x y}(A:Ny x)(C:Ny y):Ny (dE t p x y):=by
 refine ⟨?_,A,C⟩
 show kindOf t=3\/kindOf t=4\/kindOf t=5
 unfold kindOf;exact Oa
section
variable (T:Nat->ae)(P:Nat->Nat)
def SM:XN (j4 T P):=by
 intro i x j h;unfold j4 at h
 split at h
 .simp at h
 simp at h;obtain ⟨rfl,rfl⟩:=h;exact ⟨.inl rfl,by show em.size<=8;decide,by show em.size<=8;decide⟩
def MZ:XN (hY T P):=by
 intro i x j h;unfold hY at h
 split at h
 .simp at h
 rename_i h1
 split at h
 .split at h
  .simp at h
  rename_i h2;simp at h;obtain ⟨rfl,rfl⟩:=h;exact ⟨.inr (.inr rfl),mG h1,mG h2⟩
 simp at h;obtain ⟨rfl,rfl⟩:=h;exact ⟨.inr (.inl rfl),mG h1,by show em.size<=8;decide⟩
def Fg(D:Bool)(A:Nat->eJ Ex)(hi:XN A):XN (eQ T P D A):=by
 intro i x j h;unfold eQ at h
 split at h
 .exact SM T P _ _ _ h
 split at h
 .split at h
  .split at h
   .simp at h
   rename_i C;have:=hi _ _ _ C
   split at h<;>simp at h
   obtain ⟨rfl,rfl⟩:=h;exact this
  simp at h
 exact MZ T P _ _ _ h
def Fh(l:List ae)(part:Nat->eJ Ex)(A:XN part):∀f y i x j,Ny y->joinL T P l part f y i=.ok (x,j)->Ny x
 |0,_,i,x,j,hb,h=>by simp [joinL] at h
 |f+1,y,i,x,j,hb,h=>by
  unfold joinL at h
  split at h
  .split at h
   .simp at h
   rename_i C;exact Fh l part A f _ _ _ _ (V5 _ _ hb (A _ _ _ C)) h
  simp at h;obtain ⟨rfl,rfl⟩:=h;exact hb
def qW(l:List ae)(part:Nat->eJ Ex)(A:XN part):XN (eT T P l part):=by
 intro i x j h;unfold eT at h
 split at h
 .simp at h
 rename_i C;exact Fh T P l part A _ _ _ _ _ (A _ _ _ C) h
def Fi:∀n,XN (fq T P n)
 |0=>qW T P _ _ (qW T P _ _ (Fg T P false _ (fun i x j h=>by simp at h)))
 |n+1=>qW T P _ _ (qW T P _ _ (Fg T P true _ (Fi n)))
end
def zR:∀e,Ny e->BU e
 |⟨n,some x,some y⟩,h=>⟨zR x h.2.1,zR y h.2.2⟩
 |⟨n,none,r⟩,_=>trivial
 |⟨n,some x,none⟩,h=>h.elim
def xd(rel):∀(e:Ex)(m:Nat),Ny e->(bq rel m e).length<=6*(aF e).length
 |⟨n,some x,some y⟩,m,h=>by
  have A:=xd rel x;have C:=xd rel y;rw [bq];simp only [aF,bg,List.length_cons,List.length_nil]
  split
  .have:=A m h.2.1;have:=C (m+(bq rel m x).length) h.2.2;simp only [bg,List.length_cons,List.length_nil];omega
  have:=A m h.2.1;have:=C (m+(bq rel m x).length+1) h.2.2;simp only [bg,List.length_cons,List.length_nil];omega
 |⟨n,none,r⟩,m,h=>by
  rw [bq];simp only [aF,List.length_cons,List.length_nil]
  split
  .simp [gO]
  split
  .simp
  simp [gO]
 |⟨n,some x,none⟩,m,h=>h.elim
def xe(rel)(A:rel.size<=500):∀(e:Ex)(m:Nat),Ny e->∀i∈bq rel m e,i.rel.size<=500
 |⟨n,some x,some y⟩,m,h,i,hi=>by
  have C:=xe rel A x;have D:=xe rel A y;rw [bq] at hi
  split at hi
  .simp only [aW,aX] at hi
   rcases hi with (hi|hi)|rfl
   .exact C _ h.2.1 i hi
   .exact D _ h.2.2 i hi
   exact Iy
  simp only [aW,aX] at hi
  rcases hi with ((hi|rfl)|hi)|rfl
  .exact C _ h.2.1 i hi
  .exact Iy
  .exact D _ h.2.2 i hi
  exact Iy
 |⟨n,none,r⟩,m,h,i,hi=>by
  obtain ⟨_,h1,h2⟩:=h;rw [bq] at hi;have z:(⟨#[]⟩:ae).size<=500:=ay
  split at hi
  .simp only [gO,cG,iQ,jD] at hi
   rcases hi with rfl|rfl|rfl|rfl|rfl<;>first|exact A|exact z
  split at hi
  .rw [aX] at hi;subst hi
   show n.n1.size<=500
   omega
  simp only [gO,cG,iQ,jD] at hi
  rcases hi with rfl|rfl|rfl|rfl|rfl<;>first|exact z|(show n.n1.size<=500;omega)|(show n.n2.size<=500;omega)
 |⟨n,some x,none⟩,m,h,i,hi=>h.elim
section
variable (T:Nat->ae)(P:Nat->Nat)
def o7{T u}(h:cb T x i=.ok (u,j)):(T i).size<=8:=by
 unfold cb at h
 split at h
 .cases h
 rename_i h1;exact mG h1
def V6(h:kS T P i=.ok (r,j)):r.name.size<=8:=by
 unfold kS at h
 split at h
 .simp at h
 rename_i h1
 split at h
 .simp at h
 split at h<;>simp at h
 obtain ⟨rfl,rfl⟩:=h;exact o7 h1
def Fj:∀f acc i rs j,(∀r∈acc,r.name.size<=8)->dj T P f acc i=.ok (rs,j)->∀r∈rs,r.name.size<=8
 |0,_,i,x,j,_,h=>by simp [dj] at h
 |f+1,acc,i,x,j,ha,h=>by
  unfold dj at h
  split at h
  .exact Ix
  split at h
  .simp at h
  split at h
  .simp at h
  rename_i C;refine Fj f _ _ _ _ (fun r A=> ?_) h;rw [aW,aX] at A
  rcases A with A|rfl
  .exact ha r A
  exact V6 T P C
def SN(h:j5 T P i=.ok (t,j)):t.name.size<=8/\∀r∈t.rels,r.name.size<=8:=by
 unfold j5 at h
 split at h
 .split at h
  .simp at h
  rename_i h1
  split at h
  .simp at h
  rename_i A;simp at h;obtain ⟨rfl,rfl⟩:=h;exact ⟨o7 h1,Fj T P _ _ _ _ _ au A⟩
 simp at h
def zS:∀f acc i ts j,(∀t∈acc,t.name.size<=8/\∀r∈t.rels,r.name.size<=8)->cR T P f acc i=.ok (ts,j)->∀t∈ts,t.name.size<=8/\∀r∈t.rels,r.name.size<=8
 |0,_,i,x,j,_,h=>by simp [cR] at h
 |f+1,acc,i,x,j,ha,h=>by
  unfold cR at h
  split at h
  .exact Ix
  split at h
  .simp at h
  split at h
  .simp at h
  rename_i C;refine zS f _ _ _ _ (fun t A=> ?_) h;rw [aW,aX] at A
  rcases A with A|rfl
  .exact ha t A
  exact SN T P C
end
structure Fk(ts:List Ty):Prop where
 k:Zn ts
 d:et ts
 g:wo ts
 e:∀t∈ts,∀r∈t.rels,Ny r.body
 n:∀t∈ts,t.name.size<=8/\∀r∈t.rels,r.name.size<=8
def md_of(h:dy s=.ok ts):Fk ts:=by
 unfold dy at h
 split at h
 .cases h
 rename_i hs
 split at h
 .cases h
 rename_i ts' m I
 split at h
 .cases h
 rename_i hc
 cases h
 unfold eB at hc
 split at hc
 .cases hc
 rename_i h1
 split at hc
 .cases hc
 rename_i h2
 split at hc
 .cases hc
 rename_i J;have D:=(lG _ _ h1).2;refine ⟨⟨fun t A=>dq D A,fun t A r C=> ?_,fun t A r C=> ?_,fun t A r C p U _ Q=> ?_⟩,D,sq I,fun t A r C=> ?_,zS _ _ _ _ _ _ _ au I⟩
 .exact pQ (D.2 t A) C
 .unfold ff at J;have:=(ko.1 J) t A;exact (ko.1 this) r C
 .unfold fj;rw [if_neg (fun e=>Q (.inl e)),if_neg (fun e=>Q (.inr e))]
 obtain ⟨_,i0,V,R,_⟩:=kB I t A r C;exact Fi _ _ _ _ _ _ R
structure Cc(ts:List Ty)(t:Tu):Prop where
 lets:mP ts t=0
 id:bC t.id=true
 low:t.kind.size<=maxLen/\t.id.size<=maxLen/\nS (fb t)
def tG(ts:List Ty)(k n:ae):Bool:=((bX ts k).bind fun t=>b9 t n).isSome
def sO:bC (⟨#[42]⟩:ae)=false:=by kernel_rfl
def fi(ts:List Ty)(s:Sj):Bool:=tG ts s.kind s.rel&&bC s.id
def Nz(ts:List Ty)(ρ:Sp->Nat)(s:Sj):Nat:=if fi ts s then ρ (s.kind,s.rel)+1 else 0
def lk(gs:List Tu)(kd id:ae):List Tu:=gs.filter fun t=>lL ⟨kd,id,[]⟩ t
def lO{t}:t∈lk gs kd id↔t∈gs/\t.kind=kd/\t.id=id:=by
 unfold lk;rw [sM,eI];exact ⟨fun ⟨h,e1,A⟩=>⟨h,e1.symm,A.symm⟩,fun ⟨h,e1,A⟩=>⟨h,e1.symm,A.symm⟩⟩
section
variable {ts:List Ty}{gs:List Tu}{t:Ty}{r:Rl}{e:Ex}{id:ae}{s:Sj}
def kF(C:∀t∈gs,Cc ts t){u}(I:u∈gs):∃y q g,bX ts u.kind=some y/\b9 y u.rel=some q/\g∈bR q.body/\g.ty=u.sub/\g.reach=im u.who u.of/\g.rel=u.of:=by
 have h:=(C u I).lets;unfold mP at h
 cases h1:bX ts u.kind with
 |none=>rw [h1] at h;simp at h
 |some y=>
  rw [h1] at h;simp only at h
  cases h2:b9 y u.rel with
  |none=>rw [h2] at h;simp at h
  |some q=>
   rw [h2] at h;simp only at h
   split at h
   .rename_i D;obtain ⟨g,C,A⟩:=dh.1 D;unfold gD at A;simp only [bP,bz,dQ] at A;exact ⟨y,q,g,rfl,h2,C,A.1,A.2.1,A.2.2⟩
   cases h
def zT(h:Fk ts)(ac:∀t∈gs,Cc ts t)(R:t∈ts)(ae:r∈t.rels)(ad:e∈aO r.body)(af:FQ t.name id (lk gs t.name id) r.name e s)(A:fi ts s=true):(s.kind,s.rel)∈dU ts t r e:=by
 have ab:=iZ ad;obtain ⟨n,ai,rr⟩:=e;simp only at ab;subst ab;rw [gm rfl];have Q:=h.k
 rcases af with ⟨h0,u,U,e1,D,rfl⟩|⟨h1,rfl⟩|⟨h0,h1,u,U,e1,D,rfl⟩
 .rw [if_pos h0];obtain ⟨V,Y,ag⟩:=lO.1 U;obtain ⟨y,q,g,f1,f2,J,I,C,Z⟩:=kF ac V;rw [Y,Q.fnd t R] at f1
  cases f1
  rw [e1,Q.fnr t R r ae] at f2
  cases f2
  unfold im at C;rw [if_neg D] at C;unfold mf;rw [mC];exact ⟨g,J,by unfold l9;rw [if_pos C,I,Z];rfl⟩
 .rw [if_neg (by show ¬n.kind=0;omega)];unfold tQ;rw [if_neg (by show ¬n.kind=0;omega),if_pos h1];simp
 rw [if_neg h0];unfold tQ;rw [if_neg h0,if_neg h1];obtain ⟨V,Y,ag⟩:=lO.1 U;obtain ⟨y,q,g,f1,f2,J,I,C,Z⟩:=kF ac V;rw [Y,Q.fnd t R] at f1
 cases f1
 rw [e1] at f2;have ah:¬eqs u.who dJ=true:=fun e=>by
  unfold fi at A;simp only [bP] at A;rw [show u.who=⟨#[42]⟩ from (bz _ _).1 e,sO] at A
  cases A.2
 unfold im at C;rw [if_pos D,if_neg ah] at C;unfold fi tG at A;simp only [bP] at A;rw [aU]
 cases f3:bX ts u.sub with
 |none=>rw [f3] at A;cases A.1
 |some v=>
  rw [f3] at A;refine ⟨v,?_,by rw [(cw f3).2]⟩;unfold nk;rw [f2];rw [mC];refine ⟨g,J,?_⟩;unfold iM;rw [if_pos C,I,f3];simp only;rw [if_pos (by simpa using A.1)]
end
structure XO(ts:List Ty)(ρ:Sp->Nat):Prop where
 pos:∀t∈ts,∀r∈t.rels,∀e∈aO r.body,∀d∈dU ts t r e,ρ d<=ρ (t.name,r.name)
 neg:∀t∈ts,∀r∈t.rels,∀e∈ye r.body,∀d∈dU ts t r e,ρ d<ρ (t.name,r.name)
def XP(h:Fk ts):XO ts (Ff ts):=⟨fun t I r D e C d A=>h.k.rkp I D C A,fun t I r D e C d A=>h.k.rkn I D C A⟩
section
variable {kd id:ae}{tu:List Tu}{rel:ae}{s:Sj}
def uk:∀x,FQ kd id tu rel x s->∃e∈aO x,FQ kd id tu rel e s
 |⟨n,some x,some y⟩,h=>by
  simp only [aO,aW]
  rcases h with h|h
  .obtain ⟨e,A,h⟩:=uk x h;exact ⟨e,.inl A,h⟩
  obtain ⟨e,A,h⟩:=uk y h;exact ⟨e,.inr A,h⟩
 |⟨n,none,r⟩,h=>⟨_,by simp [aO],h⟩
 |⟨n,some x,none⟩,h=>h.elim
def Cd:∀x,MI kd id tu rel x s->∃e∈ye x,FQ kd id tu rel e s
 |⟨n,some x,some y⟩,h=>by
  unfold MI at h;unfold ye
  rcases h with h|h
  .obtain ⟨e,A,h⟩:=Cd x h
   split
   .exact ⟨e,mF _ A,h⟩
   exact ⟨e,mF _ A,h⟩
  split at h
  .rename_i C;obtain ⟨e,A,h⟩:=Cd y h;rw [if_pos C];exact ⟨e,pZ _ A,h⟩
  rename_i C;obtain ⟨e,A,h⟩:=uk y h;rw [if_neg C];exact ⟨e,pZ _ A,h⟩
 |⟨n,none,r⟩,h=>h.elim
 |⟨n,some x,none⟩,h=>h.elim
end
def oI:∀(x e:Ex),e∈ye x->e∈aO x
 |⟨n,some x,some y⟩,e,h=>by
  unfold ye at h;simp only [aO,aW]
  split at h
  .rcases aW.1 h with h|h
   .exact .inl (oI x e h)
   exact .inr (oI y e h)
  rcases aW.1 h with h|h
  .exact .inl (oI x e h)
  exact .inr h
 |⟨n,none,r⟩,e,h=>by simp [ye] at h
 |⟨n,some x,none⟩,e,h=>by simp [ye] at h
section
variable {ts:List Ty}{gs:List Tu}{ρ:Sp->Nat}{t:Ty}{r:Rl}{id:ae}{s:Sj}
def SO(h:Fk ts)(Q:XO ts ρ)(I:∀t∈gs,Cc ts t)(D:t∈ts)(C:r∈t.rels)(J:FQ t.name id (lk gs t.name id) r.name r.body s):Nz ts ρ s<=ρ (t.name,r.name)+1:=by
 unfold Nz
 split
 .rename_i hl;obtain ⟨e,A,h1⟩:=uk _ J;have:=Q.pos t D r C e A _ (zT h I D C A h1 hl);omega
 omega
def Kw(h:Fk ts)(Q:XO ts ρ)(I:∀t∈gs,Cc ts t)(D:t∈ts)(C:r∈t.rels)(J:MI t.name id (lk gs t.name id) r.name r.body s):Nz ts ρ s<ρ (t.name,r.name)+1:=by
 unfold Nz
 split
 .rename_i hl;obtain ⟨e,A,h1⟩:=Cd _ J;have:=Q.neg t D r C e A _ (zT h I D C (oI _ _ A) h1 hl);omega
 omega
end
def fJ(ts:List Ty)(gs:List Tu)(who:Tg)(kp kn:Sj->Bool)(s:Sj):Bool:=
 if bC s.id then (match bX ts s.kind with
  |none=>false
  |some t=>match b9 t s.rel with
   |none=>false
   |some r=>iu kp kn who s.kind s.id (lk gs s.kind s.id) s.rel r.body) else false
section
variable {ts:List Ty}{gs:List Tu}{who:Tg}{ρ:Sp->Nat}{kp kn:Sj->Bool}
def xf(h:Fk ts)(A:t∈ts)(D:r∈t.rels)(C:bC id=true):fJ ts gs who kp kn ⟨t.name,id,r.name⟩=iu kp kn who t.name id (lk gs t.name id) r.name r.body:=by
 unfold fJ;rw [if_pos C];simp only [h.k.fnd t A,h.k.fnr t A r D]
def nW(s):(∃t∈ts,∃r∈t.rels,∃id,bC id=true/\s=⟨t.name,id,r.name⟩)\/(fi ts s=false/\∀kp kn,fJ ts gs who kp kn s=false):=by
 obtain ⟨k,id,n⟩:=s
 cases h:bC id
 .exact .inr ⟨by simp [fi,h],fun kp kn=>by unfold fJ;rw [if_neg (by simp [h])]⟩
 cases h1:bX ts k with
 |none=>exact .inr ⟨by simp [fi,tG,h1],fun kp kn=>by unfold fJ;rw [if_pos h];simp only [h1]⟩
 |some t=>
  cases h2:b9 t n with
  |none=>exact .inr ⟨by simp [fi,tG,h1,h2],fun kp kn=>by unfold fJ;rw [if_pos h];simp only [h1,h2]⟩
  |some r=>
   obtain ⟨A,C⟩:=cw h1;obtain ⟨b1,D⟩:=cF h2;exact .inl ⟨t,A,r,b1,id,h,by rw [C,D]⟩
def V7(h:Fk ts)(A:t∈ts)(D:r∈t.rels)(C:bC id=true):fi ts ⟨t.name,id,r.name⟩=true:=by
 unfold fi tG;simp [h.k.fnd t A,h.k.fnr t A r D,C]
def sys_f(h:Fk ts)(Q:XO ts ρ)(J:∀t∈gs,Cc ts t):Sys (fJ ts gs who) (Nz ts ρ) where
 mono:=fun kp FP kn s R hs=>by
  rcases nW (ts:=ts) (gs:=gs) (who:=who) s with ⟨t,C,r,A,id,D,rfl⟩|⟨_,h2⟩
  .rw [xf h C A D] at hs ⊢;exact g9 R _ hs
  rw [h2] at hs;cases hs
 dep:=fun kp FP kn Z5 s h1 h2=>by
  rcases nW (ts:=ts) (gs:=gs) (who:=who) s with ⟨t,C,r,A,id,D,rfl⟩|⟨_,I⟩
  .rw [xf h C A D,xf h C A D];have e:Nz ts ρ ⟨t.name,id,r.name⟩=ρ (t.name,r.name)+1:=by unfold Nz;rw [if_pos (V7 h C A D)]
   refine gw _ (fun s hs=>h1 s ?_) (fun s hs=>h2 s ?_)
   .rw [e];exact SO h Q J C A hs
   rw [e];exact Kw h Q J C A hs
  rw [I,I]
end
structure Z6(ts:List Ty)(G:List (List TR))(ρ:Sp->Nat):Prop where
 mem:∀i g,G[i]? =some g->∀x∈g,x.1∈ts/\x.2∈x.1.rels/\ρ (x.1.name,x.2.name)=i
 cov:∀t∈ts,∀r∈t.rels,∃g,G[ρ (t.name,r.name)]? =some g/\(t,r)∈g
structure HsK(gs:List Tu)(hs:List Hp):Prop where
 ts:∀h∈hs,h.ts=lk gs h.kd h.id
 all:∀t∈gs,∃h∈hs,h.kd=t.kind/\h.id=t.id
def Iz(gs:List Tu):HsK gs (dr gs) where
 ts:=fun h A=>((je gs).ts h A).1
 all:=fun t C=>by
  obtain ⟨h,A,e⟩:=(je gs).all t C;exact ⟨h,A,eI.1 e⟩
def ju{K who kd id rel}(h:∀n,K ⟨kd,id,n⟩=false):∀e,cW K who kd id [] rel e=false
 |⟨n,some x,some y⟩=>by
  have A:=ju (who:=who) (rel:=rel) h x;have C:=ju (who:=who) (rel:=rel) h y;rw [cW,A,C];simp
 |⟨n,none,_⟩=>by
  rw [cW];simp [h]
 |⟨_,some _,none⟩=>by rw [cW]
def lP(gs:List Tu)(s:Sj):Prop:=lk gs s.kind s.id=[]
section
variable {ts:List Ty}{gs:List Tu}{who:Tg}{hs:List Hp}{g:List TR}{k0 k1 k:Sj->Bool}
def Kx(U:HsK gs hs)(ab:∀x∈g,BU x.2.body)(h:E7 who hs (g.map lM) k0 k1)(h0:∀s,lP gs s->k0 s=false):∀s,lP gs s->k1 s=false:=by
 classical
 intro s C
 by_cases J:lN (g.map lM) hs s
 .cases V:k1 s
  .rfl
  have:=h.least (fun s=>if lN (g.map lM) hs s then decide (¬lP gs s) else k0 s) (fun s hs=>by rw [if_neg hs]) (fun x Q y R e A=>by
   have Z:lN (g.map lM) hs ⟨y.kd,y.id,x.nm⟩:=⟨x,Q,y,R,e,rfl⟩
   show (if lN (g.map lM) hs ⟨y.kd,y.id,x.nm⟩ then decide (¬lP gs ⟨y.kd,y.id,x.nm⟩) else _)=true
   rw [if_pos Z,fF];intro I;obtain ⟨p,Y,rfl⟩:=aU.1 Q;have e1:y.ts=[]:=(U.ts y R).trans I;rw [e1] at A;have:=ju (K:=fun s=>if lN (g.map lM) hs s then decide (¬lP gs s) else k0 s) (who:=who) (kd:=y.kd) (id:=y.id) (rel:=p.2.name) (fun n=>by
    have D:lP gs ⟨y.kd,y.id,n⟩:=I
    show (if lN (g.map lM) hs ⟨y.kd,y.id,n⟩ then decide (¬lP gs ⟨y.kd,y.id,n⟩) else k0 ⟨y.kd,y.id,n⟩)=false
    split
    .simp [D]
    exact h0 _ D) p.2.body
   rw [oG _ _ _ _ _ _ _ (ab p Y)] at this;rw [show hV (fun s=>if lN (g.map lM) hs s then decide (¬lP gs s) else k0 s) who y.kd y.id [] (lM p).nm (lM p).sh=false from this] at A
   cases A) s V
  rw [if_pos J,fF] at this;exact absurd C this
 rw [h.old s J];exact h0 s C
def ul(C:HsK gs hs):∀{A:List (List TR)} {k a:Sj->Bool},(∀g∈A,∀x∈g,BU x.2.body)->lj who hs (A.map (List.map lM)) k a->(∀s,lP gs s->k s=false)->∀s,lP gs s->a s=false
 | [],k,a,_,h,h0=>by rw [show a=k from h];exact h0
 |g::A,k,a,hw,⟨k1,h1,h2⟩,h0=>ul C (fun g' D=>hw g' (eY _ D)) h2 (Kx C (hw g ep) h1 h0)
end
abbrev IA:=@List.eq_nil_iff_forall_not_mem
def SP (h:aD:=by
 obtain ⟨j,A⟩:=ip.1 hg;obtain ⟨h1,h2,_⟩:=hG.mem j g A x hx;exact zR _ (hm.e _ h1 _ h2)):aD:=h
section
variable {ts:List Ty}{gs:List Tu}{who:Tg}{ρ:Sp->Nat}{G:List (List TR)}{hs:List Hp}{kb:Sj->Bool}
def sP(A:Z6 ts G ρ){g}(hi:G[i]? =some g){s}(h:lN (g.map lM) hs s):ρ (s.kind,s.rel)=i:=by
 obtain ⟨x,C,y,D,e,rfl⟩:=xa.1 h;have:=(A.mem i g hi x C).2.2
 show ρ (y.kd,x.2.name)=i
 rw [e];exact this
def uo(A:Fk ts)(C:Z6 ts G ρ){g}(hi:G[i]? =some g){s}(h:lN (g.map lM) hs s):tG ts s.kind s.rel=true:=by
 obtain ⟨x,D,y,I,e,rfl⟩:=xa.1 h;obtain ⟨h1,h2,_⟩:=C.mem i g hi x D;unfold tG
 show ((bX ts y.kd).bind fun t=>b9 t x.2.name).isSome=true
 rw [e,A.k.fnd _ h1];simp [A.k.fnr _ h1 _ h2]
def kG(C:∀t∈gs,Cc ts t){s}(h:bC s.id=false):lP gs s:=by
 unfold lP;rw [IA];intro t D;obtain ⟨h1,h2,A⟩:=lO.1 D;have:=(C t h1).id;rw [A,h] at this
 cases this
structure Zo(G:List (List TR))(gs:List Tu)(who:Tg)(hs:List Hp)(ρ:Sp->Nat)(i:Nat)(g:List TR)(kb k0 k1:Sj->Bool):Prop where
 sol:E7 who hs (g.map lM) k0 k1
 lt:∀s,ρ (s.kind,s.rel)<i->kb s=k0 s
 le:∀s,ρ (s.kind,s.rel)<=i->kb s=k1 s
 ge:∀s,i<=ρ (s.kind,s.rel)->k0 s=false
 dry:∀s,lP gs s->k0 s=false/\k1 s=false/\kb s=false
 no:∀s,(∀(j:Nat)(g':List TR),G[j]? =some g'->¬lN (g'.map lM) hs s)->k0 s=false/\k1 s=false/\kb s=false
def Ky(hm:Fk ts)(hG:Z6 ts G ρ)(J:HsK gs hs)(ab:lj who hs (G.map (List.map lM)) (fun _=>false) kb){g}(hi:G[i]? =some g):∃k0 k1,Zo G gs who hs ρ i g kb k0 k1:=by
 have R:∀g∈G,∀x∈g,BU x.2.body:=fun g hg x hx=>by
  exact SP
 obtain ⟨hl,e0⟩:=bD.1 hi;have ag:G=G.take i++g::G.drop (i+1):=by
  rw [<-e0,<-c9 hl,po]
 have ac:=ab;rw [ag,cK,bZ] at ac;obtain ⟨a,Z,k1,h1,ah⟩:=xb ac;have ak:∀g'∈G.take i,∃j,j<i/\G[j]? =some g':=fun g' D=>by
  obtain ⟨j,C⟩:=ip.1 D;rw [vs] at C
  split at C
  .rename_i aj;exact ⟨j,aj,C⟩
  cases C
 have al:∀g'∈G.drop (i+1),∃j,i<j/\G[j]? =some g':=fun g' D=>by
  obtain ⟨j,C⟩:=ip.1 D;rw [ru] at C;exact ⟨_,ai,C⟩
 have ae:∀s,(∀j g',j<i->G[j]? =some g'->¬lN (g'.map lM) hs s)->a s=false:=fun s h=>qT Z s (fun g' D=>by
  obtain ⟨x,hx,rfl⟩:=aU.1 D;obtain ⟨j,C,e⟩:=ak x hx;exact h j x C e)
 have U:∀s,(∀j g',i<j->G[j]? =some g'->¬lN (g'.map lM) hs s)->kb s=k1 s:=fun s h=>qT ah s (fun g' D=>by
  obtain ⟨x,hx,rfl⟩:=aU.1 D;obtain ⟨j,C,e⟩:=al x hx;exact h j x C e)
 have V:=ul J (fun g' D=>R g' (List.mem_of_mem_take D)) Z (fun _ _=>rfl);have af:=Kx J (R g (bG hi)) h1 V;refine ⟨a,k1,h1,fun s ad=> ?_,fun s ad=> ?_,fun s ad=> ?_,fun s Q=>⟨V s Q,af s Q,ul J R ab (fun _ _=>rfl) s Q⟩,fun s hn=> ?_⟩
 .rw [U s (fun j g' C e I=>by have:=sP hG e I;omega),h1.old s (fun I=>by have:=sP hG hi I;omega)]
 .exact U s (fun j g' C e I=>by have:=sP hG e I;omega)
 .exact ae s (fun j g' C e I=>by have:=sP hG e I;omega)
 have e1:=ae s (fun j g' _ e=>hn j g' e);have Y:k1 s=false:=by rw [h1.old s (hn i g hi),e1]
 exact ⟨e1,Y,by rw [U s (fun j g' _ e=>hn j g' e),Y]⟩
def Zo.dead(I:Fk ts)(C:Z6 ts G ρ)(D:∀t∈gs,Cc ts t){g k0 k1}(h:Zo G gs who hs ρ i g kb k0 k1){s}(A:fi ts s=false):k0 s=false/\k1 s=false/\kb s=false:=by
 unfold fi at A;rw [Aw] at A
 rcases A with A|A
 .exact h.no s (fun j g' e J=>by rw [uo I C e J] at A;cases A)
 exact h.dry s (kG D A)
def IB(hm:Fk ts)(au:XO ts ρ)(hg:∀t∈gs,Cc ts t)(hG:Z6 ts G ρ)(R:HsK gs hs)(ag:lj who hs (G.map (List.map lM)) (fun _=>false) kb):sG (fJ ts gs who) kb:=by
 have aK:∀g∈G,∀x∈g,BU x.2.body:=fun g hg x hx=>by
  exact SP
 have ak:=ul R aK ag (fun _ _=>rfl);have dead:∀s,fi ts s=false->kb s=false:=fun s C=>by
  unfold fi at C;rw [Aw] at C
  rcases C with C|C
  .exact qT ag s (fun g' ax I=>by
    obtain ⟨x,hx,rfl⟩:=aU.1 ax;obtain ⟨j,aC⟩:=ip.1 hx;rw [uo hm hG aC I] at C
    cases C)
  exact ak s (kG hg C)
 refine ⟨fun s=> ?_,fun ab az=> ?_⟩
 .rcases nW (ts:=ts) (gs:=gs) (who:=who) s with ⟨t,I,r,Z,id,an,rfl⟩|⟨h1,h2⟩
  .obtain ⟨g,Y,ar⟩:=hG.cov t I r Z;obtain ⟨k0,k1,N⟩:=Ky hm hG R ag Y;rw [xf hm I Z an,gt]
   by_cases ap:∃y∈hs,y.kd=t.name/\y.id=id
   .obtain ⟨y,Q,e1,af⟩:=ap;have f:=N.sol.fix (lM (t,r)) (aU.2 ⟨_,ar,rfl⟩) y Q e1;rw [e1,af,R.ts y Q,e1,af] at f;have f':cW k1 who t.name id (lk gs t.name id) r.name r.body=k1 ⟨t.name,id,r.name⟩:=by
     rw [oG _ _ _ _ _ _ _ (zR _ (hm.e t I r Z))];exact f
    rw [N.le _ aH,<-f'];refine (gu _ (fun s D=> ?_)).symm;have ad:=SO hm au hg I Z D
    by_cases hl:fi ts s=true
    .unfold Nz at ad;rw [if_pos hl] at ad;exact N.le s ai
    have C:fi ts s=false:=by simpa using hl
    obtain ⟨_,aj,ah⟩:=N.dead hm hG hg C;rw [aj,ah]
   have U:lk gs t.name id=[]:=by
    rw [IA];intro u aJ;obtain ⟨h1,h2,ay⟩:=lO.1 aJ;obtain ⟨y,Q,e1,af⟩:=R.all u h1;exact ap ⟨y,Q,e1.trans h2,af.trans ay⟩
   have av:∀n,kb ⟨t.name,id,n⟩=false:=fun n=>ak _ U
   rw [U,ju av];exact av r.name
  rw [h2,dead s h1]
 have key:∀n s,ρ (s.kind,s.rel)<n->kb s=true->ab s=true:=by
  intro n
  induction n with
  |zero=>intro s h;omega
  |succ n ih=>
   intro s hn ac
   rcases nW (ts:=ts) (gs:=gs) (who:=who) s with ⟨t,I,r,Z,id,an,rfl⟩|⟨h1,h2⟩
   .obtain ⟨g,Y,ar⟩:=hG.cov t I r Z;obtain ⟨k0,k1,N⟩:=Ky hm hG R ag Y;generalize hi:ρ (t.name,r.name)=i at*
    classical
    obtain ⟨ae,J⟩:∃ae:Sj->Bool,∀s,ae s=if lN (g.map lM) hs s/\¬lP gs s then ab s else k0 s:=⟨fun s=>if lN (g.map lM) hs s/\¬lP gs s then ab s else k0 s,fun _=>rfl⟩
    have aL:∀s,ae s=true->ab s=true:=fun s D=>by
     rw [J] at D
     split at D
     .exact D
     by_cases aE:ρ (s.kind,s.rel)<i
     .exact ih s ai (by rw [N.lt s aE];exact D)
     rw [N.ge s ai] at D;cases D
    have:=N.sol.least ae (fun s D=>by rw [J,if_neg (fun e=>D e.1)]) (fun x hx y Q e aA=>by
     obtain ⟨p,aF,rfl⟩:=aU.1 hx;obtain ⟨p1,p2,aM⟩:=hG.mem i g Y p aF;have aI:lN (g.map lM) hs ⟨y.kd,y.id,(lM p).nm⟩:=⟨lM p,hx,y,Q,e,rfl⟩;have e':y.kd=p.1.name:=e;have V:cW ae who y.kd y.id y.ts p.2.name p.2.body=true:=by
      rw [oG _ _ _ _ _ _ _ (zR _ (hm.e _ p1 _ p2))];exact aA
     rw [R.ts y Q] at V
     by_cases U:lP gs ⟨y.kd,y.id,(lM p).nm⟩
     .exfalso;have C:lk gs y.kd y.id=[]:=U;rw [C,ju (fun m=>by
       have am:lP gs ⟨y.kd,y.id,m⟩:=C;rw [J,if_neg (fun e=>e.2 am)];exact (N.dry _ am).1)] at V
      cases V
     rw [J,if_pos ⟨aI,U⟩];have aB:bC y.id=true:=by
      cases aG:bC y.id
      .exact absurd (kG (s:=⟨y.kd,y.id,(lM p).nm⟩) hg aG) U
      rfl
     refine az _ ?_
     show fJ ts gs who ab kb ⟨y.kd,y.id,p.2.name⟩=true
     rw [e'] at V ⊢;rw [xf hm p1 p2 aB];rw [<-gt] at V;refine g9 aL _ ?_;rw [<-gw _ (fun _ _=>rfl) (fun s D=> ?_)]
     .exact V
     have ad:=Kw hm au hg p1 p2 D
     by_cases hl:fi ts s=true
     .unfold Nz at ad;rw [if_pos hl,aM] at ad;rw [J,if_neg (fun e=>by have:=sP hG Y e.1;omega)];exact (N.lt s ai).symm
     have C:fi ts s=false:=by simpa using hl
     obtain ⟨aw,aj,ah⟩:=N.dead hm hG hg C;rw [J,ah]
     split
     .rename_i al;unfold fi at C;rw [uo hm hG Y al.1,fS] at C;exact absurd (kG hg C) al.2
     exact aw) _ (show k1 ⟨t.name,id,r.name⟩=true by rw [<-N.le _ (by show ρ (t.name,r.name)<=i;omega)];exact ac)
    rw [J] at this
    split at this
    .exact this
    rw [N.ge _ (by show i<=ρ (t.name,r.name);omega)] at this
    cases this
   rw [dead s h1] at ac;cases ac
 exact fun s ac=>key _ s (Nat.lt_succ_self _) ac
end
structure SpG{α:Type}(rk:α->Nat)(l:List α)(G:List (List α)):Prop where
 mem:∀(i:Nat)(g:List α),G[i]? =some g->∀x∈g,x∈l/\rk x=i+1
 cov:∀x∈l,∃g,G[rk x-1]? =some g/\x∈g
 sum:(G.map List.length).sum=l.length
def Ce(n)(A:List (List α))(i):(gh n A)[i]? =if i<A.length then A[i]? else if i<n then some [] else none:=by
 unfold gh
 by_cases h:i<A.length
 .rw [nu h,if_pos h]
 rw [nv ai,if_neg h,List.getElem?_replicate]
 by_cases h2:i<n
 .rw [if_pos h2,if_pos ai]
 rw [if_neg h2,if_neg ai]
def Kz:∀(l:List Nat)(i v:Nat),i<l.length->(l.set i v).sum+l.getD i 0=l.sum+v
 | [],i,v,h=>by simp at h
 |a::l,0,v,h=>aS
 |a::l,i+1,v,h=>by
  have:=Kz l i v nf;simp only [List.set_cons_succ,List.sum_cons,List.getD_cons_succ];omega
def V8{rk:α->Nat}{l:List α}{C:List (List α)}(h:SpG rk l C){x:α}(Y:1<=rk x):SpG rk (l++[x]) (gj (rk x) x C):=by
 have Q:rk x-1<(gh (rk x) C).length:=by unfold gh;simp;omega
 obtain ⟨q,D⟩:∃q,(gh (rk x) C)[rk x-1]? =some q:=⟨_,aI Q⟩;have J:(gh (rk x) C).getD (rk x-1) []=q:=by rw [ey,D];rfl
 have V:∀y∈q,y∈l/\rk y=rk x:=fun y A=>by
  rw [Ce] at D
  split at D
  .obtain ⟨h1,h2⟩:=h.mem _ _ D y A;exact ⟨h1,ai⟩
  split at D
  .cases D;cases A
  cases D
 have at_:∀i,(gj (rk x) x C)[i]? =if i=rk x-1 then some (q++[x]) else (gh (rk x) C)[i]? :=fun i=>by
  unfold gj;rw [J,List.getElem?_set]
  by_cases e:rk x-1=i
  .rw [if_pos e,if_pos e.symm,if_pos ai]
  rw [if_neg e,if_neg (fun e'=>e e'.symm)]
 refine ⟨fun i g hi y A=> ?_,fun y A=> ?_,?_⟩
 .rw [at_] at hi
  split at hi
  .rename_i e
   cases hi
   rcases aW.1 A with A|A
   .obtain ⟨h1,h2⟩:=V y A;exact ⟨mF _ h1,ai⟩
   rw [aX] at A;subst A;exact ⟨au,ai⟩
  rw [Ce] at hi
  split at hi
  .obtain ⟨h1,h2⟩:=h.mem _ _ hi y A;exact ⟨mF _ h1,h2⟩
  split at hi
  .cases hi;cases A
  cases hi
 .rcases aW.1 A with A|A
  .obtain ⟨g,I,R⟩:=h.cov y A;rw [at_]
   split
   .rename_i e;refine ⟨_,rfl,mF _ ?_⟩;rw [e] at I;rw [Ce,if_pos (bD.1 I).1,I] at D
    cases D
    exact R
   rw [Ce,if_pos (bD.1 I).1];exact ⟨g,I,R⟩
  rw [aX] at A;subst A;rw [at_,if_pos rfl];exact ⟨_,rfl,au⟩
 unfold gj;rw [J,pM];have h1:((gh (rk x) C).map List.length).sum=l.length:=by
  unfold gh;rw [cK,List.sum_append,h.sum];simp
 have h2:=Kz ((gh (rk x) C).map List.length) (rk x-1) (q++[x]).length (by simpa using Q);have U:((gh (rk x) C).map List.length).getD (rk x-1) 0=q.length:=by
  rw [ey,eo,D]
  rfl
 rw [h1,U] at h2;simp only [bg,List.length_cons,List.length_nil] at h2 ⊢;omega
def KA{α:Type}{rk:α->Nat}:∀(m l:List α) (G:List (List α)),(∀x∈m,1<=rk x)->SpG rk l G->SpG rk (l++m) (m.foldl (fun g x=>gj (rk x) x g) G)
 | [],l,G,_,h=>by simpa using h
 |x::m,l,G,hx,h=>by
  have:=KA m (l++[x]) _ (fun y A=>hx y (eY _ A)) (V8 h (hx x ep));rw [ct] at this;exact this
def zU{x}:x∈nH ts↔x.1∈ts/\x.2∈x.1.rels:=by
 unfold nH;rw [b6]
 constructor
 .rintro ⟨t,C,h⟩;obtain ⟨r,A,rfl⟩:=aU.1 h;exact ⟨C,A⟩
 rintro ⟨h1,h2⟩;exact ⟨x.1,h1,aU.2 ⟨x.2,h2,rfl⟩⟩
def xg(ts):SpG (rkR ts) (nH ts) (cL ts):=by
 have:=KA (rk:=rkR ts) (nH ts) [] [] (fun x _=>Kv) ⟨au,au,au⟩;rw [List.nil_append] at this;exact this
def rk1(ts:List Ty)(d:Sp):Nat:=Ff ts d-1
def SQ(h:Fk ts):XO ts (rk1 ts) where
 pos:=fun t I r D e C d A=>by
  have:=(XP h).pos t I r D e C d A;unfold rk1;omega
 neg:=fun t I r D e C d A=>by
  have:=(XP h).neg t I r D e C d A;have:=Kv (ts:=ts) (x:=d);unfold rk1;omega
def iy(ts:List Ty):Z6 ts (cL ts) (rk1 ts) where
 mem:=fun i g hi x I=>by
  obtain ⟨h1,h2⟩:=(xg ts).mem i g hi x I;obtain ⟨h,A⟩:=zU.1 h1;have J:Ff ts (x.1.name,x.2.name)=i+1:=h2;exact ⟨h,A,by unfold rk1;omega⟩
 cov:=fun t D r C=>by
  obtain ⟨g,h1,h2⟩:=(xg ts).cov (t,r) (zU.2 ⟨D,C⟩);exact ⟨g,h1,h2⟩
section
variable {ts:List Ty}{gs:List Tu}
def V9(h:Fk ts)(J:∀t∈gs,Cc ts t):MK (cL ts) (dr gs) where
 hds:=fun a ha b af e1 A=>Ze (je gs).ap ha af e1 A
 lns:=fun g J x C y D e1 A=>by
  obtain ⟨i,hi⟩:=ip.1 J;obtain ⟨I,Q,_⟩:=(iy ts).mem i g hi x C;obtain ⟨b1,ac,_⟩:=(iy ts).mem i g hi y D;have f1:=h.k.fnd _ I;rw [e1,h.k.fnd _ b1] at f1;have ad:y.1=x.1:=gK f1;have f2:=h.k.fnr _ I _ Q;rw [<-ad,A,h.k.fnr _ b1 _ ac] at f2;rw [gK f2]
 ap:=by
  rw [iT];intro i j hi ah ak x C y D ⟨e1,A⟩;obtain ⟨_,_,a⟩:=(iy ts).mem i _ (aI hi) x C;obtain ⟨_,_,b⟩:=(iy ts).mem j _ (aI ah) y D;rw [e1,A,b] at a;omega
 str:=fun g ag x C y D e s hs V=>by
  obtain ⟨i,hi⟩:=ip.1 ag;obtain ⟨I,Q,aj⟩:=(iy ts).mem i g hi x C;rw [(Iz gs).ts y D,e] at hs;have U:=Kw h (SQ h) J I Q hs;have Y:=xa.2 V;have am:=sP (iy ts) hi Y;unfold Nz at U
  split at U
  .omega
  rename_i hl;apply hl;unfold fi;rw [uo h (iy ts) hi Y,fS];obtain ⟨z,al,R,ab,e',rfl⟩:=V
  show bC R.id=true
  have ai:=((je gs).ts R ab).2;obtain ⟨u,Z⟩:=List.exists_mem_of_ne_nil _ ai;rw [(Iz gs).ts R ab] at Z;obtain ⟨h1,h2,ae⟩:=lO.1 Z;rw [<-ae];exact (J u h1).id
def SR{tl}(I:MC b w mv ts tl)(h:Fk ts)(Q:∀t∈gs,Cc ts t)(Z:gs.length<=1000):PuR ts gs:=by
 have V:∀t∈ts,t.rels.length<=1000/\∀r∈t.rels,(aF r.body).length<=1000:=fun t A=>by
  rw [<-I.fst] at A;obtain ⟨p,ab,rfl⟩:=aU.1 A;obtain ⟨rl,U⟩:=I.rels p ab;exact ⟨U.len,U.okp⟩
 refine ⟨Z,fun t A=>(Q t A).low,fun g Y x ad=> ?_,V9 h Q,?_⟩
 .obtain ⟨i,hi⟩:=ip.1 Y;obtain ⟨C,D,_⟩:=(iy ts).mem i g hi x ad;have J:=h.e _ C _ D;have hn:=(h.n _ C).2 _ D;refine ⟨zR _ J,?_,?_,fun i hi=> ?_⟩
  .have:=xd x.2.name x.2.body 0 J;have:=(V _ C).2 _ D;omega
  .unfold maxLen;omega
  unfold gE at hi
  rcases aW.1 hi with hi|hi
  .have:=xe x.2.name ai x.2.body 0 J i hi;unfold maxLen;omega
  rw [aX] at hi;subst hi
  show (⟨#[]⟩:ae).size<=maxLen
  decide
 rw [(xg ts).sum];unfold nH;rw [List.length_flatMap];have key:∀l:List Ty,(∀t∈l,t.rels.length<=1000)->(l.map fun t=>(t.rels.map fun r=>((t,r):TR)).length).sum<=l.length*1000:=by
  intro l
  induction l with
  |nil=>intro _;simp
  |cons t l ih=>
   intro R;have:=ih (fun u ac=>R u (eY _ ac));have:=R t ep;simp only [bZ,List.sum_cons,bO,List.length_cons] at*;omega
 have:=key ts (fun t A=>(V t A).1);have:=I.len;omega
end
abbrev nZ:=@Nat.add_zero
def S5 (h:aD:=by
 go_wp2;go_roundw
 .exact ⟨k+1,ai,by go_num,by first|rfl|trivial,HN3⟩
 simp [intOf];omega):aD:=h
structure GP where
 b:Nat
 y:Nat
 bm:Nat
 tv:ag
 gv:ag
 yv:ag
 kv:ag
 rv:ag
 pv:ag
 kl:List (ae×Nat)
 rl:List RV
 pl:List PV
 l:List PX
 ss:List ae
 th:List (ae×ae)
 bs:List Nat
 kd:ae
 who:ae
def NB(p:ae×ae):List ag:=[aj p.1,aj p.2]
structure GI(w:af)(g:GP)(K:Nat->Nat->Bool):Prop where
 blk:aL w g.b #[bc g.y,aj g.kd,aj g.who,g.gv,g.yv] 351
 du:DU w g.y (.pointer (some (aC g.bm 5))) g.tv g.ss
 dm:DM w g.bm g.kv g.rv g.pv g.kl g.rl g.pl g.l
 th:w.ownsRow 0 382 2 g.gv g.th.length (g.th.flatMap NB)
 few:g.th.length<=1000
 yr:w.ownsRow 0 353 1 g.yv g.rl.length (g.bs.map fun q=>aw (some (aN q)) g.th.length g.th.length)
 bl:g.bs.length=g.rl.length
 yb:∀(r:Nat)(q:Nat),g.bs[r]? =some q->yf w q g.th.length (K r) 4
 mb:∃cs,aL w g.bm cs 252
 nd:g.bs.Nodup
def GI.below{g K}(h:GI w g K)(k:an w w'):GI w' g K:=
 ⟨h.blk.below k,h.du.below k,h.dm.below k,aB h.th k,h.few,aB h.yr k,h.bl,fun r q C=>(h.yb r q C).below k,by obtain ⟨cs,A⟩:=h.mb;exact ⟨cs,A.below k⟩,h.nd⟩
def GI.five{g K}(h:GI w g K):w.cell? (aN g.b)=some (bc g.y)/\w.cell? (aC g.b 1)=some (aj g.kd)/\w.cell? (aC g.b 2)=some (aj g.who)/\w.cell? (aC g.b 3)=some g.gv/\w.cell? (aC g.b 4)=some g.yv:=⟨h.blk.cell rfl,h.blk.cell rfl,h.blk.cell rfl,h.blk.cell rfl,h.blk.cell rfl⟩
def xj(th:List (ae×ae))(k n:ae):Int:=match th.findIdx? (fun p=>eqs p.1 k&&eqs p.2 n) with
 |some i=>(i:Int)
 |none=> -1
def Zw{th n}(hk:k<th.length)(hn:∀j,(h:j<th.length)->j<k->(eqs th[j].1 x&&eqs th[j].2 n)=false)(he:(eqs th[k].1 x&&eqs th[k].2 n)=true):xj th x n=k:=by
 unfold xj;have:th.findIdx? (fun p=>eqs p.1 x&&eqs p.2 n)=some k:=by
  exact Gk
 rw [this]
def S6{th n}(hn:∀j,(h:j<th.length)->(eqs th[j].1 x&&eqs th[j].2 n)=false):xj th x n= -1:=by
 unfold xj;have:th.findIdx? (fun p=>eqs p.1 x&&eqs p.2 n)=none:=by
  exact Gj
 rw [this]
def xk(b c0 c1 c2 c4 gv th x n w)(Y:aL w b #[c0,c1,c2,gv,c4] 351)(Q:w.ownsRow 0 382 2 gv th.length (th.flatMap NB))(ah:th.length<=1000):
  Calls prog 200 #[bc b,aj x,aj n] w fun e w'=>e=bj (ar (xj th x n))/\w'=w:=by
 obtain ⟨ga,gc,rfl⟩:=ax Q;have af:w.cell? (aC b 3)=some (aw ga th.length gc):=Y.cell rfl;generalize hR:xj th x n=R;go_enter func200,ntmps200;go_wp2_with fail
 go_loopw [7] (fun u wr=>∃k:Nat,k<=th.length/\u=ar k/\wr=w/\(∀j,(h:j<th.length)->j<k->(eqs th[j].1 x&&eqs th[j].2 n)=false)) (fun u _=>th.length-(intOf u).toNat)
 .exact ⟨0,ai,rfl,rfl,(fun j h V=>ai)⟩
 .obtain ⟨k,ag,rfl,ae,D⟩:=hrel;subst ae
  by_cases U:k<th.length
  .have ac:(k:Int)<(th.length:Int):=by omega
   obtain ⟨g,c,e1,hc⟩:=bo NB 2 (fun _=>rfl) Q k th[k] (aI U);simp only [aK,bY] at e1;obtain ⟨rfl,rfl⟩:=e1;have k0:=hc 0 _ ai rfl;have k1:=hc 1 _ ai rfl;rw [nZ] at k0;have I:=(fun (A:(eqs th[k].1 x&&eqs th[k].2 n)=false)=>show ∀j,(h:j<th.length)->j<k+1->(eqs th[j].1 x&&eqs th[j].2 n)=false from fun j h V=>by
    by_cases e:j=k
    .subst e;exact A
    exact D j h ai)
   have J:=fun (A:(eqs th[k].1 x&&eqs th[k].2 n)=true)=>Zw U D A
   generalize th[k]=p at*;obtain ⟨p1,p2⟩:=p;simp only at k0 k1 I J
   cases A:eqs p1 x
   .have Z:(p1.toList==x.toList)=false:=by rw [<-aQ];exact A
    have HN3:=I (by rw [A];rfl);exact S5
   have Z:(p1.toList==x.toList)=true:=by rw [<-aQ];exact A
   cases C:eqs p2 n
   .have ad:(p2.toList==n.toList)=false:=by rw [<-aQ];exact C
    have HN3:=I (by rw [A,C];rfl);exact S5
   have ad:(p2.toList==n.toList)=true:=by rw [<-aQ];exact C
   have hF:=J (by rw [A,C];rfl);exact Gb
  have ac:¬((k:Int)<(th.length:Int)):=ai;have hF:=S6 (fun j ab=>D j ab ai);exact Gb
def Ch(K:Nat->Nat->Bool)(r k a b:Nat):Bool:=if a=r/\b=k then true else K a b
def sR{cs'}(h:aL w a cs T)(k:aL w b cs' T')(A:T≠T'):a≠b:=by
 intro e;subst e;unfold aL at h k;rw [h] at k;exact A (by cases k;rfl)
def mI(h:w.ownsRow base e size v n xs)(C:aL w q cs T)(D:e≠T)(o u):(w.setCell (aC q o) u).ownsRow base e size v n xs:=
 az h (fun g' I f _ A=>dY _ _ _ _ (fun (e':g'=q)=>by
  subst e';unfold aL at C;rw [C] at A
  cases A
  exact D rfl))
def GI.set{g K}(h:GI w g K){r}(C:g.bs[r]? =some q):GI (w.setCell (aC q k) (.bool true)) g (Ch K r k):=by
 have A:aL w q _ 4:=h.yb r q C;obtain ⟨cs,U⟩:=h.mb;have I:=YB.kd (w':=w.setCell (aC q k) (.bool true)) (⟨h.dm,cs,U⟩:YB w g.bm g.kv g.rv g.pv g.kl g.rl g.pl g.l) (KD.set A DY k (.bool true));refine ⟨h.blk.other (sR h.blk A ay) _,⟨h.du.blk.other (sR h.du.blk A ay) _,mI h.du.row A ay _ _,h.du.apart,h.du.most⟩,I.dm,mI h.th A ay _ _,h.few,mI h.yr A ay _ _,h.bl,fun a D ha=> ?_,I.blk,h.nd⟩
 by_cases e:a=r
 .subst e;rw [C] at ha
  cases ha
  have:=(h.yb a q C).set k true;refine this.congr (fun b Q=> ?_);unfold Ch
  by_cases e:b=k
  .rw [if_pos e,if_pos ⟨rfl,e⟩]
  rw [if_neg e,if_neg (fun e'=>e e'.2)]
 have V:D≠q:=fun e'=>by
  subst e';obtain ⟨h1,e1⟩:=bD.1 ha;obtain ⟨h2,J⟩:=bD.1 C;exact e ((List.getElem_inj h.nd).1 (e1.trans J.symm))
 have R:=h.yb a D ha;have:yf (w.setCell (aC q k) (.bool true)) D g.th.length (K a) 4:=aL.other R V _;refine this.congr (fun b Q=> ?_);unfold Ch;rw [if_neg (fun e'=>e e'.1)]
def zc1q (h:aD:=by
 rw [eo,aI (by rw [Un.bl];exact hnl)];rfl):aD:=h
def XR (h:aD:=by
 rw [Un.bl];exact hnl):aD:=h
def S7 (h:aD:=by
 rw [jy];intro s hs;obtain ⟨j,A,rfl⟩:=dB hs;rw [h j A];simp):aD:=h
def S8(q:br) (h:cj br->aD:=by
 intro zq;have CT:=(fun (w':af) (hb:an W7 w')=>show Calls prog 200 #[bc g.b,aj T.sub,aj T.who] w' (fun e w''=>e=bj (ar (m1:Int))/\w''=w') from by
  have I:=Un.below hb;have:=xk g.b _ _ _ _ _ g.th T.sub T.who w' I.blk I.th I.few;rw [hm1] at this;exact this)
 have Zx:(n1:Int)<(g.rl.length:Int):=ai;have Zy:(m1:Int)<(g.th.length:Int):=ai
 revert CT Zx Zy
 exact zq.1):aD:=h ⟨q⟩
def S9(q:br) (h:cj br->aD:=by
 intro zq;have b5:=(aA wr.heap.size wr).alloc aH (.cells #[aj T.kind,aj T.id,aj T.rel,aj T.sub,aj T.who,aj T.of,aj S] 264);have XT:=hb.trans (b5.mono hb.size);have ui:=I1.below b5
 revert b5 XT ui
 exact zq.1):aD:=h ⟨q⟩
def Ta(q:br) (h:cj br->aD:=by
 intro zq;obtain ⟨yg,yc,hyv,yn⟩:=aZ Un.yr n1 (aw (some (aN (g.bs[n1]'XR))) g.th.length g.th.length) zc1q;have ym:=(Un.yb n1 _ (aI XR)).cell hml
 revert yg yc hyv yn ym
 exact zq.1):aD:=h ⟨q⟩
def Tb(q:br) (h:cj br->aD:=by
 intro zq;have hin:(i:Int)<(g.ss.length:Int):=by omega
 obtain ⟨tg,tc2,e1,hc⟩:=bo JN 7 (fun _=>rfl) I1.du.row i g.ss[i] (aI hlt)
 revert hin tg tc2 e1 hc
 exact zq.1):aD:=h ⟨q⟩
def zX:ae:=⟨#[42]⟩
def M4:ae:=⟨#[]⟩
def oJ:M4.toList=[]:=by rw [aT];rfl
def n7:zX.toList=[42]:=by rw [aT];rfl
def XU(X:RV)(id:ae)(t:Tu):Bool:=eqs t.kind X.kd&&(eqs t.id id&&eqs t.rel X.nm)
def Uo(g:GP)(t:Tu):Bool:=eqs t.of M4&&(eqs t.sub g.kd&&(eqs t.who g.who||eqs t.who zX))
def ofQ(g:GP)(K:Nat->Nat->Bool)(t:Tu):Bool:= !eqs t.of M4&&K (bi t.sub t.of g.rl 0).toNat (xj g.th t.sub t.who).toNat
def M5(g:GP)(K:Nat->Nat->Bool)(X:RV)(id:ae)(t:Tu):Bool:=XU X id t&&(Uo g t||ofQ g K t)
def tI(g:GP)(K:Nat->Nat->Bool)(X:RV)(id:ae):Bool:=g.ss.any fun s=>M5 g K X id (tt s)
def Tc(g:GP)(t:Tu):Prop:=eqs t.of M4=false->∃(n m:Nat),bi t.sub t.of g.rl 0=n/\n<g.rl.length/\xj g.th t.sub t.who=m/\m<g.th.length
def Wg{g K}(h:∀j,(h:j<g.ss.length)->M5 g K X id (tt g.ss[j])=false):tI g K X id=false:=by
 unfold tI;exact S7
def Wh{g K}(A:j<g.ss.length)(h:M5 g K X id (tt g.ss[j])=true):tI g K X id=true:=dh.2 ⟨_,bu A,h⟩
def Ci(g K)(r k:Nat)(X)(p:ae×ae)(w)(h:GI w g K)(a1:g.rl[r]? =some X)(aY:g.th[k]? =some p)(ba:∀s∈g.ss,Tc g (tt s)):
  Calls prog 255 #[bc g.b,ar r,ar k] w fun e w'=>e=bj (.bool (tI g K X p.2))/\an w w':=by
 obtain ⟨bM,rc,bp,bJ,bK,bL,r3⟩:=h.dm.rat r X a1;have bF:=(bD.1 a1).1;have bC:=(bD.1 aY).1;have bG:(r:Int)<(g.rl.length:Int):=ai;have bE:(k:Int)<(g.th.length:Int):=ai;have bH:=h.du.most;obtain ⟨bw,b1,bx,bz,bA⟩:=h.five;have bQ:w.cell? (aN g.y)=some (.pointer (some (aC g.bm 5))):=h.du.blk.cell rfl;have bq:=h.dm.c6;rw [bp] at bq;generalize aW:tI g K X p.2=R;go_enter func255,ntmps255;go_wp2_with fail
 go_loopw [8] (fun u wr=>∃i:Nat,i<=g.ss.length/\u=ar i/\an w wr/\aL wr w.heap.size #[aj X.kd,aj X.nm,ar X.pl,ar X.ex] 172/\(∀j,(h:j<g.ss.length)->j<i->M5 g K X p.2 (tt g.ss[j])=false)) (fun u _=>g.ss.length-(intOf u).toNat)
 .exact ⟨0,ai,rfl,((aA w.heap.size w).alloc aH (.cells #[aj X.kd,aj X.nm,ar X.pl,ar X.ex] 172)),(aL.new w #[aj X.kd,aj X.nm,ar X.pl,ar X.ex] 172),(fun j h a8=>ai)⟩
 .obtain ⟨i,hi,rfl,hb,aX,aP⟩:=hrel;have I1:=h.below hb;obtain ⟨a3,aF,aG,ah,a4⟩:=I1.five;have bR:wr.cell? (aN g.y)=some (.pointer (some (aC g.bm 5))):=I1.du.blk.cell rfl;have bv:wr.cell? (aC g.y 1)=some g.tv:=I1.du.blk.cell rfl;obtain ⟨ta,tc,a2⟩:=ax I1.du.row;rw [a2] at bv
  by_cases hlt:i<g.ss.length
  .refine Tb ?_;intro hin tg tc2 e1 hc;rw [a2] at e1;simp only [aK,bY] at e1;obtain ⟨rfl,rfl⟩:=e1;have t0:=hc 0 _ ai rfl;refine vq ?_;intro t1 t2 t3 t4 t5;have t6:=hc 6 _ ai rfl;rw [nZ] at t0;have Z:=(fun (aB:M5 g K X p.2 (tt g.ss[i])=false)=>show ∀j,(h:j<g.ss.length)->j<i+1->M5 g K X p.2 (tt g.ss[j])=false from fun j h a8=>by
    by_cases e:j=i
    .subst e;exact aB
    exact aP j h ai)
   have av:=fun (aB:M5 g K X p.2 (tt g.ss[i])=true)=>(Wh hlt aB).symm.trans aW
   have aS:=ba _ (bu hlt);unfold tt at Z av aS;generalize (b8 g.ss[i]).1=T at*;generalize g.ss[i]=S at*;refine S9 ?_;intro b5 XT ui;have au:=aX.below b5;have ab:=aL.new wr #[aj T.kind,aj T.id,aj T.rel,aj T.sub,aj T.who,aj T.of,aj S] 264;have bI:¬(w.heap.size=wr.heap.size):=by have:=aX.lt;omega
   go_wp2_with fail;generalize wr.alloc (.cells #[aj T.kind,aj T.id,aj T.rel,aj T.sub,aj T.who,aj T.of,aj S] 264)=W at*;generalize wr.heap.size=bt at*;obtain ⟨a3,aF,aG,ah,a4⟩:=ui.five;obtain ⟨bh,bB,bi,bn⟩:=bo NB 2 (fun _=>rfl) ui.th k p aY;have k1:W.cell? (aC bh (k*2+1))=some (aj p.2):=bn 1 _ ai rfl;rw [bi] at ah;have bO:W.cell? (aN w.heap.size)=some (aj X.kd):=au.cell rfl;have bP:W.cell? (aC w.heap.size 1)=some (aj X.nm):=au.cell rfl;have t0:W.cell? (aN bt)=some (aj T.kind):=ab.cell rfl;have t1:W.cell? (aC bt 1)=some (aj T.id):=ab.cell rfl;have t2:W.cell? (aC bt 2)=some (aj T.rel):=ab.cell rfl;have C:=aA W.heap.size W
   go_cut [69] (fun s aJ=>s=.bool (!XU X p.2 T)/\an W aJ)
   .cases h1:eqs T.kind X.kd
    .have V:(T.kind.toList==X.kd.toList)=false:=by rw [<-aQ];exact h1
     go_quiet (fail)
     go_wp2
     go_meet
     case rel=>exact ⟨by simp [XU,h1],cJ C _⟩
    have V:(T.kind.toList==X.kd.toList)=true:=by rw [<-aQ];exact h1
    cases h2:eqs T.id p.2
    .have ay:(T.id.toList==p.2.toList)=false:=by rw [<-aQ];exact h2
     go_quiet (fail)
     go_wp2
     go_meet
     case rel=>exact ⟨by simp [XU,h1,h2],cJ C _⟩
    have ay:(T.id.toList==p.2.toList)=true:=by rw [<-aQ];exact h2
    cases D:eqs T.rel X.nm
    .have az:(T.rel.toList==X.nm.toList)=false:=by rw [<-aQ];exact D
     go_quiet (fail)
     go_wp2
     go_meet
     case rel=>exact ⟨by simp [XU,h1,h2,D],cJ C _⟩
    have az:(T.rel.toList==X.nm.toList)=true:=by rw [<-aQ];exact D
    go_quiet (fail)
    go_wp2
    go_meet
    case rel=>exact ⟨by simp [XU,h1,h2,D],cJ C _⟩
   obtain ⟨rfl,J⟩:=hcut;have al:=XT.trans (J.mono XT.size);have aO:=ui.below J;have aT:=au.below J;have ac:=ab.below J
   cases ag:XU X p.2 T
   .have U:=Z (by unfold M5;rw [ag];rfl);go_wp2_with fail;exact ⟨⟨i+1,ai,by go_num,al,aT,U⟩,by simp [intOf];omega⟩
   obtain ⟨Q,bb⟩:∃z,z=wc:=⟨_,rfl⟩;subst bb;obtain ⟨a3,aF,aG,ah,a4⟩:=aO.five;have t3:Q.cell? (aC bt 3)=some (aj T.sub):=ac.cell rfl;have t4:Q.cell? (aC bt 4)=some (aj T.who):=ac.cell rfl;have t5:Q.cell? (aC bt 5)=some (aj T.of):=ac.cell rfl;have C:=aA Q.heap.size Q
   go_upto_region 7 with fail
   go_cut [95] (fun s aJ=>s=.bool (Uo g T)/\an Q aJ)
   .cases h1:eqs T.of M4
    .have V:(T.of.toList== [])=false:=by rw [<-h1,aQ,oJ]
     go_quiet (fail)
     go_wp2
     go_meet
     case rel=>exact ⟨by simp [Uo,h1],cJ C _⟩
    have V:(T.of.toList== [])=true:=by rw [<-h1,aQ,oJ]
    cases h2:eqs T.sub g.kd
    .have ay:(T.sub.toList==g.kd.toList)=false:=by rw [<-aQ];exact h2
     go_quiet (fail)
     go_wp2
     go_meet
     case rel=>exact ⟨by simp [Uo,h1,h2],cJ C _⟩
    have ay:(T.sub.toList==g.kd.toList)=true:=by rw [<-aQ];exact h2
    cases D:eqs T.who g.who
    .have az:(T.who.toList==g.who.toList)=false:=by rw [<-aQ];exact D
     cases ad:eqs T.who zX
     .have a9:(T.who.toList== [42])=false:=by rw [<-ad,aQ,n7]
      go_quiet (fail)
      go_wp2
      go_meet
      case rel=>exact ⟨by simp [Uo,h1,h2,D,ad],cJ C _⟩
     have a9:(T.who.toList== [42])=true:=by rw [<-ad,aQ,n7]
     go_quiet (fail)
     go_wp2
     go_meet
     case rel=>exact ⟨by simp [Uo,h1,h2,D,ad],cJ C _⟩
    have az:(T.who.toList==g.who.toList)=true:=by rw [<-aQ];exact D
    go_quiet (fail)
    go_wp2
    go_meet
    case rel=>exact ⟨by simp [Uo,h1,h2,D],cJ C _⟩
   obtain ⟨rfl,J⟩:=hcut;have Y:=al.trans (J.mono al.size);have Un:=aO.below J;have aU:=aT.below J;have ap:=ac.below J
   cases aE:Uo g T
   .obtain ⟨W7,be⟩:∃z,z=wc:=⟨_,rfl⟩;subst be;have t5:W7.cell? (aC bt 5)=some (aj T.of):=ap.cell rfl
    cases h1:eqs T.of M4
    .have V:(T.of.toList== [])=false:=by rw [<-h1,aQ,oJ]
     obtain ⟨n1,m1,a0,hnl,hm1,hml⟩:=aS h1;refine Ta ?_;intro yg yc hyv yn ym;generalize g.bs[n1]'_=a5 at yn ym;have aR:=(show M5 g K X p.2 T=K n1 m1 from by
      unfold M5 ofQ;rw [ag,aE,h1,a0,hm1];simp)
     generalize K n1 m1=aV at*;obtain ⟨c0,aF,aG,ah,c1⟩:=Un.five;rw [hyv] at c1;have c2:W7.cell? (aN g.y)=some (.pointer (some (aC g.bm 5))):=Un.du.blk.cell rfl;have c3:W7.cell? (aC bt 3)=some (aj T.sub):=ap.cell rfl;have a7:W7.cell? (aC bt 4)=some (aj T.who):=ap.cell rfl;have a6:=(fun (w':af) (hb:an W7 w')=>show Calls prog 132 #[.pointer (some (aC g.bm 5)),aj T.sub,aj T.of] w' (fun e w''=>e=bj (ar (n1:Int))/\an w' w'') from by
      have:=ef g.bm g.kv g.rv g.pv g.kl g.rl g.pl g.l T.sub T.of w' (Un.dm.below hb);rw [a0] at this;exact this)
     refine S8 ?_;intro CT Zx Zy;have ak:=aA W7.heap.size W7
     go_upto_region 9 with fail
     go_region_held3 (fun w'=>w'.cell? (aN g.b)=some (bc g.y)/\w'.cell? (aC g.b 4)=some (aw (some (aN yg)) g.rl.length yc)/\w'.cell? (aN g.y)=some (.pointer (some (aC g.bm 5)))/\w'.cell? (aC bt 3)=some (aj T.sub)/\w'.cell? (aC bt 4)=some (aj T.who)/\w'.cell? (aC bt 5)=some (aj T.of)/\w'.cell? (aC yg n1)=some (aw (some (aN a5)) g.th.length g.th.length)/\w'.cell? (aC a5 m1)=some (.bool aV)) (go_keep)
      ((first|(go_at_call 132;refine (a6 _ ((by first|exact A|exact (cq ak)):an W7 _)).mono ?_;rintro e w5 ⟨rfl,bg⟩;have A:=(ld (a:=W7) (B:=W7.heap.size) ((by first|exact A|exact (cq ak)):an W7 _) (bg.mono wZ));have d0:=am c0 A;have d1:=am c1 A;have d2:=am c2 A;have d3:=am c3 A;have d4:=am a7 A;have d5:=am t5 A;have d6:=am yn A;have d7:=am ym A)|(go_at_call 200;refine (CT _ ((by first|exact (cq A)|exact (cq ak)):an W7 _)).mono ?_;rintro e bN ⟨rfl,rfl⟩)))
     have aM:=Y.trans (A.mono Y.size)
     cases aV
     .have U:=Z aR;go_wp2_with fail;exact ⟨⟨i+1,ai,by go_num,aM,(aU.below A),U⟩,by simp [intOf];omega⟩
     have hF:=av aR;subst hF;go_wp2;go_ret;exact ⟨rfl,aM⟩
    have V:(T.of.toList== [])=true:=by rw [<-h1,aQ,oJ]
    have U:=Z (by unfold M5 ofQ;rw [ag,aE,h1];rfl)
    go_upto_region 9 with fail
    go_quiet (fail)
    go_wp2_with fail;exact ⟨⟨i+1,ai,by go_num,cJ Y _,aU.drewN _,U⟩,by simp [intOf];omega⟩
   have hF:=av (by unfold M5;rw [ag,aE];rfl);subst hF;go_wp2;go_ret;exact ⟨rfl,Y⟩
  have hin:¬((i:Int)<(g.ss.length:Int)):=ai;have hF:=Wg (fun j bk=>aP j bk ai);rw [aW] at hF;subst hF;go_wp2;go_ret;exact ⟨rfl,hb⟩
def aaU (h:aD:=by
 first|exact cJ bp _|exact aA _ _):aD:=h
def NC(g:GP)(X:RV)(Q:PV)(id:ae)(t:Tu):Bool:=eqs t.kind X.kd&&(eqs t.id id&&(eqs t.rel Q.nb&&(eqs t.of M4&&(!eqs t.who zX&&decide (0<=bi t.sub Q.nr g.rl 0)))))
def Td(g:GP)(K:Nat->Nat->Bool)(X:RV)(Q:PV)(id:ae)(t:Tu):Bool:=NC g X Q id t&&K (bi t.sub Q.nr g.rl 0).toNat (xj g.th t.sub t.who).toNat
def xl(g:GP)(K:Nat->Nat->Bool)(X:RV)(Q:PV)(id:ae):Bool:=g.ss.any fun s=>Td g K X Q id (tt s)
def ThK(g:GP)(t:Tu):Prop:=∃m:Nat,xj g.th t.sub t.who=m/\m<g.th.length
def Wi{g K Q}(h:∀j,(h:j<g.ss.length)->Td g K X Q id (tt g.ss[j])=false):xl g K X Q id=false:=by
 unfold xl;exact S7
def Wj{g K Q}(A:j<g.ss.length)(h:Td g K X Q id (tt g.ss[j])=true):xl g K X Q id=true:=dh.2 ⟨_,bu A,h⟩
def xm(k n):∀(rl:List RV)(i:Nat),bi k n rl i= -1\/∃j:Nat,bi k n rl i=j/\i<=j/\j<i+rl.length
 | [],i=> .inl rfl
 |x::xs,i=>by
  rw [bi]
  split
  .exact .inr ⟨i,rfl,ai,au⟩
  rcases xm k n xs (i+1) with h|⟨j,h1,h2,A⟩
  .exact .inl h
  exact .inr ⟨j,h1,ai,by simp only [List.length_cons];omega⟩
def M6(g K)(r k:Nat)(X)(p:ae×ae)(Q ga pa sa)(V U pn Z ac ab:Nat)(w)(h:GI w g K)(bg:g.rl[r]? =some X)(bb:g.th[k]? =some p)(bJ:∀s∈g.ss,ThK g (tt s)):
  Calls prog 256 #[bc g.b,ar r,ar k,.agg #[ar Q.kind,aw ga V U,aj Q.nb,aj Q.nr,ar Q.pa,ar Q.pr,aw pa pn Z,aw sa ac ab]] w fun e w'=>e=bj (.bool (xl g K X Q p.2))/\an w w':=by
 have aG:=(aA w.heap.size w).alloc aH (dV ar Q.kind aw ga V U aj Q.nb aj Q.nr ar Q.pa ar Q.pr aw pa pn Z aw sa ac ab);have ad:=h.below aG;obtain ⟨ce,rc,bS,b9,cb,cd,r3⟩:=ad.dm.rat r X bg;have b4:=(bD.1 bg).1;have b0:=(bD.1 bb).1;have b6:(r:Int)<(g.rl.length:Int):=ai;have b2:(k:Int)<(g.th.length:Int):=ai;have b7:=h.du.most;obtain ⟨a0,a1,a2,a3,a4⟩:=ad.five;have cg:(w.alloc (dV ar Q.kind aw ga V U aj Q.nb aj Q.nr ar Q.pa ar Q.pr aw pa pn Z aw sa ac ab)).cell? (aN g.y)=some (.pointer (some (aC g.bm 5))):=ad.du.blk.cell rfl;have bT:=ad.dm.c6;rw [bS] at bT;have aU:=aL.new w #[ar Q.kind,aw ga V U,aj Q.nb,aj Q.nr,ar Q.pa,ar Q.pr,aw pa pn Z,aw sa ac ab] 255;have b3:w.heap.size<(w.alloc (dV ar Q.kind aw ga V U aj Q.nb aj Q.nr ar Q.pa ar Q.pr aw pa pn Z aw sa ac ab)).heap.size:=aU.lt;generalize ba:xl g K X Q p.2=R;go_enter func256,ntmps256
 go_upto_region 1 with fail
 generalize w.alloc (dV ar Q.kind aw ga V U aj Q.nb aj Q.nr ar Q.pa ar Q.pr aw pa pn Z aw sa ac ab)=ag at*;have b1:=(aA ag.heap.size ag).alloc aH (.cells #[aj X.kd,aj X.nm,ar X.pl,ar X.ex] 172);have al:=aG.trans (b1.mono aG.size);have bv:=ad.below b1;have aV:=aU.below b1;have bx:=aL.new ag #[aj X.kd,aj X.nm,ar X.pl,ar X.ex] 172;go_wp2_with fail;generalize ag.alloc (.cells #[aj X.kd,aj X.nm,ar X.pl,ar X.ex] 172)=bA at*;generalize ag.heap.size=bB at*
 go_loopw [10] (fun u wr=>∃i:Nat,i<=g.ss.length/\u=ar i/\an bA wr/\(∀j,(h:j<g.ss.length)->j<i->Td g K X Q p.2 (tt g.ss[j])=false)) (fun u _=>g.ss.length-(intOf u).toNat)
 .exact uK
 .obtain ⟨i,hi,rfl,hb,aS⟩:=hrel;have I1:=bv.below hb;obtain ⟨bk,aO,aP,av,bn⟩:=I1.five;have bV:wr.cell? (aC g.y 1)=some g.tv:=I1.du.blk.cell rfl;obtain ⟨ta,tc,bh⟩:=ax I1.du.row;rw [bh] at bV
  by_cases hlt:i<g.ss.length
  .refine Tb ?_;intro hin tg tc2 e1 hc;rw [bh] at e1;simp only [aK,bY] at e1;obtain ⟨rfl,rfl⟩:=e1;have t0:=hc 0 _ ai rfl;refine vq ?_;intro t1 t2 t3 t4 t5;have t6:=hc 6 _ ai rfl;rw [nZ] at t0;have aB:=(fun (aM:Td g K X Q p.2 (tt g.ss[i])=false)=>show ∀j,(h:j<g.ss.length)->j<i+1->Td g K X Q p.2 (tt g.ss[j])=false from fun j h bX=>by
    by_cases e:j=i
    .subst e;exact aM
    exact aS j h ai)
   have a8:=fun (aM:Td g K X Q p.2 (tt g.ss[i])=true)=>(Wj hlt aM).symm.trans ba
   have aW:=bJ _ (bu hlt);unfold tt at aB a8 aW;generalize (b8 g.ss[i]).1=T at*;generalize g.ss[i]=S at*;refine S9 ?_;intro b5 XT ui;have aX:=aL.new wr #[aj T.kind,aj T.id,aj T.rel,aj T.sub,aj T.who,aj T.of,aj S] 264
   go_upto_region 6 with fail
   generalize wr.alloc (.cells #[aj T.kind,aj T.id,aj T.rel,aj T.sub,aj T.who,aj T.of,aj S] 264)=W at*;generalize wr.heap.size=bt at*;obtain ⟨c0,aO,aP,av,bn⟩:=ui.five;have c1:W.cell? (aN g.y)=some (.pointer (some (aC g.bm 5))):=ui.du.blk.cell rfl;have c2:W.cell? (aC bt 3)=some (aj T.sub):=aX.cell rfl;have c3:W.cell? (aC w.heap.size 3)=some (aj Q.nr):=(aV.below XT).cell rfl;have bq:=fun (w':af) (hb:an W w')=>ef g.bm g.kv g.rv g.pv g.kl g.rl g.pl g.l T.sub Q.nr w' (ui.dm.below hb)
   have aR:=aA W.heap.size W;have bM:=xm T.sub Q.nr g.rl 0;generalize au:bi T.sub Q.nr g.rl 0=fn at*
   go_region_held3 (fun w'=>w'.cell? (aN g.b)=some (bc g.y)/\w'.cell? (aN g.y)=some (.pointer (some (aC g.bm 5)))/\w'.cell? (aC bt 3)=some (aj T.sub)/\w'.cell? (aC w.heap.size 3)=some (aj Q.nr)) (go_keep)
    ((go_at_call 132;refine (bq _ ((cq aR):an W _)).mono ?_;rintro e w5 ⟨rfl,bL⟩;have A:=(ld (a:=W) (B:=W.heap.size) ((cq aR):an W _) (bL.mono wZ));have d0:=am c0 A;have d1:=am c1 A;have d2:=am c2 A;have d3:=am c3 A))
   have ap:=XT.trans (A.mono XT.size);have az:=ui.below A;have J:=aX.below A;obtain ⟨bk,aO,aP,av,bn⟩:=az.five;obtain ⟨bN,bZ,bO,bR⟩:=bo NB 2 (fun _=>rfl) az.th k p bb;have k1:w5.cell? (aC bN (k*2+1))=some (aj p.2):=bR 1 _ ai rfl;rw [bO] at av;have cf:w5.cell? (aN bB)=some (aj X.kd):=(bx.below ap).cell rfl;have p2:w5.cell? (aC w.heap.size 2)=some (aj Q.nb):=(aV.below ap).cell rfl;have t0:w5.cell? (aN bt)=some (aj T.kind):=J.cell rfl;have t1:w5.cell? (aC bt 1)=some (aj T.id):=J.cell rfl;have t2:w5.cell? (aC bt 2)=some (aj T.rel):=J.cell rfl;have t4:w5.cell? (aC bt 4)=some (aj T.who):=J.cell rfl;have t5:w5.cell? (aC bt 5)=some (aj T.of):=J.cell rfl;have C:=aA w5.heap.size w5
   go_upto_region 7 with fail
   go_cut [98] (fun s bU=>s=.bool (!NC g X Q p.2 T)/\an w5 bU)
   .cases h1:eqs T.kind X.kd
    .have bC:(T.kind.toList==X.kd.toList)=false:=by rw [<-aQ];exact h1
     go_quiet (fail)
     go_wp2
     go_meet
     case rel=>exact ⟨by simp [NC,h1],cJ C _⟩
    have bC:(T.kind.toList==X.kd.toList)=true:=by rw [<-aQ];exact h1
    cases h2:eqs T.id p.2
    .have bE:(T.id.toList==p.2.toList)=false:=by rw [<-aQ];exact h2
     go_quiet (fail)
     go_wp2
     go_meet
     case rel=>exact ⟨by simp [NC,h1,h2],cJ C _⟩
    have bE:(T.id.toList==p.2.toList)=true:=by rw [<-aQ];exact h2
    cases D:eqs T.rel Q.nb
    .have bF:(T.rel.toList==Q.nb.toList)=false:=by rw [<-aQ];exact D
     go_quiet (fail)
     go_wp2
     go_meet
     case rel=>exact ⟨by simp [NC,h1,h2,D],cJ C _⟩
    have bF:(T.rel.toList==Q.nb.toList)=true:=by rw [<-aQ];exact D
    cases Y:eqs T.of M4
    .have bG:(T.of.toList== [])=false:=by rw [<-Y,aQ,oJ]
     go_quiet (fail)
     go_wp2
     go_meet
     case rel=>exact ⟨by simp [NC,h1,h2,D,Y],cJ C _⟩
    have bG:(T.of.toList== [])=true:=by rw [<-Y,aQ,oJ]
    cases ah:eqs T.who zX
    .have bH:(T.who.toList== [42])=false:=by rw [<-ah,aQ,n7]
     by_cases bI:fn<0
     .have a9:¬(0<=fn):=by omega
      go_quiet (fail)
      go_wp2
      go_meet
      case rel=>exact ⟨by simp [NC,h1,h2,D,Y,ah,au,bI],cJ C _⟩
     have a9:0<=fn:=ai
     go_quiet (fail)
     go_wp2
     go_meet
     case rel=>exact ⟨by simp [NC,h1,h2,D,Y,ah,au,a9],cJ C _⟩
    have bH:(T.who.toList== [42])=true:=by rw [<-ah,aQ,n7]
    go_quiet (fail)
    go_wp2
    go_meet
    case rel=>exact ⟨by simp [NC,h1,h2,D,Y,ah],cJ C _⟩
   obtain ⟨rfl,aJ⟩:=hcut;have ay:=ap.trans (aJ.mono ap.size);have Un:=az.below aJ;have aY:=J.below aJ
   cases ak:NC g X Q p.2 T
   .have aF:=aB (by unfold Td;rw [ak];rfl);go_wp2_with fail;exact ⟨⟨i+1,ai,by go_num,ay,aF⟩,by simp [intOf];omega⟩
   obtain ⟨W7,bK⟩:∃z,z=wc:=⟨_,rfl⟩;subst bK;obtain ⟨n1,be,hnl⟩:∃n1:Nat,fn=n1/\n1<g.rl.length:=by
    have h0:0<=bi T.sub Q.nr g.rl 0:=by
     unfold NC at ak;simp only [bP,fF] at ak;exact ak.2.2.2.2.2
    rw [au] at h0
    rcases aE bM with e|⟨j,e1,_,bW⟩
    .omega
    exact ⟨j,e1,ai⟩
   obtain ⟨m1,hm1,hml⟩:=aE aW;refine Ta ?_;intro yg yc hyv yn ym;generalize g.bs[n1]'_=ch at yn ym;have aT:=(show Td g K X Q p.2 T=K n1 m1 from by
    unfold Td;rw [ak,au,be,hm1];simp)
   generalize K n1 m1=bz at*;obtain ⟨bk,aO,aP,av,c0⟩:=Un.five;rw [hyv] at c0;have c1:W7.cell? (aC bt 3)=some (aj T.sub):=aY.cell rfl;have c2:W7.cell? (aC bt 4)=some (aj T.who):=aY.cell rfl;refine S8 ?_;intro CT Zx Zy;have bw:=al.trans (ay.mono al.size);subst be
   go_upto_region 8 with fail
   go_quiet ((go_at_call 200;exact Calls.quiet_of_same (CT _ aaU)))
   cases bz
   .have aF:=aB aT;go_wp2_with fail;exact ⟨⟨i+1,ai,by go_num,cJ ay _,aF⟩,by simp [intOf];omega⟩
   have hF:=a8 aT;subst hF;go_wp2;go_ret;exact ⟨rfl,cJ bw _⟩
  have hin:¬((i:Int)<(g.ss.length:Int)):=ai;have hF:=Wi (fun j bQ=>aS j bQ ai);rw [ba] at hF;subst hF;go_wp2;go_ret;exact ⟨rfl,(al.trans (hb.mono al.size))⟩
def XV (h:aD:=by
 go_enter func234,ntmps234;rw [hk] at*;go_wp2_with fail;refine C.mono ?_;rintro e w1 ⟨rfl,D⟩;have A:=b0.trans (D.mono b0.size);go_wp2;go_ret;exact ⟨rfl,A⟩):aD:=h
def xn(q:br) (h:cj br->aD:=by
 intro zq;obtain ⟨pg,Z7,ga,gc,pa,pc,sa,sc,hpv,iN,e0,e1,e2,e3,e4,e5,e6,e7⟩:=h.dm.pat n p hp;have hnl:(n:Int)<(g.pl.length:Int):=by have:=(bD.1 hp).1;omega
 have Z8:=h.dm.pn;have a0:=h.five.1;have y0:w.cell? (aN g.y)=some (.pointer (some (aC g.bm 5))):=h.du.blk.cell rfl;have m7:=h.dm.c7
 revert pg Z7 ga gc pa pc sa sc hpv iN e0 e1 e2 e3 e4 e5 e6 e7 hnl Z8 a0 y0 m7
 exact zq.1):aD:=h ⟨q⟩
def Cj(q:br) (h:cj br->aD:=by
 intro zq;have b0:=(aA w.heap.size w).alloc aH (dV ar p.kind aw ga p.gs.length gc aj p.nb aj p.nr ar p.pa ar p.pr aw pa p.ps.length pc aw sa p.sg.length sc)
 revert b0
 exact zq.1):aD:=h ⟨q⟩
def Ck(q:br) (h:cj br->aD:=by
 intro zq;refine Cj ?_;intro b0;have HI:=h.below b0;refine pN ?_;intro HP
 revert b0 HI HP
 exact zq.1):aD:=h ⟨q⟩
def tiN(g:GP)(K:Nat->Nat->Bool)(X:RV)(x y id:ae):Bool:=xl g K X ⟨3,[],x,y,0,0,[],[]⟩ id
def ll(g:GP)(K:Nat->Nat->Bool)(X:RV)(k:Nat)(id:ae):Ex->Bool
 |⟨n,some x,some y⟩=>if n.kind=3 then ll g K X k id x||ll g K X k id y else if n.kind=4 then ll g K X k id x&&ll g K X k id y else ll g K X k id x&& !ll g K X k id y
 |⟨n,none,_⟩=>if n.kind=0 then tI g K X id else if n.kind=1 then K (bi X.kd n.n1 g.rl 0).toNat k else tiN g K X n.n1 n.n2 id
 |⟨_,some _,none⟩=>false
def Te(g:GP)(K:Nat->Nat->Bool)(r k n:Nat)(v:Bool):Prop:=∀w,GI w g K->Calls prog 234 #[bc g.b,ar r,ar k,ar n] w fun e w'=>e=bj (.bool v)/\an w w'
def Ft(g K X k id):∀(rs:List (ae×Nat×Ex)) (x:Ex),(∀r∈rs,r.1=sg 38\/r.1=sg 45)->ll g K X k id (cd x rs)=(ll g K X k id x&&rs.all fun r=>ll g K X k id r.2.2 != minus ⟨bB r.1,r.2.1,false⟩)
 | [],x,_=>by simp [cd]
 |(t,q,y)::rs,x,h=>by
  rw [cd,Ft g K X k id rs _ (fun r A=>h r (eY _ A)),List.all_cons,<-rY]
  congr 1
  simp only [qM]
  rcases h (t,q,y) ep with e|e
  .have e':t=sg 38:=e;subst e';have h1:eqs (sg 38) (sg 45)=false:=ay;simp [dE,ll,h1,show kindOf (sg 38)=4 from by decide]
  have e':t=sg 45:=e;subst e';have h1:eqs (sg 45) (sg 45)=true:=ay;simp [dE,ll,h1,show kindOf (sg 45)=5 from by decide]
def KK(g K X k id):∀(rs:List (ae×Nat×Ex)) (x:Ex),(∀r∈rs,r.1=sg 124)->ll g K X k id (cd x rs)=(ll g K X k id x||rs.any fun r=>ll g K X k id r.2.2)
 | [],x,_=>by simp [cd]
 |(t,q,y)::rs,x,h=>by
  rw [cd,KK g K X k id rs _ (fun r A=>h r (eY _ A)),kg,<-Bool.or_assoc]
  congr 1
  have e':t=sg 124:=h (t,q,y) ep;subst e';simp [dE,ll,show kindOf (sg 124)=3 from by decide]
def M7(g K r k n X)(q:ae×ae)(p)(hp:g.pl[n]? =some p)(hk:p.kind=1)(Q:g.rl[r]? =some X)(J:g.th[k]? =some q)(I:∀s∈g.ss,Tc g (tt s)):Te g K r k n (tI g K X q.2):=fun w h=>by
 refine xn ?_;intro pg Z7 ga gc pa pc sa sc hpv iN e0 e1 e2 e3 e4 e5 e6 e7 hnl Z8 a0 y0 m7;rw [hpv] at m7;refine Ck ?_;intro b0 HI HP;have C:=Ci g K r k X q _ HI Q J I;exact XV
def Tf(g K r k n X)(q:ae×ae)(p)(hp:g.pl[n]? =some p)(hk:p.kind=3)(Q:g.rl[r]? =some X)(J:g.th[k]? =some q)(I:∀s∈g.ss,ThK g (tt s)):Te g K r k n (tiN g K X p.nb p.nr q.2):=fun w h=>by
 refine xn ?_;intro pg Z7 ga gc pa pc sa sc hpv iN e0 e1 e2 e3 e4 e5 e6 e7 hnl Z8 a0 y0 m7;rw [hpv] at m7;refine Ck ?_;intro b0 HI HP;have C:=M6 g K r k X q p ga pa sa p.gs.length gc p.ps.length pc p.sg.length sc _ HI Q J I;exact XV
def Wk (h:aD:=by
 rw [eo,aI hlt];rfl):aD:=h
def Th(q:br) (h:cj br->aD:=by
 intro zq;have x6:wr.cell? (aC w.heap.size 6)=some (aw pa p.ps.length pc):=(HP.below hb).cell rfl;have x7:wr.cell? (aC w.heap.size 7)=some (aw sa p.sg.length sc):=(HP.below hb).cell rfl
 revert x6 x7
 exact zq.1):aD:=h ⟨q⟩
def Ti(g K)(r k n n1:Nat)(X p)(hp:g.pl[n]? =some p)(ag:p.kind=2)(R:g.rl[r]? =some X)(ah:k<g.th.length)(ae:bi X.kd p.nr g.rl 0=n1)(D:n1<g.rl.length):Te g K r k n (K n1 k):=fun w h=>by
 refine xn ?_;intro pg Z7 ga gc pa pc sa sc hpv iN e0 e1 e2 e3 e4 e5 e6 e7 hnl Z8 a0 y0 m7;rw [hpv] at m7;refine Ck ?_;intro b0 HI HP;generalize ac:K n1 k=ab;clear h iN;go_enter func234,ntmps234;rw [ag] at*
 go_upto_region 6 with fail
 clear e0 e1 e2 e3 e4 e5 e6 e7 a0 y0 m7;generalize w.alloc (dV ar (2:Nat) aw ga p.gs.length gc aj p.nb aj p.nr ar p.pa ar p.pr aw pa p.ps.length pc aw sa p.sg.length sc)=W at*;obtain ⟨V,az,al,Y⟩:=aZ HI.yr n1 (aw (some (aN (g.bs[n1]'(by rw [HI.bl];exact D)))) g.th.length g.th.length) (by rw [eo,aI (by rw [HI.bl];exact D)];rfl);have c7:=(HI.yb n1 _ (aI (by rw [HI.bl];exact D))).cell ah;have c6:=Y;generalize g.bs[n1]'_=Z at c6 c7;rw [ac] at c7;obtain ⟨U,rc,ak,J,ax,ay,r3⟩:=HI.dm.rat r X R;have c3:=HI.dm.c6;rw [ak] at c3;obtain ⟨c0,ap,au,av,c1⟩:=HI.five;rw [al] at c1;have c2:W.cell? (aN g.y)=some (.pointer (some (aC g.bm 5))):=HI.du.blk.cell rfl;have c5:W.cell? (aC w.heap.size 3)=some (aj p.nr):=HP.cell rfl;have aF:(r:Int)<(g.rl.length:Int):=by have:=(bD.1 R).1;omega
 have aB:(k:Int)<(g.th.length:Int):=ai;have aE:(n1:Int)<(g.rl.length:Int):=ai;have I:=(fun (w':af) (ad:an W w')=>show Calls prog 132 #[.pointer (some (aC g.bm 5)),aj X.kd,aj p.nr] w' (fun e w''=>e=bj (ar (n1:Int))/\an w' w'') from by
  have:=ef g.bm g.kv g.rv g.pv g.kl g.rl g.pl g.l X.kd p.nr w' (HI.dm.below ad);rw [ae] at this;exact this)
 have C:=aA W.heap.size W;clear Y ap au av ax ay r3
 go_region_held3 (fun w'=>w'.cell? (aN g.b)=some (bc g.y)/\w'.cell? (aC g.b 4)=some (aw (some (aN V)) g.rl.length az)/\w'.cell? (aN g.y)=some (.pointer (some (aC g.bm 5)))/\w'.cell? (aC g.bm 6)=some (aw (some (aN U)) g.rl.length rc)/\w'.cell? (aC U (r*4))=some (aj X.kd)/\w'.cell? (aC w.heap.size 3)=some (aj p.nr)/\w'.cell? (aC V n1)=some (aw (some (aN Z)) g.th.length g.th.length)/\w'.cell? (aC Z k)=some (.bool ab)) (go_keep)
  ((go_at_call 132;refine (I _ ((cq C):an W _)).mono ?_;rintro e w5 ⟨rfl,Q⟩;have A:=(ld (a:=W) (B:=W.heap.size) ((cq C):an W _) (Q.mono wZ));have d0:=am c0 A;have d1:=am c1 A;have d2:=am c2 A;have d3:=am c3 A;have d4:=am J A;have d5:=am c5 A;have d6:=am c6 A;have d7:=am c7 A;clear Q))
 clear c0 c1 c2 c3 J c5 c6 c7 d0 d1 d2 d3 d4 d5 d6 d7 I C;go_wp2;go_ret;exact ⟨rfl,(b0.trans (A.mono b0.size))⟩
def M8(g K r k n p vf)(hp:g.pl[n]? =some p)(ad:p.kind=5)(af:p.ps.length<=1000)(ae:∀i m,p.ps[i]? =some m->Te g K r k m (vf i)):Te g K r k n (mH p.ps.length vf):=fun w h=>by
 refine xn ?_;intro pg Z7 ga gc pa pc sa sc hpv iN e0 e1 e2 e3 e4 e5 e6 e7 hnl Z8 a0 y0 m7;rw [hpv] at m7;refine Ck ?_;intro b0 HI HP;have Z:=aB iN.p b0;generalize I:mH p.ps.length vf=R;go_enter func234,ntmps234;rw [ad] at*
 go_upto_region 10 with fail
 generalize w.alloc (dV ar (5:Nat) aw ga p.gs.length gc aj p.nb aj p.nr ar p.pa ar p.pr aw pa p.ps.length pc aw sa p.sg.length sc)=W at*;go_wp2_with fail
 go_loopw [10] (fun u wr=>∃i:Nat,i<=p.ps.length/\u=ar i/\an W wr/\Hid (mH i vf=false)) (fun u _=>p.ps.length-(intOf u).toNat)
 .exact ⟨0,ai,rfl,aA _ _,rfl⟩
 obtain ⟨i,hi,rfl,A,D⟩:=hrel;have ak:wr.cell? (aC w.heap.size 6)=some (aw pa p.ps.length pc):=(HP.below A).cell rfl;have C:=b0.trans (A.mono b0.size)
 by_cases hlt:i<p.ps.length
 .have ac:(i:Int)<(p.ps.length:Int):=by omega
  obtain ⟨ah,ag,e1,hc⟩:=aZ (aB Z A) i (ar (p.ps[i]:Nat)) Wk;simp only [aK,bY] at e1;obtain ⟨rfl,rfl⟩:=e1;have Q:=ae i _ (aI hlt) wr (HI.below A);generalize p.ps[i]=m at*;have ab:=(fun e=>by rw [<-I,nY];exact ⟨i,hlt,e⟩:vf i=true->R=true);have V:=(fun e=>by rw [mH,D,e];rfl:vf i=false->mH (i+1) vf=false);generalize vf i=v at*;go_wp2_with fail;refine Q.mono ?_;rintro e w1 ⟨rfl,J⟩;have U:=C.trans (J.mono C.size)
  cases v
  .have Y:=V rfl;go_wp2_with fail;exact ⟨⟨i+1,ai,by go_num,(A.trans (J.mono A.size)),Y⟩,by simp [intOf];omega⟩
  have hF:=ab rfl;subst hF;go_wp2;go_ret;exact ⟨rfl,U⟩
 obtain rfl:i=p.ps.length:=ai;have ac:¬((p.ps.length:Int)<(p.ps.length:Int)):=ai;have hF:R=false:=by rw [<-I];exact D
 subst hF;go_wp2;go_ret;exact ⟨rfl,C⟩
def IH(g)(K:Nat->Nat->Bool)(r k n p)(C A:Nat->Bool)(hp:g.pl[n]? =some p)(aM:p.kind=4)(aP:p.ps.length<=1000)(ag:p.sg.length=p.ps.length)(hs:∀i t,p.sg[i]? =some t->minus t=A i)(ah:∀i m,p.ps[i]? =some m->Te g K r k m (C i)):Te g K r k n (!mH p.ps.length (fun i=>C i==A i)):=fun w h=>by
 refine xn ?_;intro pg Z7 ga gc pa pc sa sc hpv iN e0 e1 e2 e3 e4 e5 e6 e7 hnl Z8 a0 y0 m7;rw [hpv] at m7;refine Cj ?_;intro b0;have Z:=ak b0;have au:=ak (h.below b0);have HP:=ak (aL.new w #[ar p.kind,aw ga p.gs.length gc,aj p.nb,aj p.nr,ar p.pa,ar p.pr,aw pa p.ps.length pc,aw sa p.sg.length sc] 255);have ax:=ak (aB iN.p b0);have az:=ak (aB iN.s b0);have aG:=ak ah;have aF:=ak hs;generalize ad:(!mH p.ps.length (fun i=>C i==A i))=R;have ac:=ak ad;have aE:=ak ag;clear h b0 iN ah ad hs ag;go_enter func234,ntmps234;rw [aM] at*
 go_upto_region 17 with fail
 clear e0 e1 e2 e3 e4 e5 e6 e7 a0 y0 m7;generalize w.alloc (dV ar (4:Nat) aw ga p.gs.length gc aj p.nb aj p.nr ar p.pa ar p.pr aw pa p.ps.length pc aw sa p.sg.length sc)=W at*;go_wp2_with fail
 go_loopw [12] (fun u wr=>∃i:Nat,i<=p.ps.length/\u=ar i/\an W wr/\Hid (mH i (fun i=>C i==A i)=false)) (fun u _=>p.ps.length-(intOf u).toNat)
 .exact ⟨0,ai,rfl,aA _ _,ak rfl⟩
 obtain ⟨i,hi,rfl,hb,J⟩:=hrel;refine Th ?_;intro x6 x7;have I:=ak (Z.trans (hb.mono Z.size))
 by_cases hlt:i<p.ps.length
 .have aJ:(i:Int)<(p.ps.length:Int):=by omega
  have af:i<p.sg.length:=by rw [aE];exact hlt
  have aQ:(i:Int)<(p.sg.length:Int):=ai;obtain ⟨aS,aR,e1,hc⟩:=aZ (aB ax hb) i (ar (p.ps[i]:Nat)) Wk;simp only [aK,bY] at e1;obtain ⟨rfl,rfl⟩:=e1;obtain ⟨aU,aT,e2,ae⟩:=bo fH 3 (fun _=>rfl) (aB az hb) i p.sg[i] (aI af);simp only [aK,bY] at e2;obtain ⟨rfl,rfl⟩:=e2;have al:=ae 0 _ ai rfl;rw [nZ] at al;have Y:=ak (aG i _ (aI hlt) wr (au.below hb));have aO:=aF i _ (aI af);generalize p.ps[i]=m at*;generalize p.sg[i]=t at*;have U:=ak (show (C i==A i)=true->R=false from fun e=>by
   rw [<-ac];have:mH p.ps.length (fun i=>C i==A i)=true:=nY.2 ⟨i,hlt,e⟩;rw [this];rfl)
  have Q:=ak (fun e=>by rw [mH,J,e];rfl:(C i==A i)=false->mH (i+1) (fun i=>C i==A i)=false);have ab:=ak hb;generalize C i=v at*;generalize A i=l at*;unfold minus at aO;clear hb J ae;go_wp2_with fail;refine Y.mono ?_;rintro e w1 ⟨rfl,V⟩;have am:=ak (ab.trans (V.mono ab.size));have ap:=ak (I.trans (V.mono I.size));clear V Y x6 x7 hc al
  cases D:(v==l)
  .have av:=ak (Q D);clear Q U
   cases v<;>cases l<;>first|(exact absurd D ay)|(
    clear D;go_wp2_with fail;exact ⟨⟨i+1,ai,by go_num,am,av⟩,by simp [intOf];omega⟩)
  have hF:=U D;subst hF;clear Q U
  cases v<;>cases l<;>first|(exact absurd D ay)|(
   clear D;go_wp2;go_ret;exact ⟨rfl,ap⟩)
 obtain rfl:i=p.ps.length:=ai;have aJ:¬((p.ps.length:Int)<(p.ps.length:Int)):=ai;have hF:R=true:=by rw [<-ac,J];rfl
 subst hF;clear hb;go_wp2;go_ret;exact ⟨rfl,I⟩
def Wl (h:aD:=by
 rw [eo,aI hi];rfl):aD:=h
def Tj (h:aD:=by
 rw [dG,bg]
 rcases cG.1 hy with rfl|hy
 .omega
 obtain ⟨a,b,e⟩:=rI hy;rw [e];exact Qi):aD:=h
def XW (h:aD:=by
 rw [hpl];refine aV (xo _ (fun y C=> ?_)) ?_
 .obtain ⟨m,_,A⟩:=cu.memr _ _ XX y C;exact Cl g.pl f m y A
 rw [dG] at hl
 simpa using hl):aD:=h
def II (h:aD:=by
 rw [dG,aW]
 rcases cG.1 hy with rfl|hy
 .exact .inl he
 exact .inr (b6.2 ⟨y,hy,he⟩)):aD:=h
def IJ(q:br) (h:cj br->aD:=by
 intro zq;have hpl:p.ps.length=(x0::rs.map fun r=>r.2.2).length:=cu.len _ _ XX
 revert hpl
 exact zq.1):aD:=h ⟨q⟩
def uq{R}:∀{ns:List Nat} {xs:List Ex},cu R ns xs->∀{i m:Nat},ns[i]? =some m->∃y,xs[i]? =some y/\R m y
 | [],[],_,i,m,h=>by simp at h
 |n::ns,x::xs,h,0,m,e=>by
  simp only [List.getElem?_cons_zero,aR] at e;subst e;exact ⟨x,rfl,h.1⟩
 |n::ns,x::xs,h,i+1,m,e=>by
  simp only [List.getElem?_cons_succ] at e ⊢;exact uq h.2 e
 | [],_::_,h,_,_,_=>h.elim
 |_::_,[],h,_,_,_=>h.elim
def Cl(pl):∀(f n:Nat)(x:Ex),Tr pl f n x->0<(aO x).length
 |0,_,_,h=>h.elim
 |f+1,n,x,⟨p,hp,h⟩=>by
  rcases h with ⟨_,_,rfl⟩|⟨_,_,_,rfl⟩|⟨_,_,_,rfl⟩|⟨_,_,C,ns,D,rs,_,A,_,_,_,rfl⟩|⟨_,_,_,C,ns,D,rs,_,A,_,_,_,rfl⟩
  .simp [aO]
  .simp [aO]
  .simp [aO]
  .have:=Cl pl f _ _ A;rw [dG,bg];omega
  have:=Cl pl f _ _ A;rw [dG,bg];omega
def xo:∀(A:List Ex),(∀y∈A,0<(aO y).length)->A.length<=(A.flatMap aO).length
 | [],_=>au
 |y::A,h=>by
  have:=xo A (fun z C=>h z (eY _ C));have:=h y ep;exact Bm
def Up{α:Type}(f:α->Bool)(l:List α)(i:Nat):Bool:=match l[i]? with
 |some y=>f y
 |none=>false
def iz{f:α->Bool}{l:List α}{y:α}(h:l[i]? =some y):Up f l i=f y:=by unfold Up;rw [h]
def M9(f:α->Bool):∀(l:List α),mH l.length (Up f l)=l.any f:=fun l=>by
 rw [gU,nY,dh]
 constructor
 .rintro ⟨i,hi,h⟩;rw [iz (aI hi)] at h;exact ⟨_,bu hi,h⟩
 rintro ⟨y,A,h⟩;obtain ⟨i,hi,rfl⟩:=dB A;exact ⟨i,hi,by rw [iz (aI hi)];exact h⟩
def zY:minus ⟨[],0,false⟩=false:=by
 unfold minus;rw [aT]
 rfl
section
variable (g:GP)(K:Nat->Nat->Bool)(r k:Nat)(X:RV)(q:ae×ae)
def zZ(R:g.rl[r]? =some X)(Q:g.th[k]? =some q)(ag:∀s∈g.ss,Tc g (tt s))(ah:∀s∈g.ss,ThK g (tt s)):∀(f n:Nat)(x:Ex),Tr g.pl f n x->(aO x).length<=1000->(∀e∈aO x,e.nd.kind=1->∃j:Nat,bi X.kd e.nd.n1 g.rl 0=j/\j<g.rl.length)->Te g K r k n (ll g K X k q.2 x)
 |0,_,_,h,_,_=>h.elim
 |f+1,n,x,⟨p,hp,h⟩,hl,ho=>by
  have aj:=zZ R Q ag ah f
  rcases h with ⟨h1,_,rfl⟩|⟨h1,_,_,rfl⟩|⟨h1,_,_,rfl⟩|⟨h1,_,an,ns,x0,rs,U,V,Y,J,⟨af,ap⟩,rfl⟩|⟨h1,_,_,an,ns,x0,rs,U,V,Y,J,af,rfl⟩
  .exact M7 g K r k n X q p hp h1 R Q ag
  .obtain ⟨j,ai,am⟩:=ho ⟨⟨1,p.pa,p.nr,p.pa,em,0,[]⟩,none,none⟩ (aX.2 rfl) rfl;have:=Ti g K r k n j X p hp h1 R (bD.1 Q).1 ai am;have e:ll g K X k q.2 ⟨⟨1,p.pa,p.nr,p.pa,em,0,[]⟩,none,none⟩=K j k:=by
    show K (bi X.kd p.nr g.rl 0).toNat k=K j k
    rw [show bi X.kd p.nr g.rl 0=j from ai]
    rfl
   rw [e];exact this
  .exact Tf g K r k n X q p hp h1 R Q ah
  .have XX:cu (Tr g.pl f) p.ps (x0::rs.map fun r=>r.2.2):=by rw [U];exact ⟨V,Y⟩
   have ad:∀y∈x0::rs.map (fun r=>r.2.2),∀e∈aO y,e∈aO (cd x0 rs):=fun y hy e he=>by
    exact II
   have Z:∀y∈x0::rs.map (fun r=>r.2.2),(aO y).length<=(aO (cd x0 rs)).length:=fun y hy=>by
    exact Tj
   refine IJ ?_;intro hpl;have ac:p.ps.length<=1000:=by
    exact XW
   have ak:p.sg=((x0,(⟨[],0,false⟩:Tk))::rs.map fun r=>(r.2.2,(⟨bB r.1,r.2.1,false⟩:Tk))).map Prod.snd:=by rw [J];simp
   have al:(x0::rs.map fun r=>r.2.2)=((x0,(⟨[],0,false⟩:Tk))::rs.map fun r=>(r.2.2,(⟨bB r.1,r.2.1,false⟩:Tk))).map Prod.fst:=au;have:=IH g K r k n p (Up (ll g K X k q.2) (x0::rs.map fun r=>r.2.2)) (Up minus p.sg) hp h1 ac (by rw [hpl,J];simp) (fun i t D=>(iz D).symm) (fun i m ab=>by
    obtain ⟨y,hy,D⟩:=uq XX ab;rw [iz hy];have I:=bG hy;exact aj m y D (aV (Z y I) hl) (fun e he=>ho e (ad y I e he)))
   have e:(!mH p.ps.length (fun i=>Up (ll g K X k q.2) (x0::rs.map fun r=>r.2.2) i==Up minus p.sg i))=ll g K X k q.2 (cd x0 rs):=by
    rw [Ft g K X k q.2 rs x0 af];have ae:∀(L:List (Ex×Tk)),mH L.length (fun i=>Up (ll g K X k q.2) (L.map Prod.fst) i==Up minus (L.map Prod.snd) i)=L.any (fun z=>ll g K X k q.2 z.1==minus z.2):=fun L=>by
     rw [gU,nY,dh]
     constructor
     .rintro ⟨i,hi,h⟩;rw [iz (y:=L[i].1) Wl,iz (y:=L[i].2) Wl] at h;exact ⟨_,bu hi,h⟩
     rintro ⟨z,ae,h⟩;obtain ⟨i,hi,rfl⟩:=dB ae;exact ⟨i,hi,by rw [iz (y:=L[i].1) Wl,iz (y:=L[i].2) Wl];exact h⟩
    rw [hpl,ak,al,bO,ae];simp only [List.any_cons,pK,zY];rw [Bool.not_or,List.not_any_eq_all_not]
    congr 1
    .cases ll g K X k q.2 x0<;>rfl
   rw [e] at this;exact this
  have XX:cu (Tr g.pl f) p.ps (x0::rs.map fun r=>r.2.2):=by rw [U];exact ⟨V,Y⟩
  have ad:∀y∈x0::rs.map (fun r=>r.2.2),∀e∈aO y,e∈aO (cd x0 rs):=fun y hy e he=>by
   exact II
  have Z:∀y∈x0::rs.map (fun r=>r.2.2),(aO y).length<=(aO (cd x0 rs)).length:=fun y hy=>by
   exact Tj
  refine IJ ?_;intro hpl;have ac:p.ps.length<=1000:=by
   exact XW
  have:=M8 g K r k n p (Up (ll g K X k q.2) (x0::rs.map fun r=>r.2.2)) hp h1 ac (fun i m ab=>by
   obtain ⟨y,hy,D⟩:=uq XX ab;rw [iz hy];have I:=bG hy;exact aj m y D (aV (Z y I) hl) (fun e he=>ho e (ad y I e he)))
  rw [hpl,M9] at this;rw [KK g K X k q.2 rs x0 J];rw [kg,pK] at this;exact this
end
def Tl (h:aD:=by
 go_wp2_with fail;exact ⟨⟨r+1,K2,Fu,ai,by go_num,rfl,Uq,Xy,HW2,Jk⟩,by simp [intOf];omega⟩):aD:=h
def prs(g:GP):List (Nat×Nat):=(List.range g.rl.length).flatMap fun r=>(List.range g.th.length).map fun k=>(r,k)
def Cm(g:GP)(K:Nat->Nat->Bool):Nat:=(prs g).countP fun p=> !K p.1 p.2
def Wm{g r}(A:r<g.rl.length)(h:k<g.th.length):(r,k)∈prs g:=b6.2 ⟨r,List.mem_range.2 A,aU.2 ⟨k,List.mem_range.2 h,rfl⟩⟩
def Zz{g K r}(D:r<g.rl.length)(C:k<g.th.length)(h:K r k=false):Cm g (Ch K r k)<Cm g K:=by
 refine sJ (fun p A=> ?_) _ (r,k) (Wm D C) Ej (by simp [Ch]);unfold Ch at A
 split at A
 .cases A
 exact A
def KL{K r}(h:K a b=true):Ch K r k a b=true:=by
 unfold Ch
 split
 .rfl
 exact h
def ZA(g:GP)(lv:List Nat)(bd:Nat->Ex)(n:Nat)(K:Nat->Nat->Bool):Prop:=∀r k X q,g.rl[r]? =some X->g.th[k]? =some q->lv[r]? =some n->q.1=X.kd->ll g K X k q.2 (bd r)=true->K r k=true
def StD(g:GP)(lv:List Nat)(bd:Nat->Ex)(n:Nat)(h:(Nat->Nat->Bool)->Prop):Prop:=∀K r k X q,h K->g.rl[r]? =some X->g.th[k]? =some q->lv[r]? =some n->q.1=X.kd->ll g K X k q.2 (bd r)=true->h (Ch K r k)
structure Na(g:GP)(lv:List Nat)(bd:Nat->Ex)(n:Nat)(J:(Nat->Nat->Bool)->Prop)(K K':Nat->Nat->Bool)(more:Bool)(r0 k0:Nat):Prop where
 j:J K'
 le:∀r k,K r k=true->K' r k=true
 no:more=false->K'=K/\∀r k X q,(r<r0\/(r=r0/\k<k0))->g.rl[r]? =some X->g.th[k]? =some q->lv[r]? =some n->q.1=X.kd->ll g K X k q.2 (bd r)=true->K r k=true
 yes:more=true->Cm g K'<Cm g K
def Tm(g:GP)(lv:List Nat)(bd:Nat->Ex)(n:Nat)(A:(Nat->Nat->Bool)->Prop)(K:Nat->Nat->Bool)(w:af)(e:Ending)(w':af):Prop:=∃h more,e=bj (.bool more)/\GI w' g h/\A h/\bK (fun k=>k∈g.bs) w w'/\(∀r k,K r k=true->h r k=true)/\(more=false->h=K/\ZA g lv bd n K)/\(more=true->Cm g h<Cm g K)
def Na.skip{g lv bd}{Q:(Nat->Nat->Bool)->Prop}{K K' r}(h:Na g lv bd n Q K K' more r k)(hs:more=false->∀X q,g.rl[r]? =some X->g.th[k]? =some q->lv[r]? =some n->q.1=X.kd->ll g K X k q.2 (bd r)=true->K r k=true):Na g lv bd n Q K K' more r (k+1):=
 ⟨h.j,h.le,fun A=>⟨(h.no A).1,fun a b X q D C J hl I hv=>by
  rcases D with D|⟨rfl,R⟩
  .exact (h.no A).2 a b X q (.inl D) C J hl I hv
  by_cases e:b=k
  .subst e;exact hs A X q C J hl I hv
  exact (h.no A).2 a b X q (.inr ⟨rfl,ai⟩) C J hl I hv⟩,h.yes⟩
def Na.row{g lv bd}{I:(Nat->Nat->Bool)->Prop}{K K' r}(h:Na g lv bd n I K K' more r k)(hs:∀U X q,k<=U->g.rl[r]? =some X->g.th[U]? =some q->lv[r]? =some n->False):Na g lv bd n I K K' more (r+1) 0:=
 ⟨h.j,h.le,fun C=>⟨(h.no C).1,fun a b X q J A D hl R hv=>by
  rcases J with J|⟨_,Q⟩
  .by_cases e:a=r
   .subst e
    by_cases Q:b<k
    .exact (h.no C).2 a b X q (.inr ⟨rfl,Q⟩) A D hl R hv
    exact (hs b X q ai A D hl).elim
   exact (h.no C).2 a b X q (.inl ai) A D hl R hv
  omega⟩,h.yes⟩
def Na.up{g lv bd n}{D:(Nat->Nat->Bool)->Prop}{K K' more r k}(h:Na g lv bd n D K K' more r k)(Q:StD g lv bd n D){X}{C:ae×ae}(I:g.rl[r]? =some X)(J:g.th[k]? =some C)(Y:lv[r]? =some n)(U:C.1=X.kd)(Z:ll g K' X k C.2 (bd r)=true)(V:K' r k=false):Na g lv bd n D K (Ch K' r k) true r (k+1):=
 ⟨Q K' r k X C h.j I J Y U Z,fun a b R=>KL (h.le a b R),fun A=>Bool.noConfusion A,fun _=>by
  have h1:=Zz (g:=g) (bD.1 I).1 (bD.1 J).1 V
  cases A:more
  .rw [(h.no A).1] at h1 ⊢;exact h1
  exact Nat.lt_trans h1 (h.yes A)⟩
def Fv(g:GP)(K:Nat->Nat->Bool)(bR:ag)(lv:List Nat)(C:Nat->Ex)(n:Nat)(Q:(Nat->Nat->Bool)->Prop)(w:af)(h:GI w g K)(a4:w.ownsRow 0 3 1 bR lv.length (lv.map fun n:Nat=>ar n))(bJ:lv.length=g.rl.length)(bC:∀R r k X q,g.rl[r]? =some X->g.th[k]? =some q->Te g R r k X.ex (ll g R X k q.2 (C r)))(bB:StD g lv C n Q)(h0:Q K):
  Calls prog 199 #[bc g.b,bR,ar n] w (Tm g lv C n Q K w):=by
 obtain ⟨bP,bQ,rfl⟩:=ax a4;have bX:=ak bC;have bT:=ak bB;have bv:=ak a4;have bp:=ak h;have bU:=ak h0;have cj:=h.few;have co:=h.dm.rn;have bV:=ak bJ;clear h a4 bC bB h0 bJ;go_enter func199,ntmps199;go_wp2_with fail
 go_loopw [7,8] (fun bi ur wr=>∃(r:Nat)(R:Nat->Nat->Bool)(more:Bool),r<=lv.length/\ur=ar r/\bi=.bool more/\GI wr g R/\bK (fun k=>k∈g.bs) w wr/\wr.ownsRow 0 3 1 (aw bP lv.length bQ) lv.length (lv.map fun n:Nat=>ar n)/\Hid (Na g lv C n Q K R more r 0)) (fun _ ur _=>lv.length-(intOf ur).toNat)
 .exact ⟨0,K,false,ai,rfl,rfl,bp,bK.refl _ _,bv,ak ⟨bU,fun _ _ h=>h,fun _=>⟨rfl,fun r k X q b8=>ai⟩,fun h=>by cases h⟩⟩
 .obtain ⟨r,K1,more,b8,rfl,rfl,V,ah,ac,U⟩:=hrel;have aV:=ak V;have aT:=ak ah;have bw:=ak ac;clear V ah ac bp bv
  by_cases bL:r<lv.length
  .have bM:r<g.rl.length:=by rw [<-bV];exact bL
   have b9:(r:Int)<(lv.length:Int):=ai;have cm:(r:Int)<(g.rl.length:Int):=ai;obtain ⟨X,aJ⟩:∃X,g.rl[r]? =some X:=⟨_,aI bM⟩;obtain ⟨v,hv⟩:∃v,lv[r]? =some v:=⟨_,aI bL⟩;have Z:=ak aJ;have aY:=ak hv;clear aJ hv;go_wp2_with fail
   go_loopw [7,9] (fun bi bh wr=>∃(k:Nat)(R:Nat->Nat->Bool)(more:Bool),k<=g.th.length/\bh=ar k/\bi=.bool more/\GI wr g R/\bK (fun k=>k∈g.bs) w wr/\wr.ownsRow 0 3 1 (aw bP lv.length bQ) lv.length (lv.map fun n:Nat=>ar n)/\Hid (Na g lv C n Q K R more r k)) (fun _ bh _=>g.th.length-(intOf bh).toNat)
   .exact ⟨0,K1,more,ai,rfl,rfl,aV,aT,bw,U⟩
   obtain ⟨k,K2,Fu,ck,rfl,rfl,V,ah,ac,A⟩:=hrel;obtain ⟨aG,b1,bA,a1,aH⟩:=V.five;obtain ⟨ga,gc,bF⟩:=ax V.th;rw [bF] at a1;obtain ⟨ct,cr,e1,cd⟩:=aZ ac r (ar v) (by rw [eo,aY];rfl);simp only [aK,bY] at e1;obtain ⟨rfl,rfl⟩:=e1;have Uq:=ak V;have Xy:=ak ah;have HW2:=ak ac;clear V ah ac aV aT bw U
   by_cases a3:k<g.th.length
   .have b6:(k:Int)<(g.th.length:Int):=by omega
    by_cases a8:v=n
    .subst a8;obtain ⟨P,a2⟩:∃P,g.th[k]? =some P:=⟨_,aI a3⟩;obtain ⟨ad,b3⟩:∃z,z=wr:=⟨_,rfl⟩;subst b3;obtain ⟨D,aP⟩:∃D,g.bs[r]? =some D:=⟨_,aI (by rw [Uq.bl];exact bM)⟩;obtain ⟨cA,cy,a9,bS⟩:=aZ Uq.yr r (aw (some (aN D)) g.th.length g.th.length) (by rw [eo,aP];rfl);have aS:=(Uq.yb r D aP).cell a3;rw [a9] at aH;obtain ⟨cf,tc,a7,bN⟩:=bo NB 2 (fun _=>rfl) Uq.th k P a2;have t0:ad.cell? (aC cf (k*2))=some (aj P.1):=bN 0 _ ai rfl;rw [bF] at a7;simp only [aK,bY] at a7;obtain ⟨rfl,rfl⟩:=a7;obtain ⟨cu,rc,a5,bb,be,bg,r3⟩:=Uq.dm.rat r X Z;have ap:=Uq.dm.c6;rw [a5] at ap;have bk:ad.cell? (aN g.y)=some (.pointer (some (aC g.bm 5))):=Uq.du.blk.cell rfl;have aF:=ak (aA ad.heap.size ad);have az:=ak a2;have Y:=ak aP;generalize bI:K2 r k=am at aS;have bu:=ak bI;clear bN a2 aP bI be bg
     go_upto_region 8 with fail
     go_cut [68] (fun s ci=>s=.bool (am|| !eqs P.1 X.kd)/\an ad ci)
     .cases am
      .cases h1:eqs P.1 X.kd
       .have b2:(P.1.toList==X.kd.toList)=false:=by rw [<-aQ];exact h1
        go_quiet (fail)
        go_wp2
        go_meet
        case rel=>exact ⟨by simp [h1],cJ aF _⟩
       have b2:(P.1.toList==X.kd.toList)=true:=by rw [<-aQ];exact h1
       go_quiet (fail)
       go_wp2
       go_meet
       case rel=>exact ⟨by simp [h1],cJ aF _⟩
      go_quiet (fail)
      go_wp2
      go_meet
      case rel=>exact ⟨au,cJ aF _⟩
     obtain ⟨rfl,aO⟩:=hcut;clear aG b1 bA a1 aH cd bS aS t0 bb r3 ap bk;have J:=ak (Uq.below aO);have aU:=ak (Xy.trans (bK.of_below aO));have a0:=ak (aB HW2 aO);clear aO Uq Xy HW2 aF
     cases hs:(am|| !eqs P.1 X.kd)
     .have bH:K2 r k=false:=by
       rw [bu]
       cases am
       .rfl
       simp at hs
      have bE:P.1=X.kd:=by
       rw [<-bz]
       cases am
       .simpa using hs
       simp at hs
      have bn:=ak (bX K2 r k X P Z az wc J);obtain ⟨cw,cx,a6,bb,be,bg,r3⟩:=J.dm.rat r X Z;rw [a5] at a6;simp only [aK,aR,cg,fY,bY] at a6;obtain ⟨rfl,rfl⟩:=a6;have ap:=J.dm.c6;rw [a5] at ap;have bk:wc.cell? (aN g.y)=some (.pointer (some (aC g.bm 5))):=J.du.blk.cell rfl;have aG:=J.five.1;have aW:=ak (show ll g K2 X k P.2 (C r)=false->Na g lv C v Q K K2 Fu r (k+1) from fun e=>A.skip (fun ab bZ ce ae al _ _ bO=>by
       rw [Z] at ae;rw [az] at al
       cases ae
       cases al
       rw [<-(A.no ab).1,e] at bO
       cases bO))
      have aX:=ak (fun e=>A.up bT Z az aY bE e bH:ll g K2 X k P.2 (C r)=true->Na g lv C v Q K (Ch K2 r k) true r (k+1));generalize ll g K2 X k P.2 (C r)=b0 at*;clear bb be bg hs bE bH;go_wp2_with fail;refine bn.mono ?_;rintro e ch ⟨rfl,aM⟩;have I:=ak (J.below aM);have av:=ak (aU.trans (bK.of_below aM));have aE:=ak (aB a0 aM);clear aM J aU a0 bn ap bk aG r3
      cases b0
      .have Jk:=ak (aW rfl);clear aW aX A;go_wp2_with fail;go_roundw
       .first|exact ⟨k+1,K2,Fu,ai,by go_num,rfl,I,av,aE,Jk⟩|((repeat apply Exists.intro);exact ⟨⟨k+1,K2,Fu,ai,by go_num,rfl,I,av,aE,Jk⟩,rfl⟩)
       simp [intOf];omega
      have Jk:=ak (aX rfl);obtain ⟨aG,b1,bA,a1,aH⟩:=I.five;rw [a9] at aH;obtain ⟨cB,cz,ba,bS⟩:=aZ I.yr r (aw (some (aN D)) g.th.length g.th.length) (by rw [eo,Y];rfl);rw [a9] at ba;simp only [aK,aR,cg,fY,bY] at ba;obtain ⟨rfl,rfl⟩:=ba;have aS:=(I.yb r D Y).cell a3;generalize K2 r k=cq at aS;have fz:=(I.yb r D Y).fz;have bt:=ak (I.set (k:=k) Y);have bq:=ak (av.set (a:=⟨D,k,none⟩) (bG Y) (.bool true));have bx:=ak (mI aE (I.yb r D Y:aL ch D _ 4) ay k (.bool true));clear aW aX A I av aE;go_wp2_with fail;go_roundw
      .first|exact ⟨k+1,Ch K2 r k,true,ai,by go_num,rfl,bt,bq,bx,Jk⟩|((repeat apply Exists.intro);exact ⟨⟨k+1,Ch K2 r k,true,ai,by go_num,rfl,bt,bq,bx,Jk⟩,rfl⟩)
      simp [intOf];omega
     have Jk:=ak (A.skip (fun ab bZ ce ae al _ b5 _=>by
      rw [Z] at ae;rw [az] at al
      cases ae
      cases al
      rw [<-(A.no ab).1,bu];rw [(bz _ _).2 b5] at hs
      simpa using hs))
     clear A hs;go_wp2_with fail;exact ⟨⟨k+1,K2,Fu,ai,by go_num,rfl,J,aU,a0,Jk⟩,by simp [intOf];omega⟩
    have cp:((v:Int)==(n:Int))=false:=by rw [bW];omega
    have Jk:=ak (A.row (fun cb X q _ _ _ e=>by rw [aY] at e;exact a8 (gK e)));clear A a8;exact Tl
   have b6:¬((k:Int)<(g.th.length:Int)):=ai;have Jk:=ak (A.row (fun cb X q cl _ e _=>by have:=(bD.1 e).1;omega));clear A;exact Tl
  obtain rfl:r=lv.length:=ai;have b9:¬((lv.length:Int)<(lv.length:Int)):=ai;go_wp2;go_ret;exact (ak (⟨K1,more,rfl,aV,U.j,aT,U.le,fun ab=>⟨(U.no ab).1,fun r k X q aJ b7 hl b4 hv=>(U.no ab).2 r k X q (.inl (bD.1 hl).1) aJ b7 hl b4 hv⟩,U.yes⟩:Tm g lv C n Q K w (bj (.bool more)) wr))
def XY (h:aD:=by
 rw [hkl] at CT;unfold minus at hmi;clear hcs hkf hkl ht h4;exact Tn):aD:=h
def Tn (h:aD:=by
 go_wp2_with fail;refine (CT _ bp).mono ?_;rintro e w1 ⟨rfl,C⟩;have A:=hb.trans (C.mono hb.size);clear C CT x0 x6 x7 hc;go_wp2_with fail;go_roundw
 .first|exact ⟨j+1,ai,by go_num,by rw [HMX];first|done|(congr 1;omega),A⟩|((repeat apply Exists.intro);exact ⟨⟨j+1,ai,by go_num,by rw [HMX];first|done|(congr 1;omega),A⟩,rfl⟩)
 simp [intOf];omega):aD:=h
def z6(l:List Nat):Nat:=l.foldl max 0
def qY:Nat->(Nat->Nat)->Nat
 |0,_=>0
 |k+1,f=>max (qY k f) (f k)
def z7(l):∀a,l.foldl max a=max a (z6 l):=by
 unfold z6
 induction l with
 |nil=>intro a;simp
 |cons x l ih=>
  intro a;rw [nG,nG,ih,ih (max 0 x)];omega
def Wn(a b):z6 (a++b)=max (z6 a) (z6 b):=by
 unfold z6;rw [List.foldl_append,z7]
 rfl
def ZB{l}:z6 l<=b↔∀x∈l,x<=b:=by
 induction l with
 |nil=>simp [z6]
 |cons x l ih=>
  have:z6 (x::l)=max x (z6 l):=by
   unfold z6;rw [nG,z7];unfold z6;omega
  rw [this];simp only [cG,forall_eq_or_imp];rw [<-ih];omega
def To:∀(l:List Nat)(f:Nat->Nat),(∀i (h:i<l.length),f i=l[i])->qY l.length f=z6 l:=by
 intro l f h;have key:∀k,k<=l.length->qY k f=z6 (l.take k):=by
  intro k
  induction k with
  |zero=>intro _;simp [qY,z6]
  |succ k ih=>
   intro A;rw [qY,ih ai,cD ai,Wn,h k ai];have:z6 [l[k]]=l[k]:=by simp [z6]
   rw [this]
 rw [key _ aH,km]
def Ur(bm:Nat)(kv rv pv:ag)(kl:List (ae×Nat))(rl:List RV)(pl:List PV)(l:List PX)(tV:ag)(lv:List Nat)(i n less R:Nat):Prop:=∀w,DM w bm kv rv pv kl rl pl l->w.ownsRow 0 3 1 tV lv.length (lv.map fun n:Nat=>ar n)->Calls prog 233 #[.pointer (some (aC bm 5)),tV,ar i,ar n,ar less] w fun e w'=>e=bj (ar R)/\an w w'
section
variable (bm:Nat)(kv rv pv:ag)(kl:List (ae×Nat))(rl:List RV)(pl:List PV)(l:List PX)(tV:ag)(lv:List Nat)
def Fw(i n less:Nat)(p:PV)(D:Nat->Nat)(I:Nat->Nat)(ab:pl[n]? =some p)(aJ:p.kind=4\/p.kind=5)(aU:p.ps.length<=1000)(aX:0<p.ps.length)(aP:p.kind=4->p.sg.length=p.ps.length)(hs:∀j,I j=if p.kind=4/\(∃t,p.sg[j]? =some t/\minus t=true) then 1 else less)(aQ:∀j m,p.ps[j]? =some m->Ur bm kv rv pv kl rl pl l tV lv i m (I j) (D j))(ad:∀j,D j<=100000)(aV:less<=1):Ur bm kv rv pv kl rl pl l tV lv i n less (qY p.ps.length D):=fun w h Q=>by
 obtain ⟨bg,bc,ga,gc,pa,pc,sa,sc,aO,U,e0,e1,J,ap,au,av,ay,az⟩:=h.pat n p ab;have aY:(n:Int)<(pl.length:Int):=by have:=(bD.1 ab).1;omega
 have ae:=h.c7;rw [aO] at ae;obtain ⟨ba,bb,rfl⟩:=ax Q;refine Cj ?_;intro b0;refine pN ?_;intro HP;have ah:=h.below b0;have ak:=aB Q b0;have al:=aB U.p b0;have am:=aB U.s b0;have aM:∀k,qY k D<=100000:=by
  intro k
  induction k with
  |zero=>simp [qY]
  |succ k ih=>rw [qY];have:=ad k;omega
 generalize aF:qY p.ps.length D=R;clear h U Q;go_enter func233,ntmps233
 go_upto_region 2 with fail
 clear e0 e1 J ap au av ay az ae;generalize w.alloc (dV ar p.kind aw ga p.gs.length gc aj p.nb aj p.nr ar p.pa ar p.pr aw pa p.ps.length pc aw sa p.sg.length sc)=W at*;go_wp2_with fail
 go_loopw [12,13] (fun aS u wr=>∃j:Nat,j<=p.ps.length/\u=ar j/\aS=ar (qY j D)/\an W wr) (fun _ u _=>p.ps.length-(intOf u).toNat)
 .exact ⟨0,ai,rfl,rfl,aA _ _⟩
 obtain ⟨j,aT,rfl,rfl,hb⟩:=hrel;have x0:wr.cell? (aN w.heap.size)=some (ar p.kind):=(HP.below hb).cell rfl;refine Th ?_;intro x6 x7;have ag:=b0.trans (hb.mono b0.size);have aW:=aM j
 by_cases hlt:j<p.ps.length
 .have aG:(j:Int)<(p.ps.length:Int):=by omega
  obtain ⟨bh,be,e1,hc⟩:=aZ (aB al hb) j (ar (p.ps[j]:Nat)) Wk;simp only [aK,bY] at e1;obtain ⟨rfl,rfl⟩:=e1;have CT:=fun (w':af) (Y:an wr w')=>aQ j _ (aI hlt) w' (ah.below (hb.trans (Y.mono hb.size))) (aB ak (hb.trans (Y.mono hb.size)))
  have hkf:=hs j;have a9:=ad j;have HMX:=show qY (j+1) D=max (qY j D) (D j) from rfl
  generalize p.ps[j]=m at*;generalize D j=v at*;generalize qY j D=o at*
  rcases aE aJ with h4|V
  .obtain ⟨t,ht⟩:∃t,p.sg[j]? =some t:=⟨_,aI (by rw [aP h4];exact hlt)⟩;obtain ⟨bj,bi,J,hcs⟩:=bo fH 3 (fun _=>rfl) (aB am hb) j t ht;simp only [aK,bY] at J;obtain ⟨rfl,rfl⟩:=J;have aR:=hcs 0 _ ai rfl;rw [nZ] at aR;have a8:(j:Int)<(p.sg.length:Int):=by have:=(bD.1 ht).1;omega
   rw [h4] at x0
   cases hmi:minus t
   .have hkl:I j=less:=by
     rw [hkf,if_neg];rintro ⟨_,bk,ac,Z⟩;rw [ht] at ac
     cases ac
     rw [hmi] at Z
     cases Z
    exact XY
   have hkl:I j=1:=by rw [hkf,if_pos ⟨h4,t,ht,hmi⟩]
   exact XY
  have hkl:I j=less:=by rw [hkf,if_neg (fun e=>by have:=e.1;omega)]
  rw [hkl] at CT;rw [V] at x0;clear hkf hkl V;exact Tn
 obtain rfl:j=p.ps.length:=ai;have aG:¬((p.ps.length:Int)<(p.ps.length:Int)):=ai;have hF:R=qY p.ps.length D:=aF.symm;subst hF;clear hb;go_wp2;go_ret;exact ⟨rfl,ag⟩
def IK(i n less:Nat)(X:RV)(p:PV)(nd:List Nat)(av:pl[n]? =some p)(ag:rl[i]? =some X)(ap:p.ps=[])(bw:nd.length<=2000000)(I:∀d∈nd,d<lv.length)(au:∀x∈lv,x<=10000)(bt:less<=1)(a8:∀w,DM w bm kv rv pv kl rl pl l->Calls prog 231 #[.pointer (some (aC bm 5)),aj X.kd,ar n,ar X.ex] w fun e w'=>∃sv,e=bj sv/\an w w'/\w'.ownsRow w.heap.size 3 1 sv nd.length (nd.map fun n:Nat=>ar n)):Ur bm kv rv pv kl rl pl l tV lv i n less (z6 (nd.map fun d=>lv.getD d 0+less)):=fun w h V=>by
 obtain ⟨bJ,bI,ga,gc,pa,pc,sa,sc,be,bh,e0,e1,D,aU,aV,aW,aX,aY⟩:=h.pat n p av;have bx:(n:Int)<(pl.length:Int):=by have:=(bD.1 av).1;omega
 have aE:=h.c7;rw [be] at aE;obtain ⟨bC,bE,rfl⟩:=ax V;refine Cj ?_;intro b0;refine pN ?_;intro aR;have U:=h.below b0;have aP:=aB V b0;have aM:=I;have C:p.ps.length=0:=by rw [ap];rfl
 have az:∀d,lv.getD d 0+less<=10001:=fun d=>by
  rw [ey]
  cases bg:lv[d]? with
  |none=>simp;omega
  |some x=>have:=au x (bG bg);simp;omega
 have bb:∀k,qY k (fun j=>(nd.map fun d=>lv.getD d 0+less).getD j 0)<=10001:=by
  intro k
  induction k with
  |zero=>simp [qY]
  |succ k ih=>
   rw [qY];have:(nd.map fun d=>lv.getD d 0+less).getD k 0<=10001:=by
    rw [ey,eo]
    cases nd[k]? with
    |none=>simp
    |some d=>exact az d
   omega
 have aT:=ak (show qY nd.length (fun j=>(nd.map fun d=>lv.getD d 0+less).getD j 0)=z6 (nd.map fun d=>lv.getD d 0+less) from by
  have:=To (nd.map fun d=>lv.getD d 0+less) (fun j=>(nd.map fun d=>lv.getD d 0+less).getD j 0) (fun j al=>by rw [ey,aI al];rfl);rw [bO] at this;exact this)
 generalize z6 (nd.map fun d=>lv.getD d 0+less)=R at*;have aS:=ak C;clear h bh V I az ap C;go_enter func233,ntmps233
 go_upto_region 2 with fail
 clear e0 e1 D aU aV aW aX aY aE;generalize w.alloc (dV ar p.kind aw ga p.gs.length gc aj p.nb aj p.nr ar p.pa ar p.pr aw pa p.ps.length pc aw sa p.sg.length sc)=W at*;go_wp2_with fail
 go_loopw [12,13] (fun ac u wr=>u=ar 0/\ac=ar 0/\wr=W) (fun _ u _=>0)
 .exact ⟨rfl,rfl,rfl⟩
 obtain ⟨rfl,rfl,Y⟩:=hrel;subst Y;have aG:wr.cell? (aC w.heap.size 6)=some (aw pa p.ps.length pc):=aR.cell rfl;have C:=aS.u;have bc:¬((0:Int)<(p.ps.length:Int)):=ai;rw [C] at aG bc;obtain ⟨ab,rc,bi,aF,bk,bl,r3⟩:=U.rat i X ag;have Z:=U.c6;rw [bi] at Z;have bz:(i:Int)<(rl.length:Int):=by have:=(bD.1 ag).1;omega
 clear C bk bl
 go_upto_region 12 with fail
 have ad:=fun (w':af) (a9:an wr w')=>a8 w' (U.below a9)
 have Q:=aA wr.heap.size wr;clear aG
 go_region_held3 (fun w'=>w'.cell? (aC bm 6)=some (aw (some (aN ab)) rl.length rc)/\w'.cell? (aC ab (i*4))=some (aj X.kd)/\w'.cell? (aC ab (i*4+3))=some (ar X.ex)) (go_keep)
  ((go_at_call 231;refine (ad _ ((cq Q):an wr _)).mono ?_;rintro e w5 ⟨sv,rfl,ah,ay⟩;have A:=(ld (a:=wr) (B:=wr.heap.size) ((cq Q):an wr _) (ah.mono wZ));have ae:=ay;have d0:=am Z A;have d1:=am aF A;have d2:=am r3 A;clear ah ay))
 obtain ⟨da,bo,rfl⟩:=ax ae;have aJ:=b0.trans (A.mono b0.size);have aO:=aB aP A;clear Z aF r3 d0 d1 d2 ad Q A;go_wp2_with fail
 go_loopw [12,16] (fun ac u bn=>∃j:Nat,j<=nd.length/\u=ar j/\ac=ar (qY j (fun j=>(nd.map fun d=>lv.getD d 0+less).getD j 0))/\bn=w5) (fun _ u _=>nd.length-(intOf u).toNat)
 .exact ⟨0,ai,rfl,rfl,rfl⟩
 obtain ⟨j,al,rfl,rfl,Y⟩:=hrel;subst Y;have bv:=bb j
 by_cases hlt:j<nd.length
 .have ba:(j:Int)<(nd.length:Int):=by omega
  obtain ⟨bq,bp,e1,d0⟩:=aZ ae j (ar (nd[j]:Nat)) Wk;simp only [aK,bY] at e1;obtain ⟨rfl,rfl⟩:=e1;have I:=aM _ (bu hlt);obtain ⟨x,J⟩:∃x,lv[nd[j]]? =some x:=⟨_,aI I⟩;obtain ⟨bH,bF,D,bB⟩:=aZ aO nd[j] (ar (x:Nat)) (by rw [eo,J];rfl);simp only [aK,bY] at D;obtain ⟨rfl,rfl⟩:=D;have bA:=au x (bG J);have aQ:=ak (show qY (j+1) (fun j=>(nd.map fun d=>lv.getD d 0+less).getD j 0)=max (qY j (fun j=>(nd.map fun d=>lv.getD d 0+less).getD j 0)) (x+less) from by
   have e:(nd.map fun d=>lv.getD d 0+less).getD j 0=x+less:=by
    rw [ey,eo,aI hlt];simp [J]
   rw [qY,e])
  have bs:((nd[j]:Nat):Int)<(lv.length:Int):=ai;generalize nd[j]=d at*;generalize qY j (fun j=>(nd.map fun d=>lv.getD d 0+less).getD j 0)=o at*;clear J;go_wp2_with fail;exact ⟨⟨j+1,ai,by go_num,by rw [aQ];first|done|(congr 1;omega),by first|rfl|trivial⟩,by simp [intOf];omega⟩
 obtain rfl:j=nd.length:=ai;have ba:¬((nd.length:Int)<(nd.length:Int)):=ai;have hF:=aT.u;rw [hF] at*;go_wp2;go_ret;exact ⟨rfl,aJ⟩
end
