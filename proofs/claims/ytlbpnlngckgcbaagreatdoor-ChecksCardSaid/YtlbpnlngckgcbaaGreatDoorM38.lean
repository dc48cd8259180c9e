import Derived.Test.YtlbpnlngckgcbaaGreatDoorM37
import Derived.Deep.DeepCutAuto
set_option linter.all false
set_option maxHeartbeats 4000000
set_option maxRecDepth 100000
namespace Go.Proofs.YtlbpnlngckgcbaaGreatDoor
open Go.RowKit Go.PlainAid Go.Proofs.Tryz
variable {aF cD:Prop} {i j b k a base size n q:Nat} {r:Rl} {t:Ty} {s id:ae} {ts:List Ty} {gs:List Tu} {α:Type} {w w':af} {mv v:ag} {cs:Array ag} {T T' e:TypeId} {xs:List ag} {X:RV}
def DO (A:aF:=by
 show (⟨#[]⟩:ae).size<=500;decide):aF:=A
def IF:Ex->Prop
 |⟨n,some x,some y⟩=>(n.kind=3\/n.kind=4\/n.kind=5)/\IF x/\IF y
 |⟨n,none,_⟩=>(n.kind=0\/n.kind=1\/n.kind=2)/\n.n1.size<=8/\n.n2.size<=8
 |⟨_,some _,none⟩=>False
def QL(r:Nat->eC Ex):Prop:=∀i x j,r i=.ok (x,j)->IF x
theorem lT{T u}(h:cE T i=.ok (u,j)):(T i).size<=8:=by
 unfold cE at h
 split at h
 ·split at h
  ·cases h
  omega
 cases h
theorem Pf(t p){x y}(C:IF x)(D:IF y):IF (fV t p x y):=by
 refine ⟨?_,C,D⟩
 show kindOf t=3\/kindOf t=4\/kindOf t=5
 unfold kindOf;exact Jf
section
variable (T:Nat->ae)(P:Nat->Nat)
theorem MK:QL (kG T P):=by
 intro i x j h;unfold kG at h
 split at h
 ·simp at h
 simp at h;obtain ⟨rfl,rfl⟩:=h;exact ⟨.inl rfl,by show em.size<=8;decide,by show em.size<=8;decide⟩
theorem Il:QL (iX T P):=by
 intro i x j h;unfold iX at h
 split at h
 ·simp at h
 rename_i h1
 split at h
 ·split at h
  ·simp at h
  rename_i h2;simp at h;obtain ⟨rfl,rfl⟩:=h;exact ⟨.inr (.inr rfl),lT h1,lT h2⟩
 simp at h;obtain ⟨rfl,rfl⟩:=h;exact ⟨.inr (.inl rfl),lT h1,by show em.size<=8;decide⟩
theorem Bj(D:Bool)(A:Nat->eC Ex)(hi:QL A):QL (eQ T P D A):=by
 intro i x j h;unfold eQ at h
 split at h
 ·exact MK T P _ _ _ h
 split at h
 ·split at h
  ·split at h
   ·simp at h
   rename_i C;have:=hi _ _ _ C
   split at h<;>simp at h
   obtain ⟨rfl,rfl⟩:=h;exact this
  simp at h
 exact Il T P _ _ _ h
theorem Bk(l:List ae)(part:Nat->eC Ex)(A:QL part):∀f y i x j,IF y->joinL T P l part f y i=.ok (x,j)->IF x
 |0,_,i,x,j,hb,h=>by simp [joinL] at h
 |f+1,y,i,x,j,hb,h=>by
  unfold joinL at h
  split at h
  ·split at h
   ·simp at h
   rename_i C;exact Bk l part A f _ _ _ _ (Pf _ _ hb (A _ _ _ C)) h
  simp at h;obtain ⟨rfl,rfl⟩:=h;exact hb
theorem pJ(l:List ae)(part:Nat->eC Ex)(A:QL part):QL (eG T P l part):=by
 intro i x j h;unfold eG at h
 split at h
 ·simp at h
 rename_i C;exact Bk T P l part A _ _ _ _ _ (A _ _ _ C) h
theorem Bl:∀n,QL (fb T P n)
 |0=>pJ T P _ _ (pJ T P _ _ (Bj T P false _ (fun i x j h=>by simp at h)))
 |n+1=>pJ T P _ _ (pJ T P _ _ (Bj T P true _ (Bl n)))
end
theorem wG:∀e,IF e->A1 e
 |⟨n,some x,some y⟩,h=>⟨wG x h.2.1,wG y h.2.2⟩
 |⟨n,none,r⟩,_=>trivial
 |⟨n,some x,none⟩,h=>h.elim
theorem uG(rel):∀(e:Ex)(m:Nat),IF e->(aW rel m e).length<=6*(aA e).length
 |⟨n,some x,some y⟩,m,h=>by
  have A:=uG rel x;have C:=uG rel y;rw [aW];simp only [aA,bo,List.length_cons,List.length_nil]
  split
  ·have:=A m h.2.1;have:=C (m+(aW rel m x).length) h.2.2;simp only [bo,List.length_cons,List.length_nil];omega
  have:=A m h.2.1;have:=C (m+(aW rel m x).length+1) h.2.2;simp only [bo,List.length_cons,List.length_nil];omega
 |⟨n,none,r⟩,m,h=>by
  rw [aW];simp only [aA,List.length_cons,List.length_nil]
  split
  ·simp [gE]
  split
  ·simp
  simp [gE]
 |⟨n,some x,none⟩,m,h=>h.elim
theorem uH(rel)(C:rel.size<=500):∀(e:Ex)(m:Nat),IF e->∀i∈aW rel m e,i.rel.size<=500
 |⟨n,some x,some y⟩,m,h,i,hi=>by
  have D:=uH rel C x;have I:=uH rel C y;rw [aW] at hi
  split at hi
  ·simp only [aT,aR] at hi
   rcases hi with (hi|hi)|rfl
   ·exact D _ h.2.1 i hi
   ·exact I _ h.2.2 i hi
   exact DO
  simp only [aT,aR] at hi
  rcases hi with ((hi|rfl)|hi)|rfl
  ·exact D _ h.2.1 i hi
  ·exact DO
  ·exact I _ h.2.2 i hi
  exact DO
 |⟨n,none,r⟩,m,h,i,hi=>by
  obtain ⟨_,h1,h2⟩:=h;rw [aW] at hi;have z:(⟨#[]⟩:ae).size<=500:=ar
  split at hi
  ·simp only [gE,bA,fG,fH] at hi
   rcases hi with rfl|rfl|rfl|rfl|rfl<;>first|exact C|exact z
  split at hi
  ·rw [aR] at hi;subst hi
   show n.n1.size<=500
   omega
  simp only [gE,bA,fG,fH] at hi
  rcases hi with rfl|rfl|rfl|rfl|rfl<;>first|exact z|(show n.n1.size<=500;omega)|(show n.n2.size<=500;omega)
 |⟨n,some x,none⟩,m,h,i,hi=>h.elim
section
variable (T:Nat->ae)(P:Nat->Nat)
theorem nW{T x u}(h:b5 T x i=.ok (u,j)):(T i).size<=8:=by
 unfold b5 at h
 split at h
 ·cases h
 rename_i h1;exact lT h1
theorem Pg(h:kH T P i=.ok (r,j)):r.name.size<=8:=by
 unfold kH at h
 split at h
 ·simp at h
 rename_i h1
 split at h
 ·simp at h
 split at h<;>simp at h
 obtain ⟨rfl,rfl⟩:=h;exact nW h1
theorem Bm:∀f acc i rs j,(∀r∈acc,r.name.size<=8)->dg T P f acc i=.ok (rs,j)->∀r∈rs,r.name.size<=8
 |0,_,i,x,j,_,h=>by simp [dg] at h
 |f+1,acc,i,x,j,ha,h=>by
  unfold dg at h
  split at h
  ·simp at h;obtain ⟨rfl,rfl⟩:=h;exact ha
  split at h
  ·simp at h
  split at h
  ·simp at h
  rename_i C;refine Bm f _ _ _ _ (fun r A=> ?_) h;rw [aT,aR] at A
  rcases A with A|rfl
  ·exact ha r A
  exact Pg T P C
theorem ML(C:lX T P i=.ok (t,j)):t.name.size<=8/\∀r∈t.rels,r.name.size<=8:=by
 unfold lX at C
 split at C
 ·split at C
  ·simp at C
  rename_i h1
  split at C
  ·simp at C
  rename_i D;simp at C;obtain ⟨rfl,rfl⟩:=C;exact ⟨nW h1,Bm T P _ _ _ _ _ an D⟩
 simp at C
theorem wH:∀f acc i ts j,(∀t∈acc,t.name.size<=8/\∀r∈t.rels,r.name.size<=8)->db T P f acc i=.ok (ts,j)->∀t∈ts,t.name.size<=8/\∀r∈t.rels,r.name.size<=8
 |0,_,i,x,j,_,h=>by simp [db] at h
 |f+1,acc,i,x,j,ha,h=>by
  unfold db at h
  split at h
  ·simp at h;obtain ⟨rfl,rfl⟩:=h;exact ha
  split at h
  ·simp at h
  split at h
  ·simp at h
  rename_i C;refine wH f _ _ _ _ (fun t A=> ?_) h;rw [aT,aR] at A
  rcases A with A|rfl
  ·exact ha t A
  exact ML T P C
end
structure Bo(ts:List Ty):Prop where
 k:Si ts
 d:eN ts
 g:tY ts
 e:∀t∈ts,∀r∈t.rels,IF r.body
 n:∀t∈ts,t.name.size<=8/\∀r∈t.rels,r.name.size<=8
theorem md_of(C:fo s=.ok ts):Bo ts:=by
 unfold fo at C
 split at C
 ·cases C
 rename_i hs
 split at C
 ·cases C
 rename_i ts' m O
 split at C
 ·cases C
 rename_i hc
 cases C
 unfold gt at hc
 split at hc
 ·cases hc
 rename_i h1
 split at hc
 ·cases hc
 rename_i h2
 split at hc
 ·cases hc
 rename_i Q;have J:=(mU _ _ h1).2;refine ⟨⟨fun t D=>cR J D,fun t D r I=> ?_,fun t D r I=> ?_,fun t D r I p V _ R=> ?_⟩,J,ue O,fun t D r I=> ?_,wH _ _ _ _ _ _ _ an O⟩
 ·exact oJ (J.2 t D) I
 ·unfold eA at Q;have:=(jI.1 Q) t D;exact (jI.1 this) r I
 ·unfold gA;rw [if_neg (fun e=>R (.inl e)),if_neg (fun e=>R (.inr e))]
 obtain ⟨_,i0,Y,U,_⟩:=jR O t D r I;exact Bl _ _ _ _ _ _ U
structure Bp(ts:List Ty)(t:Tu):Prop where
 lets:l6 ts t=0
 id:bp t.id=true
 low:t.kind.size<=maxLen/\t.id.size<=maxLen/\m0 (gx t)
def rB(ts:List Ty)(k n:ae):Bool:=((bL ts k).bind fun t=>bP t n).isSome
theorem wI:bp (⟨#[42]⟩:ae)=false:=by kernel_rfl
def eY(ts:List Ty)(s:Sj):Bool:=rB ts s.kind s.rel&&bp s.id
def IG(ts:List Ty)(ρ:Sp->Nat)(s:Sj):Nat:=if eY ts s then ρ (s.kind,s.rel)+1 else 0
def kB(gs:List Tu)(kd id:ae):List Tu:=gs.filter fun t=>m4 ⟨kd,id,[]⟩ t
theorem kX{kd t}:t∈kB gs kd id↔t∈gs/\t.kind=kd/\t.id=id:=by
 unfold kB;rw [List.mem_filter,fi];exact ⟨fun ⟨A,e1,h⟩=>⟨A,e1.symm,h.symm⟩,fun ⟨A,e1,h⟩=>⟨A,e1.symm,h.symm⟩⟩
section
variable {ts:List Ty}{gs:List Tu}{t:Ty}{r:Rl}{e:Ex}{id:ae}{s:Sj}
theorem oS(C:∀t∈gs,Bp ts t){u}(I:u∈gs):∃y q g,bL ts u.kind=some y/\bP y u.rel=some q/\g∈bZ q.body/\g.ty=u.sub/\g.reach=hQ u.who u.of/\g.rel=u.of:=by
 have h:=(C u I).lets;unfold l6 at h
 cases h1:bL ts u.kind with
 |none=>rw [h1] at h;simp at h
 |some y=>
  rw [h1] at h;simp only at h
  cases h2:bP y u.rel with
  |none=>rw [h2] at h;simp at h
  |some q=>
   rw [h2] at h;simp only at h
   split at h
   ·rename_i D;obtain ⟨g,C,A⟩:=ei.1 D;unfold fY at A;simp only [bO,bn,dL] at A;exact ⟨y,q,g,rfl,h2,C,A.1,A.2.1,A.2.2⟩
   cases h
theorem wJ(ab:Bo ts)(Z:∀t∈gs,Bp ts t)(O:t∈ts)(ad:r∈t.rels)(ac:e∈aH r.body)(ae:BI t.name id (kB gs t.name id) r.name e s)(h:eY ts s=true):(s.kind,s.rel)∈dq ts t r e:=by
 have Y:=iy ac;obtain ⟨n,ah,rr⟩:=e;simp only at Y;subst Y;rw [fP rfl];have J:=ab.k
 rcases ae with ⟨h0,u,Q,e1,C,rfl⟩|⟨h1,rfl⟩|⟨h0,h1,u,Q,e1,C,rfl⟩
 ·rw [if_pos h0];obtain ⟨R,U,af⟩:=kX.1 Q;obtain ⟨y,q,g,f1,f2,I,D,A,V⟩:=oS Z R;rw [U,J.fnd t O] at f1
  cases f1
  rw [e1,J.fnr t O r ad] at f2
  cases f2
  unfold hQ at A;rw [if_neg C] at A;unfold lm;rw [lN];exact ⟨g,I,by unfold ll;rw [if_pos A,D,V];rfl⟩
 ·rw [if_neg (by show ¬n.kind=0;omega)];unfold rK;rw [if_neg (by show ¬n.kind=0;omega),if_pos h1];simp
 rw [if_neg h0];unfold rK;rw [if_neg h0,if_neg h1];obtain ⟨R,U,af⟩:=kX.1 Q;obtain ⟨y,q,g,f1,f2,I,D,A,V⟩:=oS Z R;rw [U,J.fnd t O] at f1
 cases f1
 rw [e1] at f2;have ag:¬eqs u.who dh=true:=fun e=>by
  unfold eY at h;simp only [bO] at h;rw [show u.who=⟨#[42]⟩ from (bn _ _).1 e,wI] at h
  cases h.2
 unfold hQ at A;rw [if_pos C,if_neg ag] at A;unfold eY rB at h;simp only [bO] at h;rw [aY]
 cases f3:bL ts u.sub with
 |none=>rw [f3] at h;cases h.1
 |some v=>
  rw [f3] at h;refine ⟨v,?_,by rw [(cV f3).2]⟩;unfold mC;rw [f2];rw [lN];refine ⟨g,I,?_⟩;unfold ip;rw [if_pos A,D,f3];simp only;rw [if_pos (by simpa using h.1)]
end
structure QM(ts:List Ty)(ρ:Sp->Nat):Prop where
 pos:∀t∈ts,∀r∈t.rels,∀e∈aH r.body,∀d∈dq ts t r e,ρ d<=ρ (t.name,r.name)
 neg:∀t∈ts,∀r∈t.rels,∀e∈vj r.body,∀d∈dq ts t r e,ρ d<ρ (t.name,r.name)
theorem QO(I:Bo ts):QM ts (Bc ts):=⟨fun t D r C e A d h=>I.k.rkp D C A h,fun t D r C e A d h=>I.k.rkn D C A h⟩
section
variable {kd id:ae}{tu:List Tu}{rel:ae}{s:Sj}
theorem rW:∀x,BI kd id tu rel x s->∃e∈aH x,BI kd id tu rel e s
 |⟨n,some x,some y⟩,h=>by
  simp only [aH,aT]
  rcases h with h|h
  ·obtain ⟨e,A,h⟩:=rW x h;exact ⟨e,.inl A,h⟩
  obtain ⟨e,A,h⟩:=rW y h;exact ⟨e,.inr A,h⟩
 |⟨n,none,r⟩,h=>⟨_,by simp [aH],h⟩
 |⟨n,some x,none⟩,h=>h.elim
theorem yt:∀x,H4 kd id tu rel x s->∃e∈vj x,BI kd id tu rel e s
 |⟨n,some x,some y⟩,h=>by
  unfold H4 at h;unfold vj
  rcases h with h|h
  ·obtain ⟨e,A,h⟩:=yt x h
   split
   ·exact ⟨e,m5 _ A,h⟩
   exact ⟨e,m5 _ A,h⟩
  split at h
  ·rename_i C;obtain ⟨e,A,h⟩:=yt y h;rw [if_pos C];exact ⟨e,uD _ A,h⟩
  rename_i C;obtain ⟨e,A,h⟩:=rW y h;rw [if_neg C];exact ⟨e,uD _ A,h⟩
 |⟨n,none,r⟩,h=>h.elim
 |⟨n,some x,none⟩,h=>h.elim
end
theorem nH:∀(x e:Ex),e∈vj x->e∈aH x
 |⟨n,some x,some y⟩,e,h=>by
  unfold vj at h;simp only [aH,aT]
  split at h
  ·rcases aT.1 h with h|h
   ·exact .inl (nH x e h)
   exact .inr (nH y e h)
  rcases aT.1 h with h|h
  ·exact .inl (nH x e h)
  exact .inr h
 |⟨n,none,r⟩,e,h=>by simp [vj] at h
 |⟨n,some x,none⟩,e,h=>by simp [vj] at h
section
variable {ts:List Ty}{gs:List Tu}{ρ:Sp->Nat}{t:Ty}{r:Rl}{id:ae}{s:Sj}
theorem MM(D:Bo ts)(O:QM ts ρ)(I:∀t∈gs,Bp ts t)(C:t∈ts)(A:r∈t.rels)(J:BI t.name id (kB gs t.name id) r.name r.body s):IG ts ρ s<=ρ (t.name,r.name)+1:=by
 unfold IG
 split
 ·rename_i hl;obtain ⟨e,h,h1⟩:=rW _ J;have:=O.pos t C r A e h _ (wJ D I C A h h1 hl);omega
 omega
theorem FD(D:Bo ts)(O:QM ts ρ)(I:∀t∈gs,Bp ts t)(C:t∈ts)(A:r∈t.rels)(J:H4 t.name id (kB gs t.name id) r.name r.body s):IG ts ρ s<ρ (t.name,r.name)+1:=by
 unfold IG
 split
 ·rename_i hl;obtain ⟨e,h,h1⟩:=yt _ J;have:=O.neg t C r A e h _ (wJ D I C A (nH _ _ h) h1 hl);omega
 omega
end
def fJ(ts:List Ty)(gs:List Tu)(who:Tg)(kp kn:Sj->Bool)(s:Sj):Bool:=
 if bp s.id then (match bL ts s.kind with
  |none=>false
  |some t=>match bP t s.rel with
   |none=>false
   |some r=>h6 kp kn who s.kind s.id (kB gs s.kind s.id) s.rel r.body) else false
section
variable {ts:List Ty}{gs:List Tu}{who:Tg}{ρ:Sp->Nat}{kp kn:Sj->Bool}
theorem uI(h:Bo ts)(A:t∈ts)(D:r∈t.rels)(C:bp id=true):fJ ts gs who kp kn ⟨t.name,id,r.name⟩=h6 kp kn who t.name id (kB gs t.name id) r.name r.body:=by
 unfold fJ;rw [if_pos C];simp only [h.k.fnd t A,h.k.fnr t A r D]
theorem m6(s):(∃t∈ts,∃r∈t.rels,∃id,bp id=true/\s=⟨t.name,id,r.name⟩)\/(eY ts s=false/\∀kp kn,fJ ts gs who kp kn s=false):=by
 obtain ⟨k,id,n⟩:=s
 cases h:bp id
 ·exact .inr ⟨by simp [eY,h],fun kp kn=>by unfold fJ;rw [if_neg (by simp [h])]⟩
 cases h1:bL ts k with
 |none=>exact .inr ⟨by simp [eY,rB,h1],fun kp kn=>by unfold fJ;rw [if_pos h];simp only [h1]⟩
 |some t=>
  cases h2:bP t n with
  |none=>exact .inr ⟨by simp [eY,rB,h1,h2],fun kp kn=>by unfold fJ;rw [if_pos h];simp only [h1,h2]⟩
  |some r=>
   obtain ⟨A,C⟩:=cV h1;obtain ⟨b1,D⟩:=cB h2;exact .inl ⟨t,A,r,b1,id,h,by rw [C,D]⟩
theorem Ph(h:Bo ts)(A:t∈ts)(D:r∈t.rels)(C:bp id=true):eY ts ⟨t.name,id,r.name⟩=true:=by
 unfold eY rB;simp [h.k.fnd t A,h.k.fnr t A r D,C]
theorem sys_f(C:Bo ts)(O:QM ts ρ)(J:∀t∈gs,Bp ts t):Sys (fJ ts gs who) (IG ts ρ) where
 mono:=fun kp BH kn s Q hs=>by
  rcases m6 (ts:=ts) (gs:=gs) (who:=who) s with ⟨t,A,r,h,id,D,rfl⟩|⟨_,h2⟩
  ·rw [uI C A h D] at hs ⊢;exact gP Q _ hs
  rw [h2] at hs;cases hs
 dep:=fun kp BH kn S4 s h1 h2=>by
  rcases m6 (ts:=ts) (gs:=gs) (who:=who) s with ⟨t,A,r,h,id,D,rfl⟩|⟨_,I⟩
  ·rw [uI C A h D,uI C A h D];have e:IG ts ρ ⟨t.name,id,r.name⟩=ρ (t.name,r.name)+1:=by unfold IG;rw [if_pos (Ph C A h D)]
   refine fS _ (fun s hs=>h1 s ?_) (fun s hs=>h2 s ?_)
   ·rw [e];exact MM C O J A h hs
   rw [e];exact FD C O J A h hs
  rw [I,I]
end
structure S7(ts:List Ty)(G:List (List TR))(ρ:Sp->Nat):Prop where
 mem:∀i g,G[i]? =some g->∀x∈g,x.1∈ts/\x.2∈x.1.rels/\ρ (x.1.name,x.2.name)=i
 cov:∀t∈ts,∀r∈t.rels,∃g,G[ρ (t.name,r.name)]? =some g/\(t,r)∈g
structure TO(gs:List Tu)(hs:List Hp):Prop where
 ts:∀h∈hs,h.ts=kB gs h.kd h.id
 all:∀t∈gs,∃h∈hs,h.kd=t.kind/\h.id=t.id
theorem DP(gs:List Tu):TO gs (eB gs) where
 ts:=fun h A=>((nF gs).ts h A).1
 all:=fun t C=>by
  obtain ⟨h,A,e⟩:=(nF gs).all t C;exact ⟨h,A,fi.1 e⟩
theorem iT{K who kd id rel}(h:∀n,K ⟨kd,id,n⟩=false):∀e,cH K who kd id [] rel e=false
 |⟨n,some x,some y⟩=>by
  have A:=iT (who:=who) (rel:=rel) h x;have C:=iT (who:=who) (rel:=rel) h y;rw [cH,A,C];simp
 |⟨n,none,_⟩=>by
  rw [cH];simp [h]
 |⟨_,some _,none⟩=>by rw [cH]
def kY(gs:List Tu)(s:Sj):Prop:=kB gs s.kind s.id=[]
section
variable {ts:List Ty}{gs:List Tu}{who:Tg}{hs:List Hp}{g:List TR}{k0 k1 k:Sj->Bool}
theorem FE(R:TO gs hs)(Z:∀x∈g,A1 x.2.body)(A:Pe who hs (g.map l8) k0 k1)(h0:∀s,kY gs s->k0 s=false):∀s,kY gs s->k1 s=false:=by
 classical
 intro s C
 by_cases J:lS (g.map l8) hs s
 ·cases U:k1 s
  ·rfl
  have:=A.least (fun s=>if lS (g.map l8) hs s then decide (¬kY gs s) else k0 s) (fun s hs=>by rw [if_neg hs]) (fun x O y Q e h=>by
   have Y:lS (g.map l8) hs ⟨y.kd,y.id,x.nm⟩:=⟨x,O,y,Q,e,rfl⟩
   show (if lS (g.map l8) hs ⟨y.kd,y.id,x.nm⟩ then decide (¬kY gs ⟨y.kd,y.id,x.nm⟩) else _)=true
   rw [if_pos Y,mA];intro I;obtain ⟨p,V,rfl⟩:=aY.1 O;have e1:y.ts=[]:=(R.ts y Q).trans I;rw [e1] at h;have:=iT (K:=fun s=>if lS (g.map l8) hs s then decide (¬kY gs s) else k0 s) (who:=who) (kd:=y.kd) (id:=y.id) (rel:=p.2.name) (fun n=>by
    have D:kY gs ⟨y.kd,y.id,n⟩:=I
    show (if lS (g.map l8) hs ⟨y.kd,y.id,n⟩ then decide (¬kY gs ⟨y.kd,y.id,n⟩) else k0 ⟨y.kd,y.id,n⟩)=false
    split
    ·simp [D]
    exact h0 _ D) p.2.body
   rw [nG _ _ _ _ _ _ _ (Z p V)] at this;rw [show iS (fun s=>if lS (g.map l8) hs s then decide (¬kY gs s) else k0 s) who y.kd y.id [] (l8 p).nm (l8 p).sh=false from this] at h
   cases h) s U
  rw [if_pos J,mA] at this;exact absurd C this
 rw [A.old s J];exact h0 s C
theorem rY(C:TO gs hs):∀{A:List (List TR)} {k a:Sj->Bool},(∀g∈A,∀x∈g,A1 x.2.body)->nL who hs (A.map (List.map l8)) k a->(∀s,kY gs s->k s=false)->∀s,kY gs s->a s=false
 | [],k,a,_,h,h0=>by rw [show a=k from h];exact h0
 |g::A,k,a,hw,⟨k1,h1,h2⟩,h0=>rY C (fun g' D=>hw g' (gM _ D)) h2 (FE C (hw g hV) h1 h0)
end
abbrev DQ:=@List.eq_nil_iff_forall_not_mem
def MN (A:aF:=by
 obtain ⟨j,C⟩:=iw.1 hg;obtain ⟨h1,h2,_⟩:=hG.mem j g C x hx;exact wG _ (hm.e _ h1 _ h2)):aF:=A
section
variable {ts:List Ty}{gs:List Tu}{who:Tg}{ρ:Sp->Nat}{G:List (List TR)}{hs:List Hp}{kb:Sj->Bool}
theorem qR(A:S7 ts G ρ){g}(hi:G[i]? =some g){s}(h:lS (g.map l8) hs s):ρ (s.kind,s.rel)=i:=by
 obtain ⟨x,C,y,D,e,rfl⟩:=uE.1 h;have:=(A.mem i g hi x C).2.2
 show ρ (y.kd,x.2.name)=i
 rw [e];exact this
theorem rZ(h:Bo ts)(C:S7 ts G ρ){g}(hi:G[i]? =some g){s}(A:lS (g.map l8) hs s):rB ts s.kind s.rel=true:=by
 obtain ⟨x,D,y,I,e,rfl⟩:=uE.1 A;obtain ⟨h1,h2,_⟩:=C.mem i g hi x D;unfold rB
 show ((bL ts y.kd).bind fun t=>bP t x.2.name).isSome=true
 rw [e,h.k.fnd _ h1];simp [h.k.fnr _ h1 _ h2]
theorem jX(C:∀t∈gs,Bp ts t){s}(h:bp s.id=false):kY gs s:=by
 unfold kY;rw [DQ];intro t D;obtain ⟨h1,h2,A⟩:=kX.1 D;have:=(C t h1).id;rw [A,h] at this
 cases this
structure Sw(G:List (List TR))(gs:List Tu)(who:Tg)(hs:List Hp)(ρ:Sp->Nat)(i:Nat)(g:List TR)(kb k0 k1:Sj->Bool):Prop where
 sol:Pe who hs (g.map l8) k0 k1
 lt:∀s,ρ (s.kind,s.rel)<i->kb s=k0 s
 le:∀s,ρ (s.kind,s.rel)<=i->kb s=k1 s
 ge:∀s,i<=ρ (s.kind,s.rel)->k0 s=false
 dry:∀s,kY gs s->k0 s=false/\k1 s=false/\kb s=false
 no:∀s,(∀(j:Nat)(g':List TR),G[j]? =some g'->¬lS (g'.map l8) hs s)->k0 s=false/\k1 s=false/\kb s=false
theorem FF(hm:Bo ts)(hG:S7 ts G ρ)(Q:TO gs hs)(ac:nL who hs (G.map (List.map l8)) (fun _=>false) kb){g}(hi:G[i]? =some g):∃k0 k1,Sw G gs who hs ρ i g kb k0 k1:=by
 have U:∀g∈G,∀x∈g,A1 x.2.body:=fun g hg x hx=>by
  exact MN
 obtain ⟨hl,e0⟩:=be.1 hi;have ah:G=G.take i++g::G.drop (i+1):=by
  rw [<-e0,<-dw hl,og]
 have ad:=ac;rw [ah,de,cj] at ad;obtain ⟨a,ab,k1,h1,ai⟩:=uF ad;have al:∀g'∈G.take i,∃j,j<i/\G[j]? =some g':=fun g' I=>by
  obtain ⟨j,D⟩:=iw.1 I;rw [List.getElem?_take] at D
  split at D
  ·rename_i ak;exact ⟨j,ak,D⟩
  cases D
 have am:∀g'∈G.drop (i+1),∃j,i<j/\G[j]? =some g':=fun g' I=>by
  obtain ⟨j,D⟩:=iw.1 I;rw [wV] at D;exact ⟨_,aj,D⟩
 have af:∀s,(∀j g',j<i->G[j]? =some g'->¬lS (g'.map l8) hs s)->a s=false:=fun s O=>pI ab s (fun g' I=>by
  obtain ⟨x,hx,rfl⟩:=aY.1 I;obtain ⟨j,D,e⟩:=al x hx;exact O j x D e)
 have V:∀s,(∀j g',i<j->G[j]? =some g'->¬lS (g'.map l8) hs s)->kb s=k1 s:=fun s O=>pI ai s (fun g' I=>by
  obtain ⟨x,hx,rfl⟩:=aY.1 I;obtain ⟨j,D,e⟩:=am x hx;exact O j x D e)
 have Y:=rY Q (fun g' I=>U g' (List.mem_of_mem_take I)) ab (fun _ _=>rfl);have ag:=FE Q (U g (bx hi)) h1 Y;refine ⟨a,k1,h1,fun s ae=> ?_,fun s ae=> ?_,fun s ae=> ?_,fun s R=>⟨Y s R,ag s R,rY Q U ac (fun _ _=>rfl) s R⟩,fun s hn=> ?_⟩
 ·rw [V s (fun j g' D e J=>by have:=qR hG e J;omega),h1.old s (fun J=>by have:=qR hG hi J;omega)]
 ·exact V s (fun j g' D e J=>by have:=qR hG e J;omega)
 ·exact af s (fun j g' D e J=>by have:=qR hG e J;omega)
 have e1:=af s (fun j g' _ e=>hn j g' e);have Z:k1 s=false:=by rw [h1.old s (hn i g hi),e1]
 exact ⟨e1,Z,by rw [V s (fun j g' _ e=>hn j g' e),Z]⟩
theorem Sw.dead(I:Bo ts)(C:S7 ts G ρ)(D:∀t∈gs,Bp ts t){g k0 k1}(A:Sw G gs who hs ρ i g kb k0 k1){s}(h:eY ts s=false):k0 s=false/\k1 s=false/\kb s=false:=by
 unfold eY at h;rw [xm] at h
 rcases h with h|h
 ·exact A.no s (fun j g' e J=>by rw [rZ I C e J] at h;cases h)
 exact A.dry s (jX D h)
theorem DR(hm:Bo ts)(au:QM ts ρ)(hg:∀t∈gs,Bp ts t)(hG:S7 ts G ρ)(R:TO gs hs)(ag:nL who hs (G.map (List.map l8)) (fun _=>false) kb):qJ (fJ ts gs who) kb:=by
 have aK:∀g∈G,∀x∈g,A1 x.2.body:=fun g hg x hx=>by
  exact MN
 have ak:=rY R aK ag (fun _ _=>rfl);have dead:∀s,eY ts s=false->kb s=false:=fun s D=>by
  unfold eY at D;rw [xm] at D
  rcases D with D|D
  ·exact pI ag s (fun g' ax J=>by
    obtain ⟨x,hx,rfl⟩:=aY.1 ax;obtain ⟨j,aD⟩:=iw.1 hx;rw [rZ hm hG aD J] at D
    cases D)
  exact ak s (jX hg D)
 refine ⟨fun s=> ?_,fun ab aA=> ?_⟩
 ·rcases m6 (ts:=ts) (gs:=gs) (who:=who) s with ⟨t,J,r,Z,id,an,rfl⟩|⟨h1,h2⟩
  ·obtain ⟨g,Y,ar⟩:=hG.cov t J r Z;obtain ⟨k0,k1,N⟩:=FF hm hG R ag Y;rw [uI hm J Z an,fQ]
   by_cases ap:∃y∈hs,y.kd=t.name/\y.id=id
   ·obtain ⟨y,Q,e1,af⟩:=ap;have f:=N.sol.fix (l8 (t,r)) (aY.2 ⟨_,ar,rfl⟩) y Q e1;rw [e1,af,R.ts y Q,e1,af] at f;have f':cH k1 who t.name id (kB gs t.name id) r.name r.body=k1 ⟨t.name,id,r.name⟩:=by
     rw [nG _ _ _ _ _ _ _ (wG _ (hm.e t J r Z))];exact f
    rw [N.le _ az,<-f'];refine (fR _ (fun s I=> ?_)).symm;have ad:=MM hm au hg J Z I
    by_cases hl:eY ts s=true
    ·unfold IG at ad;rw [if_pos hl] at ad;exact N.le s aj
    have D:eY ts s=false:=by simpa using hl
    obtain ⟨_,ai,ah⟩:=N.dead hm hG hg D;rw [ai,ah]
   have U:kB gs t.name id=[]:=by
    rw [DQ];intro u aJ;obtain ⟨h1,h2,ay⟩:=kX.1 aJ;obtain ⟨y,Q,e1,af⟩:=R.all u h1;exact ap ⟨y,Q,e1.trans h2,af.trans ay⟩
   have av:∀n,kb ⟨t.name,id,n⟩=false:=fun n=>ak _ U
   rw [U,iT av];exact av r.name
  rw [h2,dead s h1]
 have key:∀n s,ρ (s.kind,s.rel)<n->kb s=true->ab s=true:=by
  intro n
  induction n with
  |zero=>intro s aN;omega
  |succ n ih=>
   intro s hn ac
   rcases m6 (ts:=ts) (gs:=gs) (who:=who) s with ⟨t,J,r,Z,id,an,rfl⟩|⟨h1,h2⟩
   ·obtain ⟨g,Y,ar⟩:=hG.cov t J r Z;obtain ⟨k0,k1,N⟩:=FF hm hG R ag Y;have aO:ρ (t.name,r.name)<n+1:=hn;generalize hi:ρ (t.name,r.name)=i at*
    classical
    obtain ⟨ae,O⟩:∃ae:Sj->Bool,∀s,ae s=if lS (g.map l8) hs s/\¬kY gs s then ab s else k0 s:=⟨fun s=>if lS (g.map l8) hs s/\¬kY gs s then ab s else k0 s,fun _=>rfl⟩
    have aL:∀s,ae s=true->ab s=true:=fun s I=>by
     rw [O] at I
     split at I
     ·exact I
     by_cases aE:ρ (s.kind,s.rel)<i
     ·exact ih s aj (by rw [N.lt s aE];exact I)
     rw [N.ge s aj] at I;cases I
    have:=N.sol.least ae (fun s I=>by rw [O,if_neg (fun e=>I e.1)]) (fun x hx y Q e aB=>by
     obtain ⟨p,aG,rfl⟩:=aY.1 hx;obtain ⟨p1,p2,aM⟩:=hG.mem i g Y p aG;have aI:lS (g.map l8) hs ⟨y.kd,y.id,(l8 p).nm⟩:=⟨l8 p,hx,y,Q,e,rfl⟩;have e':y.kd=p.1.name:=e;have V:cH ae who y.kd y.id y.ts p.2.name p.2.body=true:=by
      rw [nG _ _ _ _ _ _ _ (wG _ (hm.e _ p1 _ p2))];exact aB
     rw [R.ts y Q] at V
     by_cases U:kY gs ⟨y.kd,y.id,(l8 p).nm⟩
     ·exfalso;have D:kB gs y.kd y.id=[]:=U;rw [D,iT (fun m=>by
       have am:kY gs ⟨y.kd,y.id,m⟩:=D;rw [O,if_neg (fun e=>e.2 am)];exact (N.dry _ am).1)] at V
      cases V
     rw [O,if_pos ⟨aI,U⟩];have aC:bp y.id=true:=by
      cases aH:bp y.id
      ·exact absurd (jX (s:=⟨y.kd,y.id,(l8 p).nm⟩) hg aH) U
      rfl
     refine aA _ ?_
     show fJ ts gs who ab kb ⟨y.kd,y.id,p.2.name⟩=true
     rw [e'] at V ⊢;rw [uI hm p1 p2 aC];rw [<-fQ] at V;refine gP aL _ ?_;rw [<-fS _ (fun _ _=>rfl) (fun s I=> ?_)]
     ·exact V
     have ad:=FD hm au hg p1 p2 I
     by_cases hl:eY ts s=true
     ·unfold IG at ad;rw [if_pos hl,aM] at ad;rw [O,if_neg (fun e=>by have:=qR hG Y e.1;omega)];exact (N.lt s aj).symm
     have D:eY ts s=false:=by simpa using hl
     obtain ⟨aw,ai,ah⟩:=N.dead hm hG hg D;rw [O,ah]
     split
     ·rename_i al;unfold eY at D;rw [rZ hm hG Y al.1,fE] at D;exact absurd (jX hg D) al.2
     exact aw) _ (show k1 ⟨t.name,id,r.name⟩=true by rw [<-N.le _ (by show ρ (t.name,r.name)<=i;omega)];exact ac)
    rw [O] at this
    split at this
    ·exact this
    rw [N.ge _ (by show i<=ρ (t.name,r.name);omega)] at this
    cases this
   rw [dead s h1] at ac;cases ac
 exact fun s ac=>key _ s (Nat.lt_succ_self _) ac
end
structure TP{α:Type}(rk:α->Nat)(l:List α)(G:List (List α)):Prop where
 mem:∀(i:Nat)(g:List α),G[i]? =some g->∀x∈g,x∈l/\rk x=i+1
 cov:∀x∈l,∃g,G[rk x-1]? =some g/\x∈g
 sum:(G.map List.length).sum=l.length
theorem yu(n)(C:List (List α))(i):(fN n C)[i]? =if i<C.length then C[i]? else if i<n then some [] else none:=by
 unfold fN
 by_cases D:i<C.length
 ·rw [qc D,if_pos D]
 rw [s9 aj,if_neg D,List.getElem?_replicate]
 by_cases h2:i<n
 ·rw [if_pos h2,if_pos aj]
 rw [if_neg h2,if_neg aj]
theorem FG:∀(l:List Nat)(i v:Nat),i<l.length->(l.set i v).sum+l.getD i 0=l.sum+v
 | [],i,v,h=>by simp at h
 |a::l,0,v,h=>aM
 |a::l,i+1,v,h=>by
  have:=FG l i v mw;simp only [List.set_cons_succ,List.sum_cons,List.getD_cons_succ];omega
theorem Pi{rk:α->Nat}{l:List α}{D:List (List α)}(O:TP rk l D){x:α}(Z:1<=rk x):TP rk (l++[x]) (fO (rk x) x D):=by
 have R:rk x-1<(fN (rk x) D).length:=by unfold fN;simp;omega
 obtain ⟨q,I⟩:∃q,(fN (rk x) D)[rk x-1]? =some q:=⟨_,aG R⟩;have Q:(fN (rk x) D).getD (rk x-1) []=q:=by rw [dQ,I];rfl
 have Y:∀y∈q,y∈l/\rk y=rk x:=fun y C=>by
  rw [yu] at I
  split at I
  ·obtain ⟨h1,h2⟩:=O.mem _ _ I y C;exact ⟨h1,aj⟩
  split at I
  ·cases I;cases C
  cases I
 have at_:∀i,(fO (rk x) x D)[i]? =if i=rk x-1 then some (q++[x]) else (fN (rk x) D)[i]? :=fun i=>by
  unfold fO;rw [Q,List.getElem?_set]
  by_cases e:rk x-1=i
  ·rw [if_pos e,if_pos e.symm,if_pos aj]
  rw [if_neg e,if_neg (fun e'=>e e'.symm)]
 refine ⟨fun i g hi y C=> ?_,fun y C=> ?_,?_⟩
 ·rw [at_] at hi
  split at hi
  ·rename_i e
   cases hi
   rcases aT.1 C with C|C
   ·obtain ⟨h1,h2⟩:=Y y C;exact ⟨m5 _ h1,aj⟩
   rw [aR] at C;subst C;exact ⟨an,aj⟩
  rw [yu] at hi
  split at hi
  ·obtain ⟨h1,h2⟩:=O.mem _ _ hi y C;exact ⟨m5 _ h1,h2⟩
  split at hi
  ·cases hi;cases C
  cases hi
 ·rcases aT.1 C with C|C
  ·obtain ⟨g,J,U⟩:=O.cov y C;rw [at_]
   split
   ·rename_i e;refine ⟨_,rfl,m5 _ ?_⟩;rw [e] at J;rw [yu,if_pos (be.1 J).1,J] at I
    cases I
    exact U
   rw [yu,if_pos (be.1 J).1];exact ⟨g,J,U⟩
  rw [aR] at C;subst C;rw [at_,if_pos rfl];exact ⟨_,rfl,an⟩
 unfold fO;rw [Q,oF];have h1:((fN (rk x) D).map List.length).sum=l.length:=by
  unfold fN;rw [de,List.sum_append,O.sum];simp
 have h2:=FG ((fN (rk x) D).map List.length) (rk x-1) (q++[x]).length (by simpa using R);have V:((fN (rk x) D).map List.length).getD (rk x-1) 0=q.length:=by
  rw [dQ,dU,I]
  rfl
 rw [h1,V] at h2;simp only [bo,List.length_cons,List.length_nil] at h2 ⊢;omega
theorem FH{α:Type}{rk:α->Nat}:∀(m l:List α) (G:List (List α)),(∀x∈m,1<=rk x)->TP rk l G->TP rk (l++m) (m.foldl (fun g x=>fO (rk x) x g) G)
 | [],l,G,_,h=>by simpa using h
 |x::m,l,G,hx,h=>by
  have:=FH m (l++[x]) _ (fun y A=>hx y (gM _ A)) (Pi h (hx x hV));rw [eI] at this;exact this
theorem wK{x}:x∈mO ts↔x.1∈ts/\x.2∈x.1.rels:=by
 unfold mO;rw [cb]
 constructor
 ·rintro ⟨t,C,h⟩;obtain ⟨r,A,rfl⟩:=aY.1 h;exact ⟨C,A⟩
 rintro ⟨h1,h2⟩;exact ⟨x.1,h1,aY.2 ⟨x.2,h2,rfl⟩⟩
theorem uJ(ts):TP (T5 ts) (mO ts) (cZ ts):=by
 have:=FH (rk:=T5 ts) (mO ts) [] [] (fun x _=>FB) ⟨an,an,an⟩;rw [List.nil_append] at this;exact this
def TQ(ts:List Ty)(d:Sp):Nat:=Bc ts d-1
theorem MO(I:Bo ts):QM ts (TQ ts) where
 pos:=fun t D r C e A d h=>by
  have:=(QO I).pos t D r C e A d h;unfold TQ;omega
 neg:=fun t D r C e A d h=>by
  have:=(QO I).neg t D r C e A d h;have:=FB (ts:=ts) (x:=d);unfold TQ;omega
theorem h9(ts:List Ty):S7 ts (cZ ts) (TQ ts) where
 mem:=fun i g hi x I=>by
  obtain ⟨h1,h2⟩:=(uJ ts).mem i g hi x I;obtain ⟨h,A⟩:=wK.1 h1;have J:Bc ts (x.1.name,x.2.name)=i+1:=h2;exact ⟨h,A,by unfold TQ;omega⟩
 cov:=fun t D r C=>by
  obtain ⟨g,h1,h2⟩:=(uJ ts).cov (t,r) (wK.2 ⟨D,C⟩);exact ⟨g,h1,h2⟩
section
variable {ts:List Ty}{gs:List Tu}
theorem Pj(h:Bo ts)(J:∀t∈gs,Bp ts t):H7 (cZ ts) (eB gs) where
 hds:=fun a ha b ae e1 A=>Sm (nF gs).ap ha ae e1 A
 lns:=fun g J x C y D e1 A=>by
  obtain ⟨i,hi⟩:=iw.1 J;obtain ⟨I,O,_⟩:=(h9 ts).mem i g hi x C;obtain ⟨b1,ab,_⟩:=(h9 ts).mem i g hi y D;have f1:=h.k.fnd _ I;rw [e1,h.k.fnd _ b1] at f1;have ac:y.1=x.1:=gu f1;have f2:=h.k.fnr _ I _ O;rw [<-ac,A,h.k.fnr _ b1 _ ab] at f2;rw [gu f2]
 ap:=by
  rw [ja];intro i j hi ag aj x C y D ⟨e1,A⟩;obtain ⟨_,_,a⟩:=(h9 ts).mem i _ (aG hi) x C;obtain ⟨_,_,b⟩:=(h9 ts).mem j _ (aG ag) y D;rw [e1,A,b] at a;omega
 str:=fun g af x C y D e s hs U=>by
  obtain ⟨i,hi⟩:=iw.1 af;obtain ⟨I,O,ai⟩:=(h9 ts).mem i g hi x C;rw [(DP gs).ts y D,e] at hs;have R:=FD h (MO h) J I O hs;have V:=uE.2 U;have al:=qR (h9 ts) hi V;unfold IG at R
  split at R
  ·omega
  rename_i hl;apply hl;unfold eY;rw [rZ h (h9 ts) hi V,fE];obtain ⟨z,ak,Q,Z,e',rfl⟩:=U
  show bp Q.id=true
  have ah:=((nF gs).ts Q Z).2;obtain ⟨u,Y⟩:=List.exists_mem_of_ne_nil _ ah;rw [(DP gs).ts Q Z] at Y;obtain ⟨h1,h2,ad⟩:=kX.1 Y;rw [<-ad];exact (J u h1).id
theorem Sx{tl}(O:MC b w mv ts tl)(J:Bo ts)(R:∀t∈gs,Bp ts t)(ab:gs.length<=1000):UG ts gs:=by
 have Y:∀t∈ts,t.rels.length<=1000/\∀r∈t.rels,(aA r.body).length<=1000:=fun t C=>by
  rw [<-O.fst] at C;obtain ⟨p,ac,rfl⟩:=aY.1 C;obtain ⟨rl,V⟩:=O.rels p ac;exact ⟨V.len,V.okp⟩
 refine ⟨ab,fun t C=>(R t C).low,fun g Z x af=> ?_,Pj J R,?_⟩
 ·obtain ⟨i,hi⟩:=iw.1 Z;obtain ⟨D,I,_⟩:=(h9 ts).mem i g hi x af;have Q:=J.e _ D _ I;have hn:=(J.n _ D).2 _ I;refine ⟨wG _ Q,?_,?_,fun i hi=> ?_⟩
  ·have:=uG x.2.name x.2.body 0 Q;have:=(Y _ D).2 _ I;omega
  ·unfold maxLen;omega
  unfold fZ at hi
  rcases aT.1 hi with hi|hi
  ·have:=uH x.2.name aj x.2.body 0 Q i hi;unfold maxLen;omega
  rw [aR] at hi;subst hi
  show (⟨#[]⟩:ae).size<=maxLen
  decide
 rw [(uJ ts).sum];unfold mO;rw [List.length_flatMap];have key:∀l:List Ty,(∀t∈l,t.rels.length<=1000)->(l.map fun t=>(t.rels.map fun r=>((t,r):TR)).length).sum<=l.length*1000:=by
  intro l
  induction l with
  |nil=>intro _;simp
  |cons t l ih=>
   intro U;have:=ih (fun u ad=>U u (gM _ ad));have:=U t hV;simp only [cj,List.sum_cons,cK,List.length_cons] at*;omega
 have:=key ts (fun t C=>(Y t C).1);have:=O.len;omega
end
abbrev qS:=@Nat.add_zero
def MS (C:aF:=by
 go_wp2;go_roundw
 case rel=>exact ⟨k+1,aj,by go_num,by first|rfl|trivial,HN3⟩
 case measure=>simp [intOf];omega):aF:=C
structure GP where
 b:Nat
 y:Nat
 bm:Nat
 tv:ag
 gv:ag
 yv:ag
 kv:ag
 rv:ag
 pv:ag
 kl:List (ae×Nat)
 rl:List RV
 pl:List PV
 l:List PX
 ss:List ae
 th:List (ae×ae)
 bs:List Nat
 kd:ae
 who:ae
def Im(p:ae×ae):List ag:=[.string p.1,.string p.2]
structure GI(w:af)(g:GP)(K:Nat->Nat->Bool):Prop where
 blk:aB w g.b #[.pointer (some ⟨g.y,0,none⟩),.string g.kd,.string g.who,g.gv,g.yv] 351
 du:DU w g.y (.pointer (some ⟨g.bm,5,none⟩)) g.tv g.ss
 dm:DM w g.bm g.kv g.rv g.pv g.kl g.rl g.pl g.l
 th:w.ownsRow 0 382 2 g.gv g.th.length (g.th.flatMap Im)
 few:g.th.length<=1000
 yr:w.ownsRow 0 353 1 g.yv g.rl.length (g.bs.map fun q=> .slice (some ⟨q,0,none⟩) g.th.length g.th.length)
 bl:g.bs.length=g.rl.length
 yb:∀(r:Nat)(q:Nat),g.bs[r]? =some q->vk w q g.th.length (K r) 4
 mb:∃cs,aB w g.bm cs 252
 nd:g.bs.Nodup
theorem GI.below{g K}(h:GI w g K)(k:Below w.heap.size w w'):GI w' g K:=
 ⟨h.blk.below k,h.du.below k,h.dm.below k,aE h.th k,h.few,aE h.yr k,h.bl,fun r q C=>(h.yb r q C).below k,by obtain ⟨cs,A⟩:=h.mb;exact ⟨cs,A.below k⟩,h.nd⟩
theorem GI.five{g K}(h:GI w g K):w.cell? ⟨g.b,0,none⟩=some (.pointer (some ⟨g.y,0,none⟩))/\w.cell? ⟨g.b,1,none⟩=some (.string g.kd)/\w.cell? ⟨g.b,2,none⟩=some (.string g.who)/\w.cell? ⟨g.b,3,none⟩=some g.gv/\w.cell? ⟨g.b,4,none⟩=some g.yv:=⟨h.blk.cell rfl,h.blk.cell rfl,h.blk.cell rfl,h.blk.cell rfl,h.blk.cell rfl⟩
def uK(th:List (ae×ae))(k n:ae):Int:=match th.findIdx? (fun p=>eqs p.1 k&&eqs p.2 n) with
 |some i=>(i:Int)
 |none=> -1
theorem SA{th x n}(hk:k<th.length)(hn:∀j,(I:j<th.length)->j<k->(eqs th[j].1 x&&eqs th[j].2 n)=false)(he:(eqs th[k].1 x&&eqs th[k].2 n)=true):uK th x n=k:=by
 unfold uK;have:th.findIdx? (fun p=>eqs p.1 x&&eqs p.2 n)=some k:=by
  exact Cs
 rw [this]
theorem MU{th x n}(hn:∀j,(I:j<th.length)->(eqs th[j].1 x&&eqs th[j].2 n)=false):uK th x n= -1:=by
 unfold uK;have:th.findIdx? (fun p=>eqs p.1 x&&eqs p.2 n)=none:=by
  exact Cr
 rw [this]
theorem pK(b c0 c1 c2 c4 gv th x n w)(Y:aB w b #[c0,c1,c2,gv,c4] 351)(U:w.ownsRow 0 382 2 gv th.length (th.flatMap Im))(ar:th.length<=1000):
  Calls prog 200 #[.pointer (some ⟨b,0,none⟩),.string x,.string n] w fun e w'=>e=.returned (.int .i64 (uK th x n))/\w'=w:=by
 obtain ⟨ga,gc,rfl⟩:=ay U;have an:w.cell? ⟨b,3,none⟩=some (.slice ga th.length gc):=Y.cell rfl;have ac:=ai U;generalize Z:uK th x n=am;have V:=ai Z;clear Y U Z;go_enter func200,ntmps200;go_wp2_with fail
 go_loopw [7] (fun u wr=>∃k:Nat,k<=th.length/\u=.int .i64 k/\wr=w/\Hid (∀j,(Q:j<th.length)->j<k->(eqs th[j].1 x&&eqs th[j].2 n)=false)) (fun u _=>th.length-(intOf u).toNat)
 case atStart=>exact ⟨0,aj,rfl,rfl,ai (fun j Q ad=>aj)⟩
 case round=>
  obtain ⟨k,ap,rfl,al,R⟩:=hrel;subst al
  by_cases ab:k<th.length
  ·have ag:(k:Int)<(th.length:Int):=by omega
   obtain ⟨g,c,e1,hc⟩:=bi Im 2 (fun _=>rfl) ac.u k th[k] (aG ab);simp only [aI,cz] at e1;obtain ⟨rfl,rfl⟩:=e1;have k0:=hc 0 _ aj rfl;have k1:=hc 1 _ aj rfl;rw [qS] at k0;have I:=ai (fun (D:(eqs th[k].1 x&&eqs th[k].2 n)=false)=>show ∀j,(Q:j<th.length)->j<k+1->(eqs th[j].1 x&&eqs th[j].2 n)=false from fun j Q ad=>by
    by_cases e:j=k
    ·subst e;exact D
    exact ak R j Q aj)
   have O:=ai (fun (D:(eqs th[k].1 x&&eqs th[k].2 n)=true)=>SA ab (ak R) D);generalize th[k]=p at*;obtain ⟨p1,p2⟩:=p;simp only at k0 k1 I O;clear hc
   cases D:eqs p1 x
   ·have ae:(p1.toList==x.toList)=false:=by rw [<-aJ];exact D
    have HN3:=ai (ak I (by rw [D];rfl));clear I O D;exact MS
   have ae:(p1.toList==x.toList)=true:=by rw [<-aJ];exact D
   cases J:eqs p2 n
   ·have ah:(p2.toList==n.toList)=false:=by rw [<-aJ];exact J
    have HN3:=ai (ak I (by rw [D,J];rfl));clear I O D J;exact MS
   have ah:(p2.toList==n.toList)=true:=by rw [<-aJ];exact J
   have hF:=ak O (by rw [D,J];rfl);rw [V.u] at hF;subst hF;clear I O D J;go_wp2;go_ret;exact ⟨rfl,rfl⟩
  have ag:¬((k:Int)<(th.length:Int)):=aj;have hF:=MU (fun j af=>ak R j af aj);rw [V.u] at hF;subst hF;go_wp2;go_ret;exact ⟨rfl,rfl⟩
def yx(K:Nat->Nat->Bool)(r k a b:Nat):Bool:=if a=r/\b=k then true else K a b
theorem qT{cs'}(h:aB w a cs T)(k:aB w b cs' T')(A:T≠T'):a≠b:=by
 intro e;subst e;unfold aB at h k;rw [h] at k;exact A (by cases k;rfl)
theorem lV(C:w.ownsRow base e size v n xs)(A:aB w q cs T)(D:e≠T)(o u):(w.setCell ⟨q,o,none⟩ u).ownsRow base e size v n xs:=
 ax C (fun g' I f _ h=>dP _ _ _ _ (fun (e':g'=q)=>by
  subst e';unfold aB at A;rw [A] at h
  cases h
  exact D rfl))
theorem GI.set{g K}(C:GI w g K){r}(I:g.bs[r]? =some q):GI (w.setCell ⟨q,k,none⟩ (.bool true)) g (yx K r k):=by
 have D:aB w q _ 4:=C.yb r q I;obtain ⟨cs,V⟩:=C.mb;have O:=Rw.kd (w':=w.setCell ⟨q,k,none⟩ (.bool true)) (⟨C.dm,cs,V⟩:Rw w g.bm g.kv g.rv g.pv g.kl g.rl g.pl g.l) (KD.set D Ab k (.bool true));refine ⟨C.blk.other (qT C.blk D ar) _,⟨C.du.blk.other (qT C.du.blk D ar) _,lV C.du.row D ar _ _,C.du.apart,C.du.most⟩,O.dm,lV C.th D ar _ _,C.few,lV C.yr D ar _ _,C.bl,fun a J ha=> ?_,O.blk,C.nd⟩
 by_cases e:a=r
 ·subst e;rw [I] at ha
  cases ha
  have:=(C.yb a q I).set k true;refine this.congr (fun b R=> ?_);unfold yx
  by_cases e:b=k
  ·rw [if_pos e,if_pos ⟨rfl,e⟩]
  rw [if_neg e,if_neg (fun e'=>e e'.2)]
 have Y:J≠q:=fun e'=>by
  subst e';obtain ⟨h1,e1⟩:=be.1 ha;obtain ⟨h2,Q⟩:=be.1 I;exact e ((List.getElem_inj C.nd).1 (e1.trans Q.symm))
 have U:=C.yb a J ha;have:vk (w.setCell ⟨q,k,none⟩ (.bool true)) J g.th.length (K a) 4:=aB.other U Y _;refine this.congr (fun b R=> ?_);unfold yx;rw [if_neg (fun e'=>e e'.1)]
def TS (A:aF:=by
 rw [dU,aG (by rw [Io.u.bl];exact hnl)];rfl):aF:=A
def FJ (A:aF:=by
 rw [Io.u.bl];exact hnl):aF:=A
def MV (h:aF:=by
 rw [iW];intro s hs;obtain ⟨j,A,rfl⟩:=dn hs;rw [h j A];simp):aF:=h
def wL:ae:=⟨#[42]⟩
def Ip:ae:=⟨#[]⟩
theorem nI:Ip.toList=[]:=by rw [aO];rfl
theorem m8:wL.toList=[42]:=by rw [aO];rfl
def QP(X:RV)(id:ae)(t:Tu):Bool:=eqs t.kind X.kd&&(eqs t.id id&&eqs t.rel X.nm)
def Ny(g:GP)(t:Tu):Bool:=eqs t.of Ip&&(eqs t.sub g.kd&&(eqs t.who g.who||eqs t.who wL))
def TU(g:GP)(K:Nat->Nat->Bool)(t:Tu):Bool:= !eqs t.of Ip&&K (aU t.sub t.of g.rl 0).toNat (uK g.th t.sub t.who).toNat
def Iq(g:GP)(K:Nat->Nat->Bool)(X:RV)(id:ae)(t:Tu):Bool:=QP X id t&&(Ny g t||TU g K t)
def rD(g:GP)(K:Nat->Nat->Bool)(X:RV)(id:ae):Bool:=g.ss.any fun s=>Iq g K X id (tt s)
def MW(g:GP)(t:Tu):Prop:=eqs t.of Ip=false->∃(n m:Nat),aU t.sub t.of g.rl 0=n/\n<g.rl.length/\uK g.th t.sub t.who=m/\m<g.th.length
theorem Pk{g K}(h:∀j,(h:j<g.ss.length)->Iq g K X id (tt g.ss[j])=false):rD g K X id=false:=by
 unfold rD;exact MV
theorem Pl{g K}(A:j<g.ss.length)(h:Iq g K X id (tt g.ss[j])=true):rD g K X id=true:=ei.2 ⟨_,bu A,h⟩
theorem yz(g K)(r k:Nat)(X)(p:ae×ae)(w)(O:GI w g K)(bx:g.rl[r]? =some X)(bq:g.th[k]? =some p)(bo:∀s∈g.ss,MW g (tt s)):
  Calls prog 255 #[.pointer (some ⟨g.b,0,none⟩),.int .i64 r,.int .i64 k] w fun e w'=>e=.returned (.bool (rD g K X p.2))/\Below w.heap.size w w':=by
 obtain ⟨cl,rc,bS,ci,cj,ck,r3⟩:=O.dm.rat r X bx;have ce:=(be.1 bx).1;have b8:=(be.1 bq).1;have cf:(r:Int)<(g.rl.length:Int):=aj;have b9:(k:Int)<(g.th.length:Int):=aj;have cg:=O.du.most;obtain ⟨b3,b1,b4,b5,b6⟩:=O.five;have cq:w.cell? ⟨g.y,0,none⟩=some (.pointer (some ⟨g.bm,5,none⟩)):=O.du.blk.cell rfl;have bV:=O.dm.c6;rw [bS] at bV;have H:=ai O;have bG:=ai bo;have bE:=ai ((aw w.heap.size w).alloc az (jM X.kd X.nm X.pl X.ex));have bH:=ai (aB.new w #[.string X.kd,.string X.nm,.int .i64 X.pl,.int .i64 X.ex] 172);generalize bn:rD g K X p.2=b2;have bh:=ai bn;clear O bo bn;go_enter func255,ntmps255;go_wp2_with fail
 go_loopw [8] (fun u wr=>∃i:Nat,i<=g.ss.length/\u=.int .i64 i/\Below w.heap.size w wr/\aB wr w.heap.size #[.string X.kd,.string X.nm,.int .i64 X.pl,.int .i64 X.ex] 172/\Hid (∀j,(O:j<g.ss.length)->j<i->Iq g K X p.2 (tt g.ss[j])=false)) (fun u _=>g.ss.length-(intOf u).toNat)
 case atStart=>exact ⟨0,aj,rfl,bE.u,bH.u,ai (fun j O bJ=>aj)⟩
 case round=>
  obtain ⟨i,hi,rfl,U,aO,aU⟩:=hrel;have Z:=H.u.below U;obtain ⟨aC,ah,al,ac,aD⟩:=Z.five;have bZ:wr.cell? ⟨g.y,0,none⟩=some (.pointer (some ⟨g.bm,5,none⟩)):=Z.du.blk.cell rfl;have bD:wr.cell? ⟨g.y,1,none⟩=some g.tv:=Z.du.blk.cell rfl;obtain ⟨ta,tc,bz⟩:=ay Z.du.row;rw [bz] at bD
  by_cases ba:i<g.ss.length
  ·have bP:(i:Int)<(g.ss.length:Int):=by omega
   obtain ⟨co,cm,e1,hc⟩:=bi BE 7 (fun _=>rfl) Z.du.row i g.ss[i] (aG ba);rw [bz] at e1;simp only [aI,cz] at e1;obtain ⟨rfl,rfl⟩:=e1;have t0:=hc 0 _ aj rfl;have t1:=hc 1 _ aj rfl;have t2:=hc 2 _ aj rfl;have t3:=hc 3 _ aj rfl;have t4:=hc 4 _ aj rfl;have t5:=hc 5 _ aj rfl;have t6:=hc 6 _ aj rfl;rw [qS] at t0;have V:=ai (fun (a9:Iq g K X p.2 (tt g.ss[i])=false)=>show ∀j,(O:j<g.ss.length)->j<i+1->Iq g K X p.2 (tt g.ss[j])=false from fun j O bJ=>by
    by_cases e:j=i
    ·subst e;exact a9
    exact ak aU j O aj)
   have Y:=ai (fun (a9:Iq g K X p.2 (tt g.ss[i])=true)=>(Pl ba a9).symm.trans bh.u);have ad:=ai (bG.u _ (bu ba));unfold tt at V Y ad;generalize (bU g.ss[i]).1=T at*;generalize g.ss[i]=S at*;have aM:=(aw wr.heap.size wr).alloc az (hX T.kind T.id T.rel T.sub T.who T.of S);have aS:=ai (U.trans (aM.mono U.size));have aH:=ai (Z.below aM);have aL:=ai (aO.below aM);have au:=ai (aB.new wr #[.string T.kind,.string T.id,.string T.rel,.string T.sub,.string T.who,.string T.of,.string S] 264);have ch:¬(w.heap.size=wr.heap.size):=by have:=aO.lt;omega
   clear U aO Z hc aU aM;go_wp2_with fail;clear aC ah al ac aD bZ bD t0 t1 t2 t3 t4 t5 t6;generalize wr.alloc (hX T.kind T.id T.rel T.sub T.who T.of S)=W at*;generalize wr.heap.size=bt at*;obtain ⟨aC,ah,al,ac,aD⟩:=aH.u.five;obtain ⟨bN,b7,bO,bw⟩:=bi Im 2 (fun _=>rfl) aH.u.th k p bq;have k1:W.cell? ⟨bN,k*2+1,none⟩=some (.string p.2):=bw 1 _ aj rfl;rw [bO] at ac;have bW:W.cell? ⟨w.heap.size,0,none⟩=some (.string X.kd):=aL.u.cell rfl;have bX:W.cell? ⟨w.heap.size,1,none⟩=some (.string X.nm):=aL.u.cell rfl;have t0:W.cell? ⟨bt,0,none⟩=some (.string T.kind):=au.u.cell rfl;have t1:W.cell? ⟨bt,1,none⟩=some (.string T.id):=au.u.cell rfl;have t2:W.cell? ⟨bt,2,none⟩=some (.string T.rel):=au.u.cell rfl;have J:=ai (aw W.heap.size W);clear bw
   go_cut [69] (fun s bb=>s=.bool (!QP X p.2 T)/\Below W.heap.size W bb)
   case first=>
    cases h1:eqs T.kind X.kd
    ·have ax:(T.kind.toList==X.kd.toList)=false:=by rw [<-aJ];exact h1
     go_quiet (fail)
     go_wp2
     go_meet
     case rel=>exact ⟨by simp [QP,h1],cN J.u _⟩
    have ax:(T.kind.toList==X.kd.toList)=true:=by rw [<-aJ];exact h1
    cases h2:eqs T.id p.2
    ·have a7:(T.id.toList==p.2.toList)=false:=by rw [<-aJ];exact h2
     go_quiet (fail)
     go_wp2
     go_meet
     case rel=>exact ⟨by simp [QP,h1,h2],cN J.u _⟩
    have a7:(T.id.toList==p.2.toList)=true:=by rw [<-aJ];exact h2
    cases R:eqs T.rel X.nm
    ·have a8:(T.rel.toList==X.nm.toList)=false:=by rw [<-aJ];exact R
     go_quiet (fail)
     go_wp2
     go_meet
     case rel=>exact ⟨by simp [QP,h1,h2,R],cN J.u _⟩
    have a8:(T.rel.toList==X.nm.toList)=true:=by rw [<-aJ];exact R
    go_quiet (fail)
    go_wp2
    go_meet
    case rel=>exact ⟨by simp [QP,h1,h2,R],cN J.u _⟩
   case rest=>
    obtain ⟨rfl,Q⟩:=hcut;clear aC ah al ac aD bW bX t0 t1 t2 k1;have aE:=ai (aS.u.trans (Q.mono aS.u.size));have aT:=ai (aH.u.below Q);have aX:=ai (aL.u.below Q);have av:=ai (au.u.below Q);clear Q aS aH aL au J
    cases ab:QP X p.2 T
    ·have ar:=ai (ak V (by unfold Iq;rw [ab];rfl));clear V Y ad ab;go_wp2_with fail;exact ⟨⟨i+1,aj,by go_num,aE.u,aX.u,ar⟩,by simp [intOf];omega⟩
    obtain ⟨ag,bL⟩:∃z,z=wc:=⟨_,rfl⟩;subst bL;obtain ⟨aC,ah,al,ac,aD⟩:=aT.u.five;have t3:ag.cell? ⟨bt,3,none⟩=some (.string T.sub):=av.u.cell rfl;have t4:ag.cell? ⟨bt,4,none⟩=some (.string T.who):=av.u.cell rfl;have t5:ag.cell? ⟨bt,5,none⟩=some (.string T.of):=av.u.cell rfl;have J:=ai (aw ag.heap.size ag)
    go_upto_region 7 with fail
    go_cut [95] (fun s bb=>s=.bool (Ny g T)/\Below ag.heap.size ag bb)
    case first=>
     cases h1:eqs T.of Ip
     ·have ax:(T.of.toList== [])=false:=by rw [<-h1,aJ,nI]
      go_quiet (fail)
      go_wp2
      go_meet
      case rel=>exact ⟨by simp [Ny,h1],cN J.u _⟩
     have ax:(T.of.toList== [])=true:=by rw [<-h1,aJ,nI]
     cases h2:eqs T.sub g.kd
     ·have a7:(T.sub.toList==g.kd.toList)=false:=by rw [<-aJ];exact h2
      go_quiet (fail)
      go_wp2
      go_meet
      case rel=>exact ⟨by simp [Ny,h1,h2],cN J.u _⟩
     have a7:(T.sub.toList==g.kd.toList)=true:=by rw [<-aJ];exact h2
     cases R:eqs T.who g.who
     ·have a8:(T.who.toList==g.who.toList)=false:=by rw [<-aJ];exact R
      cases aN:eqs T.who wL
      ·have bK:(T.who.toList== [42])=false:=by rw [<-aN,aJ,m8]
       go_quiet (fail)
       go_wp2
       go_meet
       case rel=>exact ⟨by simp [Ny,h1,h2,R,aN],cN J.u _⟩
      have bK:(T.who.toList== [42])=true:=by rw [<-aN,aJ,m8]
      go_quiet (fail)
      go_wp2
      go_meet
      case rel=>exact ⟨by simp [Ny,h1,h2,R,aN],cN J.u _⟩
     have a8:(T.who.toList==g.who.toList)=true:=by rw [<-aJ];exact R
     go_quiet (fail)
     go_wp2
     go_meet
     case rel=>exact ⟨by simp [Ny,h1,h2,R],cN J.u _⟩
    case rest=>
     obtain ⟨rfl,Q⟩:=hcut;clear aC ah al ac aD t3 t4 t5;have ap:=ai (aE.u.trans (Q.mono aE.u.size));have Io:=ai (aT.u.below Q);have bj:=ai (aX.u.below Q);have aW:=ai (av.u.below Q);clear Q aE aT aX av J
     cases an:Ny g T
     ·obtain ⟨C,bM⟩:∃z,z=wc:=⟨_,rfl⟩;subst bM;have t5:C.cell? ⟨bt,5,none⟩=some (.string T.of):=aW.u.cell rfl
      cases h1:eqs T.of Ip
      ·have ax:(T.of.toList== [])=false:=by rw [<-h1,aJ,nI]
       obtain ⟨n1,aA,bv,hnl,br,bR⟩:=ak ad h1;obtain ⟨bA,bY,bT,bf⟩:=aZ Io.u.yr n1 (.slice (some ⟨g.bs[n1]'FJ,0,none⟩) g.th.length g.th.length) TS;have bc:=(Io.u.yb n1 _ (aG FJ)).cell bR;generalize g.bs[n1]'_=bC at bf bc;have aK:=ai (show Iq g K X p.2 T=K n1 aA from by
        unfold Iq TU;rw [ab,an,h1,bv,br];simp)
       generalize K n1 aA=bk at*;obtain ⟨c0,ah,al,ac,c1⟩:=Io.u.five;rw [bT] at c1;have c2:C.cell? ⟨g.y,0,none⟩=some (.pointer (some ⟨g.bm,5,none⟩)):=Io.u.du.blk.cell rfl;have c3:C.cell? ⟨bt,3,none⟩=some (.string T.sub):=aW.u.cell rfl;have aY:C.cell? ⟨bt,4,none⟩=some (.string T.who):=aW.u.cell rfl;have c5:=t5;have c6:=bf;have c7:=bc;have aQ:=ai (fun (w':af) (U:Below C.heap.size C w')=>show Calls prog 132 #[.pointer (some ⟨g.bm,5,none⟩),.string T.sub,.string T.of] w' (fun e w''=>e=.returned (.int .i64 (n1:Int))/\Below w'.heap.size w' w'') from by
        have:=dI g.bm g.kv g.rv g.pv g.kl g.rl g.pl g.l T.sub T.of w' (Io.u.dm.below U);rw [bv] at this;exact this)
       have aR:=ai (fun (w':af) (U:Below C.heap.size C w')=>show Calls prog 200 #[.pointer (some ⟨g.b,0,none⟩),.string T.sub,.string T.who] w' (fun e w''=>e=.returned (.int .i64 (aA:Int))/\w''=w') from by
        have I:=Io.u.below U;have:=pK g.b _ _ _ _ _ g.th T.sub T.who w' I.blk I.th I.few;rw [br] at this;exact this)
       have cd:(n1:Int)<(g.rl.length:Int):=aj;have cb:(aA:Int)<(g.th.length:Int):=aj;have aP:=ai (aw C.heap.size C);clear ah al ac t5 bf bc an h1 ab
       go_upto_region 9 with fail
       go_region_held3 (fun w'=>w'.cell? ⟨g.b,0,none⟩=some (.pointer (some ⟨g.y,0,none⟩))/\w'.cell? ⟨g.b,4,none⟩=some (.slice (some ⟨bA,0,none⟩) g.rl.length bY)/\w'.cell? ⟨g.y,0,none⟩=some (.pointer (some ⟨g.bm,5,none⟩))/\w'.cell? ⟨bt,3,none⟩=some (.string T.sub)/\w'.cell? ⟨bt,4,none⟩=some (.string T.who)/\w'.cell? ⟨bt,5,none⟩=some (.string T.of)/\w'.cell? ⟨bA,n1,none⟩=some (.slice (some ⟨bC,0,none⟩) g.th.length g.th.length)/\w'.cell? ⟨bC,aA,none⟩=some (.bool bk)) (go_keep)
        ((first|(go_at_call 132;refine (aQ.u _ (show Below C.heap.size C _ from (by first|exact D.u|exact (bB aP)))).mono ?_;rintro e w5 ⟨rfl,bp⟩;have D:=ai (gQ (a:=C) (B:=C.heap.size) (show Below C.heap.size C _ from (by first|exact D.u|exact (bB aP))) (bp.mono rA));have d0:=am c0 D.u;have d1:=am c1 D.u;have d2:=am c2 D.u;have d3:=am c3 D.u;have d4:=am aY D.u;have d5:=am c5 D.u;have d6:=am c6 D.u;have d7:=am c7 D.u;clear bp)|(go_at_call 200;refine (aR.u _ (show Below C.heap.size C _ from (by first|exact (bB D)|exact (bB aP)))).mono ?_;rintro e cp ⟨rfl,rfl⟩)))
       have bg:=ai (ap.u.trans (D.u.mono ap.u.size));have bI:=ai (bj.u.below D.u)
       cases bk
       ·have ar:=ai (ak V aK.u);clear V Y ad aK aQ aR c0 c1 c2 c3 aY c5 c6 c7 d0 d1 d2 d3 d4 d5 d6 d7;go_wp2_with fail;exact ⟨⟨i+1,aj,by go_num,bg.u,bI.u,ar⟩,by simp [intOf];omega⟩
       have hF:=ak Y aK.u;subst hF;clear V Y ad aK aQ aR c0 c1 c2 c3 aY c5 c6 c7 d0 d1 d2 d3 d4 d5 d6 d7;go_wp2;go_ret;exact ⟨rfl,bg.u⟩
      have ax:(T.of.toList== [])=true:=by rw [<-h1,aJ,nI]
      have ar:=ai (ak V (by unfold Iq TU;rw [ab,an,h1];rfl));have b0:=ai ap.u;clear V Y ad ab an h1
      go_upto_region 9 with fail
      go_quiet (fail)
      go_wp2_with fail;exact ⟨⟨i+1,aj,by go_num,cN ap.u _,bj.u.drewN _,ar⟩,by simp [intOf];omega⟩
     have hF:=ak Y (by unfold Iq;rw [ab,an];rfl);subst hF;clear Y V ad ab an;go_wp2;go_ret;exact ⟨rfl,ap.u⟩
  have bP:¬((i:Int)<(g.ss.length:Int)):=aj;have hF:=Pk (fun j bQ=>ak aU j bQ aj);rw [bh.u] at hF;subst hF;have bF:=ai U;clear U aO Z;go_wp2;go_ret;exact ⟨rfl,bF.u⟩
def TV (A:aF:=by
 first|exact cN ba _|exact aw _ _):aF:=A
def IH(g:GP)(X:RV)(Q:PV)(id:ae)(t:Tu):Bool:=eqs t.kind X.kd&&(eqs t.id id&&(eqs t.rel Q.nb&&(eqs t.of Ip&&(!eqs t.who wL&&decide (0<=aU t.sub Q.nr g.rl 0)))))
def MX(g:GP)(K:Nat->Nat->Bool)(X:RV)(Q:PV)(id:ae)(t:Tu):Bool:=IH g X Q id t&&K (aU t.sub Q.nr g.rl 0).toNat (uK g.th t.sub t.who).toNat
def uL(g:GP)(K:Nat->Nat->Bool)(X:RV)(Q:PV)(id:ae):Bool:=g.ss.any fun s=>MX g K X Q id (tt s)
def Ui(g:GP)(t:Tu):Prop:=∃m:Nat,uK g.th t.sub t.who=m/\m<g.th.length
theorem Pm{g K Q}(h:∀j,(h:j<g.ss.length)->MX g K X Q id (tt g.ss[j])=false):uL g K X Q id=false:=by
 unfold uL;exact MV
theorem Pn{g K Q}(A:j<g.ss.length)(h:MX g K X Q id (tt g.ss[j])=true):uL g K X Q id=true:=ei.2 ⟨_,bu A,h⟩
theorem uM(k n):∀(rl:List RV)(i:Nat),aU k n rl i= -1\/∃j:Nat,aU k n rl i=j/\i<=j/\j<i+rl.length
 | [],i=> .inl rfl
 |x::xs,i=>by
  rw [aU]
  split
  ·exact .inr ⟨i,rfl,aj,an⟩
  rcases uM k n xs (i+1) with C|⟨j,h1,h2,D⟩
  ·exact .inl C
  exact .inr ⟨j,h1,aj,by simp only [List.length_cons];omega⟩
theorem Ir(g K)(r k:Nat)(X)(p:ae×ae)(Q ga pa sa)(al ah pn ap au ar:Nat)(w)(D:GI w g K)(bP:g.rl[r]? =some X)(bK:g.th[k]? =some p)(bG:∀s∈g.ss,Ui g (tt s)):
  Calls prog 256 #[.pointer (some ⟨g.b,0,none⟩),.int .i64 r,.int .i64 k,.agg #[.int .i64 Q.kind,.slice ga al ah,.string Q.nb,.string Q.nr,.int .i64 Q.pa,.int .i64 Q.pr,.slice pa pn ap,.slice sa au ar]] w fun e w'=>e=.returned (.bool (uL g K X Q p.2))/\Below w.heap.size w w':=by
 have bj:=(aw w.heap.size w).alloc az (ct Q.kind ga al ah Q.nb Q.nr Q.pa Q.pr pa pn ap sa au ar);have ag:=D.below bj;obtain ⟨cH,rc,cf,ch,ci,cj,r3⟩:=ag.dm.rat r X bP;have cC:=(be.1 bP).1;have cw:=(be.1 bK).1;have cF:(r:Int)<(g.rl.length:Int):=aj;have cx:(k:Int)<(g.th.length:Int):=aj;have cG:=D.du.most;have cE:=D.dm.rn;obtain ⟨a0,a1,a2,a3,a4⟩:=ag.five;have cm:(w.alloc (ct Q.kind ga al ah Q.nb Q.nr Q.pa Q.pr pa pn ap sa au ar)).cell? ⟨g.y,0,none⟩=some (.pointer (some ⟨g.bm,5,none⟩)):=ag.du.blk.cell rfl;have bR:=ag.dm.c6;rw [cf] at bR;have H:=ai ag;have bV:=ai bG;have bg:=ai (aB.new w #[.int .i64 Q.kind,.slice ga al ah,.string Q.nb,.string Q.nr,.int .i64 Q.pa,.int .i64 Q.pr,.slice pa pn ap,.slice sa au ar] 255);have cy:w.heap.size<(w.alloc (ct Q.kind ga al ah Q.nb Q.nr Q.pa Q.pr pa pn ap sa au ar)).heap.size:=bg.u.lt;generalize bF:uL g K X Q p.2=cp;have bz:=ai bF;have aX:=ai bj;clear D bG bF ag bj;go_enter func256,ntmps256
 go_upto_region 1 with fail
 generalize w.alloc (ct Q.kind ga al ah Q.nb Q.nr Q.pa Q.pr pa pn ap sa au ar)=aE at*;have b1:=(aw aE.heap.size aE).alloc az (jM X.kd X.nm X.pl X.ex);have aM:=ai (aX.u.trans (b1.mono aX.u.size));have bT:=ai (H.u.below b1);have bx:=ai (bg.u.below b1);have bW:=ai (aB.new aE #[.string X.kd,.string X.nm,.int .i64 X.pl,.int .i64 X.ex] 172);clear b1 aX H bg;go_wp2_with fail;clear ch ci cj r3 a0 a1 a2 a3 a4 cm bR;generalize aE.alloc (jM X.kd X.nm X.pl X.ex)=bC at*;generalize aE.heap.size=bY at*
 go_loopw [10] (fun u wr=>∃i:Nat,i<=g.ss.length/\u=.int .i64 i/\Below bC.heap.size bC wr/\Hid (∀j,(D:j<g.ss.length)->j<i->MX g K X Q p.2 (tt g.ss[j])=false)) (fun u _=>g.ss.length-(intOf u).toNat)
 case atStart=>exact ⟨0,aj,rfl,aw _ _,ai (fun j D bZ=>aj)⟩
 case round=>
  obtain ⟨i,hi,rfl,C,bc⟩:=hrel;have R:=bT.u.below C;obtain ⟨aK,ab,ac,U,aL⟩:=R.five;have co:wr.cell? ⟨g.y,0,none⟩=some (.pointer (some ⟨g.bm,5,none⟩)):=R.du.blk.cell rfl;have bS:wr.cell? ⟨g.y,1,none⟩=some g.tv:=R.du.blk.cell rfl;obtain ⟨ta,tc,bQ⟩:=ay R.du.row;rw [bQ] at bS
  by_cases bp:i<g.ss.length
  ·have cb:(i:Int)<(g.ss.length:Int):=by omega
   obtain ⟨cJ,cI,e1,hc⟩:=bi BE 7 (fun _=>rfl) R.du.row i g.ss[i] (aG bp);rw [bQ] at e1;simp only [aI,cz] at e1;obtain ⟨rfl,rfl⟩:=e1;have t0:=hc 0 _ aj rfl;have t1:=hc 1 _ aj rfl;have t2:=hc 2 _ aj rfl;have t3:=hc 3 _ aj rfl;have t4:=hc 4 _ aj rfl;have t5:=hc 5 _ aj rfl;have t6:=hc 6 _ aj rfl;rw [qS] at t0;have ad:=ai (fun (bo:MX g K X Q p.2 (tt g.ss[i])=false)=>show ∀j,(D:j<g.ss.length)->j<i+1->MX g K X Q p.2 (tt g.ss[j])=false from fun j D bZ=>by
    by_cases e:j=i
    ·subst e;exact bo
    exact ak bc j D aj)
   have aD:=ai (fun (bo:MX g K X Q p.2 (tt g.ss[i])=true)=>(Pn bp bo).symm.trans bz.u);have aC:=ai (bV.u _ (bu bp));unfold tt at ad aD aC;generalize (bU g.ss[i]).1=T at*;generalize g.ss[i]=S at*;have bk:=(aw wr.heap.size wr).alloc az (hX T.kind T.id T.rel T.sub T.who T.of S);have aN:=ai (C.trans (bk.mono C.size));have aA:=ai (R.below bk);have bh:=ai (aB.new wr #[.string T.kind,.string T.id,.string T.rel,.string T.sub,.string T.who,.string T.of,.string S] 264);clear C R hc bc bk
   go_upto_region 6 with fail
   clear aK ab ac U aL co bS t0 t1 t2 t3 t4 t5 t6;generalize wr.alloc (hX T.kind T.id T.rel T.sub T.who T.of S)=W at*;generalize wr.heap.size=bt at*;obtain ⟨c0,ab,ac,U,aL⟩:=aA.u.five;have c1:W.cell? ⟨g.y,0,none⟩=some (.pointer (some ⟨g.bm,5,none⟩)):=aA.u.du.blk.cell rfl;have c2:W.cell? ⟨bt,3,none⟩=some (.string T.sub):=bh.u.cell rfl;have c3:W.cell? ⟨w.heap.size,3,none⟩=some (.string Q.nr):=(bx.u.below aN.u).cell rfl;have bv:=ai (fun (w':af) (C:Below W.heap.size W w')=>dI g.bm g.kv g.rv g.pv g.kl g.rl g.pl g.l T.sub Q.nr w' (aA.u.dm.below C));have aT:=ai (aw W.heap.size W);have bI:=uM T.sub Q.nr g.rl 0;generalize bJ:aU T.sub Q.nr g.rl 0=fn at*;have ax:=ai bJ;have bw:=ai bI;clear bJ bI ab ac U aL
   go_region_held3 (fun w'=>w'.cell? ⟨g.b,0,none⟩=some (.pointer (some ⟨g.y,0,none⟩))/\w'.cell? ⟨g.y,0,none⟩=some (.pointer (some ⟨g.bm,5,none⟩))/\w'.cell? ⟨bt,3,none⟩=some (.string T.sub)/\w'.cell? ⟨w.heap.size,3,none⟩=some (.string Q.nr)) (go_keep)
    ((go_at_call 132;refine (bv.u _ (show Below W.heap.size W _ from (bB aT))).mono ?_;rintro e w5 ⟨rfl,bH⟩;have J:=ai (gQ (a:=W) (B:=W.heap.size) (show Below W.heap.size W _ from (bB aT)) (bH.mono rA));have d0:=am c0 J.u;have d1:=am c1 J.u;have d2:=am c2 J.u;have d3:=am c3 J.u;clear bH))
   clear c0 c1 c2 c3 d0 d1 d2 d3 bv aT;have av:=ai (aN.u.trans (J.u.mono aN.u.size));have aO:=ai (aA.u.below J.u);have V:=ai (bh.u.below J.u);clear aN aA bh J;obtain ⟨aK,ab,ac,U,aL⟩:=aO.u.five;obtain ⟨b8,cu,b9,bN⟩:=bi Im 2 (fun _=>rfl) aO.u.th k p bK;have k1:w5.cell? ⟨b8,k*2+1,none⟩=some (.string p.2):=bN 1 _ aj rfl;rw [b9] at U;have cl:w5.cell? ⟨bY,0,none⟩=some (.string X.kd):=(bW.u.below av.u).cell rfl;have p2:w5.cell? ⟨w.heap.size,2,none⟩=some (.string Q.nb):=(bx.u.below av.u).cell rfl;have t0:w5.cell? ⟨bt,0,none⟩=some (.string T.kind):=V.u.cell rfl;have t1:w5.cell? ⟨bt,1,none⟩=some (.string T.id):=V.u.cell rfl;have t2:w5.cell? ⟨bt,2,none⟩=some (.string T.rel):=V.u.cell rfl;have t4:w5.cell? ⟨bt,4,none⟩=some (.string T.who):=V.u.cell rfl;have t5:w5.cell? ⟨bt,5,none⟩=some (.string T.of):=V.u.cell rfl;have O:=ai (aw w5.heap.size w5);clear bN
   go_upto_region 7 with fail
   go_cut [98] (fun s ck=>s=.bool (!IH g X Q p.2 T)/\Below w5.heap.size w5 ck)
   case first=>
    cases h1:eqs T.kind X.kd
    ·have b0:(T.kind.toList==X.kd.toList)=false:=by rw [<-aJ];exact h1
     go_quiet (fail)
     go_wp2
     go_meet
     case rel=>exact ⟨by simp [IH,h1],cN O.u _⟩
    have b0:(T.kind.toList==X.kd.toList)=true:=by rw [<-aJ];exact h1
    cases h2:eqs T.id p.2
    ·have b2:(T.id.toList==p.2.toList)=false:=by rw [<-aJ];exact h2
     go_quiet (fail)
     go_wp2
     go_meet
     case rel=>exact ⟨by simp [IH,h1,h2],cN O.u _⟩
    have b2:(T.id.toList==p.2.toList)=true:=by rw [<-aJ];exact h2
    cases Y:eqs T.rel Q.nb
    ·have b3:(T.rel.toList==Q.nb.toList)=false:=by rw [<-aJ];exact Y
     go_quiet (fail)
     go_wp2
     go_meet
     case rel=>exact ⟨by simp [IH,h1,h2,Y],cN O.u _⟩
    have b3:(T.rel.toList==Q.nb.toList)=true:=by rw [<-aJ];exact Y
    cases an:eqs T.of Ip
    ·have b4:(T.of.toList== [])=false:=by rw [<-an,aJ,nI]
     go_quiet (fail)
     go_wp2
     go_meet
     case rel=>exact ⟨by simp [IH,h1,h2,Y,an],cN O.u _⟩
    have b4:(T.of.toList== [])=true:=by rw [<-an,aJ,nI]
    cases aH:eqs T.who wL
    ·have b5:(T.who.toList== [42])=false:=by rw [<-aH,aJ,m8]
     by_cases bn:fn<0
     ·have bE:¬(0<=fn):=by omega
      have b6:decide (fn<0)=true:=ml bn
      go_quiet (fail)
      go_wp2
      go_meet
      case rel=>exact ⟨by simp [IH,h1,h2,Y,an,aH,ax.u,bn],cN O.u _⟩
     have bE:0<=fn:=aj;have b6:decide (fn<0)=false:=k5 bn
     go_quiet (fail)
     go_wp2
     go_meet
     case rel=>exact ⟨by simp [IH,h1,h2,Y,an,aH,ax.u,bE],cN O.u _⟩
    have b5:(T.who.toList== [42])=true:=by rw [<-aH,aJ,m8]
    go_quiet (fail)
    go_wp2
    go_meet
    case rel=>exact ⟨by simp [IH,h1,h2,Y,an,aH],cN O.u _⟩
   case rest=>
    obtain ⟨rfl,aR⟩:=hcut;clear aK ab ac U aL k1 cl p2 t0 t1 t2 t4 t5;have aY:=ai (av.u.trans (aR.mono av.u.size));have Io:=ai (aO.u.below aR);have bA:=ai (V.u.below aR);clear aR av aO V O
    cases Z:IH g X Q p.2 T
    ·have bf:=ai (ak ad (by unfold MX;rw [Z];rfl));clear ad aD aC Z;go_wp2_with fail;exact ⟨⟨i+1,aj,by go_num,aY.u,bf⟩,by simp [intOf];omega⟩
    obtain ⟨aQ,b7⟩:∃z,z=wc:=⟨_,rfl⟩;subst b7;obtain ⟨n1,bM,hnl⟩:∃n1:Nat,fn=n1/\n1<g.rl.length:=by
     have h0:0<=aU T.sub Q.nr g.rl 0:=by
      unfold IH at Z;simp only [bO,mA] at Z;exact Z.2.2.2.2.2
     rw [ax.u] at h0
     rcases bw.u with e|⟨j,e1,_,cq⟩
     ·omega
     exact ⟨j,e1,aj⟩
    obtain ⟨aS,bL,ce⟩:=ak aC;obtain ⟨cL,cK,cg,br⟩:=aZ Io.u.yr n1 (.slice (some ⟨g.bs[n1]'FJ,0,none⟩) g.th.length g.th.length) TS;have bq:=(Io.u.yb n1 _ (aG FJ)).cell ce;generalize g.bs[n1]'_=cM at br bq;have aP:=ai (show MX g K X Q p.2 T=K n1 aS from by
     unfold MX;rw [Z,ax.u,bM,bL];simp)
    generalize K n1 aS=bX at*;obtain ⟨aK,ab,ac,U,c0⟩:=Io.u.five;rw [cg] at c0;have c1:aQ.cell? ⟨bt,3,none⟩=some (.string T.sub):=bA.u.cell rfl;have c2:aQ.cell? ⟨bt,4,none⟩=some (.string T.who):=bA.u.cell rfl;have c3:=br;have bD:=bq;have aW:=ai (fun (w':af) (C:Below aQ.heap.size aQ w')=>show Calls prog 200 #[.pointer (some ⟨g.b,0,none⟩),.string T.sub,.string T.who] w' (fun e w''=>e=.returned (.int .i64 (aS:Int))/\w''=w') from by
     have I:=Io.u.below C;have:=pK g.b _ _ _ _ _ g.th T.sub T.who w' I.blk I.th I.few;rw [bL] at this;exact this)
    have cB:(n1:Int)<(g.rl.length:Int):=aj;have cA:(aS:Int)<(g.th.length:Int):=aj;have bb:=ai (aM.u.trans (aY.u.mono aM.u.size));clear aK ab ac U br bq Z ax bw;subst bM
    go_upto_region 8 with fail
    go_quiet ((go_at_call 200;exact Calls.quiet_of_same (aW.u _ TV)))
    cases bX
    ·have bf:=ai (ak ad aP.u);clear ad aD aC aP aW c0 c1 c2 c3 bD;go_wp2_with fail;exact ⟨⟨i+1,aj,by go_num,cN aY.u _,bf⟩,by simp [intOf];omega⟩
    have hF:=ak aD aP.u;subst hF;clear ad aD aC aP aW c0 c1 c2 c3 bD;go_wp2;go_ret;exact ⟨rfl,cN bb.u _⟩
  have cb:¬((i:Int)<(g.ss.length:Int)):=aj;have hF:=Pm (fun j cd=>ak bc j cd aj);rw [bz.u] at hF;subst hF;have bb:=ai (aM.u.trans (C.mono aM.u.size));clear C R;go_wp2;go_ret;exact ⟨rfl,bb.u⟩
def MY (h:aF:=by
 clear h b0 TW;go_enter func234,ntmps234;rw [hk] at*;go_wp2_with fail;refine C.u.mono ?_;rintro e w1 ⟨rfl,A⟩;have D:=ai (HB.u.trans (A.mono HB.u.size));clear A C;go_wp2;go_ret;exact ⟨rfl,D.u⟩):aF:=h
def UH(g:GP)(K:Nat->Nat->Bool)(X:RV)(x y id:ae):Bool:=uL g K X ⟨3,[],x,y,0,0,[],[]⟩ id
def kE(g:GP)(K:Nat->Nat->Bool)(X:RV)(k:Nat)(id:ae):Ex->Bool
 |⟨n,some x,some y⟩=>if n.kind=3 then kE g K X k id x||kE g K X k id y else if n.kind=4 then kE g K X k id x&&kE g K X k id y else kE g K X k id x&& !kE g K X k id y
 |⟨n,none,_⟩=>if n.kind=0 then rD g K X id else if n.kind=1 then K (aU X.kd n.n1 g.rl 0).toNat k else UH g K X n.n1 n.n2 id
 |⟨_,some _,none⟩=>false
def MZ(g:GP)(K:Nat->Nat->Bool)(r k n:Nat)(v:Bool):Prop:=∀w,GI w g K->Calls prog 234 #[.pointer (some ⟨g.b,0,none⟩),.int .i64 r,.int .i64 k,.int .i64 n] w fun e w'=>e=.returned (.bool v)/\Below w.heap.size w w'
theorem Br(g K X k id):∀(rs:List (ae×Nat×Ex)) (x:Ex),(∀r∈rs,r.1=sg 38\/r.1=sg 45)->kE g K X k id (dl x rs)=(kE g K X k id x&&rs.all fun r=>kE g K X k id r.2.2 != minus ⟨bW r.1,r.2.1,false⟩)
 | [],x,_=>by simp [dl]
 |(t,q,y)::rs,x,C=>by
  rw [dl,Br g K X k id rs _ (fun r D=>C r (gM _ D)),List.all_cons,<-qp]
  congr 1
  simp only [pD]
  rcases C (t,q,y) hV with e|e
  ·have e':t=sg 38:=e;subst e';have h1:eqs (sg 38) (sg 45)=false:=ar;simp [fV,kE,h1,show kindOf (sg 38)=4 from by decide]
  have e':t=sg 45:=e;subst e';have h1:eqs (sg 45) (sg 45)=true:=ar;simp [fV,kE,h1,show kindOf (sg 45)=5 from by decide]
theorem FK(g K X k id):∀(rs:List (ae×Nat×Ex)) (x:Ex),(∀r∈rs,r.1=sg 124)->kE g K X k id (dl x rs)=(kE g K X k id x||rs.any fun r=>kE g K X k id r.2.2)
 | [],x,_=>by simp [dl]
 |(t,q,y)::rs,x,h=>by
  rw [dl,FK g K X k id rs _ (fun r A=>h r (gM _ A)),jD,<-Bool.or_assoc]
  congr 1
  have e':t=sg 124:=h (t,q,y) hV;subst e';simp [fV,kE,show kindOf (sg 124)=3 from by decide]
theorem Is(g K r k n X)(I:ae×ae)(p)(J:g.pl[n]? =some p)(hk:p.kind=1)(V:g.rl[r]? =some X)(U:g.th[k]? =some I)(Q:∀s∈g.ss,MW g (tt s)):MZ g K r k n (rD g K X I.2):=fun w h=>by
 obtain ⟨am,al,ga,gc,pa,pc,sa,sc,R,TW,e0,e1,ab,ac,ad,af,ag,ah⟩:=h.dm.pat n p J;have aj:(n:Int)<(g.pl.length:Int):=by have:=(be.1 J).1;omega
 have ak:=h.dm.pn;have a0:=h.five.1;have an:w.cell? ⟨g.y,0,none⟩=some (.pointer (some ⟨g.bm,5,none⟩)):=h.du.blk.cell rfl;have Y:=h.dm.c7;rw [R] at Y;have b0:=(aw w.heap.size w).alloc az (ct p.kind ga p.gs.length gc p.nb p.nr p.pa p.pr pa p.ps.length pc sa p.sg.length sc);have HB:=ai b0;have O:=ai (h.below b0);have Z:=ai (aB.new w #[.int .i64 p.kind,.slice ga p.gs.length gc,.string p.nb,.string p.nr,.int .i64 p.pa,.int .i64 p.pr,.slice pa p.ps.length pc,.slice sa p.sg.length sc] 255);have C:=ai (yz g K r k X I _ O.u V U Q);exact MY
theorem M0(g K r k n X)(I:ae×ae)(p)(J:g.pl[n]? =some p)(hk:p.kind=3)(V:g.rl[r]? =some X)(U:g.th[k]? =some I)(Q:∀s∈g.ss,Ui g (tt s)):MZ g K r k n (UH g K X p.nb p.nr I.2):=fun w h=>by
 obtain ⟨am,al,ga,gc,pa,pc,sa,sc,R,TW,e0,e1,ab,ac,ad,af,ag,ah⟩:=h.dm.pat n p J;have aj:(n:Int)<(g.pl.length:Int):=by have:=(be.1 J).1;omega
 have ak:=h.dm.pn;have a0:=h.five.1;have an:w.cell? ⟨g.y,0,none⟩=some (.pointer (some ⟨g.bm,5,none⟩)):=h.du.blk.cell rfl;have Y:=h.dm.c7;rw [R] at Y;have b0:=(aw w.heap.size w).alloc az (ct p.kind ga p.gs.length gc p.nb p.nr p.pa p.pr pa p.ps.length pc sa p.sg.length sc);have HB:=ai b0;have O:=ai (h.below b0);have Z:=ai (aB.new w #[.int .i64 p.kind,.slice ga p.gs.length gc,.string p.nb,.string p.nr,.int .i64 p.pa,.int .i64 p.pr,.slice pa p.ps.length pc,.slice sa p.sg.length sc] 255);have C:=ai (Ir g K r k X I p ga pa sa p.gs.length gc p.ps.length pc p.sg.length sc _ O.u V U Q);exact MY
def Po (A:aF:=by
 rw [dU,aG hlt];rfl):aF:=A
def DT (A:aF:=by
 subst hF;clear hb;go_wp2;go_ret;exact ⟨rfl,SC.u⟩):aF:=A
theorem M1(g K)(r k n n1:Nat)(X p)(ab:g.pl[n]? =some p)(aH:p.kind=2)(ac:g.rl[r]? =some X)(aI:k<g.th.length)(aE:aU X.kd p.nr g.rl 0=n1)(Q:n1<g.rl.length):MZ g K r k n (K n1 k):=fun w I=>by
 obtain ⟨bf,bc,ga,gc,pa,pc,sa,sc,aJ,aK,e0,e1,au,av,ax,ay,aA,aC⟩:=I.dm.pat n p ab;have aY:(n:Int)<(g.pl.length:Int):=by have:=(be.1 ab).1;omega
 have ba:=I.dm.pn;have a0:=I.five.1;have aS:w.cell? ⟨g.y,0,none⟩=some (.pointer (some ⟨g.bm,5,none⟩)):=I.du.blk.cell rfl;have ad:=I.dm.c7;rw [aJ] at ad;have O:=(aw w.heap.size w).alloc az (ct p.kind ga p.gs.length gc p.nb p.nr p.pa p.pr pa p.ps.length pc sa p.sg.length sc);have U:=ai O;have C:=ai (I.below O);have ap:=ai (aB.new w #[.int .i64 p.kind,.slice ga p.gs.length gc,.string p.nb,.string p.nr,.int .i64 p.pa,.int .i64 p.pr,.slice pa p.ps.length pc,.slice sa p.sg.length sc] 255);generalize Y:K n1 k=ar;have an:=ai Y;clear I O aK Y;go_enter func234,ntmps234;rw [aH] at*
 go_upto_region 6 with fail
 clear e0 e1 au av ax ay aA aC a0 aS ad;generalize w.alloc (ct (2:Nat) ga p.gs.length gc p.nb p.nr p.pa p.pr pa p.ps.length pc sa p.sg.length sc)=W at*;obtain ⟨ag,aT,aM,ah⟩:=aZ C.u.yr n1 (.slice (some ⟨g.bs[n1]'(by rw [C.u.bl];exact Q),0,none⟩) g.th.length g.th.length) (by rw [dU,aG (by rw [C.u.bl];exact Q)];rfl);have c7:=(C.u.yb n1 _ (aG (by rw [C.u.bl];exact Q))).cell aI;have c6:=ah;generalize g.bs[n1]'_=ak at c6 c7;rw [an.u] at c7;obtain ⟨ae,rc,aL,V,aQ,aR,r3⟩:=C.u.dm.rat r X ac;have c3:=C.u.dm.c6;rw [aL] at c3;obtain ⟨c0,aN,aO,aP,c1⟩:=C.u.five;rw [aM] at c1;have c2:W.cell? ⟨g.y,0,none⟩=some (.pointer (some ⟨g.bm,5,none⟩)):=C.u.du.blk.cell rfl;have c5:W.cell? ⟨w.heap.size,3,none⟩=some (.string p.nr):=ap.u.cell rfl;have bb:(r:Int)<(g.rl.length:Int):=by have:=(be.1 ac).1;omega
 have aW:(k:Int)<(g.th.length:Int):=aj;have aX:(n1:Int)<(g.rl.length:Int):=aj;have R:=ai (fun (w':af) (aD:Below W.heap.size W w')=>show Calls prog 132 #[.pointer (some ⟨g.bm,5,none⟩),.string X.kd,.string p.nr] w' (fun e w''=>e=.returned (.int .i64 (n1:Int))/\Below w'.heap.size w' w'') from by
  have:=dI g.bm g.kv g.rv g.pv g.kl g.rl g.pl g.l X.kd p.nr w' (C.u.dm.below aD);rw [aE] at this;exact this)
 have J:=ai (aw W.heap.size W);clear ah aN aO aP aQ aR r3
 go_region_held3 (fun w'=>w'.cell? ⟨g.b,0,none⟩=some (.pointer (some ⟨g.y,0,none⟩))/\w'.cell? ⟨g.b,4,none⟩=some (.slice (some ⟨ag,0,none⟩) g.rl.length aT)/\w'.cell? ⟨g.y,0,none⟩=some (.pointer (some ⟨g.bm,5,none⟩))/\w'.cell? ⟨g.bm,6,none⟩=some (.slice (some ⟨ae,0,none⟩) g.rl.length rc)/\w'.cell? ⟨ae,r*4,none⟩=some (.string X.kd)/\w'.cell? ⟨w.heap.size,3,none⟩=some (.string p.nr)/\w'.cell? ⟨ag,n1,none⟩=some (.slice (some ⟨ak,0,none⟩) g.th.length g.th.length)/\w'.cell? ⟨ak,k,none⟩=some (.bool ar)) (go_keep)
  ((go_at_call 132;refine (R.u _ (show Below W.heap.size W _ from (bB J))).mono ?_;rintro e w5 ⟨rfl,Z⟩;have D:=ai (gQ (a:=W) (B:=W.heap.size) (show Below W.heap.size W _ from (bB J)) (Z.mono rA));have d0:=am c0 D.u;have d1:=am c1 D.u;have d2:=am c2 D.u;have d3:=am c3 D.u;have d4:=am V D.u;have d5:=am c5 D.u;have d6:=am c6 D.u;have d7:=am c7 D.u;clear Z))
 have al:=ai (U.u.trans (D.u.mono U.u.size));clear c0 c1 c2 c3 V c5 c6 c7 d0 d1 d2 d3 d4 d5 d6 d7 R J;go_wp2;go_ret;exact ⟨rfl,al.u⟩
theorem Iu(g K r k n p vf)(ac:g.pl[n]? =some p)(aH:p.kind=5)(aM:p.ps.length<=1000)(ae:∀i m,p.ps[i]? =some m->MZ g K r k m (vf i)):MZ g K r k n (lU p.ps.length vf):=fun w C=>by
 obtain ⟨aR,aP,ga,gc,pa,pc,sa,sc,aJ,ad,e0,e1,au,av,ax,ay,aA,aC⟩:=C.dm.pat n p ac;have aN:(n:Int)<(g.pl.length:Int):=by have:=(be.1 ac).1;omega
 have aO:=C.dm.pn;have a0:=C.five.1;have aL:w.cell? ⟨g.y,0,none⟩=some (.pointer (some ⟨g.bm,5,none⟩)):=C.du.blk.cell rfl;have af:=C.dm.c7;rw [aJ] at af;have D:=(aw w.heap.size w).alloc az (ct p.kind ga p.gs.length gc p.nb p.nr p.pa p.pr pa p.ps.length pc sa p.sg.length sc);have U:=ai D;have al:=ai (C.below D);have an:=ai (aB.new w #[.int .i64 p.kind,.slice ga p.gs.length gc,.string p.nb,.string p.nr,.int .i64 p.pa,.int .i64 p.pr,.slice pa p.ps.length pc,.slice sa p.sg.length sc] 255);have ap:=ai (aE ad.p D);have ar:=ai ae;generalize ab:lU p.ps.length vf=Z;have Y:=ai ab;clear C D ad ae ab;go_enter func234,ntmps234;rw [aH] at*
 go_upto_region 10 with fail
 clear e0 e1 au av ax ay aA aC a0 aL af;generalize w.alloc (ct (5:Nat) ga p.gs.length gc p.nb p.nr p.pa p.pr pa p.ps.length pc sa p.sg.length sc)=W at*;go_wp2_with fail
 go_loopw [10] (fun u wr=>∃i:Nat,i<=p.ps.length/\u=.int .i64 i/\Below W.heap.size W wr/\Hid (lU i vf=false)) (fun u _=>p.ps.length-(intOf u).toNat)
 case atStart=>exact ⟨0,aj,rfl,aw _ _,ai rfl⟩
 case round=>
  obtain ⟨i,hi,rfl,hb,I⟩:=hrel;have aK:wr.cell? ⟨w.heap.size,6,none⟩=some (.slice pa p.ps.length pc):=(an.u.below hb).cell rfl;have SC:=ai (U.u.trans (hb.mono U.u.size))
  by_cases hlt:i<p.ps.length
  ·have aD:(i:Int)<(p.ps.length:Int):=by omega
   obtain ⟨aS,aQ,e1,hc⟩:=aZ (aE ap.u hb) i (.int .i64 (p.ps[i]:Nat)) Po;simp only [aI,cz] at e1;obtain ⟨rfl,rfl⟩:=e1;have R:=ai (ar.u i _ (aG hlt) wr (al.u.below hb));generalize p.ps[i]=m at*;have O:=ai (show vf i=true->Z=true from fun e=>by rw [<-Y.u,m7];exact ⟨i,hlt,e⟩);have J:=ai (show vf i=false->lU (i+1) vf=false from fun e=>by rw [lU,ak I,e];rfl);have V:=ai hb;generalize vf i=v at*;clear hb I;go_wp2_with fail;refine R.u.mono ?_;rintro e w1 ⟨rfl,Q⟩;have ag:=ai (V.u.trans (Q.mono V.u.size));have ah:=ai (SC.u.trans (Q.mono SC.u.size));clear Q R aK hc
   cases v
   ·have am:=ai (J.u rfl);clear J O;go_wp2_with fail;exact ⟨⟨i+1,aj,by go_num,ag.u,am⟩,by simp [intOf];omega⟩
   have hF:=O.u rfl;subst hF;clear J O;go_wp2;go_ret;exact ⟨rfl,ah.u⟩
  obtain rfl:i=p.ps.length:=aj;have aD:¬((p.ps.length:Int)<(p.ps.length:Int)):=aj;have hF:Z=false:=by rw [<-Y.u];exact ak I
  exact DT
theorem DV(g)(K:Nat->Nat->Bool)(r k n p)(D C:Nat->Bool)(am:g.pl[n]? =some p)(aT:p.kind=4)(bb:p.ps.length<=1000)(ap:p.sg.length=p.ps.length)(hs:∀i t,p.sg[i]? =some t->minus t=C i)(au:∀i m,p.ps[i]? =some m->MZ g K r k m (D i)):MZ g K r k n (!lU p.ps.length (fun i=>D i==C i)):=fun w I=>by
 obtain ⟨bk,bh,ga,gc,pa,pc,sa,sc,aW,Z,e0,e1,Q,aN,aO,aP,aQ,aR⟩:=I.dm.pat n p am;have bc:(n:Int)<(g.pl.length:Int):=by have:=(be.1 am).1;omega
 have bf:=I.dm.pn;have a0:=I.five.1;have ba:w.cell? ⟨g.y,0,none⟩=some (.pointer (some ⟨g.bm,5,none⟩)):=I.du.blk.cell rfl;have av:=I.dm.c7;rw [aW] at av;have O:=(aw w.heap.size w).alloc az (ct p.kind ga p.gs.length gc p.nb p.nr p.pa p.pr pa p.ps.length pc sa p.sg.length sc);have ac:=ai O;have aC:=ai (I.below O);have ae:=ai (aB.new w #[.int .i64 p.kind,.slice ga p.gs.length gc,.string p.nb,.string p.nr,.int .i64 p.pa,.int .i64 p.pr,.slice pa p.ps.length pc,.slice sa p.sg.length sc] 255);have aH:=ai (aE Z.p O);have aJ:=ai (aE Z.s O);have aM:=ai au;have aL:=ai hs;generalize ah:(!lU p.ps.length (fun i=>D i==C i))=ag;have af:=ai ah;have aK:=ai ap;clear I O Z au ah hs ap;go_enter func234,ntmps234;rw [aT] at*
 go_upto_region 17 with fail
 clear e0 e1 Q aN aO aP aQ aR a0 ba av;generalize w.alloc (ct (4:Nat) ga p.gs.length gc p.nb p.nr p.pa p.pr pa p.ps.length pc sa p.sg.length sc)=W at*;go_wp2_with fail
 go_loopw [12] (fun u wr=>∃i:Nat,i<=p.ps.length/\u=.int .i64 i/\Below W.heap.size W wr/\Hid (lU i (fun i=>D i==C i)=false)) (fun u _=>p.ps.length-(intOf u).toNat)
 case atStart=>exact ⟨0,aj,rfl,aw _ _,ai rfl⟩
 case round=>
  obtain ⟨i,hi,rfl,hb,R⟩:=hrel;have aX:wr.cell? ⟨w.heap.size,6,none⟩=some (.slice pa p.ps.length pc):=(ae.u.below hb).cell rfl;have aY:wr.cell? ⟨w.heap.size,7,none⟩=some (.slice sa p.sg.length sc):=(ae.u.below hb).cell rfl;have SC:=ai (ac.u.trans (hb.mono ac.u.size))
  by_cases hlt:i<p.ps.length
  ·have aS:(i:Int)<(p.ps.length:Int):=by omega
   have an:i<p.sg.length:=by rw [aK.u];exact hlt
   have bg:(i:Int)<(p.sg.length:Int):=aj;obtain ⟨bl,bj,e1,hc⟩:=aZ (aE aH.u hb) i (.int .i64 (p.ps[i]:Nat)) Po;simp only [aI,cz] at e1;obtain ⟨rfl,rfl⟩:=e1;obtain ⟨bo,bn,Q,al⟩:=bi eZ 3 (fun _=>rfl) (aE aJ.u hb) i p.sg[i] (aG an);simp only [aI,cz] at Q;obtain ⟨rfl,rfl⟩:=Q;have ax:=al 0 _ aj rfl;rw [qS] at ax;have ab:=ai (aM.u i _ (aG hlt) wr (aC.u.below hb));have aU:=aL.u i _ (aG an);generalize p.ps[i]=m at*;generalize p.sg[i]=t at*;have V:=ai (show (D i==C i)=true->ag=false from fun e=>by
    rw [<-af.u];have:lU p.ps.length (fun i=>D i==C i)=true:=m7.2 ⟨i,hlt,e⟩;rw [this];rfl)
   have U:=ai (show (D i==C i)=false->lU (i+1) (fun i=>D i==C i)=false from fun e=>by rw [lU,ak R,e];rfl);have ad:=ai hb;generalize D i=v at*;generalize C i=l at*;unfold minus at aU;clear hb R al;go_wp2_with fail;refine ab.u.mono ?_;rintro e w1 ⟨rfl,Y⟩;have ay:=ai (ad.u.trans (Y.mono ad.u.size));have aA:=ai (SC.u.trans (Y.mono SC.u.size));clear Y ab aX aY hc ax
   cases J:(v==l)
   ·have aD:=ai (U.u J);clear U V
    cases v<;>cases l<;>first|(exact absurd J ar)|(
     clear J;go_wp2_with fail;exact ⟨⟨i+1,aj,by go_num,ay.u,aD⟩,by simp [intOf];omega⟩)
   have hF:=V.u J;subst hF;clear U V
   cases v<;>cases l<;>first|(exact absurd J ar)|(
    clear J;go_wp2;go_ret;exact ⟨rfl,aA.u⟩)
  obtain rfl:i=p.ps.length:=aj;have aS:¬((p.ps.length:Int)<(p.ps.length:Int)):=aj;have hF:ag=true:=by rw [<-af.u,ak R];rfl
  exact DT
