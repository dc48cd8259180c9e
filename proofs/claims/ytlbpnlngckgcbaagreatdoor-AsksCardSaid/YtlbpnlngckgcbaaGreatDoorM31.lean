import Derived.Test.YtlbpnlngckgcbaaGreatDoorM24
import Derived.Test.YtlbpnlngckgcbaaGreatDoorM25
set_option linter.all false
set_option maxHeartbeats 4000000
set_option maxRecDepth 100000
namespace Go.Proofs.YtlbpnlngckgcbaaGreatDoor
open Go.RowKit Go.PlainAid Go.Proofs.Tryz
variable {aA aU:Prop} {α:Type}
def SI (h:aA:=by
 obtain ⟨m,a,b,h1,h2⟩:=hx h;exact ⟨m,a,b,up _ (.inl h1),h2⟩):aA:=h
def oC{α:Type}:∀(l m:List α),l.Nodup->(∀x∈l,x∈m)->l.length<=m.length
 | [],m,_,_=>ar
 |x::l,m,h,hs=>by
  rw [List.nodup_cons] at h;obtain ⟨a,b,rfl⟩:=uP (hs x eb);have:=oC l (a++b) h.2 (fun y A=>by
   have:=hs y (eO _ A);rw [aQ,bi] at this;rw [aQ]
   rcases this with h1|rfl|h1
   ·exact .inl h1
   ·exact absurd A h.1
   exact .inr h1)
  simp only [aZ,List.length_cons] at this ⊢;omega
def im(nd):∀(k:Nat)(q f:List Sp),f.Nodup->(dQ nd k q f).Nodup
 |0,_,f,h=>h
 |k+1,[],f,h=>h
 |k+1,x::q,f,h=>by
  rw [dQ]
  split
  ·exact im nd k q f h
  rename_i C;refine im nd k _ _ ?_;rw [sf];refine ⟨h,ar,fun a ha b A e=> ?_⟩;rw [aR] at A;subst A;subst e;exact C ((GO f a).2 ha)
def Es(ts:List Ty)(s:Sp):Nat:=(cL ts [s]).length
def Br{nd:α->List α}{S T:List α}(h:∀x∈S,Ba nd T x){y:α}(k:Ba nd S y):Ba nd T y:=by
 induction k with
 |base hx=>exact h _ hx
 |step _ hy ih=>exact .step ih hy
section
variable {ts:List Ty}{x y:Sp}
def ZA(h:Ba (aX ts) [x] y):Es ts y<=Es ts x:=
 oC _ _ (im _ _ _ _ ar) (fun z A=>by
  rw [e8] at A ⊢;exact Br (fun a ha=>by rw [aR] at ha;subst ha;exact h) A)
def ZB(h:Ba (aX ts) [x] y)(C:¬Ba (aX ts) [y] x):Es ts y<Es ts x:=by
 have:=oC (x::cL ts [y]) (cL ts [x]) (by
  rw [List.nodup_cons];exact ⟨fun e=>C ((e8 _ _ _).1 e),im _ _ _ _ ar⟩) (fun z A=>by
  rw [e8]
  rcases bi.1 A with rfl|A
  ·exact .base ar
  rw [e8] at A;exact Br (fun a ha=>by rw [aR] at ha;subst ha;exact h) A)
 exact this
def JT:0<Es ts x:=by
 have:x∈cL ts [x]:=(e8 _ _ _).2 (.base ar);exact List.length_pos_of_mem this
end
def xI:Ex->List Ex
 |⟨n,some x,some y⟩=>if n.kind=3\/n.kind=4 then xI x++xI y else xI x++aJ y
 |_=>[]
def Bs:∀(e p:Ex),p∈xI e->∃n x y,(⟨n,some x,some y⟩:Ex)∈aC e/\¬(n.kind=3\/n.kind=4)/\p∈aJ y
 |⟨n,some x,some y⟩,p,h=>by
  have hx:=Bs x p;have D:=Bs y p;unfold xI at h;have up:∀q,q∈aC x\/q∈aC y->q∈aC ⟨n,some x,some y⟩:=fun q A=>by
   simp only [aC,aQ,aR]
   rcases A with A|A
   ·exact .inl (.inl A)
   exact .inr A
  split at h
  ·rcases aQ.1 h with h|h
   ·exact SI
   obtain ⟨m,a,b,h1,h2⟩:=D h;exact ⟨m,a,b,up _ (.inr h1),h2⟩
  rename_i C
  rcases aQ.1 h with h|h
  ·exact SI
  exact ⟨n,x,y,by simp [aC],C,h⟩
 |⟨n,none,r⟩,p,h=>by simp [xI] at h
 |⟨n,some x,none⟩,p,h=>by simp [xI] at h
def sI:∀(e q p:Ex),q∈aC e->p∈aJ q->p∈aJ e
 |⟨n,some x,some y⟩,q,p,h,hp=>by
  simp only [aC,aQ,aR] at h;simp only [aJ,aQ]
  rcases h with (h|rfl)|h
  ·exact .inl (sI x q p h hp)
  ·simpa [aJ] using hp
  exact .inr (sI y q p h hp)
 |⟨n,none,r⟩,q,p,h,hp=>by
  simp only [aC,aR] at h;subst h;exact hp
 |⟨n,some x,none⟩,q,p,h,hp=>by simp [aC] at h
structure ZC(ts:List Ty):Prop where
 fnd:∀t∈ts,bW ts t.name=some t
 fnr:∀t∈ts,∀r∈t.rels,bT t r.name=some r
 loops:∀t∈ts,∀r∈t.rels,jr ts t r=none
 less:∀t∈ts,∀r∈t.rels,∀p∈aC r.body,p.l.isSome=true->¬(p.nd.kind=3\/p.nd.kind=4)->gy p.nd.kind=246
section
variable {ts:List Ty}{t:Ty}{r:Rl}{e:Ex}{d:Sp}
def ZC.need(h:ZC ts)(A:t∈ts)(C:r∈t.rels):aX ts (t.name,r.name)=dd ts t r r.body:=by
 unfold aX;simp only [h.fnd t A,h.fnr t A r C]
def ZC.rkp(h:ZC ts)(I:t∈ts)(D:r∈t.rels)(C:e∈aJ r.body)(A:d∈dJ ts t r e):Es ts d<=Es ts (t.name,r.name):=
 ZA (.step (.base (aR.2 rfl)) (by rw [h.need I D,eE];exact ⟨e,C,A⟩))
def ZC.rkn(h:ZC ts)(I:t∈ts)(D:r∈t.rels)(R:e∈xI r.body)(J:d∈dJ ts t r e):Es ts d<Es ts (t.name,r.name):=by
 obtain ⟨n,x,y,C,U,hl⟩:=Bs _ _ R;have V:e∈aJ r.body:=sI _ _ _ C (by simp only [aJ,aQ];exact .inr hl);have A:lF ts t r ⟨n,some x,some y⟩=none:=(j7.1 (h.loops t I r D)) _ C;have Q:=h.less t I r D _ C rfl U;unfold lF at A;simp only at A Q;rw [if_pos Q] at A;have hn:¬hU ts (dd ts t r y) (t.name,r.name)=true:=fun e=>by
  rw [if_pos e] at A
  cases A
 rw [wg] at hn;refine ZB (.step (.base (aR.2 rfl)) (by rw [h.need I D,eE];exact ⟨e,V,J⟩)) (fun k=>hn ?_);exact Br (fun a ha=>by rw [aR] at ha;subst ha;exact .base ((eE _ _ _ _ _).2 ⟨e,hl,J⟩)) k
end
