import Derived.Test.YtlbpnlngckgcbaaGreatDoorM25
set_option linter.all false
set_option maxHeartbeats 4000000
set_option maxRecDepth 100000
namespace Go.Proofs.YtlbpnlngckgcbaaGreatDoor
open Go.RowKit Go.PlainAid
section
variable {pl:List PV} {rl:List RV} {ts:List Ty} {F:Nat}
structure ZF (pl:List PV) (F:Nat) (x:RV) (t:Ty) (r:Rl) (m:Nat) (y:Ex):Prop where
 tr:Tr pl F m y
 xt:Tr pl F x.ex r.body
 lv:∀n∈aA pl F m,n∈aA pl F x.ex
 kd:x.kd=t.name
theorem ZF.leaf {x:RV} {t:Ty} {r:Rl} {m:Nat} {y:Ex} (s:ZF pl F x t r m y) {e:Ex} (he:e∈aN y):∃n∈aA pl F m,Tr pl 1 n e∧e∈aN r.body:=by
 obtain ⟨n,hn,ht⟩:=bQ.memr _ _ (dB pl F _ _ s.tr) e he;obtain ⟨e',he',ht'⟩:=bQ.mem _ _ (dB pl F _ _ s.xt) n (s.lv n hn);rw [Vd ht ht'] at*;exact ⟨n,hn,ht',he'⟩
theorem Kn.hang (h:Kn pl rl ts F) {x:RV} (hx:x∈rl) {t:Ty} (ht:t∈ts) {r:Rl} (hr:r∈t.rels) {m:Nat} {y:Ex} (s:ZF pl F x t r m y) (j:Nat):j∈jT rl pl (fZ rl pl (aA pl F)) x.kd (aA pl F m)↔∃e∈aN y,∃s∈Em ts t e,aQ s.1 s.2 rl 0=j:=by
 unfold jT;rw [List.mem_flatMap];have key:∀n∈aA pl F m,∀e∈aN y,Tr pl 1 n e→(j∈wo (iT rl (fZ rl pl (aA pl F)) x.kd) pl n↔∃s∈Em ts t e,aQ s.1 s.2 rl 0=j):=fun n hn e he hte=>by
  rw [s.kd];obtain ⟨_,_,_,hb⟩:=s.leaf he;exact h.leaf t ht n e hte (h.g t ht r hr e hb) (fun p hp=>by rw [←s.kd];exact h.k x hx n (s.lv n hn) p hp) j
 constructor
 ·rintro ⟨n,hn,hj⟩;obtain ⟨e,he,hte⟩:=bQ.mem _ _ (dB pl F _ _ s.tr) n hn;exact ⟨e,he,(key n hn e he hte).1 hj⟩
 ·rintro ⟨e,he,hs⟩;obtain ⟨n,hn,hte,_⟩:=s.leaf he;exact ⟨n,hn,(key n hn e he hte).2 hs⟩
theorem vI {r:Rl} {s:Sp}:s∈qa r↔∃e∈aN r.body,∃g∈fw e,p9 g=some s:=by
 unfold qa;rw [dI];simp only [List.mem_filterMap,List.mem_flatMap]
 constructor
 ·rintro ⟨g,⟨e,he,hg⟩,hs⟩;exact ⟨e,he,g,hg,hs⟩
 ·rintro ⟨e,he,g,hg,hs⟩;exact ⟨g,⟨e,he,hg⟩,hs⟩
theorem nM {x e:Ex} (h:e∈aN x):e.l=none:=((kM x e).1 h).2
theorem lh {ts:List Ty} {t:Ty} {r:Rl} {e:Ex} (h:e.l=none):iU ts t r e=if e.nd.kind=0 then qa r else Em ts t e:=by
 unfold iU Em;rw [h];simp only
 split
 ·rfl
 ·rfl
theorem rG {e:Ex} (h:e.l=none):fw e=if e.nd.kind=0 then e.nd.gs else []:=by
 unfold fw;rw [h]
theorem Kn.grants (h:Kn pl rl ts F) {x:RV} {t:Ty} (ht:t∈ts) {r:Rl} (hr:r∈t.rels) (hxt:Tr pl F x.ex r.body) (j:Nat):j∈OG rl pl (aA pl F x.ex)↔∃s∈qa r,aQ s.1 s.2 rl 0=j:=by
 unfold OG;rw [List.mem_flatMap];have key:∀n e,Tr pl 1 n e→wo (NI rl) pl n=(fw e).flatMap (dL rl):=fun n e hte=>by
  rw [←rD hte];obtain ⟨p,hp,_⟩:=hte;unfold wo lF NI;rw [hp]
 constructor
 ·rintro ⟨n,hn,hj⟩;obtain ⟨e,he,hte⟩:=bQ.mem _ _ (dB pl F _ _ hxt) n hn;rw [key n e hte,List.mem_flatMap] at hj;obtain ⟨g,hg,hj⟩:=hj;obtain ⟨s,e1,e2⟩:=(h.hash g (h.g t ht r hr e he g hg) j).1 hj;exact ⟨s,vI.2 ⟨e,he,g,hg,e1⟩,e2⟩
 ·rintro ⟨s,hs,e2⟩;obtain ⟨e,he,g,hg,e1⟩:=vI.1 hs;obtain ⟨n,hn,hte⟩:=bQ.memr _ _ (dB pl F _ _ hxt) e he;refine ⟨n,hn,?_⟩;rw [key n e hte,List.mem_flatMap];exact ⟨g,hg,(h.hash g (h.g t ht r hr e he g hg) j).2 ⟨s,e1,e2⟩⟩
theorem LM {ts:List Ty} {t:Ty} {r:Rl} {e:Ex} (he:e∈aN r.body) (hk:e.nd.kind=0) {s:Sp} (hs:s∈Em ts t e):s∈qa r:=by
 unfold Em at hs;rw [if_pos hk,List.mem_filterMap] at hs;obtain ⟨g,hg,e1⟩:=hs;exact vI.2 ⟨e,he,g,by rw [rG (nM he),if_pos hk];exact hg,e1⟩
theorem Kn.need (h:Kn pl rl ts F) {x:RV} (hx:x∈rl) {t:Ty} (ht:t∈ts) {r:Rl} (hr:r∈t.rels) {m:Nat} {y:Ex} (s:ZF pl F x t r m y) (j:Nat):j∈je rl pl (fZ rl pl (aA pl F)) x.kd (aA pl F m) (aA pl F x.ex)↔∃s∈dA ts t r y,aQ s.1 s.2 rl 0=j:=by
 unfold je;rw [List.mem_append,h.hang hx ht hr s j]
 constructor
 ·rintro (⟨e,he,sp,hs,ej⟩|hj)
  ·refine ⟨sp,(mJ ts t r y sp).2 ⟨e,he,?_⟩,ej⟩;obtain ⟨_,_,_,hb⟩:=s.leaf he;rw [lh (nM he)]
   split
   ·rename_i hk;exact LM hb hk hs
   ·exact hs
  ·split at hj
   ·rename_i ha;obtain ⟨sp,hs,ej⟩:=(h.grants ht hr s.xt j).1 hj;rw [List.any_eq_true] at ha;obtain ⟨n,hn,hl⟩:=ha;rw [decide_eq_true_eq] at hl;obtain ⟨e,he,hte⟩:=bQ.mem _ _ (dB pl F _ _ s.tr) n hn;rw [rD hte,rG (nM he)] at hl;refine ⟨sp,(mJ ts t r y sp).2 ⟨e,he,?_⟩,ej⟩;rw [lh (nM he)]
    split at hl
    ·rename_i hk;rw [if_pos hk];exact hs
    ·simp at hl
   ·simp at hj
 ·rintro ⟨sp,hs,ej⟩;obtain ⟨e,he,hs⟩:=(mJ ts t r y sp).1 hs;rw [lh (nM he)] at hs;obtain ⟨n,hn,hte,hb⟩:=s.leaf he
  split at hs
  ·rename_i hk;right;have hw:=h.w t ht r hr e ((kM _ e).1 hb).1 (nM he) hk;rw [if_pos (by
    rw [List.any_eq_true];refine ⟨n,hn,?_⟩;rw [decide_eq_true_eq,rD hte,rG (nM he),if_pos hk];exact List.length_pos_iff.2 hw)]
   exact (h.grants ht hr s.xt j).2 ⟨sp,hs,ej⟩
  ·exact .inl ⟨e,he,sp,hs,ej⟩
theorem Kn.spot (h:Kn pl rl ts F) {s:Sp} {j:Nat} (e:aQ s.1 s.2 rl 0=j):∃t r x,t∈ts∧r∈t.rels∧t.name=s.1∧r.name=s.2∧dn ts s.1=some t∧cu t s.2=some r∧(aR ts)[j]? =some (s.1,r)∧rl[j]? =some x∧x.kd=t.name∧Tr pl F x.ex r.body:=by
 rcases fM h.d h.b s.1 s.2 with ⟨e1,_⟩|⟨i,t,r,e1,h4,h5,h6⟩
 ·omega
 ·have:i=j:=by omega
  subst this;obtain ⟨x,hx,hk,_,_,htr⟩:=dH.get rl _ i _ h.f h6;obtain ⟨a1,a2⟩:=jI h4;obtain ⟨b1,b2⟩:=iJ h5;exact ⟨t,r,x,a1,b1,a2,b2,h4,h5,h6,hx,by rw [hk,a2],htr⟩
theorem Kn.inj (h:Kn pl rl ts F) {s s':Sp} {j:Nat} (e:aQ s.1 s.2 rl 0=j) (e':aQ s'.1 s'.2 rl 0=j):s=s':=by
 obtain ⟨t,r,x,_,_,_,h2,_,_,h6,_⟩:=h.spot e;obtain ⟨t',r',x',_,_,_,h2',_,_,h6',_⟩:=h.spot e';rw [h6] at h6';simp only [Option.some.injEq,Prod.mk.injEq] at h6';obtain ⟨e1,e2⟩:=h6';subst e2;exact Prod.ext e1 (by rw [←h2,←h2'])
theorem Kn.hangr (h:Kn pl rl ts F) (s:Sp) (j:Nat) (e:aQ s.1 s.2 rl 0=j) (j':Nat):j'∈qG rl pl (fZ rl pl (aA pl F)) (aA pl F) j↔∃s'∈aI ts s,aQ s'.1 s'.2 rl 0=j':=by
 obtain ⟨t,r,x,ht,hr,_,_,h4,h5,h6,hx,hk,htr⟩:=h.spot e;unfold qG aI;rw [hx,h4];simp only;rw [h5];simp only;have hs:ZF pl F x t r x.ex r.body:=⟨htr,htr,fun n hn=>hn,hk⟩;rw [h.hang (List.mem_of_getElem? hx) ht hr hs]
 constructor
 ·rintro ⟨e,he,sp,hs,ej⟩;refine ⟨sp,(mJ ts t r _ sp).2 ⟨e,he,?_⟩,ej⟩;rw [lh (nM he)]
  split
  ·rename_i hk;exact LM he hk hs
  ·exact hs
 ·rintro ⟨sp,hs,ej⟩;obtain ⟨e,he,hs⟩:=(mJ ts t r _ sp).1 hs;rw [lh (nM he)] at hs
  split at hs
  ·obtain ⟨e',he',g,hg,e1⟩:=vI.1 hs;refine ⟨e',he',sp,?_,ej⟩;rw [rG (nM he')] at hg
   split at hg
   ·rename_i hk';unfold Em;rw [if_pos hk',List.mem_filterMap];exact ⟨g,hg,e1⟩
   ·simp at hg
  ·exact ⟨e,he,sp,hs,ej⟩
theorem Kn.bad (h:Kn pl rl ts F) (hR:nL rl pl (fZ rl pl (aA pl F)) (aA pl F)) {x:RV} {i:Nat} (hx:rl[i]? =some x) {t:Ty} (ht:t∈ts) {r:Rl} (hr:r∈t.rels) (hi:aQ t.name r.name rl 0=i) {m:Nat} {y:Ex} (s:ZF pl F x t r m y):zI rl pl (fZ rl pl (aA pl F)) (aA pl F) i x m=kI ts (dA ts t r y) (t.name,r.name):=by
 rw [Bool.eq_iff_iff,Ko];unfold zI;rw [List.any_eq_true];have img:=Vb (fun s:Sp=>aQ s.1 s.2 rl 0) (aI ts) (qG rl pl (fZ rl pl (aA pl F)) (aA pl F)) (dA ts t r y) (je rl pl (fZ rl pl (aA pl F)) x.kd (aA pl F m) (aA pl F x.ex)) (fun j=>h.need (List.mem_of_getElem? hx) ht hr s j) (fun s j e j'=>h.hangr s j e j') (fun s hs=>by
  rcases fM h.d h.b s.1 s.2 with ⟨e1,hno⟩|⟨i,t,r,e1,h4,h5,h6⟩
  ·refine absurd ?_ hs;unfold aI
   cases hf:dn ts s.1 with
   |none=>rfl
   |some u=>simp only;rw [hno u hf]
  ·omega)
 constructor
 ·rintro ⟨k,hk,e⟩;have:k=i:=by simpa using e
  subst this;obtain ⟨sp,hsp,e⟩:=(img k).1 ((GV _ _ _ _ hR _ _).1 hk);rw [←h.inj (s:=sp) (s':=(t.name,r.name)) e hi];exact hsp
 ·intro hsp;exact ⟨i,(GV _ _ _ _ hR _ _).2 ((img i).2 ⟨_,hsp,hi⟩),by simp⟩
end
def Kv (rs:List Rl):List Nat:=rs.flatMap fun r=>nJ r.body
def wC (ts:List Ty):List Nat:=ts.flatMap fun t=>Kv t.rels
section
variable (T:Nat→aei) (P:Nat→Nat)
theorem Kw (i:Nat) (r:Rl) (j:Nat) (h:pJ T P i=.ok (r,j)):jv P i j (nJ r.body):=by
 unfold pJ at h
 split at h
 ·simp at h
 ·rename_i u j1 hn;have hm:=iq T _ _ _ _ hn
  split at h
  ·simp at h
  ·rename_i x j2 hx
   split at h
   ·simp only [Except.ok.injEq,Prod.mk.injEq] at h;obtain ⟨rfl,rfl⟩:=h;exact (Cv T P 4 _ _ _ hx).wide (by omega) (by omega)
   ·simp at h
theorem wU:∀(f:Nat) (acc:List Rl) (i:Nat) (rs:List Rl) (m:Nat),dP T P f acc i=.ok (rs,m)→∃new,rs=acc++new∧i<m∧jv P i m (Kv new)
 |0,acc,i,rs,m,h=>by simp [dP] at h
 |f+1,acc,i,rs,m,h=>by
  unfold dP at h
  split at h
  ·simp only [Except.ok.injEq,Prod.mk.injEq] at h;obtain ⟨rfl,rfl⟩:=h;exact ⟨[],by simp,by omega,jv.nil _ _ _⟩
  ·split at h
   ·simp at h
   ·split at h
    ·simp at h
    ·rename_i r j hr;have h1:=Kw T P i r j hr;have h2:=(zF T P i r j hr).2;obtain ⟨new,rfl,h3,h4⟩:=wU f _ _ _ _ h;refine ⟨r::new,by simp,by omega,?_⟩;exact h1.app h4 (by omega) (by omega)
theorem vJ:∀(f:Nat) (acc:List Ty) (i:Nat) (ts:List Ty) (m:Nat),dR T P f acc i=.ok (ts,m)→∃new,ts=acc++new∧i≤m∧jv P i m (wC new)
 |0,acc,i,ts,m,h=>by simp [dR] at h
 |f+1,acc,i,ts,m,h=>by
  unfold dR at h
  split at h
  ·simp only [Except.ok.injEq,Prod.mk.injEq] at h;obtain ⟨rfl,rfl⟩:=h;exact ⟨[],by simp,by omega,jv.nil _ _ _⟩
  ·split at h
   ·simp at h
   ·split at h
    ·simp at h
    ·rename_i t j ht;obtain ⟨new,rfl,h3,h4⟩:=vJ f _ _ _ _ h;rw [mF] at ht
     split at ht
     ·unfold pG at ht
      split at ht
      ·simp at ht
      ·rename_i u j1 hn;have hm:=iq T _ _ _ _ hn
       split at ht
       ·simp at ht
       ·rename_i rs j2 hrs;simp only [Except.ok.injEq,Prod.mk.injEq] at ht;obtain ⟨rfl,rfl⟩:=ht;obtain ⟨rn,e,h5,h6⟩:=wU T P _ _ _ _ _ hrs;rw [List.nil_append] at e;subst e;refine ⟨⟨T (i+1),P (i+1),rs⟩::new,by simp,by omega,?_⟩;exact (h6.wide (lo':=i) (by omega) aeg).app h4 (by omega) (by omega)
     ·simp at ht
end
theorem Eo {s:aei} {ts:List Ty} {m:Nat} (h:gF (TT s) (PP s)=.ok (ts,m)) (hg:Gd s m):(wC ts).Pairwise (· < ·):=by
 obtain ⟨new,e,_,ha⟩:=vJ (TT s) (PP s) 512 [] 0 ts m h;rw [List.nil_append] at e;subst e;exact ha.sorted (fun i j hij hjm=>Q5 s j i hij (fun k hk=>hg k (by omega)))
def jf (B:Ex→Bool):Ex→List Nat
 |⟨n,some x,some y⟩=>jf B x++(if jl n.kind=246∧B y=true then [n.place] else [])++jf B y
 |⟨_,none,_⟩=>[]
 |⟨_,some _,none⟩=>[]
theorem Ad (B:Ex→Bool):∀(x:Ex),(jf B x).Sublist (nJ x)
 |⟨n,some x,some y⟩=>by
  simp only [jf,nJ];have h1:=Ad B x;have h2:=Ad B y;rw [List.append_assoc];refine h1.append ?_
  split
  ·exact h2.cons_cons _
  ·exact h2.cons _
 |⟨_,none,_⟩=>by simp [jf]
 |⟨_,some _,none⟩=>by simp [jf]
theorem ui (ts:List Ty) (t:Ty) (r:Rl):∀(x:Ex),(ax x).findSome? (qh ts t r)=(jf (fun y=>kI ts (dA ts t r y) (t.name,r.name)) x).head?
 |⟨n,some x,some y⟩=>by
  have h1:=ui ts t r x;have h2:=ui ts t r y;simp only [ax,jf,List.findSome?_append,h1,h2,List.findSome?_cons,List.findSome?_nil,List.head?_append]
  congr 2
  unfold qh;simp only
  by_cases ha:jl n.kind=246
  ·by_cases hb:kI ts (dA ts t r y) (t.name,r.name)=true
   ·simp [ha,hb]
   ·simp [ha,hb]
  ·simp [ha]
 |⟨n,none,r'⟩=>by simp [ax,jf,qh]
 |⟨n,some x,none⟩=>by simp [ax,jf]
theorem Ky {l:List Nat} (h:l.Pairwise (· < ·)):dG (nI l.head?) (fun q=>q∈l):=by
 cases l with
 |nil=>exact .inl ⟨rfl,by simp⟩
 |cons a l=>
  refine .inr ⟨a,rfl,by simp,fun q hq=> ?_⟩
  rcases List.mem_cons.1 hq with rfl|hq
  ·exact Nat.le_refl _
  ·exact Nat.le_of_lt ((List.pairwise_cons.1 h).1 q hq)
theorem uj {α:Type} (f:α→List Nat):∀(l:List α),(l.findSome? fun a=>(f a).head?)=(l.flatMap f).head?
 | []=>rfl
 |a::l=>by
  rw [List.findSome?_cons,List.flatMap_cons,List.head?_append,←uj f l]
  cases (f a).head? <;>rfl
def Ae (ts:List Ty):List Nat:=ts.flatMap fun t=>t.rels.flatMap fun r=>jf (fun y=>kI ts (dA ts t r y) (t.name,r.name)) r.body
theorem Af {α:Type} {f g:α→List Nat} (h:∀a,(f a).Sublist (g a)):∀(l:List α),(l.flatMap f).Sublist (l.flatMap g)
 | []=>by simp
 |a::l=>by
  rw [List.flatMap_cons,List.flatMap_cons];exact (h a).append (Af h l)
theorem Ho {ts:List Ty} (h:(wC ts).Pairwise (· < ·)):dG (nI (gD (mr ts) ts)) (fun q=>q∈Ae ts):=by
 have e:gD (mr ts) ts=(Ae ts).head? :=by
  unfold gD Ae;rw [←uj]
  congr 1
  funext t
  rw [←uj]
  congr 1
  funext r
  unfold mr;exact ui ts t r r.body
 rw [e];have hs:(Ae ts).Sublist (wC ts):=by
  unfold Ae wC Kv;exact Af (fun t=>Af (fun r=>Ad _ r.body) t.rels) ts
 exact Ky (h.sublist hs)
theorem Rn (t:aei) (p:Nat):minus ⟨bi t,p,false⟩=eqs t (sg 45):=by
 unfold minus eqs;simp only;rw [gV,aF]
 rfl
theorem Ro:¬jl (kindOf (sg 38))=246:=by decide
theorem Vi:¬jl (kindOf (sg 124))=246:=by decide
theorem Oa:jl (kindOf (sg 45))=246:=by decide
theorem oV {α:Type} {P:α→Prop} {x:α} {l:List α}:(∃a∈x::l,P a)↔P x∨∃a∈l,P a:=by
 constructor
 ·rintro ⟨a,ha,h⟩
  rcases List.mem_cons.1 ha with rfl|ha
  ·exact .inl h
  ·exact .inr ⟨a,ha,h⟩
 ·rintro (h|⟨a,ha,h⟩)
  ·exact ⟨x,by simp,h⟩
  ·exact ⟨a,by simp [ha],h⟩
theorem wD (B:Ex→Bool) (q:Nat):∀(rs:List (aei×Nat×Ex)) (x:Ex),q∈jf B (kV x rs)↔q∈jf B x∨(∃r∈rs,jl (kindOf r.1)=246∧B r.2.2=true∧q=r.2.1)∨∃r∈rs,q∈jf B r.2.2
 | [],x=>by simp [kV]
 |(t,p,y)::rs,x=>by
  rw [kV,wD B q rs];simp only [jZ,jf,List.mem_append,oV]
  by_cases h:jl (kindOf t)=246∧B y=true
  ·rw [if_pos h];simp only [List.mem_singleton,h,true_and]
   constructor
   ·rintro (((h|h)|h)|h|h)
    ·exact .inl h
    ·exact .inr (.inl (.inl h))
    ·exact .inr (.inr (.inl h))
    ·exact .inr (.inl (.inr h))
    ·exact .inr (.inr (.inr h))
   ·rintro (h|(h|h)|h|h)
    ·exact .inl (.inl (.inl h))
    ·exact .inl (.inl (.inr h))
    ·exact .inr (.inl h)
    ·exact .inl (.inr h)
    ·exact .inr (.inr h)
  ·rw [if_neg h];simp only [List.not_mem_nil,or_false]
   constructor
   ·rintro ((h|h)|h|h)
    ·exact .inl h
    ·exact .inr (.inr (.inl h))
    ·exact .inr (.inl (.inr h))
    ·exact .inr (.inr (.inr h))
   ·rintro (h'|(h'|h')|h'|h')
    ·exact .inl (.inl h')
    ·exact absurd ⟨h'.1,h'.2.1⟩ h
    ·exact .inr (.inl h')
    ·exact .inl (.inr h')
    ·exact .inr (.inr h')
theorem CE {R:Nat→Ex→Prop} (bad:Nat→Bool) (B:Ex→Bool) (hB:∀n y,R n y→bad n=B y):∀(rs:List (aei×Nat×Ex)) (ns:List Nat) (c:Int) (S:Nat→Prop),bQ R ns (rs.map fun r=>r.2.2)→(∀r∈rs,r.1=sg 38∨r.1=sg 45)→dG c S→
  dG (OH bad ns (rs.map fun r=>⟨bi r.1,r.2.1,false⟩) c) (fun q=>S q∨∃r∈rs,jl (kindOf r.1)=246∧B r.2.2=true∧q=r.2.1)
 | [],[],c,S,_,_,h=>h.congr (fun q=>by simp)
 |r::rs,n::ns,c,S,k,hs,h=>by
  have hb:bad n=B r.2.2:=hB n _ k.1;have ih:=CE bad B hB rs ns;simp only [List.map_cons,OH,Rn,hb]
  rcases hs r (by simp) with e|e
  ·have e1:eqs r.1 (sg 45)=false:=by rw [e];decide
   rw [e1];simp only [Bool.false_and,Bool.false_eq_true,if_false];refine (ih c S k.2 (fun r hr=>hs r (by simp [hr])) h).congr (fun q=> ?_);simp only [oV,e,Ro,false_and,false_or]
  ·have e1:eqs r.1 (sg 45)=true:=by rw [e];decide
   rw [e1];simp only [Bool.true_and]
   cases hbb:B r.2.2
   ·simp only [Bool.false_eq_true,if_false];refine (ih c S k.2 (fun r hr=>hs r (by simp [hr])) h).congr (fun q=> ?_);simp only [oV,hbb,Bool.false_eq_true,false_and,and_false,false_or]
   ·simp only [if_true];refine (ih _ _ k.2 (fun r hr=>hs r (by simp [hr])) (h.step r.2.1)).congr (fun q=> ?_);simp only [oV,hbb,e,Oa,true_and,or_assoc]
 | [],_::_,_,_,k,_,_=>k.elim
 |_::_,[],_,_,k,_,_=>k.elim
section
variable {pl:List PV} {rl:List RV} {ts:List Ty} {F:Nat}
theorem Rp {f n:Nat} {y:Ex} {q:PV} (hy:Tr pl (f+1) n y) (hq:pl[n]? =some q):qI pl (f+1) n=(q.ps.map (qI pl (f+1))).sum+1:=by
 rw [qI,hq];simp only;rw [rF (f:=qI pl f) (g:=qI pl (f+1)) (fun m hm=>by obtain ⟨z,hz⟩:=hy.kids hq m hm;exact (Ej pl hz (by omega)).symm)]
def vK (pl:List PV) (F:Nat) (x:RV) (n:Nat) (y:Ex):Prop:=Tr pl F n y∧∀k∈aA pl F n,k∈aA pl F x.ex
theorem vK.kid {g:Nat} {x:RV} {n:Nat} {y:Ex} {p:PV} (h:vK pl (g+1) x n y) (hp:pl[n]? =some p) {m:Nat} (hm:m∈p.ps) {z:Ex} (hz:Tr pl g m z):vK pl (g+1) x m z:=by
 refine ⟨Tr.up pl _ _ _ hz,fun k hk=>h.2 k ?_⟩;rw [mH pl hz (by omega)] at hk;exact h.1.kid_leaves hp m hm k hk
theorem Ag {R S:Nat→Ex→Prop}:∀(ns:List Nat) (xs:List Ex),(∀n∈ns,∀x,R n x→S n x)→bQ R ns xs→bQ S ns xs
 | [],[],_,_=>trivial
 |n::ns,x::xs,h,k=>⟨h n (by simp) x k.1,Ag ns xs (fun n hn=>h n (by simp [hn])) k.2⟩
 | [],_::_,_,k=>k.elim
 |_::_,[],_,k=>k.elim
theorem jJ {g:Nat} (x:RV) (bad:Nat→Bool) (B:Ex→Bool) (hB:∀n y,vK pl (g+1) x n y→bad n=B y):∀(f:Nat) (q:List Nat) (ys:List Ex) (c:Int) (S:Nat→Prop),bQ (vK pl (g+1) x) q ys→(q.map (qI pl (g+1))).sum<f→dG c S→
  dG (sj bad pl f q c) (fun p=>S p∨∃y∈ys,p∈jf B y)
 |0,_,_,_,_,_,h,_=>by omega
 |f+1,[],[],c,S,_,_,h=>h.congr (fun q=>by simp)
 |f+1,n::q,y::ys,c,S,k,hs,h=>by
  obtain ⟨k1,k2⟩:=k;obtain ⟨p,hp,hc⟩:=id k1.1;have hz:=Rp k1.1 hp;simp only [List.map_cons,List.sum_cons] at hs;rw [sj,hp];simp only
  rcases hc with ⟨h1,hn,rfl⟩|⟨h1,h0,hn,rfl⟩|⟨h1,h0,hn,rfl⟩|⟨h1,h0,n0,ns,x0,rs,h3,h4,h5,h6,h7,rfl⟩|⟨h1,h0,h0',n0,ns,x0,rs,h3,h4,h5,h6,h7,rfl⟩
  ·rw [hn.1,hn.2];simp only [List.append_nil,List.drop_nil,OH];refine (jJ x bad B hB f q ys c S k2 (by omega) h).congr (fun q=> ?_);simp [jf]
  ·rw [hn.1,hn.2];simp only [List.append_nil,List.drop_nil,OH];refine (jJ x bad B hB f q ys c S k2 (by omega) h).congr (fun q=> ?_);simp [jf]
  ·rw [hn.1,hn.2];simp only [List.append_nil,List.drop_nil,OH];refine (jJ x bad B hB f q ys c S k2 (by omega) h).congr (fun q=> ?_);simp [jf]
  ·have kn:bQ (vK pl (g+1) x) ns (rs.map fun r=>r.2.2):=Ag ns _ (fun m hm z hz=>k1.kid hp (by rw [h3];simp [hm]) hz) h5;have k0:vK pl (g+1) x n0 x0:=k1.kid hp (by rw [h3];simp) h4;have hb:=CE bad B hB rs ns c S kn h7.1 h;have hq:bQ (vK pl (g+1) x) (q++p.ps) (ys++(x0::rs.map fun r=>r.2.2)):=by
    rw [h3];exact bQ.app (show bQ (vK pl (g+1) x) (n0::ns) (x0::rs.map fun r=>r.2.2) from ⟨k0,kn⟩) _ _ k2
   have hl:=jJ x bad B hB f _ _ _ _ hq (by rw [List.map_append,List.sum_append];omega) hb;rw [h6];rw [h3] at hl ⊢;simp only [List.drop_succ_cons,List.drop_zero];refine hl.congr (fun p=> ?_);simp only [oV,wD,List.mem_append,or_and_right,exists_or,List.mem_cons,exists_eq_left,List.mem_map]
   constructor
   ·rintro ((h|h)|h|h|⟨z,⟨r,hr,rfl⟩,hz⟩)
    ·exact .inl h
    ·exact .inr (.inl (.inr (.inl h)))
    ·exact .inr (.inr h)
    ·exact .inr (.inl (.inl h))
    ·exact .inr (.inl (.inr (.inr ⟨r,hr,hz⟩)))
   ·rintro (h|(h|h|⟨r,hr,hz⟩)|h)
    ·exact .inl (.inl h)
    ·exact .inr (.inr (.inl h))
    ·exact .inl (.inr h)
    ·exact .inr (.inr (.inr ⟨_,⟨r,hr,rfl⟩,hz⟩))
    ·exact .inr (.inl h)
  ·have kn:bQ (vK pl (g+1) x) ns (rs.map fun r=>r.2.2):=Ag ns _ (fun m hm z hz=>k1.kid hp (by rw [h3];simp [hm]) hz) h5;have k0:vK pl (g+1) x n0 x0:=k1.kid hp (by rw [h3];simp) h4;have hq:bQ (vK pl (g+1) x) (q++p.ps) (ys++(x0::rs.map fun r=>r.2.2)):=by
    rw [h3];exact bQ.app (show bQ (vK pl (g+1) x) (n0::ns) (x0::rs.map fun r=>r.2.2) from ⟨k0,kn⟩) _ _ k2
   have hl:=jJ x bad B hB f _ _ _ _ hq (by rw [List.map_append,List.sum_append];omega) h;rw [h0'];have e:∀l:List Nat,OH bad l (List.drop 1 []) c=c:=fun l=>by cases l<;>rfl
   rw [e];refine hl.congr (fun p=> ?_);have hno:¬∃r∈rs,jl (kindOf r.1)=246∧B r.2.2=true∧p=r.2.1:=by
    rintro ⟨r,hr,h8,_⟩;rw [h6 r hr] at h8;exact Vi h8
   simp only [oV,wD,List.mem_append,or_and_right,exists_or,List.mem_cons,exists_eq_left,List.mem_map,hno,false_or]
   constructor
   ·rintro (h|h|h|⟨z,⟨r,hr,rfl⟩,hz⟩)
    ·exact .inl h
    ·exact .inr (.inr h)
    ·exact .inr (.inl (.inl h))
    ·exact .inr (.inl (.inr ⟨r,hr,hz⟩))
   ·rintro (h|(h|⟨r,hr,hz⟩)|h)
    ·exact .inl h
    ·exact .inr (.inr (.inl h))
    ·exact .inr (.inr (.inr ⟨_,⟨r,hr,rfl⟩,hz⟩))
    ·exact .inr (.inl h)
 |f+1,[],_::_,_,_,k,_,_=>k.elim
 |f+1,_::_,[],_,_,k,_,_=>k.elim
end
theorem A8 {ts:List Ty} (h:gN ts):(aR ts).Pairwise fun p q=>¬(p.1=q.1∧p.2.name=q.2.name):=by
 unfold aR;rw [List.pairwise_flatMap];refine ⟨fun t ht=> ?_,?_⟩
 ·rw [List.pairwise_map];exact (h.rl t ht).imp (fun {a b} hab e=>hab e.2)
 ·refine h.ty.imp (fun {a b} hab=> ?_);intro x hx y hy e;obtain ⟨r,_,rfl⟩:=List.mem_map.1 hx;obtain ⟨q,_,rfl⟩:=List.mem_map.1 hy;exact hab e.1
section
variable {pl:List PV} {rl:List RV} {ts:List Ty} {F:Nat}
theorem Kn.num (h:Kn pl rl ts F) {i:Nat} {p:aei×Rl} (hi:(aR ts)[i]? =some p):aQ p.1 p.2.name rl 0=i:=by
 obtain ⟨t,ht,e1,hr⟩:=jV.1 (List.mem_of_getElem? hi)
 rcases fM h.d h.b p.1 p.2.name with ⟨_,hno⟩|⟨j,t',r,e,h4,h5,h6⟩
 ·have:=hno t (by rw [←e1];exact dC h.d ht);rw [zL (h.d.rl t ht) hr] at this
  cases this
 ·have hn:=(iJ h5).2;have hp:=A8 h.d;rw [List.pairwise_iff_getElem] at hp;obtain ⟨li,ei⟩:=List.getElem?_eq_some_iff.1 hi;obtain ⟨lj,ej⟩:=List.getElem?_eq_some_iff.1 h6
  rcases Nat.lt_trichotomy i j with hij|hij|hij
  ·exact absurd (by rw [ei,ej];exact ⟨rfl,hn.symm⟩) (hp i j li lj hij)
  ·rw [e,hij]
  ·exact absurd (by rw [ei,ej];exact ⟨rfl,hn⟩) (hp j i lj li hij)
def Rq (ts:List Ty) (p:aei×Rl) (q:Nat):Prop:=∃t∈ts,t.name=p.1∧q∈jf (fun y=>kI ts (dA ts t p.2 y) (t.name,p.2.name)) p.2.body
theorem Kn.best (h:Kn pl rl ts F) (hR:nL rl pl (fZ rl pl (aA pl F)) (aA pl F)) {i:Nat} {x:RV} (hx:rl[i]? =some x) {p:aei×Rl} (hi:(aR ts)[i]? =some p) (c:Int) (S:Nat→Prop) (hc:dG c S):dG (sj (zI rl pl (fZ rl pl (aA pl F)) (aA pl F) i x) pl (qI pl F x.ex+1) [x.ex] c) (fun q=>S q∨Rq ts p q):=by
 obtain ⟨t,ht,e1,hr⟩:=jV.1 (List.mem_of_getElem? hi);obtain ⟨x',hx',hk,_,_,htr⟩:=dH.get rl _ i p h.f hi;rw [hx] at hx';simp only [Option.some.injEq] at hx';subst hx';have abm:=h.num hi;rw [←e1] at abm
 cases F with
 |zero=>exact htr.elim
 |succ g=>
  have hB:∀n y,vK pl (g+1) x n y→zI rl pl (fZ rl pl (aA pl (g+1))) (aA pl (g+1)) i x n=kI ts (dA ts t p.2 y) (t.name,p.2.name):=fun n y hs=>
   h.bad hR hx ht hr abm ⟨hs.1,htr,hs.2,by rw [hk,e1]⟩
  refine (jJ x _ (fun y=>kI ts (dA ts t p.2 y) (t.name,p.2.name)) hB _ [x.ex] [p.2.body] c S ⟨⟨htr,fun k hk=>hk⟩,trivial⟩ (by simp) hc).congr (fun q=> ?_);simp only [List.mem_singleton,exists_eq_left];unfold Rq
  constructor
  ·rintro (hq|hq)
   ·exact .inl hq
   ·exact .inr ⟨t,ht,e1,hq⟩
  ·rintro (hq|⟨t',ht',e2,hq⟩)
   ·exact .inl hq
   ·have a1:=dC h.d ht;have a2:=dC h.d ht';rw [e1] at a1;rw [e2,a1] at a2;simp only [Option.some.injEq] at a2;subst a2;exact .inr hq
theorem Kn.loops (h:Kn pl rl ts F) (hR:nL rl pl (fZ rl pl (aA pl F)) (aA pl F)):∀(xs:List RV) (ps:List (aei×Rl)) (i:Nat) (c:Int) (S:Nat→Prop),dH pl F xs ps→(∀k,xs[k]? =rl[i+k]?)→(∀k,ps[k]? =(aR ts)[i+k]?)→dG c S→
  dG (loopsR rl pl (fZ rl pl (aA pl F)) (aA pl F) (fun _=>qI pl F) xs i c) (fun q=>S q∨∃p∈ps,Rq ts p q)
 | [],[],i,c,S,_,_,_,hc=>by
  rw [loopsR];exact hc.congr (fun q=>by simp)
 |x::xs,p::ps,i,c,S,hf,hx,hp,hc=>by
  rw [loopsR];have h1:=h.best hR (i:=i) (x:=x) (by have:=hx 0;simpa using this.symm) (p:=p) (by have:=hp 0;simpa using this.symm) c S hc;refine (Kn.loops h hR xs ps (i+1) _ _ hf.2 (fun k=> ?_) (fun k=> ?_) h1).congr (fun q=> ?_)
  ·have:=hx (k+1);simp only [List.getElem?_cons_succ] at this;rw [this];congr 1;omega
  ·have:=hp (k+1);simp only [List.getElem?_cons_succ] at this;rw [this];congr 1;omega
  ·rw [oV,or_assoc]
 | [],_::_,_,_,_,k,_,_,_=>k.elim
 |_::_,[],_,_,_,k,_,_,_=>k.elim
theorem Oc {q:Nat}:q∈Ae ts↔∃t∈ts,∃r∈t.rels,q∈jf (fun y=>kI ts (dA ts t r y) (t.name,r.name)) r.body:=by
 unfold Ae;simp only [List.mem_flatMap]
theorem Kn.loopsR (h:Kn pl rl ts F) (hR:nL rl pl (fZ rl pl (aA pl F)) (aA pl F)) (hs:(wC ts).Pairwise (· < ·)):loopsR rl pl (fZ rl pl (aA pl F)) (aA pl F) (fun _=>qI pl F) rl 0 (-1)=nI (gD (mr ts) ts):=by
 have h1:=h.loops hR rl (aR ts) 0 (-1) (fun _=>False) h.f (fun k=>by simp) (fun k=>by simp) (.inl ⟨rfl,fun q hq=>hq⟩);refine h1.unique ((Ho hs).congr (fun q=> ?_));rw [Oc,false_or]
 constructor
 ·rintro ⟨t,ht,r,hr,hq⟩;exact ⟨(t.name,r),jV.2 ⟨t,ht,rfl,hr⟩,t,ht,rfl,hq⟩
 ·rintro ⟨p,hp,t,ht,e,hq⟩;obtain ⟨t',ht',e',hr⟩:=jV.1 hp;have a1:=dC h.d ht;have a2:=dC h.d ht';rw [e] at a1;rw [e',a1] at a2;simp only [Option.some.injEq] at a2;subst a2;exact ⟨t,ht,p.2,hr,hq⟩
end
theorem Vj {s:aei} (hs:s.size≤500) (kl:List (aei×Nat)) (rl:List RV) (pl:List PV) (ts:List Ty) (m:Nat) (h:gF (TT s) (PP s)=.ok (ts,m)) (hg:Gd s m) (hm:D9 pl kl rl ts):Q0 kl rl pl ts:=by
 obtain ⟨F,hF⟩:=dE.fuel rl _ hm.2;have hz:=sized h hg hs;have hgr:=Q6 h;obtain ⟨rfl,hb⟩:=id hm;refine ⟨fZ rl pl (aA pl F),aA pl F,fun x n=>QF pl F x n∧Rc pl F n,fun _=>qI pl F,Q8 hF hz,Q7 hF hz,J8 hm (AY h hg),fun ZE=> ?_⟩;have hd:=(zK ts [] ZE).2;have hn:=GI hd hb hF hgr;refine ⟨hn,fun hno=> ?_⟩;rw [hno] at hn;have hR:=U9 hF hz _ hn;refine ⟨hR,fun x hx=>Va hF hz _ hn x hx,?_⟩;have hk:Kn pl rl ts F:=⟨hd,hb,hF,hgr,fun t ht r hr=>(tX h t ht r hr).1,fun t ht r hr=>(((lU (TT s) (PP s) ts m h).1 t ht).1 r hr).wf,hz,fun x hx n hn' p hp=>zU _ _ _ hn x hx n hn' p hp⟩;exact hk.loopsR hR (Eo h hg)
theorem wV (s:aei) (w:World) (hs:s.size≤500):Calls Tryz.prog 80 #[.string s] w (Q3 s w):=NM s w hs (fun kl rl pl ts m h hg hm=>Vj hs kl rl pl ts m h hg hm)
def XM (ts:List Ty) (I:Nat→Prop) (bm:Nat) (w:World):Prop:=∃(kv rv pv:Value) (kl:List (aei×Nat)) (rl:List RV) (pl:List PV) (l:List PX) (bz:Nat→List Gr),DMT w bm kv rv pv kl rl pl l∧Mod ts pl rl bz∧vD rl pl bz∧∀x∈l,∀k,x.2.2.1.ownBlock=some k→I k
def KX (I:Nat→Prop) (w w':World):Prop:=∀(g:Nat) (cs:Array Value) (T:TypeId) (f:Nat×Nat),w.heap[g]? =some (Obj.cells cs T f)→RT T→(T=3→I g)→w'.heap[g]? =w.heap[g]?
theorem XM.kx {ts:List Ty} {I:Nat→Prop} {bm:Nat} {w w':World} (h:XM ts I bm w) (k:KX I w w'):XM ts I bm w':=by
 obtain ⟨kv,rv,pv,kl,rl,pl,l,bz,hd0,h2,h3,h4⟩:=h;have hr:∀{base:Nat} {e:TypeId} {size:Nat} {v:Value} {n:Nat} {xs:List Value},w.ownsRow base e size v n xs→RT e→e≠3→w'.ownsRow base e size v n xs:=fun h he hn=>ak h (fun g cs f _ hh=>k g cs _ f hh he (fun e=>absurd e hn))
 obtain ⟨cs,hb⟩:=hd0.blk;have e:=k bm cs _ _ hb (.inl rfl) (fun h=>absurd h (by decide));have hc:∀o v,w.cell? ⟨bm,o,none⟩=some v→w'.cell? ⟨bm,o,none⟩=some v:=fun o v hv=>(World.cell?_of_block (w:=w) e).trans hv
 have hd:=hd0.dm;refine ⟨kv,rv,pv,kl,rl,pl,l,bz,⟨⟨hc _ _ hd.c5,hc _ _ hd.c6,hc _ _ hd.c7,hr hd.kt (.inr (.inl rfl)) (by decide),hr hd.rt (.inr (.inr (.inl rfl))) (by decide),⟨hd.pt.fst,hr hd.pt.row (.inr (.inr (.inr (.inl rfl)))) (by decide),fun x hx=> ?_⟩,hd.kn,hd.rn,hd.pn⟩,cs,e.trans hb⟩,h2,h3,h4⟩;have hx':=hd.pt.rep x hx;exact ⟨hr hx'.g (.inr (.inr (.inr (.inr (.inl rfl))))) (by decide),fC hx'.p (fun g cs f hg hh=>k g cs _ f hh (.inr (.inr (.inr (.inr (.inr (.inl rfl)))))) (fun _=>h4 x hx g hg)),hr hx'.s (.inr (.inr (.inr (.inr (.inr (.inr rfl)))))) (by decide)⟩
theorem XM.kd {ts:List Ty} {I:Nat→Prop} {bm:Nat} {w w':World} (h:XM ts I bm w) (k:KD w w'):XM ts I bm w':=h.kx (fun g cs T f hh ht _=>k g cs T f hh ht)
theorem YO {pl:List PV} {rl:List RV} {ts:List Ty} {F:Nat} (hF:dH pl F rl (aR ts)) {j:Nat} {k:aei} {r:Rl} (hj:(aR ts)[j]? =some (k,r)):fZ rl pl (aA pl F) j=bH r.body:=by
 obtain ⟨x,hx,_,_,_,htr⟩:=dH.get rl _ j _ hF hj;unfold fZ;rw [hx,dI];exact oq _ _ (dB pl F _ _ htr)
theorem Hq {s:aei} {ts:List Ty} (hr:kW s=.ok ts) (w:World):Calls Tryz.prog 80 #[.string s] w fun e w'=>∃bm,e=.returned (.tuple #[.pointer (some ⟨bm,5,none⟩),.int .i64 0,.int .i64 0])∧Below w.heap.size w w'∧XM ts (fun k=>w.heap.size≤k) bm w':=by
 unfold kW at hr
 split at hr
 ·simp at hr
 ·rename_i hs
  split at hr
  ·simp at hr
  ·rename_i ts0 m hm
   split at hr
   ·simp at hr
   ·rename_i hc;simp only [Except.ok.injEq] at hr;subst hr;refine (wV s w (by omega)).mono fun e w' h=> ?_
    have h2:=h.2;rw [hm] at h2;simp only [hc] at h2;obtain ⟨b,kv,rv,pv,kl,rl,pl,l,e1,hd,hmb,hg,hbl,hfh⟩:=h2;obtain ⟨F,hF⟩:=dE.fuel rl _ hmb.2;have hz:=sized hm hg (by omega);have ZE:IP [] ts0=none:=by
     unfold kJ at hc
     split at hc
     ·simp at hc
     ·assumption
    exact ⟨b,e1,h.1,kv,rv,pv,kl,rl,pl,l,fZ rl pl (aA pl F),⟨hd,hbl⟩,⟨(zK ts0 [] ZE).2,hmb.2,fun j k r hj=>YO hF hj,fun t ht r hr x hx=>⟨Ve (Q6 hm) t ht r hr x hx,YM hm t ht r hr x hx⟩⟩,Q8 hF hz,fun x hx k hk=>hfh x hx k (.inr (.inl hk))⟩
theorem Od {ts:List Ty} {p c:Nat} (h:kJ ts=some (p,c)):c≠0:=by
 unfold kJ at h
 split at h
 ·simp at h;omega
 ·split at h
  ·simp at h;omega
  ·split at h
   ·simp at h;omega
   ·simp at h
theorem rH {s:aei} {o:Option Nat} {c:Nat} (hr:kW s=.error (o,c)) (w:World):c≠0∧∃p:Nat,Calls Tryz.prog 80 #[.string s] w fun e w'=>e=.returned (.tuple #[.pointer none,.int .i64 c,.int .i64 p])∧Below w.heap.size w w':=by
 unfold kW at hr
 split at hr
 ·rename_i hs;simp only [Except.error.injEq,Prod.mk.injEq] at hr;obtain ⟨_,rfl⟩:=hr;exact ⟨by omega,0,Kl s w hs⟩
 ·rename_i hs;have C:=wV s w (by omega)
  split at hr
  ·rename_i c0 j hm;simp only [Except.error.injEq,Prod.mk.injEq] at hr;obtain ⟨_,rfl⟩:=hr;obtain ⟨e,w',fr,hp,_⟩:=C [];have h3:=hp.2;rw [hm] at h3;refine ⟨h3.1,PP s j,C.mono fun e w' h=> ?_⟩;have h2:=h.2;rw [hm] at h2;exact ⟨h2.2,h.1⟩
  ·rename_i ts m hm
   split at hr
   ·rename_i p c0 hc;simp only [Except.error.injEq,Prod.mk.injEq] at hr;obtain ⟨_,rfl⟩:=hr;refine ⟨Od hc,p,C.mono fun e w' h=> ?_⟩;have h2:=h.2;rw [hm] at h2;simp only [hc] at h2;exact ⟨h2,h.1⟩
   ·simp at hr
theorem Rs (s:aei) (w:World) (o:Option Nat) (c:Nat) (hr:kW s=.error (o,c)) (hc:c≠0) (hg:Laid w):
  Calls Tryz.prog 50 #[.string s] w fun e w'=>e=.returned (.tuple #[.pointer none,.int .i64 c])∧Below w.heap.size w w':=by
 have hl:=hg.lt;have B0:=af ((Below.refl w.heap.size w).alloc aeg (.cells #[.slice none 0 0,.slice none 0 0,.slice none 0 0] 117));have C:=af (Cg w.heap.size s _ o c hr hc (hg.below (ae B0) hl));have hc':((c:Int)==0)=false:=by rw [beq_eq_false_iff_ne];omega
 have hc2:((c:Int) != 0)=true:=bne_iff_ne.2 (by omega);clear hr hg;go_enter Tryz.func50,Tryz.ntmps50;go_wp2_with fail;refine (ae C).mono ?_;rintro e w2 ⟨rfl,hb2⟩;have B2:=af ((ae B0).trans (hb2.mono (ae B0).size));clear hb2 C;go_wp2;go_ret2;exact ⟨rfl,ae B2⟩
def YP (LX:List Ty→Value→World→Prop) (ts:List Ty) (w:World) (e:Ending) (w':World):Prop:=∃mv lv bm tl b,e=.returned (.tuple #[.pointer (some ⟨b,0,none⟩),.int .i64 0])∧PU w' b mv lv (.slice none 0 0) []∧MC bm w' mv ts tl∧LX ts lv w'∧Below w.heap.size w w'∧w.heap.size≤b
theorem Vk (LX:List Ty→Value→World→Prop) (hO:OfC LX) (hLX:Yr LX) (s:aei) (w:World) (ts:List Ty) (hr:kW s=.ok ts) (hg:Laid w):
  Calls Tryz.prog 50 #[.string s] w (YP LX ts w):=by
 have hl:=hg.lt;have B0:=af ((Below.refl w.heap.size w).alloc aeg (.cells #[.slice none 0 0,.slice none 0 0,.slice none 0 0] 117));have C:=af (Gg LX hO hLX w.heap.size s _ _ _ _ (ai.new w #[.slice none 0 0,.slice none 0 0,.slice none 0 0] 117) ts hr (hg.below (ae B0) hl));clear hr hg hO hLX;go_enter Tryz.func50,Tryz.ntmps50;go_wp2_with fail;refine (ae C).mono ?_;rintro e w2 ⟨mv,lv,bm,tl,rfl,hu,hm,hx,hb⟩;have HU:=af hu;have HM:=af hm;have HX:=af hx;have HB:=af hb;clear hu hm hx hb C;go_wp2;go_ret2;exact ⟨mv,lv,bm,tl,w.heap.size,rfl,ae HU,ae HM,ae HX,(ae B0).trans ((ae HB).below (ae B0).size (fun g e=>by omega)),Nat.le_refl _⟩
def Hu (a b:aei):Bool:=Op.bytesLess a.toList b.toList
def lQ (l:List aei) (x:aei):List aei:=l.takeWhile (Hu · x)++x::l.dropWhile (Hu · x)
def mM (l:List aei):List aei:=l.foldl lQ []
def fP (l:List aei):List Value:=l.map .string
theorem Rt (l:List aei) (x:aei):(lQ l x).length=l.length+1:=by
 have:=congrArg List.length (List.takeWhile_append_dropWhile (p:=(Hu · x)) (l:=l));rw [List.length_append] at this;unfold lQ;rw [List.length_append,List.length_cons];omega
theorem A9 (l:List aei):∀a,(l.foldl lQ a).length=a.length+l.length:=by
 induction l with
 |nil=>intro a;rfl
 |cons x l ih=>intro a;rw [List.foldl_cons,ih,Rt,List.length_cons];omega
theorem wE (l:List aei):(mM l).length=l.length:=by rw [mM,A9];simp
theorem Kz {l:List aei} {k:Nat} (h:k<l.length):mM (l.take (k+1))=lQ (mM (l.take k)) l[k]:=by
 rw [List.take_succ_eq_append_getElem h,mM,List.foldl_append];rfl
theorem LP {O:List aei} {x:aei} {a:Nat} (ha:a≤O.length) (h1:∀j,(h:j<a)→(h':j<O.length)→Hu O[j] x=true) (h2:(h:a<O.length)→Hu O[a] x=false):lQ O x=O.take a++x::O.drop a:=by
 have e:=gP (Hu · x) O a h1 ha h2;unfold lQ;rw [iD,dropWhile_drop,e]
def Ah (P:Program) (size:Nat) (t:TypeId) (xv:Value) (m:Nat) (news:List Value) (w:World):Prop:=(0<m→∃ad c,xv=.slice (some ad) m c∧news.length=m*size∧∀j u,news[j]? =some u→w.cell? (ad.add j)=some u)∧(m=0→news=[]∧Src P size t xv 0 [] w)
theorem dD {P:Program} {w:World} {ops:Array Oper} {rest:List Oper} {o:Oper} {a:Act} {Q:Exit→Act→World→Prop} (hgd:o.guard=none) (s x:Operand) (t:TypeId)
  (ho:o.op=.call {callee:=.builtin .append,args:=#[s,x],argTypes:=#[t,t]})
  (base:Nat) (e:TypeId) (i:TypeInfo) (z:Value) (size bytes:Nat) (ht:P.underlying t=some (.slice e)) (hi:P.info? e=some i) (hz:i.zero=some z)
  (hsize:i.size=size) (hby:i.bytes=bytes) (hzs:z.cells.size=size) (hsz:0<size)
  (v:Value) (n:Nat) (xs:List Value) (hs:a.eval s=v) (hown:w.ownsRow base e size v n xs)
  (xv:Value) (m:Nat) (news:List Value) (hx:a.eval x=xv) (hnews:Ah P size t xv m news w) (h1:∀u∈news,u.oneCell'=true)
  (h63:n+m≤maxLen) (hbytes:(n+m)*bytes≤140737488355328) (hbase:base≤w.heap.size)
  (h:∀av cv w',w'.ownsRow base e size (.slice av (n+m) cv) (n+m) (xs++news)→w.grownBy w' v.ownBlock→wpList P ops Q rest (a.put o.dst (.slice av (n+m) cv)) w'):wpList P ops Q (o::rest) a w:=by
 by_cases hm:0<m
 ·obtain ⟨ad,c,rfl,hl,hn⟩:=hnews.1 hm;exact wpList_append_lies w hgd s x t ho base e i z size bytes ht hi hz hsize hby hzs hsz v n xs hs hown ad m c news hx hl hn h1 hm h63 hbytes hbase _ rfl (fun g5 cap w' h2 h3 h4 h5=>h _ cap w' h2 h3)
 ·obtain rfl:m=0:=by omega
  obtain ⟨rfl,hsrc⟩:=hnews.2 rfl;obtain ⟨av,cv,rfl⟩:=au hown;refine wpList_plain hgd fun K hK=> ?_
  have hrun:=run_append_nothing (P:=P) w t t o.type e i ht hi av n cv (ng hown) xv (by rw [hsize];exact hsrc);unfold Oper.wp execOp;simp only [ho,resolve,invoke,builtin,Sem.run_bind,Sem.run_pure,Result.andThen_ok,List.map_toArray,List.map_cons,List.map_nil,hs,hx,hrun];exact hK _ _ (h av cv w (by simpa using hown) ⟨rfl,rfl,rfl,Nat.le_refl _,fun _ _ _=>rfl⟩)
theorem CJ {w:World} {base g k oc a:Nat} {O:List aei} (h:w.ownsRow base 9 1 (.slice (some ⟨g,0,none⟩) k oc) k (fP O)) (ha:a≤k):Ah Tryz.prog 1 22 (.slice (some ⟨g,0,none⟩) a oc) a (fP (O.take a)) w:=by
 have hlen:O.length=k:=by have:=h.1;simpa [fP] using this
 refine ⟨fun hm=>⟨⟨g,0,none⟩,oc,rfl,by simp [fP];omega,fun j u hj=> ?_⟩,fun hm=>⟨by subst hm;rfl,?_⟩⟩
 ·have OE:(fP O)[j]? =some u:=by
   simp only [fP,List.map_take,List.getElem?_take] at hj
   split at hj
   ·exact hj
   ·simp at hj
  obtain ⟨g',c',e1,h'⟩:=aK h j u OE;simp only [Value.slice.injEq,Option.some.injEq,Addr.mk.injEq] at e1;obtain ⟨⟨rfl,_⟩,_⟩:=e1;rw [Addr.add_lit,Nat.zero_add];exact h'
 ·subst hm;exact Src.ofSlice w Tryz.underlying22 _ _ _ _ (by simp) (fun j u hj=>by simp at hj) (fun u hu=>by simp at hu)
theorem CO {w:World} {base g k oc a:Nat} {O:List aei} {xa:Option Addr} (h:w.ownsRow base 9 1 (.slice (some ⟨g,0,none⟩) k oc) k (fP O)) (ha:a≤k) (hx:xa=if oc=a then some ⟨g,0,none⟩ else some ⟨g,a,none⟩):Ah Tryz.prog 1 22 (.slice xa (k-a) (oc-a)) (k-a) (fP (O.drop a)) w:=by
 have hlen:O.length=k:=by have:=h.1;simpa [fP] using this
 have hcap:=ng h;refine ⟨fun hm=>⟨⟨g,a,none⟩,oc-a,?_,by simp [fP];omega,fun j u hj=> ?_⟩,fun hm=>⟨?_,?_⟩⟩
 ·rw [hx,if_neg (by omega)]
 ·have OE:(fP O)[a+j]? =some u:=by
   simpa only [fP,List.map_drop,List.getElem?_drop] using hj
  obtain ⟨g',c',e1,h'⟩:=aK h (a+j) u OE;simp only [Value.slice.injEq,Option.some.injEq,Addr.mk.injEq] at e1;obtain ⟨⟨rfl,_⟩,_⟩:=e1;rw [Addr.add_lit];exact h'
 ·rw [List.drop_of_length_le (by omega)];rfl
 ·rw [hm];obtain ⟨ad,rfl⟩:∃ad,xa=some ad:=by
   rw [hx]
   split
   ·exact ⟨_,rfl⟩
   ·exact ⟨_,rfl⟩
  exact Src.ofSlice w Tryz.underlying22 _ _ _ _ (by simp) (fun j u hj=>by simp at hj) (fun u hu=>by simp at hu)
theorem cellAt {w:World} {base g n m c k:Nat} {l:List aei} {x:aei} (h:w.ownsRow base 9 1 (.slice (some ⟨g,0,none⟩) n c) m (fP l)) (hX:(fP l)[k]? =some (.string x)):w.cell? ⟨g,k,none⟩=some (.string x):=by
 obtain ⟨g',c',e1,h'⟩:=aK h k (.string x) hX;simp only [Value.slice.injEq,Option.some.injEq,Addr.mk.injEq] at e1;obtain ⟨⟨rfl,_⟩,_⟩:=e1;exact h'
theorem xY {w:World} {B B' size n:Nat} {e:TypeId} {v:Value} {xs:List Value} (h:w.ownsRow B' e size v n xs) (hB:B≤B'):w.ownsRow B e size v n xs:=by
 rcases h with ⟨h0,h|⟨g,cap,cur,e1,hg,h⟩⟩
 ·exact ⟨h0,.inl h⟩
 ·exact ⟨h0,.inr ⟨g,cap,cur,e1,Nat.le_trans hB hg,h⟩⟩
theorem KE {w:World} {base k oc a:Nat} {O:List aei} (h:w.ownsRow base 9 1 (.slice none k oc) k (fP O)) (ha:a≤k):Ah Tryz.prog 1 22 (.slice none a oc) a (fP (O.take a)) w:=by
 obtain rfl:k=0:=by
  rcases h.2 with ⟨_,h⟩|⟨g,cap,cur,e1,_⟩
  ·exact h
  ·simp at e1
 obtain rfl:a=0:=by omega
 exact ⟨fun h=>by omega,fun _=>⟨rfl,Src.ofNil w Tryz.underlying22 _⟩⟩
theorem KF {w:World} {base k oc a:Nat} {O:List aei} (h:w.ownsRow base 9 1 (.slice none k oc) k (fP O)) (ha:a≤k):Ah Tryz.prog 1 22 (.slice none (k-a) (oc-a)) (k-a) (fP (O.drop a)) w:=by
 obtain rfl:k=0:=by
  rcases h.2 with ⟨_,h⟩|⟨g,cap,cur,e1,_⟩
  ·exact h
  ·simp at e1
 obtain rfl:a=0:=by omega
 have hO:O=[]:=by have:=h.1;simpa [fP] using this
 subst hO;exact ⟨fun h=>by omega,fun _=>⟨rfl,Src.ofNil w Tryz.underlying22 _⟩⟩
theorem YQ {w:World} {base k oc:Nat} {ad:Addr} {n:Nat} {xs:List Value} (h:w.ownsRow base 9 1 (.slice (some ad) k oc) n xs):∃g,ad=⟨g,0,none⟩:=by
 rcases h.2 with ⟨e,h⟩|⟨g,cap,cur,e1,_⟩
 ·simp at e
 ·simp only [Value.slice.injEq,Option.some.injEq] at e1;exact ⟨g,e1.1⟩
theorem rJ (l:List aei):∀u∈fP l,u.oneCell'=true:=by
 intro u hu;simp only [fP,List.mem_map] at hu;obtain ⟨x,_,rfl⟩:=hu
 rfl
theorem Tryz.infoStr:(Tryz.prog.info? 9).map (fun i=>(i.zero,i.size,i.bytes))=some (some (.string ⟨#[]⟩),1,16):=by kernel_rfl
theorem KG (base:Nat) (v:Value) (l:List aei) (w:World) (h:w.ownsRow base 9 1 v l.length (fP l)) (hl:l.length≤100000):
  Calls Tryz.prog 139 #[v] w fun e w'=>∃v',e=.returned v'∧Below w.heap.size w w'∧w'.ownsRow w.heap.size 9 1 v' l.length (fP (mM l)):=by
 obtain ⟨va,vc,rfl⟩:=au h;have H:=af h;obtain ⟨i0,hi0,hz0,hz1,hz2⟩:=info_parts Tryz.infoStr;have HI:=af hi0;have fG:=af hz0;have fH:=af hz1;have fI:=af hz2;clear h hi0 hz0 hz1 hz2;go_enter Tryz.func139,Tryz.ntmps139;go_wp2_with fail
 go_loopw [3,4] (fun vo vi wr=>∃k:Nat,k≤l.length∧vi=.int .i64 k∧Below w.heap.size w wr∧wr.ownsRow w.heap.size 9 1 vo k (fP (mM (l.take k)))) (fun _ vi _=>l.length-(intOf vi).toNat)
 case atStart=>exact ⟨0,by omega,rfl,Below.refl _ _,World.ownsRow_nil _ _ _ _⟩
 case round=>
  obtain ⟨k,hk,rfl,hb,hrow⟩:=hrel;obtain ⟨oa,oc,rfl⟩:=au hrow;obtain ⟨W0,rfl⟩:∃W0,W0=wr:=⟨_,rfl⟩;have HB:=af hb;have HR:=af hrow;have hwr:=hb.size
  by_cases hlt:k<l.length
  ·have hkn:(k:Int)<(l.length:Int):=by omega
   have hst:=Kz hlt;have hOl:(mM (l.take k)).length=k:=by rw [wE,List.length_take];omega
   have hrv:=ay (ae H) hb;have hX:(fP l)[k]? =some (.string l[k]):=by simp [fP,hlt]
   have HX:=af hX;obtain ⟨g,c,e1,hc⟩:=aK hrv k (.string l[k]) hX;simp only [Value.slice.injEq,true_and] at e1;obtain ⟨rfl,rfl⟩:=e1;generalize l[k]=x at*;generalize mM (l.take k)=O at*;have HST:=af hst;have HOL:=af hOl;clear hb hrow hst hrv hc hOl hX;go_wp2_with fail
   go_loopw [5] (fun vt wt=>∃a:Nat,a≤k∧vt=.int .i64 a∧Below W0.heap.size W0 wt∧Hid (∀j,(h:j<a)→(h':j<O.length)→Hu O[j] x=true)) (fun vt _=>k-(intOf vt).toNat)
   case atStart=>exact ⟨0,by omega,rfl,Below.refl _ _,af (fun j h=>by omega)⟩
   case round=>
    obtain ⟨a,ha,rfl,xD,HA⟩:=hrel;have Oe:=ay (ae HR) xD;have Yl:wr.cell? ⟨g,k,none⟩=some (.string x):=by
     obtain ⟨g',c',e1,h'⟩:=aK (ay (ay (ae H) (ae HB)) xD) k (.string x) (ae HX);simp only [Value.slice.injEq,Option.some.injEq,Addr.mk.injEq] at e1;obtain ⟨⟨rfl,_⟩,_⟩:=e1;exact h'
    have Uw:=af xD;have hOl:=ae HOL;have hkm:k≤100000:=by omega
    by_cases hak:a<k
    ·have zw:(a:Int)<(k:Int):=by omega
     obtain ⟨g2,c2,e1,hc2⟩:=aK Oe a (.string (O[a]'(by omega))) (by simp [fP,hOl,hak]);simp only [Value.slice.injEq,true_and] at e1;obtain ⟨rfl,rfl⟩:=e1
     by_cases hq:Hu (O[a]'(by omega)) x=true
     ·have HA2:=af (show ∀j,(h:j<a+1)→(h':j<O.length)→Hu O[j] x=true from fun j h h'=>by
       by_cases e:j=a
       ·subst e;exact hq
       ·exact ae HA j (by omega) h')
      generalize (O[a]'(by omega))=y at*;unfold Hu at hq;clear Oe HA xD;go_wp2_with fail
      go_region
      go_wp2_with fail;exact ⟨⟨a+1,by omega,by go_num,(ae Uw).drew,HA2⟩,by simp [intOf];omega⟩
     ·have lJ:Hu (O[a]'(by omega)) x=false:=by simpa using hq
      have ED:=af (show lQ O x=O.take a++x::O.drop a from LP (by omega) (ae HA) (fun h=>lJ));generalize (O[a]'(by omega))=y at*;unfold Hu at lJ;have hoc:¬oc=a:=by have:=ng Oe;omega
      clear hq;have hco:k≤oc:=ng Oe;have HOT:=af Oe;have s1:a≤oc:=by omega
      have s2:a≤k:=by omega
      clear Oe HA xD;go_wp2_with fail
      go_region
      have HD:=af ((ae Uw).drew);have Ai:=af (bK (ae HOT));have Wm:=af (CJ (ae Ai) (show a≤k by omega));generalize wr.drew=wd at*;have hsd:=(ae HD).size;go_wp2_with (at_builtin;go_must (refine dD rfl _ _ 22 rfl wd.heap.size 9 i0 _ 1 16 Tryz.underlying22 (ae HI) (ae fG) (ae fH) (ae fI) rfl (by decide) (.slice none 0 0) 0 [] rfl (World.ownsRow_nil _ _ _ _) (.slice (some ⟨g2,0,none⟩) a oc) a (fP (O.take a)) rfl (ae Wm) (rJ _) ?oC ?dX aeg ?kw))
      case oC=>unfold maxLen;omega
      case dX=>omega
      case kw=>
       intro av1 cv1 w1 hown1 hgrow1;have B1:=af (Below.grown (Below.refl wd.heap.size wd) hgrow1 aeg (fun k hk=>by simp [Value.ownBlock] at hk));have H5:=ay (ae Ai) (ae B1);have Ru:=cellAt (ay (ay (ay (ae H) (ae HB)) (ae HD)) (ae B1)) (ae HX);have HO1:=af H5;have M1:=af hown1;have hs1:=(ae B1).size;clear H5 hown1 hgrow1 Yl Wm;go_wp2_with (at_builtin;go_must (refine wpList_append_lies _ rfl _ _ 22 rfl wd.heap.size 9 i0 _ 1 16 Tryz.underlying22 (ae HI) (ae fG) (ae fH) (ae fI) rfl (by decide) (.slice av1 a cv1) a (fP (O.take a)) rfl ?pX ⟨w1.heap.size,0,none⟩ 1 1 [.string x] rfl rfl ?ky ?nU (by decide) ?vP ?iO ?kD (w1.heap.size+1) ?Mv ?nz))
       case pX=>exact (ae M1).alloc _
       case ky=>exact World.news_of_block (B:=w1.heap.size) (cs:=#[.string x]) (t:=9) (fr:=(0,0)) (ai.new _ _ _)
       case nU=>
        intro u hu;simp at hu;subst hu
        rfl
       case vP=>unfold maxLen;omega
       case iO=>omega
       case kD=>simp;omega
       case Mv=>simp
       case nz=>
        intro g2' cv2 w2 hown2 hgrow2 _ _;have fU:=(ae M1).alloc (.cells #[.string x] 9);have B2:=af (Below.grown ((ae B1).alloc (ae B1).size (.cells #[.string x] 9)) hgrow2 (by simp;omega) (fun k hk=>(fU.lt k hk).1));have Ia:=ay (ae Ai) (ae B2);have M2:=af hown2;have Rv:=af (CO Ia (show a≤k by omega) (if_neg hoc).symm);have hs2:=(ae B2).size;clear Ia hown2 hgrow2 fU Ru;go_wp2_with (at_builtin;go_must (refine dD rfl _ _ 22 rfl wd.heap.size 9 i0 _ 1 16 Tryz.underlying22 (ae HI) (ae fG) (ae fH) (ae fI) rfl (by decide) (.slice (some ⟨g2',0,none⟩) (a+1) cv2) (a+1) (fP (O.take a)++[.string x]) rfl (ae M2) (.slice (some ⟨g2,a,none⟩) (k-a) (oc-a)) (k-a) (fP (O.drop a)) rfl (ae Rv) (rJ _) ?vQ ?iP hs2 ?nA))
        case vQ=>unfold maxLen;omega
        case iP=>omega
        case nA=>
         intro av3 cv3 w3 jC dz;have M3:=af (show w3.ownsRow w.heap.size 9 1 (.slice av3 (a+1+(k-a)) cv3) (k+1) (fP (lQ O x)) from by
          have e:fP (lQ O x)=fP (O.take a)++ .string x::fP (O.drop a):=by rw [ae ED];simp [fP]
          rw [e,show k+1=a+1+(k-a) by omega];exact xY jC (by have:=(ae HB).size;have:=(ae HD).size;omega))
         have B3:=af ((ae HB).trans ((Below.trans (ae HD) ((Below.grown (ae B2) dz hs2 (fun k hk=>((ae M2).lt k hk).1)).mono hsd)).mono (ae HB).size));clear jC dz;go_wp2;go_roundw
         case rel=>exact ⟨k+1,by omega,by go_num,ae B3,by rw [ae HST];exact ae M3⟩
         case measure=>simp [intOf];omega
    ·have zw:¬((a:Int)<(k:Int)):=by omega
     have ED:=af (show lQ O x=O.take a++x::O.drop a from LP (by omega) (ae HA) (fun h=>absurd h (by omega)))
     cases oa with
     |none=>
      have hco:k≤oc:=ng Oe;have HOT:=af Oe;have s1:a≤oc:=by omega
      have s2:a≤k:=by omega
      clear Oe HA xD;go_wp2_with fail
      go_region
      have HD:=af ((ae Uw).drew);have Ai:=af (bK (ae HOT));have Wm:=af (KE (ae Ai) (show a≤k by omega));generalize wr.drew=wd at*;have hsd:=(ae HD).size;go_wp2_with (at_builtin;go_must (refine dD rfl _ _ 22 rfl wd.heap.size 9 i0 _ 1 16 Tryz.underlying22 (ae HI) (ae fG) (ae fH) (ae fI) rfl (by decide) (.slice none 0 0) 0 [] rfl (World.ownsRow_nil _ _ _ _) (.slice none a oc) a (fP (O.take a)) rfl (ae Wm) (rJ _) ?oC ?dX aeg ?kw))
      case oC=>unfold maxLen;omega
      case dX=>omega
      case kw=>
       intro av1 cv1 w1 hown1 hgrow1;have B1:=af (Below.grown (Below.refl wd.heap.size wd) hgrow1 aeg (fun k hk=>by simp [Value.ownBlock] at hk));have H5:=ay (ae Ai) (ae B1);have Ru:=cellAt (ay (ay (ay (ae H) (ae HB)) (ae HD)) (ae B1)) (ae HX);have HO1:=af H5;have M1:=af hown1;have hs1:=(ae B1).size;clear H5 hown1 hgrow1 Yl Wm;go_wp2_with (at_builtin;go_must (refine wpList_append_lies _ rfl _ _ 22 rfl wd.heap.size 9 i0 _ 1 16 Tryz.underlying22 (ae HI) (ae fG) (ae fH) (ae fI) rfl (by decide) (.slice av1 a cv1) a (fP (O.take a)) rfl ?pX ⟨w1.heap.size,0,none⟩ 1 1 [.string x] rfl rfl ?ky ?nU (by decide) ?vP ?iO ?kD (w1.heap.size+1) ?Mv ?nz))
       case pX=>exact (ae M1).alloc _
       case ky=>exact World.news_of_block (B:=w1.heap.size) (cs:=#[.string x]) (t:=9) (fr:=(0,0)) (ai.new _ _ _)
       case nU=>
        intro u hu;simp at hu;subst hu
        rfl
       case vP=>unfold maxLen;omega
       case iO=>omega
       case kD=>simp;omega
       case Mv=>simp
       case nz=>
        intro g2' cv2 w2 hown2 hgrow2 _ _;have fU:=(ae M1).alloc (.cells #[.string x] 9);have B2:=af (Below.grown ((ae B1).alloc (ae B1).size (.cells #[.string x] 9)) hgrow2 (by simp;omega) (fun k hk=>(fU.lt k hk).1));have Ia:=ay (ae Ai) (ae B2);have M2:=af hown2;have Rv:=af (KF Ia (show a≤k by omega));have hs2:=(ae B2).size;clear Ia hown2 hgrow2 fU Ru;go_wp2_with (at_builtin;go_must (refine dD rfl _ _ 22 rfl wd.heap.size 9 i0 _ 1 16 Tryz.underlying22 (ae HI) (ae fG) (ae fH) (ae fI) rfl (by decide) (.slice (some ⟨g2',0,none⟩) (a+1) cv2) (a+1) (fP (O.take a)++[.string x]) rfl (ae M2) (.slice none (k-a) (oc-a)) (k-a) (fP (O.drop a)) rfl (ae Rv) (rJ _) ?vQ ?iP hs2 ?nA))
        case vQ=>unfold maxLen;omega
        case iP=>omega
        case nA=>
         intro av3 cv3 w3 jC dz;have M3:=af (show w3.ownsRow w.heap.size 9 1 (.slice av3 (a+1+(k-a)) cv3) (k+1) (fP (lQ O x)) from by
          have e:fP (lQ O x)=fP (O.take a)++ .string x::fP (O.drop a):=by rw [ae ED];simp [fP]
          rw [e,show k+1=a+1+(k-a) by omega];exact xY jC (by have:=(ae HB).size;have:=(ae HD).size;omega))
         have B3:=af ((ae HB).trans ((Below.trans (ae HD) ((Below.grown (ae B2) dz hs2 (fun k hk=>((ae M2).lt k hk).1)).mono hsd)).mono (ae HB).size));clear jC dz;go_wp2;go_roundw
         case rel=>exact ⟨k+1,by omega,by go_num,ae B3,by rw [ae HST];exact ae M3⟩
         case measure=>simp [intOf];omega
     |some ad=>
      obtain ⟨g2,rfl⟩:=YQ Oe;obtain ⟨A,hA⟩:∃A:Addr,(if oc=a then some (⟨g2,0,none⟩:Addr) else some ⟨g2,a,none⟩)=some A:=by
       split
       ·exact ⟨_,rfl⟩
       ·exact ⟨_,rfl⟩
      have hco:k≤oc:=ng Oe;have HOT:=af Oe;have s1:a≤oc:=by omega
      have s2:a≤k:=by omega
      clear Oe HA xD;go_wp2_with fail
      go_region
      have HD:=af ((ae Uw).drew);have Ai:=af (bK (ae HOT));have Wm:=af (CJ (ae Ai) (show a≤k by omega));generalize wr.drew=wd at*;have hsd:=(ae HD).size;go_wp2_with (at_builtin;go_must (refine dD rfl _ _ 22 rfl wd.heap.size 9 i0 _ 1 16 Tryz.underlying22 (ae HI) (ae fG) (ae fH) (ae fI) rfl (by decide) (.slice none 0 0) 0 [] rfl (World.ownsRow_nil _ _ _ _) (.slice (some ⟨g2,0,none⟩) a oc) a (fP (O.take a)) rfl (ae Wm) (rJ _) ?oC ?dX aeg ?kw))
      case oC=>unfold maxLen;omega
      case dX=>omega
      case kw=>
       intro av1 cv1 w1 hown1 hgrow1;have B1:=af (Below.grown (Below.refl wd.heap.size wd) hgrow1 aeg (fun k hk=>by simp [Value.ownBlock] at hk));have H5:=ay (ae Ai) (ae B1);have Ru:=cellAt (ay (ay (ay (ae H) (ae HB)) (ae HD)) (ae B1)) (ae HX);have HO1:=af H5;have M1:=af hown1;have hs1:=(ae B1).size;clear H5 hown1 hgrow1 Yl Wm;go_wp2_with (at_builtin;go_must (refine wpList_append_lies _ rfl _ _ 22 rfl wd.heap.size 9 i0 _ 1 16 Tryz.underlying22 (ae HI) (ae fG) (ae fH) (ae fI) rfl (by decide) (.slice av1 a cv1) a (fP (O.take a)) rfl ?pX ⟨w1.heap.size,0,none⟩ 1 1 [.string x] rfl rfl ?ky ?nU (by decide) ?vP ?iO ?kD (w1.heap.size+1) ?Mv ?nz))
       case pX=>exact (ae M1).alloc _
       case ky=>exact World.news_of_block (B:=w1.heap.size) (cs:=#[.string x]) (t:=9) (fr:=(0,0)) (ai.new _ _ _)
       case nU=>
        intro u hu;simp at hu;subst hu
        rfl
       case vP=>unfold maxLen;omega
       case iO=>omega
       case kD=>simp;omega
       case Mv=>simp
       case nz=>
        intro g2' cv2 w2 hown2 hgrow2 _ _;have fU:=(ae M1).alloc (.cells #[.string x] 9);have B2:=af (Below.grown ((ae B1).alloc (ae B1).size (.cells #[.string x] 9)) hgrow2 (by simp;omega) (fun k hk=>(fU.lt k hk).1));have Ia:=ay (ae Ai) (ae B2);have M2:=af hown2;have Rv:=af (CO Ia (show a≤k by omega) hA.symm);have hs2:=(ae B2).size;clear Ia hown2 hgrow2 fU Ru;go_wp2_with (at_builtin;go_must (refine dD rfl _ _ 22 rfl wd.heap.size 9 i0 _ 1 16 Tryz.underlying22 (ae HI) (ae fG) (ae fH) (ae fI) rfl (by decide) (.slice (some ⟨g2',0,none⟩) (a+1) cv2) (a+1) (fP (O.take a)++[.string x]) rfl (ae M2) (.slice (some A) (k-a) (oc-a)) (k-a) (fP (O.drop a)) rfl (ae Rv) (rJ _) ?vQ ?iP hs2 ?nA))
        case vQ=>unfold maxLen;omega
        case iP=>omega
        case nA=>
         intro av3 cv3 w3 jC dz;have M3:=af (show w3.ownsRow w.heap.size 9 1 (.slice av3 (a+1+(k-a)) cv3) (k+1) (fP (lQ O x)) from by
          have e:fP (lQ O x)=fP (O.take a)++ .string x::fP (O.drop a):=by rw [ae ED];simp [fP]
          rw [e,show k+1=a+1+(k-a) by omega];exact xY jC (by have:=(ae HB).size;have:=(ae HD).size;omega))
         have B3:=af ((ae HB).trans ((Below.trans (ae HD) ((Below.grown (ae B2) dz hs2 (fun k hk=>((ae M2).lt k hk).1)).mono hsd)).mono (ae HB).size));clear jC dz;go_wp2;go_roundw
         case rel=>exact ⟨k+1,by omega,by go_num,ae B3,by rw [ae HST];exact ae M3⟩
         case measure=>simp [intOf];omega
  ·have hkn:¬((k:Int)<(l.length:Int)):=by omega
   have hke:k=l.length:=by omega
   have HF:=af (show W0.ownsRow w.heap.size 9 1 (.slice oa k oc) l.length (fP (mM l)) from by
    have:=hrow;rw [List.take_of_length_le (by omega)] at this;rw [←hke];exact this)
   clear hb hrow hke;go_wp2;go_ret;exact ⟨_,rfl,ae HB,ae HF⟩
def Rw (l:List aei) (w:World) (e:Ending) (w':World):Prop:=∃v,e=.returned v∧Below w.heap.size w w'∧w'.ownsRow w.heap.size 9 1 v l.length (fP l)
theorem Ib (b:Nat) (w:World) (mp tv:Value) (ss:List aei) (h:DU w b mp tv ss):
  Calls Tryz.prog 87 #[.pointer (some ⟨b,0,none⟩)] w (Rw (mM ss) w):=by
 have H:=af h;obtain ⟨ta,tc,rfl⟩:=au h.row;have zf:=h.most;have hbl:=h.blk.lt;obtain ⟨i0,hi0,hz0,hz1,hz2⟩:=info_parts Tryz.infoStr;have HI:=af hi0;have fG:=af hz0;have fH:=af hz1;have fI:=af hz2;clear h hi0 hz0 hz1 hz2;go_enter Tryz.func87,Tryz.ntmps87;go_wp2_with fail
 go_loopw [3,4] (fun vl vi wr=>∃k:Nat,k≤ss.length∧vi=.int .i64 k∧Below w.heap.size w wr∧wr.ownsRow w.heap.size 9 1 vl k (fP (ss.take k))) (fun _ vi _=>ss.length-(intOf vi).toNat)
 case atStart=>exact ⟨0,by omega,rfl,Below.refl _ _,World.ownsRow_nil _ _ _ _⟩
 case round=>
  obtain ⟨k,hk,rfl,hb,hrow⟩:=hrel;obtain ⟨la,lc,rfl⟩:=au hrow;have HB:=af hb;have HR:=af hrow;have hwr:=hb.size;have hd:=(ae H).below hb;obtain ⟨c0,c1⟩:=iH hd.blk
  by_cases hlt:k<ss.length
  ·have hkn:(k:Int)<(ss.length:Int):=by omega
   obtain ⟨g,c,e1,hc⟩:=bP Lu 7 (fun _=>rfl) hd.row k ss[k] (aeh hlt);simp only [Value.slice.injEq,true_and] at e1;obtain ⟨rfl,rfl⟩:=e1;have xG:=af (show fP (ss.take (k+1))=fP (ss.take k)++[.string ss[k]] from by rw [List.take_succ_eq_append_getElem hlt,fP,List.map_append];rfl);generalize ss[k]=y at*;have k6:=hc 6 _ (by omega) rfl;have k0:=hc 0 _ (by omega) rfl;clear hb hrow hd hc;go_wp2_with (at_builtin;go_must (refine wpList_append_lies _ rfl _ _ 22 rfl w.heap.size 9 i0 _ 1 16 Tryz.underlying22 (ae HI) (ae fG) (ae fH) (ae fI) rfl (by decide) (.slice la k lc) k (fP (ss.take k)) rfl ?hown ⟨wr.heap.size,0,none⟩ 1 1 [.string y] rfl rfl ?hnews ?hone (by decide) ?h63 ?hbytes ?hbase (wr.heap.size+1) ?hH ?hrest))
   case hown=>exact (ae HR).alloc _
   case hnews=>exact World.news_of_block (B:=wr.heap.size) (cs:=#[.string y]) (t:=9) (fr:=(0,0)) (ai.new _ _ _)
   case hone=>
    intro u hu;simp at hu;subst hu
    rfl
   case h63=>unfold maxLen;omega
   case hbytes=>omega
   case hbase=>simp;omega
   case hH=>simp
   case hrest=>
    intro g5 aD w5 aC aj aP di;have fU:=(ae HR).alloc (.cells #[.string y] 9);have B5:=af (Below.grown ((ae HB).alloc (ae HB).size (.cells #[.string y] 9)) aj (by simp;omega) (fun k hk=>(fU.lt k hk).1));have O5:=af aC;clear fU aC aj aP;go_wp2;go_roundw
    case rel=>exact ⟨k+1,by omega,by go_num,ae B5,by rw [ae xG];exact ae O5⟩
    case measure=>simp [intOf];omega
  ·have hkn:¬((k:Int)<(ss.length:Int)):=by omega
   have hL:(ss.take k)=ss:=List.take_of_length_le (by omega);rw [hL] at hrow;have hkl:k=ss.length:=by omega
   have C:=af (KG w.heap.size (.slice la k lc) ss wr (by rw [←hkl];exact hrow) (by omega));clear hb hrow hd hL hkl;go_wp2_with fail;refine (ae C).mono ?_;rintro e w9 ⟨v9,rfl,qX,hr9⟩;have B9:=af ((ae HB).trans (qX.mono hwr));have R9:=af (xY hr9 hwr);clear qX hr9 C;go_wp2;go_ret;exact ⟨_,rfl,ae B9,by rw [wE];exact ae R9⟩
