import Derived.Test.YtlbpnlngckgcbaaGreatDoorM23
set_option linter.all false
set_option maxHeartbeats 4000000
set_option maxRecDepth 100000
namespace Go.Proofs.YtlbpnlngckgcbaaGreatDoor
open Go.RowKit Go.PlainAid
structure gN (ts:List Ty):Prop where
 ty:ts.Pairwise fun t u=>t.name≠u.name
 rl:∀t∈ts,t.rels.Pairwise fun r q=>r.name≠q.name
theorem GD:∀(l:List (aei×Nat)) (ah:List aei),Sc ah l=none→(∀x∈l,x.1∉ah)∧l.Pairwise fun x y=>x.1≠y.1
 | [],ah,_=>⟨by simp,by simp⟩
 |(n,p)::l,ah,h=>by
  rw [Sc] at h
  cases hd:(ah.any fun m=>eqs m n)
  ·rw [hd] at h;simp only [Bool.false_eq_true,if_false] at h;obtain ⟨h1,h2⟩:=GD l _ h;have hn:n∉ah:=fun hm=>by
    rw [List.any_eq_false] at hd;exact hd n hm ((bq _ _).2 rfl)
   refine ⟨fun x hx=> ?_,?_⟩
   ·rcases List.mem_cons.1 hx with rfl|hx
    ·exact hn
    ·exact fun hm=>h1 x hx (by simp [hm])
   ·rw [List.pairwise_cons];exact ⟨fun y hy e=>h1 y hy (by simp at e;simp [e]),h2⟩
  ·rw [hd] at h;simp at h
theorem zK:∀(l:List Ty) (ah:List aei),IP ah l=none→(∀t∈l,t.name∉ah)∧gN l
 | [],ah,_=>⟨by simp,by simp,by simp⟩
 |t::l,ah,h=>by
  rw [IP] at h
  cases hd:(ah.any fun m=>eqs m t.name)
  ·rw [hd] at h;simp only [Bool.false_eq_true,if_false] at h;have hn:t.name∉ah:=fun hm=>by
    rw [List.any_eq_false] at hd;exact hd _ hm ((bq _ _).2 rfl)
   unfold twR at h
   cases hw:Sc [] (t.rels.map fun r=>(r.name,r.place)) with
   |some p=>rw [hw] at h;simp at h
   |none=>
    rw [hw] at h;simp only at h;obtain ⟨h1,h2⟩:=zK l _ h;obtain ⟨_,h4⟩:=GD _ _ hw;rw [List.pairwise_map] at h4;refine ⟨fun x hx=> ?_,?_,?_⟩
    ·rcases List.mem_cons.1 hx with rfl|hx
     ·exact hn
     ·exact fun hm=>h1 x hx (by simp [hm])
    ·rw [List.pairwise_cons];exact ⟨fun y hy e=>h1 y hy (by rw [←e];simp),h2.ty⟩
    ·intro x hx
     rcases List.mem_cons.1 hx with rfl|hx
     ·exact h4
     ·exact h2.rl x hx
  ·rw [hd] at h;simp at h
theorem dC {ts:List Ty} (h:gN ts) {t:Ty} (ht:t∈ts):dn ts t.name=some t:=by
 unfold dn;obtain ⟨A,B,rfl⟩:=List.append_of_mem ht;have hp:=h.ty;rw [List.pairwise_append,List.pairwise_cons] at hp;rw [List.find?_append];have:A.find? (fun u=>eqs u.name t.name)=none:=by
  rw [List.find?_eq_none];intro u hu he;exact hp.2.2 u hu t (by simp) ((bq _ _).1 he)
 rw [this];simp [(bq t.name t.name).2 rfl]
theorem zL {t:Ty} (h:t.rels.Pairwise fun r q=>r.name≠q.name) {r:Rl} (hr:r∈t.rels):cu t r.name=some r:=by
 unfold cu;obtain ⟨A,B,e⟩:=List.append_of_mem hr;rw [e] at h ⊢;rw [List.pairwise_append,List.pairwise_cons] at h;rw [List.find?_append];have:A.find? (fun u=>eqs u.name r.name)=none:=by
  rw [List.find?_eq_none];intro u hu he;exact h.2.2 u hu r (by simp) ((bq _ _).1 he)
 rw [this];simp [(bq r.name r.name).2 rfl]
theorem jI {ts:List Ty} {k:aei} {t:Ty} (h:dn ts k=some t):t∈ts∧t.name=k:=⟨List.mem_of_find?_eq_some h,(bq _ _).1 (List.find?_some (p:=fun t:Ty=>eqs t.name k) h)⟩
theorem iJ {t:Ty} {n:aei} {r:Rl} (h:cu t n=some r):r∈t.rels∧r.name=n:=⟨List.mem_of_find?_eq_some h,(bq _ _).1 (List.find?_some (p:=fun r:Rl=>eqs r.name n) h)⟩
theorem zM {pl:List PV} (k n:aei):∀(rl:List RV) (ps:List (aei×Rl)) (i:Nat),dE pl rl ps→(aQ k n rl i= -1∧∀p∈ps,¬(p.1=k∧p.2.name=n))∨∃j p,aQ k n rl i=((i+j:Nat):Int)∧ps[j]? =some p∧p.1=k∧p.2.name=n
 | [],[],i,_=> .inl ⟨rfl,by simp⟩
 |x::rl,p::ps,i,h=>by
  obtain ⟨⟨h1,h2,_,_⟩,h4⟩:=h;rw [aQ]
  by_cases hx:(eqs x.kd k&&eqs x.nm n)=true
  ·rw [if_pos hx];rw [Bool.and_eq_true,bq,bq] at hx;exact .inr ⟨0,p,by simp,by simp,h1▸hx.1,h2▸hx.2⟩
  ·rw [if_neg hx]
   rcases zM k n rl ps (i+1) h4 with ⟨e,hno⟩|⟨j,q,e,h5,h6⟩
   ·refine .inl ⟨e,fun q hq=> ?_⟩
    rcases List.mem_cons.1 hq with rfl|hq
    ·rintro ⟨e1,e2⟩;exact hx (by rw [Bool.and_eq_true,bq,bq,h1,h2];exact ⟨e1,e2⟩)
    ·exact hno q hq
   ·exact .inr ⟨j+1,q,by rw [e];omega,by simpa using h5,h6⟩
 | [],_::_,_,h=>h.elim
 |_::_,[],_,h=>h.elim
theorem jV {ts:List Ty} {p:aei×Rl}:p∈aR ts↔∃t∈ts,t.name=p.1∧p.2∈t.rels:=by
 unfold aR;rw [List.mem_flatMap]
 constructor
 ·rintro ⟨t,ht,hp⟩;obtain ⟨r,hr,rfl⟩:=List.mem_map.1 hp;exact ⟨t,ht,rfl,hr⟩
 ·rintro ⟨t,ht,e,hr⟩;exact ⟨t,ht,List.mem_map.2 ⟨p.2,hr,by rw [e]⟩⟩
theorem fM {pl:List PV} {rl:List RV} {ts:List Ty} (hd:gN ts) (hf:dE pl rl (aR ts)) (k n:aei):
  (aQ k n rl 0= -1∧∀t,dn ts k=some t→cu t n=none)∨∃(j:Nat) (t:Ty) (r:Rl),aQ k n rl 0=j∧dn ts k=some t∧cu t n=some r∧(aR ts)[j]? =some (k,r):=by
 rcases zM k n rl _ 0 hf with ⟨e,hno⟩|⟨j,p,e,hj,h1,h2⟩
 ·refine .inl ⟨e,fun t ht=> ?_⟩
  cases hr:cu t n with
  |none=>rfl
  |some r=>
   obtain ⟨hm,hk⟩:=jI ht;obtain ⟨hrm,hn⟩:=iJ hr;exact absurd ⟨rfl,hn⟩ (hno (k,r) (jV.2 ⟨t,hm,hk,hrm⟩))
 ·obtain ⟨t,ht,h3,h4⟩:=jV.1 (List.mem_of_getElem? hj);refine .inr ⟨j,t,p.2,by simpa using e,?_,?_,?_⟩
  ·rw [←h1,←h3];exact dC hd ht
  ·rw [←h2];exact zL (hd.rl t ht) h4
  ·rw [hj,←h1]
theorem NP {ts:List Ty} (x:aei):((ts.map fun t=>(t.name,t.place)).any fun k=>eqs k.1 x)=(dn ts x).isSome:=by
 unfold dn;rw [List.any_map,Bool.eq_iff_iff,List.any_eq_true,List.find?_isSome]
 rfl
def mG (g:Gr):Prop:=(g.reach=0∧g.rel=em)∨g.reach=1∨(g.reach=2∧dh g.rel=true)
theorem Eh:dh em=false:=by decide
theorem Cx:dh (sg 42)=false:=by decide
theorem wy {g:Gr} (h:g.reach=2):bB g=g.rel:=by unfold bB;rw [if_neg (by omega)]
theorem GG {pl:List PV} {rl:List RV} {ts:List Ty} (hd:gN ts) (hf:dE pl rl (aR ts)) (g:Gr) (hg:mG g):rO (ts.map fun t=>(t.name,t.place)) rl g=pW ts g:=by
 unfold rO pW;rw [NP]
 cases ht:dn ts g.ty with
 |none=>simp
 |some t=>
  simp only [Option.isSome_some,Bool.true_eq_false,if_false]
  rcases hg with ⟨h1,h2⟩|h1|⟨h1,h2⟩
  ·have e:bB g=em:=by unfold bB;rw [if_neg (by omega),h2]
   rw [e,(bq em em).2 rfl,h1];simp
  ·have e:bB g=sg 42:=by unfold bB;rw [if_pos h1]
   rw [e,(bq (sg 42) (sg 42)).2 rfl,h1];simp
  ·rw [wy h1,h1];have e1:eqs g.rel em=false:=by
    cases e:eqs g.rel em
    ·rfl
    ·rw [(bq _ _).1 e,Eh] at h2;cases h2
   have e2:eqs g.rel (sg 42)=false:=by
    cases e:eqs g.rel (sg 42)
    ·rfl
    ·rw [(bq _ _).1 e,Cx] at h2;cases h2
   rw [e1,e2]
   rcases fM hd hf g.ty g.rel with ⟨e,hno⟩|⟨j,t',r,e,h4,h5,_⟩
   ·rw [e,hno t ht];simp
   ·rw [ht] at h4;simp only [Option.some.injEq] at h4;subst h4;rw [e,h5];have:¬((j:Int)<0):=by omega
    simp [this]
theorem zN {α β:Type} {f g:α→List β}:∀{l:List α},(∀a∈l,f a=g a)→l.flatMap f=l.flatMap g
 | [],_=>rfl
 |a::l,h=>by
  rw [List.flatMap_cons,List.flatMap_cons,h a (by simp),zN (fun b hb=>h b (by simp [hb]))]
theorem Tr.kids {pl:List PV} {f n:Nat} {x:Ex} {p:PV} (h:Tr pl (f+1) n x) (hp:pl[n]? =some p):∀m∈p.ps,∃y,Tr pl f m y:=by
 obtain ⟨p',hp',h⟩:=h;rw [hp] at hp';simp only [Option.some.injEq] at hp';subst hp';intro m hm
 rcases h with ⟨h1,hn,h2⟩|⟨h1,h0,hn,h2⟩|⟨h1,h0,hn,h2⟩|⟨h1,h0,n0,ns,x0,rs,h3,h4,h5,h6,h7,h8⟩|⟨h1,h0,h0',n0,ns,x0,rs,h3,h4,h5,h6,h7,h8⟩
 ·rw [hn.1] at hm;simp at hm
 ·rw [hn.1] at hm;simp at hm
 ·rw [hn.1] at hm;simp at hm
 ·rw [h3] at hm
  rcases List.mem_cons.1 hm with rfl|hm
  ·exact ⟨x0,h4⟩
  ·obtain ⟨y,_,hy⟩:=bQ.mem _ _ h5 m hm;exact ⟨y,hy⟩
 ·rw [h3] at hm
  rcases List.mem_cons.1 hm with rfl|hm
  ·exact ⟨x0,h4⟩
  ·obtain ⟨y,_,hy⟩:=bQ.mem _ _ h5 m hm;exact ⟨y,hy⟩
theorem zO (pl:List PV):∀(f n:Nat) (x:Ex),Tr pl f n x→aA pl (f+1) n=aA pl f n
 |0,_,_,h=>h.elim
 |f+1,n,x,h=>by
  obtain ⟨p,hp,_⟩:=id h;have hk:=h.kids hp;rw [aA,aA,hp];simp only
  split
  ·exact zN (fun m hm=>by obtain ⟨y,hy⟩:=hk m hm;exact zO pl f m y hy)
  ·rfl
theorem mH (pl:List PV) {f F n:Nat} {x:Ex} (h:Tr pl f n x) (hF:f≤F):aA pl F n=aA pl f n:=by
 obtain ⟨d,rfl⟩:=Nat.exists_eq_add_of_le hF;clear hF
 induction d with
 |zero=>rfl
 |succ d ih=>rw [←ih];exact zO pl _ _ _ (Tr.le pl (Nat.le_add_right f d) h)
def dH (pl:List PV) (F:Nat):List RV→List (aei×Rl)→Prop
 | [],[]=>True
 |x::xs,p::ps=>(x.kd=p.1∧x.nm=p.2.name∧x.pl=p.2.place∧Tr pl F x.ex p.2.body)∧dH pl F xs ps
 |_,_=>False
theorem dH.le {pl:List PV} {F G:Nat} (h:F≤G):∀(xs:List RV) (ps:List (aei×Rl)),dH pl F xs ps→dH pl G xs ps
 | [],[],_=>trivial
 |x::xs,p::ps,k=>⟨⟨k.1.1,k.1.2.1,k.1.2.2.1,Tr.le pl h k.1.2.2.2⟩,dH.le h xs ps k.2⟩
 | [],_::_,k=>k.elim
 |_::_,[],k=>k.elim
theorem dE.fuel {pl:List PV}:∀(xs:List RV) (ps:List (aei×Rl)),dE pl xs ps→∃F,dH pl F xs ps
 | [],[],_=>⟨0,trivial⟩
 |x::xs,p::ps,h=>by
  obtain ⟨F,hF⟩:=dE.fuel xs ps h.2;obtain ⟨⟨h1,h2,h3,f,h4⟩,_⟩:=h;exact ⟨F+f,⟨h1,h2,h3,Tr.le pl (by omega) h4⟩,dH.le (by omega) xs ps hF⟩
 | [],_::_,h=>h.elim
 |_::_,[],h=>h.elim
theorem dH.get {pl:List PV} {F:Nat}:∀(xs:List RV) (ps:List (aei×Rl)) (j:Nat) (p:aei×Rl),dH pl F xs ps→ps[j]? =some p→∃x,xs[j]? =some x∧x.kd=p.1∧x.nm=p.2.name∧x.pl=p.2.place∧Tr pl F x.ex p.2.body
 | [],[],j,p,_,h=>by simp at h
 |x::xs,q::ps,0,p,k,h=>by
  simp only [List.getElem?_cons_zero,Option.some.injEq] at h;subst h;exact ⟨x,rfl,k.1⟩
 |x::xs,q::ps,j+1,p,k,h=>by
  rw [List.getElem?_cons_succ] at h;obtain ⟨y,hy,hr⟩:=dH.get xs ps j p k.2 h;exact ⟨y,by simpa using hy,hr⟩
 | [],_::_,_,_,k,_=>k.elim
 |_::_,[],_,_,k,_=>k.elim
def fZ (rl:List RV) (pl:List PV) (aW:Nat→List Nat) (r:Nat):List Gr:=match rl[r]? with
 |some x=>(aW x.ex).flatMap (lF pl)
 |none=>[]
theorem rD {pl:List PV} {n:Nat} {e:Ex} (h:Tr pl 1 n e):lF pl n=fw e:=by
 obtain ⟨p,hp,h⟩:=h;unfold lF;rw [hp]
 rcases h with ⟨h1,hn,rfl⟩|⟨h1,h0,hn,rfl⟩|⟨h1,h0,hn,rfl⟩|⟨_,_,_,_,_,_,_,h4,_⟩|⟨_,_,_,_,_,_,_,_,h4,_⟩
 ·simp [fw]
 ·simp [fw,h0]
 ·simp [fw,h0]
 ·exact h4.elim
 ·exact h4.elim
theorem oq {pl:List PV}:∀(ns:List Nat) (es:List Ex),bQ (Tr pl 1) ns es→ns.flatMap (lF pl)=es.flatMap fw
 | [],[],_=>rfl
 |n::ns,e::es,h=>by rw [List.flatMap_cons,List.flatMap_cons,rD h.1,oq ns es h.2]
 | [],_::_,h=>h.elim
 |_::_,[],h=>h.elim
theorem dI:∀(x:Ex),bH x=(aN x).flatMap fw
 |⟨n,some x,some y⟩=>by
  have h1:=dI x;have h2:=dI y;unfold bH at*;simp only [ax,aN,List.flatMap_append,List.flatMap_cons,List.flatMap_nil,List.append_nil,h1,h2];simp [fw]
 |⟨n,none,r⟩=>by simp [bH,ax,aN]
 |⟨n,some x,none⟩=>by simp [bH,ax,aN]
theorem oU {β:Type} (f:Ex→Option β) (hf:∀e,e.l.isSome=true→f e=none):∀(x:Ex),(ax x).findSome? f=(aN x).findSome? f
 |⟨n,some x,some y⟩=>by
  have h1:=oU f hf x;have h2:=oU f hf y;simp only [ax,aN,List.findSome?_append,h1,h2,List.findSome?_cons,List.findSome?_nil];rw [hf ⟨n,some x,some y⟩ rfl];simp
 |⟨n,none,r⟩=>by simp [ax,aN]
 |⟨n,some x,none⟩=>by simp [ax,aN]
def Cy (ts:List Ty):Prop:=∀t∈ts,∀r∈t.rels,∀e∈aN r.body,∀g∈fw e,mG g
theorem GH {pl:List PV} {rl:List RV} {ts:List Ty} (hd:gN ts) (hf:dE pl rl (aR ts)) (y:aei) (g:Gr) (hg:mG g):
  (jH rl y g=[]∧lu ts y g=none)∨∃(j:Nat) (u:Ty) (r:Rl),jH rl y g=[j]∧lu ts y g=some u∧cu u y=some r∧(aR ts)[j]? =some (u.name,r):=by
 unfold jH lu
 rcases hg with ⟨h1,h2⟩|h1|⟨h1,h2⟩
 ·have e:bB g=em:=by unfold bB;rw [if_neg (by omega),h2]
  rw [e,(bq em em).2 rfl,if_pos h1]
  rcases fM hd hf g.ty y with ⟨e1,hno⟩|⟨j,t,r,e1,h4,h5,h6⟩
  ·refine .inl ⟨by rw [e1];simp,?_⟩
   cases ht:dn ts g.ty with
   |none=>rfl
   |some u=>simp [hno u ht]
  ·refine .inr ⟨j,t,r,by rw [e1];simp,?_,h5,?_⟩
   ·rw [h4];simp [h5]
   ·rw [(jI h4).2];exact h6
 ·have e:bB g=sg 42:=by unfold bB;rw [if_pos h1]
  have hr0:¬(g.reach=0):=by omega
  exact .inl ⟨by rw [e];simp [show eqs (sg 42) em=false from by decide],if_neg hr0⟩
 ·have hr0:¬(g.reach=0):=by omega
  have e1:eqs g.rel em=false:=by
   cases e:eqs g.rel em
   ·rfl
   ·rw [(bq _ _).1 e,Eh] at h2;cases h2
  exact .inl ⟨by rw [wy h1];simp [e1],if_neg hr0⟩
theorem zP {pl:List PV} {rl:List RV} {ts:List Ty} (hd:gN ts) (hf:dE pl rl (aR ts)) (y:aei):∀(G:List Gr),(∀g∈G,mG g)→(gM rl y G=[]↔(G.filterMap (lu ts y)).length=0)
 | [],_=>by simp [gM]
 |g::G,h=>by
  have ih:=zP hd hf y G (fun g hg=>h g (by simp [hg]));unfold gM at*;rw [List.flatMap_cons,List.filterMap_cons]
  rcases GH hd hf y g (h g (by simp)) with ⟨e1,e2⟩|⟨j,u,r,e1,e2,_⟩
  ·rw [e1,e2,List.nil_append];exact ih
  ·rw [e1,e2];simp
theorem Q4 {pl:List PV} {rl:List RV} {ts:List Ty} {F:Nat} (hd:gN ts) (hf:dE pl rl (aR ts)) (hF:dH pl F rl (aR ts)) (hg:Cy ts) (t:Ty) (ht:t∈ts) (n:Nat) (e:Ex) (h:Tr pl 1 n e) (he:∀g∈fw e,mG g):
  vE (ts.map fun t=>(t.name,t.place)) rl pl (fZ rl pl (aA pl F)) t.name n=ko ts t e:=by
 obtain ⟨p,hp,h⟩:=h;unfold vE;rw [hp];simp only;unfold J7
 rcases h with ⟨h1,hn,rfl⟩|⟨h1,h0,hn,rfl⟩|⟨h1,h0,hn,rfl⟩|⟨_,_,_,_,_,_,_,h4,_⟩|⟨_,_,_,_,_,_,_,_,h4,_⟩
 ·have key:∀(l:List Gr),(∀g∈l,mG g)→l.findSome? (rO (ts.map fun t=>(t.name,t.place)) rl)=l.findSome? (pW ts):=by
   intro l hl
   induction l with
   |nil=>rfl
   |cons a l ih=>rw [List.findSome?_cons,List.findSome?_cons,GG hd hf a (hl a (by simp)),ih (fun g hg=>hl g (by simp [hg]))]
  rw [key p.gs (by simpa [fw] using he)];simp only [ko,if_true,rT,h1]
  cases p.gs.findSome? (pW ts)<;>simp
 ·simp only [h0,List.findSome?_nil,h1,if_true,ko,Nat.reduceEqDiff,if_false]
  rcases fM hd hf t.name p.nr with ⟨e1,hno⟩|⟨j,t',r,e1,h4,h5,_⟩
  ·rw [e1,hno t (dC hd ht)];simp
  ·rw [dC hd ht] at h4;simp only [Option.some.injEq] at h4;subst h4;have:¬((j:Int)<0):=by omega
   rw [e1,h5];simp [this]
 ·simp only [h0,List.findSome?_nil,h1,Nat.reduceEqDiff,if_false,if_true,ko,Jh]
  rcases fM hd hf t.name p.nb with ⟨e1,hno⟩|⟨j,t',r,e1,h4,h5,h6⟩
  ·rw [e1,hno t (dC hd ht)];simp
  ·rw [dC hd ht] at h4;simp only [Option.some.injEq] at h4;subst h4;have hj:¬((j:Int)<0):=by omega
   obtain ⟨x,hx,hk,_,_,htr⟩:=dH.get rl _ j _ hF h6;have hG:fZ rl pl (aA pl F) j=bH r.body:=by
    unfold fZ;rw [hx,dI];exact oq _ _ (dB pl F _ _ htr)
   have hrm:=(iJ h5).1;have ha:∀g∈bH r.body,mG g:=by
    rw [dI];intro g hg';obtain ⟨e',he',YL⟩:=List.mem_flatMap.1 hg';exact hg t ht r hrm e' he' g YL
   rw [e1,h5,if_neg hj,Int.toNat_natCast,hG];simp only
   by_cases hz:gM rl p.nr (bH r.body)=[]
   ·rw [if_pos hz,if_pos ((zP hd hf p.nr _ ha).1 hz)]
   ·rw [if_neg hz,if_neg (fun h=>hz ((zP hd hf p.nr _ ha).2 h))]
 ·exact h4.elim
 ·exact h4.elim
theorem zQ {pl:List PV} {rl:List RV} {ts:List Ty} {F:Nat} (hd:gN ts) (hf:dE pl rl (aR ts)) (hF:dH pl F rl (aR ts)) (hg:Cy ts) (t:Ty) (ht:t∈ts):∀(ns:List Nat) (es:List Ex),bQ (Tr pl 1) ns es→(∀e∈es,∀g∈fw e,mG g)→
  ns.findSome? (vE (ts.map fun t=>(t.name,t.place)) rl pl (fZ rl pl (aA pl F)) t.name)=es.findSome? (ko ts t)
 | [],[],_,_=>rfl
 |n::ns,e::es,h,he=>by
  rw [List.findSome?_cons,List.findSome?_cons,Q4 hd hf hF hg t ht n e h.1 (he e (by simp)),zQ hd hf hF hg t ht ns es h.2 (fun e' h'=>he e' (by simp [h']))]
 | [],_::_,h,_=>h.elim
 |_::_,[],h,_=>h.elim
theorem Km (ts:List Ty) (t:Ty) (e:Ex) (h:e.l.isSome=true):ko ts t e=none:=by
 unfold ko
 cases hl:e.l with
 |none=>rw [hl] at h;simp at h
 |some x=>rfl
theorem zR (N:Ty→Rl→Option Nat) (g:aei×Rl→Option Nat):∀(ts:List Ty),(∀t∈ts,∀r∈t.rels,g (t.name,r)=N t r)→(aR ts).findSome? g=gD N ts
 | [],_=>rfl
 |t::ts,h=>by
  have ih:=zR N g ts (fun t ht=>h t (by simp [ht]));have e:aR (t::ts)=(t.rels.map fun r=>(t.name,r))++aR ts:=by simp [aR]
  have key:∀(l:List Rl),(∀r∈l,r∈t.rels)→(l.map fun r=>(t.name,r)).findSome? g=l.findSome? (N t):=by
   intro l hl
   induction l with
   |nil=>rfl
   |cons a l ihl=>rw [List.map_cons,List.findSome?_cons,List.findSome?_cons,h t (by simp) a (hl a (by simp)),ihl (fun r hr=>hl r (by simp [hr]))]
  rw [e,List.findSome?_append,ih,key t.rels (fun r hr=>hr)];unfold gD;rw [List.findSome?_cons]
  cases t.rels.findSome? (N t)<;>rfl
theorem GI {pl:List PV} {rl:List RV} {ts:List Ty} {F:Nat} (hd:gN ts) (hf:dE pl rl (aR ts)) (hF:dH pl F rl (aR ts)) (hg:Cy ts):
  nK (ts.map fun t=>(t.name,t.place)) rl pl (fZ rl pl (aA pl F)) (aA pl F)=gD (kF ts) ts:=by
 have h1:∀(xs:List RV) (ps:List (aei×Rl)),(∀p∈ps,p∈aR ts)→dH pl F xs ps→(xs.findSome? fun x=>(aA pl F x.ex).findSome? (vE (ts.map fun t=>(t.name,t.place)) rl pl (fZ rl pl (aA pl F)) x.kd))=ps.findSome? fun p=>match dn ts p.1 with
   |some t=>kF ts t p.2
   |none=>none:=by
  intro xs
  induction xs with
  |nil=>intro ps _ h;cases ps with
   |nil=>rfl
   |cons p ps=>exact h.elim
  |cons x xs ih=>intro ps hm h;cases ps with
   |nil=>exact h.elim
   |cons p ps=>
    obtain ⟨⟨h1,_,_,h4⟩,h5⟩:=h;obtain ⟨t,ht,h6,h7⟩:=jV.1 (hm p (by simp));have e:(aA pl F x.ex).findSome? (vE (ts.map fun t=>(t.name,t.place)) rl pl (fZ rl pl (aA pl F)) x.kd)=kF ts t p.2:=by
     rw [h1,←h6,zQ hd hf hF hg t ht _ _ (dB pl F _ _ h4) (fun e he=>hg t ht p.2 h7 e he)];unfold kF;rw [oU _ (Km ts t)]
    rw [List.findSome?_cons,List.findSome?_cons,e,ih ps (fun q hq=>hm q (by simp [hq])) h5,←h6,dC hd ht]
 unfold nK;rw [h1 rl (aR ts) (fun p hp=>hp) hF];exact zR (kF ts) _ ts (fun t ht r hr=>by simp only [dC hd ht])
theorem U7 (s:aei) (i:Nat) (h:0<(TT s i).size):PP s i<PP s (i+1):=by
 have e:PP s (i+1)=skip (bi s) (K s (i+1)):=rfl;have h1:=KR (bi s) (K s (i+1));have e2:K s (i+1)=PP s i+(TT s i).size:=rfl;rw [e];omega
theorem Q5 (s:aei):∀(j i:Nat),i<j→Gd s j→PP s i<PP s j
 |0,i,h,_=>by omega
 |j+1,i,h,hg=>by
  have h1:=U7 s j (hg j (by omega))
  by_cases e:i=j
  ·subst e;exact h1
  ·have:=Q5 s j i (by omega) (fun k hk=>hg k (by omega));omega
theorem AY {s:aei} {ts:List Ty} {m:Nat} (h:gF (TT s) (PP s)=.ok (ts,m)) (hg:Gd s m):(jk ts).Pairwise (· < ·):=by
 obtain ⟨new,e,_,ha⟩:=tV (TT s) (PP s) 512 [] 0 ts m h;rw [List.nil_append] at e;subst e;exact ha.sorted (fun i j hij hjm=>Q5 s j i hij (fun k hk=>hg k (by omega)))
section
variable (T:Nat→aei) (P:Nat→Nat)
theorem NQ (i:Nat) (g:Gr) (j:Nat) (h:bD T P i=.ok (g,j)):mG g:=by
 unfold bD at h
 split at h
 ·simp at h
 ·split at h
  ·simp only [Except.ok.injEq,Prod.mk.injEq] at h;rw [←h.1];exact .inr (.inl rfl)
  ·split at h
   ·split at h
    ·simp at h
    ·rename_i u m hn;simp only [Except.ok.injEq,Prod.mk.injEq] at h;rw [←h.1];refine .inr (.inr ⟨rfl,?_⟩);unfold bN at hn
     split at hn
     ·rename_i hnm;exact hnm
     ·simp at hn
   ·simp only [Except.ok.injEq,Prod.mk.injEq] at h;rw [←h.1];exact .inl ⟨rfl,rfl⟩
theorem GJ:∀f acc i gs j,eY T P f acc i=.ok (gs,j)→(∀g∈acc,mG g)→∀g∈gs,mG g
 |0,acc,i,gs,j,h,_=>by simp [eY] at h
 |f+1,acc,i,gs,j,h,ha=>by
  unfold eY at h
  split at h
  ·simp at h
  ·rename_i g0 j0 hg;have h0:=NQ T P _ _ _ hg;have h1:∀g∈acc++[g0],mG g:=fun g hg=>by
    rcases List.mem_append.1 hg with hg|hg
    ·exact ha g hg
    ·rw [List.mem_singleton] at hg;rw [hg];exact h0
   split at h
   ·exact GJ f _ _ _ _ h h1
   ·split at h
    ·simp only [Except.ok.injEq,Prod.mk.injEq] at h;rw [←h.1];exact h1
    ·simp at h
def GR (r:Nat→dM Ex):Prop:=∀i x j,r i=.ok (x,j)→∀e∈aN x,∀g∈fw e,mG g
theorem GL (l:List aei) (part:Nat→dM Ex) (hp:GR part):∀f y i x j,joinL T P l part f y i=.ok (x,j)→(∀e∈aN y,∀g∈fw e,mG g)→∀e∈aN x,∀g∈fw e,mG g
 |0,y,i,x,j,h,_=>by simp [joinL] at h
 |f+1,y,i,x,j,h,ha=>by
  unfold joinL at h
  split at h
  ·split at h
   ·simp at h
   ·rename_i z j1 hz;refine GL l part hp f _ j1 x j h (fun e he=> ?_);simp only [jZ,aN,List.mem_append] at he
    rcases he with he|he
    ·exact ha e he
    ·exact hp _ _ _ hz e he
  ·simp only [Except.ok.injEq,Prod.mk.injEq] at h;rw [←h.1];exact ha
theorem vF (l:List aei) (part:Nat→dM Ex) (hp:GR part):GR (gJ T P l part):=by
 intro i x j h;unfold gJ at h
 split at h
 ·simp at h
 ·rename_i y j1 hy;exact GL T P l part hp _ _ _ x j h (hp _ _ _ hy)
theorem GM (room:Bool) (inner:Nat→dM Ex) (hp:GR inner):GR (gY T P room inner):=by
 intro i x j h;unfold gY at h
 split at h
 ·unfold pR at h
  split at h
  ·simp at h
  ·rename_i gs j1 hl;simp only [Except.ok.injEq,Prod.mk.injEq] at h;rw [←h.1];intro e he g hg;simp only [KQ,aN,List.mem_singleton] at he;subst he;exact GJ T P _ _ _ _ _ hl (by simp) g (by simpa [fw] using hg)
 ·split at h
  ·split at h
   ·split at h
    ·simp at h
    ·rename_i y j1 hy
     split at h
     ·simp only [Except.ok.injEq,Prod.mk.injEq] at h;rw [←h.1];exact hp _ _ _ hy
     ·simp at h
   ·simp at h
  ·unfold lW at h
   split at h
   ·simp at h
   ·split at h
    ·split at h
     ·simp at h
     ·simp only [Except.ok.injEq,Prod.mk.injEq] at h;rw [←h.1];intro e he g hg;simp only [aN,List.mem_singleton] at he;subst he;simp [fw] at hg
    ·simp only [Except.ok.injEq,Prod.mk.injEq] at h;rw [←h.1];intro e he g hg;simp only [aN,List.mem_singleton] at he;subst he;simp [fw] at hg
theorem GN:∀n,GR (gZ T P n)
 |0=>vF T P _ _ (vF T P _ _ (GM T P false _ (fun i x j h=>by simp at h)))
 |n+1=>vF T P _ _ (vF T P _ _ (GM T P true _ (GN n)))
theorem NR (i:Nat) (r:Rl) (j:Nat) (h:pJ T P i=.ok (r,j)):dh r.name=true∧∃i0 j0,gZ T P 4 i0=.ok (r.body,j0)∧j0≤j:=by
 unfold pJ at h
 split at h
 ·simp at h
 ·rename_i u j1 hn
  split at h
  ·simp at h
  ·rename_i x m hx
   split at h
   ·simp only [Except.ok.injEq,Prod.mk.injEq] at h;obtain ⟨rfl,rfl⟩:=h;refine ⟨?_,j1,m,hx,by omega⟩;unfold bO bN at hn;simp only
    cases hm:dh (T i)
    ·rw [hm] at hn;simp at hn
    ·rfl
   ·simp at h
theorem zS:∀f acc i rs m,dP T P f acc i=.ok (rs,m)→∀r∈rs,r∈acc∨(dh r.name=true∧∃i0 j0,gZ T P 4 i0=.ok (r.body,j0)∧j0≤m)
 |0,acc,i,rs,m,h=>by simp [dP] at h
 |f+1,acc,i,rs,m,h=>by
  unfold dP at h
  split at h
  ·simp only [Except.ok.injEq,Prod.mk.injEq] at h;obtain ⟨rfl,rfl⟩:=h;exact fun r hr=> .inl hr
  ·split at h
   ·simp at h
   ·split at h
    ·simp at h
    ·rename_i r0 j hr;intro r hm;have hmono:=sG T P f _ _ _ _ h
     rcases zS f _ _ _ _ h r hm with h1|h1
     ·rcases List.mem_append.1 h1 with h1|h1
      ·exact .inl h1
      ·rw [List.mem_singleton] at h1;subst h1;obtain ⟨h2,i0,j0,h3,h4⟩:=NR T P _ _ _ hr;exact .inr ⟨h2,i0,j0,h3,by omega⟩
     ·exact .inr h1
theorem wT:∀f acc i ts m,dR T P f acc i=.ok (ts,m)→∀t∈ts,t∈acc∨∀r∈t.rels,dh r.name=true∧∃i0 j0,gZ T P 4 i0=.ok (r.body,j0)∧j0≤m
 |0,acc,i,ts,m,h=>by simp [dR] at h
 |f+1,acc,i,ts,m,h=>by
  unfold dR at h
  split at h
  ·simp only [Except.ok.injEq,Prod.mk.injEq] at h;obtain ⟨rfl,rfl⟩:=h;exact fun r hr=> .inl hr
  ·split at h
   ·simp at h
   ·split at h
    ·simp at h
    ·rename_i t0 j ht;intro t hm;obtain ⟨_,_,hle,_⟩:=tV T P f _ _ _ _ h
     rcases wT f _ _ _ _ h t hm with h1|h1
     ·rcases List.mem_append.1 h1 with h1|h1
      ·exact .inl h1
      ·rw [List.mem_singleton] at h1;subst h1;refine .inr (fun r hr=> ?_);rw [mF] at ht
       split at ht
       ·unfold pG at ht
        split at ht
        ·simp at ht
        ·split at ht
         ·simp at ht
         ·rename_i rs j2 hrs;simp only [Except.ok.injEq,Prod.mk.injEq] at ht;obtain ⟨rfl,rfl⟩:=ht
          rcases zS T P _ _ _ _ _ hrs r hr with h5|⟨h5,i0,j0,h6,h7⟩
          ·simp at h5
          ·exact ⟨h5,i0,j0,h6,by omega⟩
       ·simp at ht
     ·exact .inr h1
end
theorem tX {s:aei} {ts:List Ty} {m:Nat} (h:gF (TT s) (PP s)=.ok (ts,m)):∀t∈ts,∀r∈t.rels,dh r.name=true∧∃i0 j0,gZ (TT s) (PP s) 4 i0=.ok (r.body,j0)∧j0≤m:=fun t ht=>by
 rcases wT (TT s) (PP s) 512 [] 0 ts m h t ht with h|h
 ·simp at h
 ·exact h
theorem Q6 {s:aei} {ts:List Ty} {m:Nat} (h:gF (TT s) (PP s)=.ok (ts,m)):Cy ts:=fun t ht r hr=>by
 obtain ⟨_,i0,j0,h1,_⟩:=tX h t ht r hr;exact GN (TT s) (PP s) 4 _ _ _ h1
theorem tY:∀(x:Ex),(aN x).length≤(ax x).length
 |⟨n,some x,some y⟩=>by
  have h1:=tY x;have h2:=tY y;simp only [aN,ax,List.length_append,List.length_cons,List.length_nil];omega
 |⟨n,none,r⟩=>by simp [aN,ax]
 |⟨n,some x,none⟩=>by simp [aN,ax]
theorem dH.mem {pl:List PV} {F:Nat}:∀(xs:List RV) (ps:List (aei×Rl)),dH pl F xs ps→∀x∈xs,∃p∈ps,x.kd=p.1∧x.nm=p.2.name∧x.pl=p.2.place∧Tr pl F x.ex p.2.body
 | [],[],_,x,hx=>by simp at hx
 |y::xs,p::ps,h,x,hx=>by
  rcases List.mem_cons.1 hx with rfl|hx
  ·exact ⟨p,by simp,h.1⟩
  ·obtain ⟨q,hq,hr⟩:=dH.mem xs ps h.2 x hx;exact ⟨q,by simp [hq],hr⟩
 | [],_::_,h,_,_=>h.elim
 |_::_,[],h,_,_=>h.elim
def vG (ts:List Ty):Prop:=∀t∈ts,∀r∈t.rels,(ax r.body).length≤500∧(bH r.body).length≤500
theorem sized {s:aei} {ts:List Ty} {m:Nat} (h:gF (TT s) (PP s)=.ok (ts,m)) (hg:Gd s m) (hs:s.size≤500):vG ts:=fun t ht r hr=>by
 have hm:=hg.le;have:=((lU (TT s) (PP s) ts m h).1 t ht).1 r hr;exact ⟨Nat.le_trans this.p (by omega),Nat.le_trans this.g (by omega)⟩
section
variable {pl:List PV} {rl:List RV} {ts:List Ty} {F:Nat}
theorem rE (hF:dH pl F rl (aR ts)) (hz:vG ts) (x:RV) (hx:x∈rl):(aA pl F x.ex).length≤500∧((aA pl F x.ex).flatMap (lF pl)).length≤500∧∀n∈aA pl F x.ex,∃p,pl[n]? =some p∧p.gs.length≤500:=by
 obtain ⟨p,hp,_,_,_,htr⟩:=dH.mem rl _ hF x hx;obtain ⟨t,ht,_,hr⟩:=jV.1 hp;obtain ⟨h1,h2⟩:=hz t ht p.2 hr;have ha:=dB pl F _ _ htr;have hl:=bQ.len _ _ ha;have hle:=tY p.2.body;have hG:(aA pl F x.ex).flatMap (lF pl)=bH p.2.body:=by rw [dI];exact oq _ _ ha
 refine ⟨by omega,by rw [hG];exact h2,fun n hn=> ?_⟩;obtain ⟨e,he,hte⟩:=bQ.mem _ _ ha n hn;obtain ⟨q,hq,_⟩:=id hte;refine ⟨q,hq,?_⟩;have e1:lF pl n=q.gs:=by unfold lF;rw [hq]
 have:=qE (lF pl) _ n hn;rw [e1,hG] at this;omega
theorem Q7 (hF:dH pl F rl (aR ts)) (hz:vG ts):YE rl pl (aA pl F):=fun x hx=>by
 obtain ⟨h1,_,h3⟩:=rE hF hz x hx;obtain ⟨p,hp,_,_,_,htr⟩:=dH.mem rl _ hF x hx;exact ⟨ni pl F _ _ htr (by omega),by omega,fun n hn=>by obtain ⟨q,hq,hl⟩:=h3 n hn;exact ⟨q,hq,by omega⟩⟩
theorem zT (hF:dH pl F rl (aR ts)) (hz:vG ts) (r:Nat):(fZ rl pl (aA pl F) r).length≤500:=by
 unfold fZ
 cases hr:rl[r]? with
 |none=>simp
 |some x=>exact (rE hF hz x (List.mem_of_getElem? hr)).2.1
theorem Q8 (hF:dH pl F rl (aR ts)) (hz:vG ts):vD rl pl (fZ rl pl (aA pl F)):=fun r hr=>by
 refine ⟨?_,Nat.le_trans (zT hF hz r) (by omega)⟩;intro b kv rv pv kl l w h;have hx:=aeh hr;obtain ⟨h1,h2,h3⟩:=Q7 hF hz rl[r] (List.getElem_mem hr);have hG:(aA pl F rl[r].ex).flatMap (lF pl)=fZ rl pl (aA pl F) r:=by unfold fZ;rw [hx]
 exact Gm b kv rv pv kl rl pl l r rl[r] _ _ w h hx h1 (fun m hm=>by obtain ⟨p,hp,_⟩:=h3 m hm;exact (List.getElem?_eq_some_iff.1 hp).1) hG (Nat.le_trans (zT hF hz r) (by omega)) h2
def U8 (rl:List RV) (kd:aei) (p:PV):Prop:=(p.kind=2→0≤aQ kd p.nr rl 0)∧(p.kind=3→0≤aQ kd p.nb rl 0)
theorem zU (kl:List (aei×Nat)) (bz:Nat→List Gr) (aW:Nat→List Nat) (h:nK kl rl pl bz aW=none) (x:RV) (hx:x∈rl) (n:Nat) (hn:n∈aW x.ex) (p:PV) (hp:pl[n]? =some p):U8 rl x.kd p:=by
 unfold nK at h;rw [List.findSome?_eq_none_iff] at h;have h1:=h x hx;rw [List.findSome?_eq_none_iff] at h1;have h2:=h1 n hn;unfold vE at h2;rw [hp] at h2;simp only at h2;unfold J7 at h2
 split at h2
 ·simp at h2
 ·refine ⟨fun hk=> ?_,fun hk=> ?_⟩
  ·rw [if_pos hk] at h2
   split at h2
   ·simp at h2
   ·omega
  ·rw [if_neg (by omega),if_pos hk] at h2
   split at h2
   ·simp at h2
   ·omega
theorem GQ (rl:List RV) (g:Gr):∀r∈dL rl g,r<rl.length:=by
 unfold dL
 rcases cK g.ty (bB g) rl 0 with h|⟨j,h,_,h2⟩
 ·rw [h];simp
 ·rw [h];simp;omega
theorem Q9 (rl:List RV) (bz:Nat→List Gr) (kd:aei) (p:PV) (hn:U8 rl kd p):∀r∈iT rl bz kd p,r<rl.length:=by
 intro r hr;unfold iT at hr
 rcases List.mem_append.1 hr with hr|hr
 ·obtain ⟨g,_,hg⟩:=List.mem_flatMap.1 hr;exact GQ rl g r hg
 ·split at hr
  ·rename_i hk;rw [List.mem_singleton] at hr;have h0:=hn.1 hk
   rcases cK kd p.nr rl 0 with h|⟨j,h,_,h2⟩
   ·omega
   ·rw [h] at hr;omega
  ·split at hr
   ·unfold gM at hr;obtain ⟨g,_,hg⟩:=List.mem_flatMap.1 hr;unfold jH at hg
    split at hg
    ·rw [List.mem_singleton] at hg;rename_i hc;rw [Bool.and_eq_true,decide_eq_true_eq] at hc
     rcases cK g.ty p.nr rl 0 with h|⟨j,h,_,h2⟩
     ·omega
     ·rw [h] at hg;omega
    ·simp at hg
   ·simp at hr
theorem Ei (rl:List RV):∀(l:List Gr),(l.flatMap (dL rl)).length≤l.length
 | []=>by simp
 |g::l=>by
  have h1:=QU rl g;have h2:=Ei rl l;simp only [List.flatMap_cons,List.length_append,List.length_cons];omega
theorem Ra (rl:List RV) (bz:Nat→List Gr) (hG:∀r,(bz r).length≤500) (kd:aei) (p:PV):(iT rl bz kd p).length≤p.gs.length+500:=by
 unfold iT;have h1:=Ei rl p.gs;rw [List.length_append]
 split
 ·simp only [List.length_cons,List.length_nil];omega
 ·split
  ·have:=Eb rl p.nr (bz (aQ kd p.nb rl 0).toNat);have:=hG (aQ kd p.nb rl 0).toNat;omega
  ·simp only [List.length_nil];omega
theorem tZ {α β:Type} (f:α→List β) (n:Nat):∀(l:List α),(∀a∈l,(f a).length≤n)→(l.flatMap f).length≤l.length*n
 | [],_=>by simp
 |a::l,h=>by
  have h1:=h a (by simp);have h2:=tZ f n l (fun a ha=>h a (by simp [ha]));simp only [List.flatMap_cons,List.length_append,List.length_cons,Nat.add_mul,Nat.one_mul];omega
theorem zV (hF:dH pl F rl (aR ts)) (hz:vG ts) (kl:List (aei×Nat)) (h:nK kl rl pl (fZ rl pl (aA pl F)) (aA pl F)=none) (x:RV) (hx:x∈rl) (lv:List Nat) (hlv:∀n∈lv,n∈aA pl F x.ex) (hl:lv.length≤500):
  (∀m∈lv,∃p,pl[m]? =some p∧p.gs.length≤1000∧(p.kind=2→0≤aQ x.kd p.nr rl 0)∧(p.kind=3→0≤aQ x.kd p.nb rl 0))∧(jT rl pl (fZ rl pl (aA pl F)) x.kd lv).length≤1000000∧(∀r∈jT rl pl (fZ rl pl (aA pl F)) x.kd lv,r<rl.length)∧(OG rl pl lv).length≤1000000∧∀r∈OG rl pl lv,r<rl.length:=by
 obtain ⟨_,_,h3⟩:=rE hF hz x hx;refine ⟨fun m hm=> ?_,?_,?_,?_,?_⟩
 ·obtain ⟨p,hp,hg⟩:=h3 m (hlv m hm);have:=zU kl _ _ h x hx m (hlv m hm) p hp;exact ⟨p,hp,by omega,this.1,this.2⟩
 ·refine Nat.le_trans (tZ _ 1000 lv (fun m hm=> ?_)) (by omega);obtain ⟨p,hp,hg⟩:=h3 m (hlv m hm);unfold wo;rw [hp];simp only;have:=Ra rl _ (zT hF hz) x.kd p;omega
 ·intro r hr;unfold jT at hr;obtain ⟨m,hm,hr⟩:=List.mem_flatMap.1 hr;obtain ⟨p,hp,hg⟩:=h3 m (hlv m hm);unfold wo at hr;rw [hp] at hr;exact Q9 rl _ x.kd p (zU kl _ _ h x hx m (hlv m hm) p hp) r hr
 ·refine Nat.le_trans (tZ _ 1000 lv (fun m hm=> ?_)) (by omega);obtain ⟨p,hp,hg⟩:=h3 m (hlv m hm);unfold wo;rw [hp];have:=Ei rl p.gs;simp only;unfold NI;omega
 ·intro r hr;unfold OG at hr;obtain ⟨m,hm,hr⟩:=List.mem_flatMap.1 hr;obtain ⟨p,hp,hg⟩:=h3 m (hlv m hm);unfold wo at hr;rw [hp] at hr;unfold NI at hr;obtain ⟨g,_,hg⟩:=List.mem_flatMap.1 hr;exact GQ rl g r hg
theorem U9 (hF:dH pl F rl (aR ts)) (hz:vG ts) (kl:List (aei×Nat)) (h:nK kl rl pl (fZ rl pl (aA pl F)) (aA pl F)=none):nL rl pl (fZ rl pl (aA pl F)) (aA pl F):=fun x hx=>by
 obtain ⟨h1,h2,h3⟩:=Q7 hF hz x hx;obtain ⟨h4,h5,h6,_⟩:=zV hF hz kl h x hx _ (fun n hn=>hn) (rE hF hz x hx).1;exact ⟨⟨h1,h2,h4⟩,by omega,h6⟩
end
def qI (pl:List PV):Nat→Nat→Nat
 |0,_=>0
 |f+1,n=>match pl[n]? with
  |none=>1
  |some p=>(p.ps.map (qI pl f)).sum+1
theorem rF {f g:Nat→Nat}:∀{l:List Nat},(∀a∈l,f a=g a)→(l.map f).sum=(l.map g).sum
 | [],_=>rfl
 |a::l,h=>by
  simp only [List.map_cons,List.sum_cons];rw [h a (by simp),rF (fun b hb=>h b (by simp [hb]))]
theorem Rb (pl:List PV):∀(f n:Nat) (x:Ex),Tr pl f n x→qI pl (f+1) n=qI pl f n
 |0,_,_,h=>h.elim
 |f+1,n,x,h=>by
  obtain ⟨p,hp,_⟩:=id h;have hk:=h.kids hp;rw [qI,qI,hp];simp only;rw [rF (f:=qI pl (f+1)) (g:=qI pl f) (fun m hm=>by obtain ⟨y,hy⟩:=hk m hm;exact Rb pl f m y hy)]
theorem Ej (pl:List PV) {f F n:Nat} {x:Ex} (h:Tr pl f n x) (hF:f≤F):qI pl F n=qI pl f n:=by
 obtain ⟨d,rfl⟩:=Nat.exists_eq_add_of_le hF;clear hF
 induction d with
 |zero=>rfl
 |succ d ih=>rw [←ih];exact Rb pl _ _ _ (Tr.le pl (Nat.le_add_right f d) h)
theorem uf:∀(rs:List (aei×Nat×Ex)) (x:Ex),(ax (kV x rs)).length=(ax x).length+(rs.map fun r=>(ax r.2.2).length+1).sum
 | [],x=>by simp [kV]
 |(t,p,y)::rs,x=>by
  rw [kV,uf rs];simp only [jZ,ax,List.length_append,List.length_cons,List.length_nil,List.map_cons,List.sum_cons];omega
theorem zW {R:Nat→Ex→Prop} (z:Nat→Nat) (h:∀n x,R n x→z n≤(ax x).length):∀(ns:List Nat) (rs:List (aei×Nat×Ex)),bQ R ns (rs.map fun r=>r.2.2)→(ns.map z).sum+rs.length≤(rs.map fun r=>(ax r.2.2).length+1).sum
 | [],[],_=>by simp
 |n::ns,r::rs,k=>by
  have h1:z n≤(ax r.2.2).length:=h _ _ k.1;have h2:=zW z h ns rs k.2;simp only [List.map_cons,List.sum_cons,List.length_cons];omega
 | [],_::_,k=>k.elim
 |_::_,[],k=>k.elim
theorem ou (pl:List PV):∀(f n:Nat) (x:Ex),Tr pl f n x→qI pl f n≤(ax x).length
 |0,_,_,h=>h.elim
 |f+1,n,x,⟨p,hp,h⟩=>by
  rw [qI,hp];simp only
  rcases h with ⟨h1,hn,h2⟩|⟨h1,h0,hn,h2⟩|⟨h1,h0,hn,h2⟩|⟨h1,h0,n0,ns,x0,rs,h3,h4,h5,h6,h7,h8⟩|⟨h1,h0,h0',n0,ns,x0,rs,h3,h4,h5,h6,h7,h8⟩
  ·rw [hn.1,h2];simp [ax]
  ·rw [hn.1,h2];simp [ax]
  ·rw [hn.1,h2];simp [ax]
  ·rw [h8,h3,uf];have k1:=ou pl f _ _ h4;have k2:=zW (qI pl f) (ou pl f) ns rs h5;have k3:0<rs.length:=List.length_pos_iff.2 h7.2;simp only [List.map_cons,List.sum_cons];omega
  ·rw [h8,h3,uf];have k1:=ou pl f _ _ h4;have k2:=zW (qI pl f) (ou pl f) ns rs h5;have k3:0<rs.length:=List.length_pos_iff.2 h7;simp only [List.map_cons,List.sum_cons];omega
theorem Tr.signs {pl:List PV} {f n:Nat} {x:Ex} {p:PV} (h:Tr pl (f+1) n x) (hp:pl[n]? =some p):p.sg.length≤p.ps.length:=by
 obtain ⟨p',hp',h⟩:=h;rw [hp] at hp';simp only [Option.some.injEq] at hp';subst hp'
 rcases h with ⟨h1,hn,h2⟩|⟨h1,h0,hn,h2⟩|⟨h1,h0,hn,h2⟩|⟨h1,h0,n0,ns,x0,rs,h3,h4,h5,h6,h7,h8⟩|⟨h1,h0,h0',n0,ns,x0,rs,h3,h4,h5,h6,h7,h8⟩
 ·rw [hn.2];simp
 ·rw [hn.2];simp
 ·rw [hn.2];simp
 ·have:=bQ.len _ _ h5;rw [h6,h3];simp at this ⊢;omega
 ·rw [h0'];simp
theorem Tr.kid_leaves {pl:List PV} {f n:Nat} {x:Ex} {p:PV} (h:Tr pl (f+1) n x) (hp:pl[n]? =some p):∀m∈p.ps,∀k∈aA pl f m,k∈aA pl (f+1) n:=by
 obtain ⟨p',hp',h⟩:=h;rw [hp] at hp';simp only [Option.some.injEq] at hp';subst hp';intro m hm k hk;rw [aA,hp];simp only
 rcases h with ⟨h1,hn,h2⟩|⟨h1,h0,hn,h2⟩|⟨h1,h0,hn,h2⟩|⟨h1,_⟩|⟨h1,_⟩
 ·rw [hn.1] at hm;simp at hm
 ·rw [hn.1] at hm;simp at hm
 ·rw [hn.1] at hm;simp at hm
 ·rw [if_pos (.inl h1)];exact List.mem_flatMap.2 ⟨m,hm,hk⟩
 ·rw [if_pos (.inr h1)];exact List.mem_flatMap.2 ⟨m,hm,hk⟩
def QF (pl:List PV) (F:Nat) (x:RV) (n:Nat):Prop:=∃f y,f≤F∧Tr pl f n y∧∀k∈aA pl F n,k∈aA pl F x.ex
section
variable {pl:List PV} {rl:List RV} {ts:List Ty} {F:Nat}
theorem zX (pl:List PV):∀(f n:Nat) (x:Ex),Tr pl f n x→(aA pl f n).length≤qI pl f n
 |0,_,_,h=>h.elim
 |f+1,n,x,h=>by
  obtain ⟨p,hp,_⟩:=id h;have hk:=h.kids hp;rw [aA,qI,hp];simp only
  split
  ·rw [List.length_flatMap];have:∀l:List Nat,(∀m∈l,∃y,Tr pl f m y)→(l.map fun a=>(aA pl f a).length).sum≤(l.map (qI pl f)).sum:=by
    intro l
    induction l with
    |nil=>simp
    |cons a l ih=>
     intro hl;obtain ⟨y,hy⟩:=hl a (by simp);have h1:=zX pl f a y hy;have h2:=ih (fun m hm=>hl m (by simp [hm]));simp only [List.map_cons,List.sum_cons];omega
   have:=this p.ps hk;omega
  ·simp
def Rc (pl:List PV) (F:Nat) (n:Nat):Prop:=qI pl F n≤500
theorem LF (z:Nat→Nat):∀(l:List Nat),∀m∈l,z m≤(l.map z).sum
 |a::l,m,hm=>by
  simp only [List.map_cons,List.sum_cons]
  rcases List.mem_cons.1 hm with rfl|hm
  ·omega
  ·have:=LF z l m hm;omega
theorem Va (hF:dH pl F rl (aR ts)) (hz:vG ts) (kl:List (aei×Nat)) (h:nK kl rl pl (fZ rl pl (aA pl F)) (aA pl F)=none) (x:RV) (hx:x∈rl):Ki rl pl (fZ rl pl (aA pl F)) (aA pl F) x (fun n=>QF pl F x n∧Rc pl F n) (qI pl F):=by
 obtain ⟨p,hp,_,_,_,htr⟩:=dH.mem rl _ hF x hx;obtain ⟨t,ht,_,hr⟩:=jV.1 hp;obtain ⟨h1,h2⟩:=hz t ht p.2 hr;have hsz:=ou pl F _ _ htr;have hE:=zV hF hz kl h x hx (aA pl F x.ex) (fun n hn=>hn) (rE hF hz x hx).1;have hl:=(rE hF hz x hx).1;refine ⟨⟨⟨F,_,Nat.le_refl _,htr,fun k hk=>hk⟩,by unfold Rc;omega⟩,by omega,fun n hn=> ?_,⟨⟨ni pl F _ _ htr (by omega),by omega,hE.1⟩,by omega⟩⟩;obtain ⟨⟨f,y,hf,hy,hs⟩,ho⟩:=hn;unfold Rc at ho
 cases f with
 |zero=>exact hy.elim
 |succ g=>
  obtain ⟨q,hq,_⟩:=id hy;have e1:qI pl F n=(q.ps.map (qI pl F)).sum+1:=by
   rw [Ej pl hy hf,qI,hq];simp only;rw [rF (f:=qI pl g) (g:=qI pl F) (fun m hm=>by obtain ⟨z,hz⟩:=hy.kids hq m hm;exact (Ej pl hz (by omega)).symm)]
  refine ⟨q,hq,hy.signs hq,by omega,fun m hm=> ?_⟩;obtain ⟨z,hz'⟩:=hy.kids hq m hm;have hsub:∀k∈aA pl F m,k∈aA pl F x.ex:=fun k hk=>by
   refine hs k ?_;rw [mH pl hy hf];rw [mH pl hz' (by omega)] at hk;exact hy.kid_leaves hq m hm k hk
  have hle:qI pl F m≤(q.ps.map (qI pl F)).sum:=LF _ _ m hm;have hlm:(aA pl F m).length≤500:=by
   rw [mH pl hz' (by omega)];have:=zX pl g m z hz';rw [←Ej pl hz' (show g≤F by omega)] at this;omega
  have hM:=zV hF hz kl h x hx (aA pl F m) hsub hlm;refine ⟨⟨⟨g,z,by omega,hz',hsub⟩,by unfold Rc;omega⟩,⟨?_,by omega,hM.1⟩,by omega,?_,?_⟩
  ·have e:aA pl F m=aA pl g m:=mH pl hz' (by omega);rw [e];exact ni pl g m z hz' (by rw [←e];omega)
  ·intro r hr;unfold je at hr
   rcases List.mem_append.1 hr with hr|hr
   ·exact hM.2.2.1 r hr
   ·split at hr
    ·exact hE.2.2.2.2 r hr
    ·simp at hr
  ·unfold je;rw [List.length_append];have:=hM.2.1;have:=hE.2.2.2.1
   split
   ·omega
   ·simp only [List.length_nil];omega
end
def NT{α:Type}(nd:α->List α)(S:List α)(x:α):Prop:=∀P:α->Prop,(∀x∈S,P x)->(∀x y,P x->y∈nd x->P y)->P x
def NT.bz{α:Type}{nd:α->List α}{S x}(h:x∈S):NT nd S x:=fun _ a _=>a x h
def NT.step{α:Type}{nd:α->List α}{S x y}(h:NT nd S x)(k:y∈nd x):NT nd S y:=fun P a b=>b x y (h P a b) k
def NT.ind{α:Type}{nd:α->List α}{S}{motive:∀x,NT nd S x->Prop}(base:∀{x}(h:x∈S),motive x (.bz h))(step:∀{x y}(h:NT nd S x)(k:y∈nd x),motive x h->motive y (.step h k)){x}(h:NT nd S x):motive x h:=
 (h (fun x=>∃h,motive x h) (fun x h=>⟨_,base h⟩) (fun x y ⟨h,i⟩ k=>⟨_,step h k i⟩)).elim fun _ i=>i
theorem Re (f:List Sp) (x:Sp):(f.any fun y=>jo x y)=true↔x∈f:=by
 rw [List.any_eq_true]
 constructor
 ·rintro ⟨y,hy,e⟩;rw [(uN x y).1 e];exact hy
 ·exact fun h=>⟨x,h,(uN x x).2 rfl⟩
theorem ug (ts:List Ty) (S:List Sp):∀(k:Nat) (q f:List Sp),q.length+fO (aI ts) f (iZ ts)<k→(∀x∈S,x∈f∨x∈q)→(∀x∈f,NT (aI ts) S x)→(∀x∈q,NT (aI ts) S x)→(∀x∈f,∀y∈aI ts x,y∈f∨y∈q)→
  ∀x,x∈eU (aI ts) k q f↔NT (aI ts) S x
 |0,q,f,hk,_,_,_,_=>by omega
 |k+1,[],f,hk,h1,h2,h3,h4=>by
  intro x;rw [eU];refine ⟨h2 x,fun h=> ?_⟩
  induction h using NT.ind with
  |base h=>
   rcases h1 _ h with h|h
   ·exact h
   ·simp at h
  |step _ hy ih=>
   rcases h4 _ ih _ hy with h|h
   ·exact h
   ·simp at h
 |k+1,z::q,f,hk,h1,h2,h3,h4=>by
  intro x;rw [eU];simp only [List.length_cons] at hk
  by_cases hz:(f.any fun y=>jo z y)=true
  ·rw [if_pos hz];have hzf:=(Re f z).1 hz;refine ug ts S k q f (by omega) (fun x hx=> ?_) h2 (fun x hx=>h3 x (by simp [hx])) (fun x hx y hy=> ?_) x
   ·rcases h1 x hx with h|h
    ·exact .inl h
    ·rcases List.mem_cons.1 h with rfl|h
     ·exact .inl hzf
     ·exact .inr h
   ·rcases h4 x hx y hy with h|h
    ·exact .inl h
    ·rcases List.mem_cons.1 h with rfl|h
     ·exact .inl hzf
     ·exact .inr h
  ·rw [if_neg hz];have hz':(f.any fun y=>jo z y)=false:=by
    cases e:(f.any fun y=>jo z y)
    ·rfl
    ·exact absurd e hz
   have hs:=vV ts f z hz';have hzr:=h3 z (by simp);refine ug ts S k (q++aI ts z) (f++[z]) (by rw [List.length_append];omega) (fun x hx=> ?_) (fun x hx=> ?_) (fun x hx=> ?_) (fun x hx y hy=> ?_) x
   ·rcases h1 x hx with h|h
    ·exact .inl (by simp [h])
    ·rcases List.mem_cons.1 h with rfl|h
     ·exact .inl (by simp)
     ·exact .inr (by simp [h])
   ·rcases List.mem_append.1 hx with h|h
    ·exact h2 x h
    ·rw [List.mem_singleton.1 h];exact hzr
   ·rcases List.mem_append.1 hx with h|h
    ·exact h3 x (by simp [h])
    ·exact .step hzr h
   ·rcases List.mem_append.1 hx with h|h
    ·rcases h4 x h y hy with h|h
     ·exact .inl (by simp [h])
     ·rcases List.mem_cons.1 h with rfl|h
      ·exact .inl (by simp)
      ·exact .inr (by simp [h])
    ·rw [List.mem_singleton.1 h] at hy;exact .inr (by simp [hy])
theorem El (ts:List Ty) (S:List Sp) (x:Sp):x∈dQ ts S↔NT (aI ts) S x:=by
 unfold dQ fQ;exact ug ts S _ S [] (by omega) (fun x hx=> .inr hx) (by simp) (fun x hx=> .bz hx) (by simp) x
theorem Ko (ts:List Ty) (S:List Sp) (x:Sp):kI ts S x=true↔NT (aI ts) S x:=by
 unfold kI;rw [Re,El]
theorem NU (o:List Nat) (x y:Nat):y∈kY o x↔y∈o∨y=x:=by
 unfold kY
 split
 ·rename_i h;rw [List.any_eq_true] at h;obtain ⟨k,hk,e⟩:=h;have:k=x:=by simpa using e
  subst this
  constructor
  ·exact .inl
  ·rintro (h|rfl)
   ·exact h
   ·exact hk
 ·simp
theorem wB:∀(l o:List Nat) (y:Nat),y∈oo o l↔y∈o∨y∈l
 | [],o,y=>by simp [oo]
 |x::l,o,y=>by
  have:=wB l (kY o x) y;unfold oo at*;rw [List.foldl_cons,this,NU,List.mem_cons]
  constructor
  ·rintro ((h|h)|h)
   ·exact .inl h
   ·exact .inr (.inl h)
   ·exact .inr (.inr h)
  ·rintro (h|h|h)
   ·exact .inl (.inl h)
   ·exact .inl (.inr h)
   ·exact .inr h
theorem NV (o:List Nat) (x:Nat):∃e,kY o x=o++e:=by
 unfold kY
 split
 ·exact ⟨[],by simp⟩
 ·exact ⟨[x],rfl⟩
theorem Cz:∀(l o:List Nat),∃e,oo o l=o++e
 | [],o=>⟨[],by simp [oo]⟩
 |x::l,o=>by
  obtain ⟨e1,h1⟩:=NV o x;obtain ⟨e2,h2⟩:=Cz l (kY o x);refine ⟨e1++e2,?_⟩;unfold oo at*;rw [List.foldl_cons,h2,h1,List.append_assoc]
theorem GU (H:Nat→List Nat) (S:List Nat) (m:Nat) (hH:∀r,∀x∈H r,x<m):∀(f:Nat) (o:List Nat) (i:Nat),S.length+m<f+i→jw S m o→(∀x∈o,NT H S x)→(∀k<i,∀r,o[k]? =some r→∀y∈H r,y∈o)→
  ∀x,x∈zH H f o i↔NT H S x
 |0,o,i,hf,hg,h1,h2=>by
  intro x;rw [zH];have hl:=hg.le;obtain ⟨ex,rfl,_,_⟩:=hg;refine ⟨h1 x,fun h=> ?_⟩
  induction h using NT.ind with
  |base h=>simp [h]
  |step _ hy ih=>
   obtain ⟨k,hk⟩:=List.mem_iff_getElem?.1 ih;have hlt:=(List.getElem?_eq_some_iff.1 hk).1;exact h2 k (by omega) _ hk _ hy
 |f+1,o,i,hf,hg,h1,h2=>by
  intro x;rw [zH]
  cases hi:o[i]? with
  |none=>
   simp only;have hge:=List.getElem?_eq_none_iff.1 hi;obtain ⟨ex,rfl,_,_⟩:=hg;refine ⟨h1 x,fun h=> ?_⟩
   induction h using NT.ind with
   |base h=>simp [h]
   |step _ hy ih=>
    obtain ⟨k,hk⟩:=List.mem_iff_getElem?.1 ih;have hlt:=(List.getElem?_eq_some_iff.1 hk).1;exact h2 k (by omega) _ hk _ hy
  |some r=>
   simp only;have hlt:=(List.getElem?_eq_some_iff.1 hi).1;have hr:=h1 r (List.mem_of_getElem? hi);refine GU H S m hH f _ (i+1) (by omega) (qH _ _ hg (hH r)) (fun y hy=> ?_) (fun k hk r' hr' y hy=> ?_) x
   ·rcases (wB _ _ _).1 hy with h|h
    ·exact h1 y h
    ·exact .step hr h
   ·obtain ⟨e,he⟩:=Cz (H r) o;have hko:k<o.length:=by omega
    rw [he,List.getElem?_append_left hko] at hr';rw [wB]
    rcases Nat.lt_or_ge k i with h|h
    ·exact .inl (h2 k h r' hr' y hy)
    ·have:k=i:=by omega
     subst this;rw [hi] at hr';simp only [Option.some.injEq] at hr';subst hr';exact .inr hy
theorem GV (rl:List RV) (pl:List PV) (bz:Nat→List Gr) (aW:Nat→List Nat) (h:nL rl pl bz aW) (S:List Nat) (x:Nat):x∈Ee rl pl bz aW S↔NT (qG rl pl bz aW) S x:=by
 unfold Ee;refine GU _ S rl.length (fun r x hx=> ?_) _ S 0 (by omega) ⟨[],by simp,by simp,by simp⟩ (fun x hx=> .bz hx) (fun k hk=>by omega) x;unfold qG at hx
 cases hr:rl[r]? with
 |none=>rw [hr] at hx;simp at hx
 |some y=>
  rw [hr] at hx;exact (h y (List.mem_of_getElem? hr)).2.2 x hx
theorem Vb {α:Type} (num:α→Int) (nd:α→List α) (H:Nat→List Nat) (S:List α) (N:List Nat)
  (hS:∀j,j∈N↔∃s∈S,num s=(j:Nat)) (hH:∀(s:α) (j:Nat),num s=j→∀j',j'∈H j↔∃s'∈nd s,num s'=(j':Nat)) (h0:∀s,nd s≠ []→0≤num s) (j:Nat):NT H N j↔∃s,NT nd S s∧num s=j:=by
 constructor
 ·intro h
  induction h using NT.ind with
  |base h=>
   obtain ⟨s,hs,e⟩:=(hS _).1 h;exact ⟨s,.bz hs,e⟩
  |step _ hy ih=>
   obtain ⟨s,hs,e⟩:=ih;obtain ⟨s',hs',e'⟩:=(hH s _ e _).1 hy;exact ⟨s',.step hs hs',e'⟩
 ·rintro ⟨s,h,e⟩
  induction h using NT.ind generalizing j with
  |base h=>exact .bz ((hS _).2 ⟨_,h,e⟩)
  |@step x y _ hy ih=>
   have hx:=h0 x (fun e=>by rw [e] at hy;simp at hy);exact .step (ih (num x).toNat (by omega)) ((hH x (num x).toNat (by omega) _).2 ⟨y,hy,e⟩)
theorem bQ.memr {R:Nat→Ex→Prop}:∀(ns:List Nat) (xs:List Ex),bQ R ns xs→∀x∈xs,∃n∈ns,R n x
 | [],[],_,x,h=>by simp at h
 |n::ns,y::xs,k,x,h=>by
  rcases List.mem_cons.1 h with rfl|h
  ·exact ⟨n,by simp,k.1⟩
  ·obtain ⟨m,hm,hr⟩:=bQ.memr ns xs k.2 x h;exact ⟨m,by simp [hm],hr⟩
 | [],_::_,k,_,_=>k.elim
 |_::_,[],k,_,_=>k.elim
theorem Vd {pl:List PV} {n:Nat} {x y:Ex} (h:Tr pl 1 n x) (k:Tr pl 1 n y):x=y:=by
 obtain ⟨p,hp,h⟩:=h;obtain ⟨q,hq,k⟩:=k;rw [hp] at hq;simp only [Option.some.injEq] at hq;subst hq
 rcases h with ⟨h1,hn,rfl⟩|⟨h1,h0,hn,rfl⟩|⟨h1,h0,hn,rfl⟩|⟨_,_,_,_,_,_,_,h4,_⟩|⟨_,_,_,_,_,_,_,_,h4,_⟩
 ·rcases k with ⟨k1,kn,rfl⟩|⟨k1,k0,kn,rfl⟩|⟨k1,k0,kn,rfl⟩|⟨_,_,_,_,_,_,_,k4,_⟩|⟨_,_,_,_,_,_,_,_,k4,_⟩
  ·rfl
  ·omega
  ·omega
  ·exact k4.elim
  ·exact k4.elim
 ·rcases k with ⟨k1,kn,rfl⟩|⟨k1,k0,kn,rfl⟩|⟨k1,k0,kn,rfl⟩|⟨_,_,_,_,_,_,_,k4,_⟩|⟨_,_,_,_,_,_,_,_,k4,_⟩
  ·omega
  ·rfl
  ·omega
  ·exact k4.elim
  ·exact k4.elim
 ·rcases k with ⟨k1,kn,rfl⟩|⟨k1,k0,kn,rfl⟩|⟨k1,k0,kn,rfl⟩|⟨_,_,_,_,_,_,_,k4,_⟩|⟨_,_,_,_,_,_,_,_,k4,_⟩
  ·omega
  ·omega
  ·rfl
  ·exact k4.elim
  ·exact k4.elim
 ·exact h4.elim
 ·exact h4.elim
theorem kM:∀(x p:Ex),p∈aN x↔p∈ax x∧p.l=none
 |⟨n,some x,some y⟩,p=>by
  have h1:=kM x p;have h2:=kM y p;simp only [aN,ax,List.mem_append,List.mem_singleton,h1,h2]
  constructor
  ·rintro (h|h)
   ·exact ⟨.inl (.inl h.1),h.2⟩
   ·exact ⟨.inr h.1,h.2⟩
  ·rintro ⟨(h|rfl)|h,k⟩
   ·exact .inl ⟨h,k⟩
   ·simp at k
   ·exact .inr ⟨h,k⟩
 |⟨n,none,r⟩,p=>by
  simp only [aN,ax,List.mem_singleton]
  constructor
  ·rintro rfl;exact ⟨rfl,rfl⟩
  ·exact fun h=>h.1
 |⟨n,some x,none⟩,p=>by simp [aN,ax]
theorem mJ (ts:List Ty) (t:Ty) (r:Rl) (y:Ex) (s:Sp):s∈dA ts t r y↔∃e∈aN y,s∈iU ts t r e:=by
 unfold dA;rw [List.mem_flatMap]
 constructor
 ·rintro ⟨p,hp,hs⟩;refine ⟨p,(kM y p).2 ⟨hp,?_⟩,hs⟩;unfold iU at hs
  cases h:p.l with
  |none=>rfl
  |some z=>rw [h] at hs;simp at hs
 ·rintro ⟨p,hp,hs⟩;exact ⟨p,((kM y p).1 hp).1,hs⟩
def Em (ts:List Ty) (t:Ty) (e:Ex):List Sp:=if e.nd.kind=0 then e.nd.gs.filterMap p9 else if e.nd.kind=1 then [(t.name,e.nd.n1)] else (uK ts t e.nd.n1 e.nd.n2).map fun u=>(u.name,e.nd.n2)
structure Kn (pl:List PV) (rl:List RV) (ts:List Ty) (F:Nat):Prop where
 d:gN ts
 b:dE pl rl (aR ts)
 f:dH pl F rl (aR ts)
 g:Cy ts
 n:∀t∈ts,∀r∈t.rels,dh r.name=true
 w:∀t∈ts,∀r∈t.rels,WF r.body
 z:vG ts
 k:∀x∈rl,∀n∈aA pl F x.ex,∀p,pl[n]? =some p→U8 rl x.kd p
section
variable {pl:List PV} {rl:List RV} {ts:List Ty} {F:Nat}
theorem Kn.noName (h:Kn pl rl ts F) (k n:aei) (hn:dh n=false):aQ k n rl 0= -1:=by
 rcases fM h.d h.b k n with ⟨e,_⟩|⟨j,t,r,_,h4,h5,_⟩
 ·exact e
 ·have h1:=(jI h4).1;obtain ⟨h2,h3⟩:=iJ h5;have:=h.n t h1 r h2;rw [h3,hn] at this
  cases this
theorem Kn.hash (h:Kn pl rl ts F) (g:Gr) (hg:mG g) (j:Nat):j∈dL rl g↔∃s,p9 g=some s∧aQ s.1 s.2 rl 0=j:=by
 unfold dL p9
 rcases hg with ⟨h1,h2⟩|h1|⟨h1,h2⟩
 ·have e:bB g=em:=by unfold bB;rw [if_neg (by omega),h2]
  rw [e,h.noName g.ty em Eh,if_neg (by omega),if_neg (by omega)];simp
 ·have e:bB g=sg 42:=by unfold bB;rw [if_pos h1]
  rw [e,h.noName g.ty (sg 42) Cx,if_neg (by omega),if_neg (by omega)];simp
 ·rw [wy h1,if_pos h1]
  constructor
  ·intro hj
   split at hj
   ·rw [List.mem_singleton] at hj;exact ⟨_,rfl,by simp only;omega⟩
   ·simp at hj
  ·rintro ⟨s,e,hs⟩;simp only [Option.some.injEq] at e;subst e;simp only at hs;rw [if_pos (by omega),List.mem_singleton];omega
theorem Kn.gof (h:Kn pl rl ts F) {j:Nat} {k:aei} {r:Rl} (hj:(aR ts)[j]? =some (k,r)):fZ rl pl (aA pl F) j=bH r.body:=by
 obtain ⟨x,hx,_,_,_,htr⟩:=dH.get rl _ j _ h.f hj;unfold fZ;rw [hx,dI];exact oq _ _ (dB pl F _ _ htr)
theorem Kn.allg (h:Kn pl rl ts F) {t:Ty} (ht:t∈ts) {r:Rl} (hr:r∈t.rels):∀g∈bH r.body,mG g:=by
 rw [dI];intro g hg';obtain ⟨e',he',YL⟩:=List.mem_flatMap.1 hg';exact h.g t ht r hr e' he' g YL
theorem Kn.tie (h:Kn pl rl ts F) (y:aei) (g:Gr) (hg:mG g) (j:Nat):j∈jH rl y g↔∃u,lu ts y g=some u∧aQ u.name y rl 0=j:=by
 rcases GH h.d h.b y g hg with ⟨e1,e2⟩|⟨i,u,r,e1,e2,h5,h6⟩
 ·rw [e1,e2];simp
 ·have hn:aQ u.name y rl 0=(i:Int):=by
   have e3:=e1;unfold jH at e3
   split at e3
   ·rename_i hc;rw [Bool.and_eq_true,decide_eq_true_eq] at hc;simp only [List.cons.injEq,and_true] at e3;have e4:u.name=g.ty:=by
     unfold lu at e2
     split at e2
     ·split at e2
      ·cases e2
      ·rename_i v hv
       split at e2
       ·simp only [Option.some.injEq] at e2;subst e2;exact (jI hv).2
       ·cases e2
     ·cases e2
    rw [e4];omega
   ·cases e3
  rw [e1,e2,List.mem_singleton]
  constructor
  ·rintro rfl;exact ⟨u,rfl,hn⟩
  ·rintro ⟨v,e,hv⟩;simp only [Option.some.injEq] at e;subst e;omega
theorem Kn.leaf (h:Kn pl rl ts F) (t:Ty) (ht:t∈ts) (n:Nat) (e:Ex) (k:Tr pl 1 n e) (he:∀g∈fw e,mG g) (hn:∀p,pl[n]? =some p→U8 rl t.name p) (j:Nat):j∈wo (iT rl (fZ rl pl (aA pl F)) t.name) pl n↔∃s∈Em ts t e,aQ s.1 s.2 rl 0=j:=by
 obtain ⟨p,hp,k⟩:=k;have hn:=hn p hp;unfold wo;rw [hp];simp only;unfold iT Em
 rcases k with ⟨h1,hk,rfl⟩|⟨h1,h0,hk,rfl⟩|⟨h1,h0,hk,rfl⟩|⟨_,_,_,_,_,_,_,h4,_⟩|⟨_,_,_,_,_,_,_,_,h4,_⟩
 ·simp only [h1,Nat.reduceEqDiff,if_false,List.append_nil,if_true,List.mem_flatMap,List.mem_filterMap];have he':∀g∈p.gs,mG g:=by simpa [fw] using he
  constructor
  ·rintro ⟨g,hg,hj⟩;obtain ⟨s,e1,e2⟩:=(h.hash g (he' g hg) j).1 hj;exact ⟨s,⟨g,hg,e1⟩,e2⟩
  ·rintro ⟨s,⟨g,hg,e1⟩,e2⟩;exact ⟨g,hg,(h.hash g (he' g hg) j).2 ⟨s,e1,e2⟩⟩
 ·have h2:=hn.1 h1;simp only [h0,h1,Nat.reduceEqDiff,if_false,if_true,List.flatMap_nil,List.nil_append,List.mem_singleton]
  constructor
  ·intro hj;exact ⟨_,rfl,by simp only;omega⟩
  ·rintro ⟨s,rfl,hs⟩;simp only at hs;omega
 ·have h2:=hn.2 h1;simp only [h0,h1,Nat.reduceEqDiff,if_false,if_true,List.flatMap_nil,List.nil_append]
  rcases fM h.d h.b t.name p.nb with ⟨e1,_⟩|⟨i,t',r,e1,h4,h5,h6⟩
  ·omega
  ·rw [dC h.d ht] at h4;simp only [Option.some.injEq] at h4;subst h4;have hrm:=(iJ h5).1;rw [e1,Int.toNat_natCast,h.gof h6];unfold gM uK;rw [h5];simp only [List.mem_flatMap,List.mem_map,List.mem_filterMap];have ha:=h.allg ht hrm
   constructor
   ·rintro ⟨g,hg,hj⟩;obtain ⟨u,e2,e3⟩:=(h.tie p.nr g (ha g hg) j).1 hj;exact ⟨_,⟨u,⟨g,hg,e2⟩,rfl⟩,e3⟩
   ·rintro ⟨s,⟨u,⟨g,hg,e2⟩,rfl⟩,e3⟩;exact ⟨g,hg,(h.tie p.nr g (ha g hg) j).2 ⟨u,e2,e3⟩⟩
 ·exact h4.elim
 ·exact h4.elim
end
def AZ (g:Gr):Prop:=g.reach=1→g.rel=em
section
variable (T:Nat→aei) (P:Nat→Nat)
theorem NY (i:Nat) (g:Gr) (j:Nat) (h:bD T P i=.ok (g,j)):AZ g:=by
 unfold bD at h
 split at h
 ·simp at h
 ·split at h
  ·simp only [Except.ok.injEq,Prod.mk.injEq] at h;rw [←h.1];exact fun _=>rfl
  ·split at h
   ·split at h
    ·simp at h
    ·simp only [Except.ok.injEq,Prod.mk.injEq] at h;rw [←h.1];exact fun e=>by simp at e
   ·simp only [Except.ok.injEq,Prod.mk.injEq] at h;rw [←h.1];exact fun _=>rfl
theorem GY:∀f acc i gs j,eY T P f acc i=.ok (gs,j)→(∀g∈acc,AZ g)→∀g∈gs,AZ g
 |0,acc,i,gs,j,h,_=>by simp [eY] at h
 |f+1,acc,i,gs,j,h,ha=>by
  unfold eY at h
  split at h
  ·simp at h
  ·rename_i g0 j0 hg;have h0:=NY T P _ _ _ hg;have h1:∀g∈acc++[g0],AZ g:=fun g hg=>by
    rcases List.mem_append.1 hg with hg|hg
    ·exact ha g hg
    ·rw [List.mem_singleton] at hg;rw [hg];exact h0
   split at h
   ·exact GY f _ _ _ _ h h1
   ·split at h
    ·simp only [Except.ok.injEq,Prod.mk.injEq] at h;rw [←h.1];exact h1
    ·simp at h
def GE (r:Nat→dM Ex):Prop:=∀i x j,r i=.ok (x,j)→∀e∈aN x,∀g∈fw e,AZ g
theorem GZ (l:List aei) (part:Nat→dM Ex) (hp:GE part):∀f y i x j,joinL T P l part f y i=.ok (x,j)→(∀e∈aN y,∀g∈fw e,AZ g)→∀e∈aN x,∀g∈fw e,AZ g
 |0,y,i,x,j,h,_=>by simp [joinL] at h
 |f+1,y,i,x,j,h,ha=>by
  unfold joinL at h
  split at h
  ·split at h
   ·simp at h
   ·rename_i z j1 hz;refine GZ l part hp f _ j1 x j h (fun e he=> ?_);simp only [jZ,aN,List.mem_append] at he
    rcases he with he|he
    ·exact ha e he
    ·exact hp _ _ _ hz e he
  ·simp only [Except.ok.injEq,Prod.mk.injEq] at h;rw [←h.1];exact ha
theorem vH (l:List aei) (part:Nat→dM Ex) (hp:GE part):GE (gJ T P l part):=by
 intro i x j h;unfold gJ at h
 split at h
 ·simp at h
 ·rename_i y j1 hy;exact GZ T P l part hp _ _ _ x j h (hp _ _ _ hy)
theorem G8 (room:Bool) (inner:Nat→dM Ex) (hp:GE inner):GE (gY T P room inner):=by
 intro i x j h;unfold gY at h
 split at h
 ·unfold pR at h
  split at h
  ·simp at h
  ·rename_i gs j1 hl;simp only [Except.ok.injEq,Prod.mk.injEq] at h;rw [←h.1];intro e he g hg;simp only [KQ,aN,List.mem_singleton] at he;subst he;exact GY T P _ _ _ _ _ hl (by simp) g (by simpa [fw] using hg)
 ·split at h
  ·split at h
   ·split at h
    ·simp at h
    ·rename_i y j1 hy
     split at h
     ·simp only [Except.ok.injEq,Prod.mk.injEq] at h;rw [←h.1];exact hp _ _ _ hy
     ·simp at h
   ·simp at h
  ·unfold lW at h
   split at h
   ·simp at h
   ·split at h
    ·split at h
     ·simp at h
     ·simp only [Except.ok.injEq,Prod.mk.injEq] at h;rw [←h.1];intro e he g hg;simp only [aN,List.mem_singleton] at he;subst he;simp [fw] at hg
    ·simp only [Except.ok.injEq,Prod.mk.injEq] at h;rw [←h.1];intro e he g hg;simp only [aN,List.mem_singleton] at he;subst he;simp [fw] at hg
theorem G9:∀n,GE (gZ T P n)
 |0=>vH T P _ _ (vH T P _ _ (G8 T P false _ (fun i x j h=>by simp at h)))
 |n+1=>vH T P _ _ (vH T P _ _ (G8 T P true _ (G9 n)))
end
theorem YM {s:aei} {ts:List Ty} {m:Nat} (h:gF (TT s) (PP s)=.ok (ts,m)):∀t∈ts,∀r∈t.rels,∀g∈bH r.body,AZ g:=fun t ht r hr g hg=>by
 obtain ⟨_,i0,j0,h1,_⟩:=tX h t ht r hr;rw [dI] at hg;obtain ⟨e,he,hg⟩:=List.mem_flatMap.1 hg;exact G9 (TT s) (PP s) 4 _ _ _ h1 e he g hg
theorem Ve {ts:List Ty} (h:Cy ts):∀t∈ts,∀r∈t.rels,∀g∈bH r.body,mG g:=fun t ht r hr g hg=>by
 rw [dI] at hg;obtain ⟨e,he,hg⟩:=List.mem_flatMap.1 hg;exact h t ht r hr e he g hg
