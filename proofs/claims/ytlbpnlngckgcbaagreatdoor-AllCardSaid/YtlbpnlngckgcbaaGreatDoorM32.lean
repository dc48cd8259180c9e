import Derived.Test.YtlbpnlngckgcbaaGreatDoorM24
import Derived.Test.YtlbpnlngckgcbaaGreatDoorM28
import Derived.Test.YtlbpnlngckgcbaaGreatDoorM25
set_option linter.all false
set_option maxHeartbeats 4000000
set_option maxRecDepth 100000
namespace Go.Proofs.YtlbpnlngckgcbaaGreatDoor
open Go.RowKit Go.PlainAid Go.Proofs.Tryz
variable {aD bq:Prop} {α:Type} {a b n f F m p c j:Nat} {hl:List Hd} {pl:List PV} {ts:List Ty} {t:Ty} {rl:List RV} {s:ae} {w:af} {kv rv pv:ag}
def SS (h:aD:=by
 rw [Gm];exact .inr hs):aD:=h
def Gm(kd id:ae)(ts:List Tu)(rel:ae):Ex->Sj->Prop
 |⟨_,some x,some y⟩,s=>Gm kd id ts rel x s\/Gm kd id ts rel y s
 |⟨n,none,_⟩,s=>(n.kind=0/\∃t∈ts,t.rel=rel/\¬t.of.size=0/\s=e9 t)\/(n.kind=1/\s=⟨kd,id,n.n1⟩)\/(¬n.kind=0/\¬n.kind=1/\∃t∈ts,t.rel=n.n1/\t.of.size=0/\s=⟨t.sub,t.who,n.n2⟩)
 |⟨_,some _,none⟩,_=>False
def Nh(kd id:ae)(ts:List Tu)(rel:ae):Ex->Sj->Prop
 |⟨n,some x,some y⟩,s=>Nh kd id ts rel x s\/(if n.kind=3\/n.kind=4 then Nh kd id ts rel y s else Gm kd id ts rel y s)
 |_,_=>False
section
variable {kp Gl kn kn':Sj->Bool}{who:Tg}{kd id:ae}{ts:List Tu}{rel:ae}
def j5{α:Type}{f g:α->Bool}:∀{l:List α},(∀x∈l,f x=g x)->l.any f=l.any g
 | [],_=>rfl
 |x::l,h=>by rw [kj,kj,h x ar,j5 (fun y A=>h y (by simp [A]))]
def gw:∀e,(∀s,Gm kd id ts rel e s->kp s=Gl s)->cV kp who kd id ts rel e=cV Gl who kd id ts rel e
 |⟨n,some x,some y⟩,h=>by
  rw [cV,cV,gw x (fun s hs=>h s (by rw [Gm];exact .inl hs)),gw y (fun s hs=>h s SS)]
 |⟨n,none,r⟩,h=>by
  rw [cV,cV]
  split
  ·rename_i h0;refine j5 (fun t C=> ?_)
   by_cases A:t.rel=rel
   ·unfold hA
    split
    ·rfl
    rename_i h2;rw [h (e9 t) (by rw [Gm];exact .inl ⟨h0,t,C,A,h2,rfl⟩)]
   simp [A]
  rename_i h0
  split
  ·rename_i h1;exact h _ (by rw [Gm];exact .inr (.inl ⟨h1,rfl⟩))
  rename_i h1;refine j5 (fun t C=> ?_)
  by_cases A:t.rel=n.n1
  ·unfold IZ
   split
   ·rename_i h2;rw [h ⟨(e9 t).kind,(e9 t).id,n.n2⟩ (by rw [Gm];exact .inr (.inr ⟨h0,h1,t,C,A,h2,rfl⟩))]
   rfl
  simp [A]
 |⟨n,some x,none⟩,h=>by rw [cV,cV]
def gx:∀e,(∀s,Gm kd id ts rel e s->kp s=Gl s)->(∀s,Nh kd id ts rel e s->kn s=kn' s)->iz kp kn who kd id ts rel e=iz Gl kn' who kd id ts rel e
 |⟨n,some x,some y⟩,h,g=>by
  have D:=gx x (fun s hs=>h s (by rw [Gm];exact .inl hs)) (fun s hs=>g s (by rw [Nh];exact .inl hs));rw [iz,iz,D]
  by_cases A:n.kind=3
  ·rw [if_pos A,if_pos A,gx y (fun s hs=>h s SS) (fun s hs=>g s (by rw [Nh,if_pos (.inl A)];exact .inr hs))]
  rw [if_neg A,if_neg A]
  by_cases C:n.kind=4
  ·rw [if_pos C,if_pos C,gx y (fun s hs=>h s SS) (fun s hs=>g s (by rw [Nh,if_pos (.inr C)];exact .inr hs))]
  rw [if_neg C,if_neg C,gw y (fun s hs=>g s (by rw [Nh,if_neg (by omega)];exact .inr hs))]
 |⟨n,none,r⟩,h,g=>gw _ h
 |⟨n,some x,none⟩,h,g=>gw _ h
def Fw{f g:α->Bool}{l:List α}(h:∀x,f x=true->g x=true)(A:l.any f=true):l.any g=true:=by
 rw [dg] at A ⊢;obtain ⟨x,C,D⟩:=A;exact ⟨x,C,h x D⟩
def hD(C:∀s,kp s=true->Gl s=true):∀e,iz kp kn who kd id ts rel e=true->iz Gl kn who kd id ts rel e=true
 |⟨n,some x,some y⟩,h=>by
  have D:=hD C x;have Q:=hD C y;rw [iz] at h ⊢
  by_cases I:n.kind=3
  ·rw [if_pos I] at h ⊢;rw [lg] at h ⊢;exact h.imp D Q
  rw [if_neg I] at h ⊢
  by_cases J:n.kind=4
  ·rw [if_pos J] at h ⊢;rw [bO] at h ⊢;exact ⟨D h.1,Q h.2⟩
  rw [if_neg J] at h ⊢;rw [bO] at h ⊢;exact ⟨D h.1,h.2⟩
 |⟨n,none,r⟩,h=>by
  change cV kp who kd id ts rel _=true at h;change cV Gl who kd id ts rel _=true;rw [cV] at h ⊢
  split
  ·rename_i h0;rw [if_pos h0] at h;refine Fw (fun t A=> ?_) h;rw [bO] at A ⊢;refine ⟨A.1,?_⟩;have:=A.2;unfold hA at this ⊢
   split
   ·rename_i h2;rw [if_pos h2] at this;exact this
   rename_i h2;rw [if_neg h2] at this;exact C _ this
  rename_i h0;rw [if_neg h0] at h
  split
  ·rename_i h1;rw [if_pos h1] at h;exact C _ h
  rename_i h1;rw [if_neg h1] at h;refine Fw (fun t A=> ?_) h;rw [bO] at A ⊢;refine ⟨A.1,?_⟩;have:=A.2;unfold IZ at this ⊢
  split
  ·rename_i h2;rw [if_pos h2] at this;exact C _ this
  rename_i h2;rw [if_neg h2] at this;exact this
 |⟨n,some x,none⟩,h=>by
  change cV kp who kd id ts rel _=true at h;rw [cV] at h
  cases h
end
abbrev xD:=@List.sum_cons
def s9(a b:Nat):Prop:=∀i,a.testBit i=true->b.testBit i=true
def pop(a:Nat):Nat:=(List.range 64).countP fun i=>a.testBit i
def td{α:Type}{p C:α->Bool}(h:∀x,p x=true->C x=true):∀l:List α,l.countP p<=l.countP C
 | []=>ar
 |x::l=>by
  have D:=td h l;rw [List.countP_cons,List.countP_cons]
  by_cases A:p x=true
  ·simp [A,h x A,D]
  simp only [Bool.not_eq_true] at A;rw [A];simp;omega
def te{α:Type}{p D:α->Bool}(h:∀x,p x=true->D x=true):∀(l:List α)(x:α),x∈l->D x=true->p x=false->l.countP p<l.countP D
 | [],x,A,_,_=>by cases A
 |y::l,x,A,hq,hp=>by
  rw [List.countP_cons,List.countP_cons]
  rcases cG.1 A with rfl|A
  ·have:=td h l;rw [hp,hq];simp;omega
  have:=te h l x A hq hp
  by_cases C:p y=true
  ·simp [C,h y C,this]
  simp only [Bool.not_eq_true] at C;rw [C];simp;omega
def ZA(a):pop a<=64:=by
 have:=List.countP_le_length (p:=fun i=>a.testBit i) (l:=List.range 64)
 simpa [pop] using this
def ZB(A:b<18446744073709551616)(h:s9 a b)(C:a≠b):pop a<pop b:=by
 have:∃i,b.testBit i=true/\a.testBit i=false:=by
  apply Classical.byContradiction;intro hn;apply C;apply Nat.eq_of_testBit_eq;intro i
  cases ha:a.testBit i with
  |true=>rw [h i ha]
  |false=>
   cases A:b.testBit i with
   |false=>rfl
   |true=>exact absurd ⟨i,A,ha⟩ hn
 obtain ⟨i,h1,h2⟩:=this;have hi:i<64:=by
  apply Classical.byContradiction;intro hn;rw [Nat.testBit_lt_two_pow (cM A (Nat.pow_le_pow_right (n:=2) ai (show 64<=i by omega)))] at h1
  cases h1
 exact te (fun x D=>h x D) _ i (List.mem_range.2 hi) h1 h2
def Fx(h:s9 a b):pop a<=pop b:=td (fun x A=>h x A) _
def ju(l:List Sj)(K:Sj->Nat):Nat:=(l.map fun s=>64-pop (K s)).sum
def KU{K K'}(h:∀s,s9 (K s) (K' s)):∀l,ju l K'<=ju l K
 | []=>by simp [ju]
 |s::l=>by
  have A:=KU h l;have:=Fx (h s);unfold ju at A ⊢;rw [bY,bY,xD,xD];omega
def KV{K K'}(h:∀s,s9 (K s) (K' s)){s}(A:K' s<18446744073709551616)(C:K s≠K' s):∀l,s∈l->ju l K'<ju l K
 | [],hs=>by cases hs
 |t::l,hs=>by
  unfold ju;rw [bY,bY,xD,xD]
  rcases cG.1 hs with rfl|hs
  ·have h1:=KU h l;have h2:=ZB A (h s) C;have D:=ZA (K' s);unfold ju at h1;omega
  have h1:=KV h A C l hs;have h2:=Fx (h t);unfold ju at h1;omega
def Am(K):∀l,ju l K<=64*l.length
 | []=>by simp [ju]
 |s::l=>by
  have:=Am K l;unfold ju at this ⊢;rw [bY,xD,iO];omega
def o3(n a:Nat):Prop:=∀i,n<=i->a.testBit i=false
def qq(A:n<=64)(h:o3 n a):a<18446744073709551616:=by
 apply Nat.lt_pow_two_of_testBit (n:=64);intro i hi;exact h i ai
def lS(v)(A:∀s,o3 v.cs.length (v.K s))(rel):∀e,o3 v.cs.length (eg v rel e)
 |⟨n,some x,some y⟩=>fun i hi=>by
  have C:=lS v A rel x i hi;have J:=lS v A rel y i hi;unfold eg
  split
  ·rw [xA,C,J];rfl
  split
  ·simp
  split
  ·rw [xB,C];simp
  unfold rA;rw [Nat.testBit_and,C];simp
 |⟨n,none,r⟩=>fun i hi=>by
  have I:∀t,(ja v.K v.cs (e9 t)).testBit i=false:=fun t=>by
   unfold ja
   split
   ·rw [xC];have:¬i<v.cs.length:=ai;simp [this]
   exact A _ i hi
  have D:∀t,(s4 v.K (e9 t) n.n2).testBit i=false:=fun t=>by
   unfold s4
   split
   ·exact A _ i hi
   simp
  unfold eg
  split
  ·rw [lR];simp [I]
  split
  ·exact A _ i hi
  rw [lR];simp [D]
 |⟨_,some _,none⟩=>fun i hi=>by
  unfold eg;simp
def ZC(ls:List (It×ag))(hl:List Hd)(s:Sj):Prop:=∃p∈ls,∃h∈hl,h.kd=p.1.1.1.name/\s=j0 p h
def Fy(ls:List (It×ag))(hl:List Hd):List Sj:=ls.flatMap fun p=>hl.map fun h=>j0 p h
structure SU(ls:List (It×ag))(hl:List Hd):Prop where
 hds:∀h∈hl,∀h'∈hl,h.kd=h'.kd->h.id=h'.id->h=h'
 lns:∀p∈ls,∀q∈ls,p.1.1.1.name=q.1.1.1.name->p.1.2.1.name=q.1.2.1.name->p.1.2.1.body=q.1.2.1.body
 str:∀p∈ls,∀h∈hl,h.kd=p.1.1.1.name->∀s,Nh h.kd h.id h.ts p.1.2.1.name p.1.2.1.body s->¬ZC ls hl s
structure aa9(cs:List Tg)(ls:List (It×ag))(hl:List Hd)(K0 K:Sj->Nat):Prop where
 out:∀s,o3 cs.length (K s)
 old:∀s,¬ZC ls hl s->K s=K0 s
 sub:∀p∈ls,∀h∈hl,h.kd=p.1.1.1.name->s9 (K (j0 p h)) (uf K cs p h)
def Fz{cs}(A:cs.length<=64){K K'}(h1:∀s,o3 cs.length (K s))(h2:∀s,o3 cs.length (K' s))(I:∀s,s9 (K s) (K' s)){p:It×ag}{h}(J:∀s,Nh h.kd h.id h.ts p.1.2.1.name p.1.2.1.body s->K s=K' s):s9 (uf K cs p h) (uf K' cs p h):=by
 intro i hi;unfold uf at hi ⊢
 by_cases C:i<cs.length
 ·have D:cs[i]? =some cs[i]:=aI C;rw [oi (UN K cs h) (fun s=>qq A (h1 s)) A D] at hi;rw [oi (UN K' cs h) (fun s=>qq A (h2 s)) A D];rw [<-gu] at hi ⊢;dsimp only [UN] at hi ⊢;rw [<-gx (kp:=fun s=>(K' s).testBit i) (kn:=fun s=>(K s).testBit i) p.1.2.1.body (fun s _=>rfl) (fun s hs=>by show (K s).testBit i=(K' s).testBit i;rw [J s hs])];exact hD (fun s hs=>I s i hs) _ hi
 rw [lS (UN K cs h) h1 _ _ i (by simpa [UN] using C)] at hi
 cases hi
def tf{cs:List Tg}{ls:List (It×ag)}(R:cs.length<=64)(Y:SU ls hl)(ad:Sj->Nat):SeC cs hl ls (aa9 cs ls hl ad) (ju (Fy ls hl)) where
 bits:=fun K I s=>qq R (I.out s)
 val:=fun K I p Q h J _=>qq R (lS (UN K cs h) I.out _ _)
 step:=fun K I p Q h J Z aj=>by
  have ah:o3 cs.length (uf K cs p h):=lS (UN K cs h) I.out _ _;have ac:ZC ls hl (j0 p h):=⟨p,Q,h,J,Z,rfl⟩;have hs:∀s,s9 (K s) (m5 K (j0 p h) (uf K cs p h) s):=fun s=>by
   unfold m5
   split
   ·rename_i e;rw [e];exact I.sub p Q h J Z
   exact fun i hi=>hi
  have ho:∀s,o3 cs.length (m5 K (j0 p h) (uf K cs p h) s):=fun s=>by
   unfold m5
   split
   ·exact ah
   exact I.out s
  have U:∀q∈ls,∀A∈hl,A.kd=q.1.1.1.name->s9 (uf K cs q A) (uf (m5 K (j0 p h) (uf K cs p h)) cs q A):=fun q U A C D=>
   Fz R I.out ho hs (fun s ai=>by
    unfold m5;rw [if_neg (fun e=>Y.str q U A C D s ai (by rw [e];exact ac))])
  refine ⟨⟨ho,fun s hn=> ?_,fun q V A C D=> ?_⟩,?_⟩
  ·unfold m5;rw [if_neg (fun e=>hn (by rw [e];exact ac))];exact I.old s hn
  ·by_cases e:j0 q A=j0 p h
   ·have e1:A=h:=Y.hds A C h J (congrArg Sj.kind e) (congrArg Sj.id e);subst e1;have ab:q.1.2.1.name=p.1.2.1.name:=congrArg Sj.rel e;have ae:=Y.lns q V p Q (by rw [<-D,<-Z]) ab;have af:uf K cs p A=uf K cs q A:=by unfold uf;rw [ab,ae]
    rw [e,show m5 K (j0 p A) (uf K cs p A) (j0 p A)=uf K cs p A from if_pos rfl];exact fun i hi=>U q V A C D i (by rw [<-af];exact hi)
   rw [show m5 K (j0 p h) (uf K cs p h) (j0 q A)=K (j0 q A) from if_neg e];exact fun i hi=>U q V A C D i (I.sub q V A C D i hi)
  exact KV hs (s:=j0 p h) (qq R (ho _)) (by rw [show m5 K (j0 p h) (uf K cs p h) (j0 p h)=uf K cs p h from if_pos rfl];exact fun e=>aj e.symm) _ (bZ.2 ⟨p,Q,aU.2 ⟨h,J,rfl⟩⟩)
def de(a b:ae):bB (a++b)=bB a++bB b:=by
 show (a++b).data.toList=a.data.toList++b.data.toList
 rw [ByteArray.data_append,Array.toList_append]
def Dd{a b:ae}(h:bB a=bB b):a=b:=by rw [<-cW a,<-cW b,h]
def Uq(s:ae)(i:Nat)(g:Gr)(h:iG g):bB (Cl s i g)=bB (i7 s i)++bB (fH g):=by
 unfold Cl pu fH
 rcases h with ⟨h1,h2⟩|h1|⟨h1,h2⟩
 ·have e:bH g=em:=by unfold bH;rw [if_neg ai,h2]
  rw [e,(bz em em).2 rfl,if_neg (show ¬g.reach=1 by omega),if_neg (show ¬g.reach=2 by omega)];simp only [so,if_true,de,ct];simp [em,bB]
 ·have e:bH g=sg 42:=by unfold bH;rw [if_pos h1]
  rw [e,(bz (sg 42) (sg 42)).2 rfl,if_pos h1];simp only [Bool.or_true,if_true,de,ct]
 have e1:eqs g.rel em=false:=by
  exact Ir
 have A:eqs g.rel (sg 42)=false:=by
  exact Rk
 rw [oK h1,e1,A,if_neg (show ¬g.reach=1 by omega),if_pos h1];simp only [Bool.or_self,bJ,aZ,de,ct]
def Gb:∀(gs:List Gr)(i:Nat)(s:ae),0<i->(∀g∈gs,iG g)->bB (m4 gs i s)=bB s++gs.flatMap fun g=>[44,32]++bB (fH g)
 | [],i,s,_,_=>by simp [m4]
 |g::gs,i,s,hi,h=>by
  rw [m4,Gb gs (i+1) _ ai (fun g A=>h g (by simp [A])),Uq s i g (h g ar),i7,if_pos hi,de,bM];simp [xf,bB]
def pz:∀(rs:List (ae×Nat×Ex)) (x:Ex),(∀r∈rs,r.1=sg 124)->bB (aO (cb x rs))=bB (aO x)++rs.flatMap fun r=>bB mB++bB (aO r.2.2)
 | [],x,_=>by simp [cb]
 |(t,p,y)::rs,x,h=>by
  have e:t=sg 124:=h (t,p,y) ar;rw [cb,pz rs _ (fun r hr=>h r q8)];simp only [dF,aO,e,show kindOf (sg 124)=3 from ax,if_true,de,bM,ct]
def Ur(t:ae):ae:=if kindOf t=4 then wo else wq
def pA:∀(rs:List (ae×Nat×Ex)) (x:Ex),(∀r∈rs,r.1=sg 38\/r.1=sg 45)->rs≠ []->bB (aO (cb x rs))=bB (dZ x (aO x) 1)++rs.flatMap fun r=>bB (Ur r.1)++bB (dZ r.2.2 (aO r.2.2) 2)
 | [],x,_,h=>absurd rfl h
 | [(t,p,y)],x,h,_=>by
  have e:t=sg 38\/t=sg 45:=h (t,p,y) ar;have k:¬kindOf t=3:=by rcases e with rfl|rfl<;>decide
  simp only [cb,dF,aO,if_neg k,de,bM,jI,dU,ct,Ur]
 |(t,p,y)::r2::rs,x,h,_=>by
  have e:t=sg 38\/t=sg 45:=h (t,p,y) ar;have k:¬kindOf t=3:=by rcases e with rfl|rfl<;>decide
  rw [cb,pA (r2::rs) _ (fun r hr=>h r q8) ar,bM (x:=(t,p,y))];have A:dZ (dF t p x y) (aO (dF t p x y)) 1=aO (dF t p x y):=by
   unfold dZ;rw [if_neg];simp [wn,dF,k]
  rw [A];simp only [dF,aO,if_neg k,de,ct,Ur]
def m8(pl:List PV):Nat->Nat->Bool->Bool->ae
 |0,_,_,_=>em
 |f+1,n,u,d=>match pl[n]? with
  |none=>em
  |some p=>if p.kind=1 then (sg 91++m4 p.gs 0 em)++sg 93 else if p.kind=2 then p.nr else if p.kind=3 then (p.nb++sg 46)++p.nr else if p.kind=4 then UY d (Dc (m8 pl f) p.ps p.sg 0 em) else UY u (iJ (m8 pl f) p.ps 0 em)
def Us(y:Ex)(u d:Bool):ae:=UY (match y.l with
 |none=>false
 |some _=>if y.nd.kind=3 then u else d) (aO y)
def W5(y:Ex):Us y true true=dZ y (aO y) 2:=by
 unfold Us dZ UY wn
 cases y.l with
 |none=>simp
 |some z=>by_cases h:y.nd.kind=3<;>simp [h]
def W6(y:Ex):Us y true false=dZ y (aO y) 1:=by
 unfold Us dZ UY wn
 cases y.l with
 |none=>simp
 |some z=>by_cases h:y.nd.kind=3<;>simp [h]
def rQ(y:Ex):Us y false false=aO y:=by
 unfold Us UY
 cases y.l with
 |none=>simp
 |some z=>by_cases h:y.nd.kind=3<;>simp [h]
def Lu(gs:List Gr)(h:∀g∈gs,iG g):(sg 91++m4 gs 0 em)++sg 93=qS gs:=by
 unfold qS
 congr 2
 refine Dd ?_;rw [j6]
 cases gs with
 |nil=>rfl
 |cons g gs=>
  rw [m4,Gb gs 1 _ ai (fun g A=>h g (by simp [A])),Uq em 0 g (h g ar)];unfold lK;rw [bY,bY,Lib.join_cons];unfold Lib.joinTail i7;simp only [Nat.lt_irrefl,aZ,fU,List.flatMap];simp [em,bB,Function.comp_def]
def Gc{R:Nat->Ex->Prop}(A:Nat->Bool->Bool->ae)(C:∀n y,R n y->A n false false=aO y):∀(rs:List (ae×Nat×Ex)) (ns:List Nat) (k:Nat) (s:ae),0<k->cu R ns (rs.map fun r=>r.2.2)->bB (iJ A ns k s)=bB s++rs.flatMap fun r=>bB mB++bB (aO r.2.2)
 | [],[],k,s,_,_=>by simp [iJ]
 |r::rs,n::ns,k,s,hk,h=>by
  have e:A n false false=aO r.2.2:=C n _ h.1;rw [iJ,Gc A C rs ns (k+1) _ ai h.2,de,F9,if_pos hk,de,e,bM];simp only [ct]
  rfl
 | [],_::_,_,_,_,h=>h.elim
 |_::_,[],_,_,_,h=>h.elim
def W8(t:ae)(h:t=sg 38\/t=sg 45):bB (sg 32)++(bB t++bB (sg 32))=bB (Ur t):=by
 rcases h with rfl|rfl<;>rfl
def AJ{R:Nat->Ex->Prop}(A:Nat->Bool->Bool->ae)(C:∀n y,R n y->A n true true=dZ y (aO y) 2):∀(rs:List (ae×Nat×Ex)) (ns:List Nat) (k:Nat) (s:ae),0<k->(∀r∈rs,r.1=sg 38\/r.1=sg 45)->cu R ns (rs.map fun r=>r.2.2)->bB (Dc A ns (rs.map fun r=>⟨bB r.1,r.2.1,false⟩) k s)=bB s++rs.flatMap fun r=>bB (Ur r.1)++bB (dZ r.2.2 (aO r.2.2) 2)
 | [],[],k,s,_,_,_=>by simp [Dc]
 |r::rs,n::ns,k,s,hk,hs,h=>by
  have e:A n true true=dZ r.2.2 (aO r.2.2) 2:=C n _ h.1;rw [bY,Dc,AJ A C rs ns (k+1) _ ai (fun r hr=>hs r q8) h.2,de,ov,if_pos hk,kV hk,e,bM,<-W8 r.1 (hs r ar)];simp only [de,ct,cW]
 | [],_::_,_,_,_,_,h=>h.elim
 |_::_,[],_,_,_,_,h=>h.elim
structure Gp(y:Ex):Prop where
 z:Sz y
 g:∀e∈aN y,∀g∈eO e,iG g
 p:(aF y).length<=1000
 a:(bS y).length<=1000
def ow:∀(rs:List (ae×Nat×Ex)) (x:Ex),(∀p∈aF x,p∈aF (cb x rs))/\∀r∈rs,∀p∈aF r.2.2,p∈aF (cb x rs)
 | [],x=>⟨fun p A=>A,ar⟩
 |(t,q,y)::rs,x=>by
  obtain ⟨h1,h2⟩:=ow rs (dF t q x y);refine ⟨fun p A=>h1 p (by simp [dF,aF,A]),fun r C p A=> ?_⟩
  rcases List.mem_cons.1 C with rfl|C
  ·exact h1 p (by simp [dF,aF,A])
  exact h2 r C p A
def AK:∀(rs:List (ae×Nat×Ex)) (x:Ex),(bS (cb x rs)).length=(bS x).length+(rs.map fun r=>(bS r.2.2).length).sum
 | [],x=>by simp [cb]
 |(t,q,y)::rs,x=>by
  rw [cb,AK rs];simp only [dt,dF,aN,cN,bf,bY,List.sum_cons];omega
def yt(z:ae×Nat×Ex->Nat):∀(l:List (ae×Nat×Ex)),∀m∈l,z m<=(l.map z).sum
 |a::l,m,h=>by
  simp only [bY,List.sum_cons]
  rcases List.mem_cons.1 h with rfl|h
  ·omega
  have:=yt z l m h;omega
def Gp.kids{x:Ex}{rs:List (ae×Nat×Ex)}(h:Gp (cb x rs)):Gp x/\∀r∈rs,Gp r.2.2:=by
 obtain ⟨h1,h2⟩:=ow rs x;have J:=h.p;have Q:=h.a;have C:=h.g;rw [iY] at J;rw [AK] at Q;rw [dH] at C;refine ⟨⟨fun p I=>h.z p (h1 p I),fun e D=>C e (by simp [D]),ai,ai⟩,fun r A=>⟨fun p I=>h.z p (h2 r A p I),fun e D=>C e ?_,?_,?_⟩⟩
 ·rw [aW,bZ];exact .inr ⟨r.2.2,aU.2 ⟨r,A,rfl⟩,D⟩
 ·have:=yt (fun r=>(aF r.2.2).length+1) rs r A;omega
 have:=yt (fun r=>(bS r.2.2).length) rs r A;omega
def oY{R:Nat->Ex->Prop}{A:Ex->Prop}:∀(ns:List Nat) (rs:List (ae×Nat×Ex)),cu R ns (rs.map fun r=>r.2.2)->(∀r∈rs,A r.2.2)->cu (fun n y=>R n y/\A y) ns (rs.map fun r=>r.2.2)
 | [],[],_,_=>trivial
 |n::ns,r::rs,h,k=>⟨⟨h.1,k r ar⟩,oY ns rs h.2 (fun r hr=>k r q8)⟩
 | [],_::_,h,_=>h.elim
 |_::_,[],h,_=>h.elim
def tD:∀(rs:List (ae×Nat×Ex)) (x:Ex) (K:Nat),rs≠ []->(∀r∈rs,(kindOf r.1=3)=(K=3))->(cb x rs).l.isSome=true/\((cb x rs).nd.kind=3)=(K=3)
 | [],x,K,h,_=>absurd rfl h
 | [(t,q,y)],x,K,_,h=>by
  have:=h (t,q,y) ar;exact ⟨rfl,this⟩
 |(t,q,y)::r2::rs,x,K,_,h=>tD (r2::rs) (dF t q x y) K ar (fun r hr=>h r q8)
def Lv(D:∀n y,Tr pl f n y->Gp y->∀u d,m8 pl f n u d=Us y u d)(C:Nat)(ns:List Nat)(A:Ex)(rs:List (ae×Nat×Ex))(I:Tr pl f C A)(J:cu (Tr pl f) ns (rs.map fun r=>r.2.2))(Q:∀r∈rs,r.1=sg 124)(U:Gp (cb A rs)):iJ (m8 pl f) (C::ns) 0 em=aO (cb A rs):=by
 obtain ⟨w0,wr⟩:=U.kids;refine Dd ?_;rw [iJ,Gc (R:=fun n y=>Tr pl f n y/\Gp y) (m8 pl f) (fun n y h=>by rw [D n y h.1 h.2,rQ]) rs ns 1 _ ai (oY ns rs J wr),pz rs A Q,de,D C A I w0,rQ]
 rfl
def Ge(I:∀n y,Tr pl f n y->Gp y->∀u d,m8 pl f n u d=Us y u d)(C:Nat)(ns:List Nat)(A:Ex)(rs:List (ae×Nat×Ex))(J:Tr pl f C A)(Q:cu (Tr pl f) ns (rs.map fun r=>r.2.2))(D:∀r∈rs,r.1=sg 38\/r.1=sg 45)(U:rs≠ [])(V:Gp (cb A rs)):Dc (m8 pl f) (C::ns) (⟨[],0,false⟩::rs.map fun r=>⟨bB r.1,r.2.1,false⟩) 0 em=aO (cb A rs):=by
 obtain ⟨w0,wr⟩:=V.kids;refine Dd ?_;rw [Dc,AJ (R:=fun n y=>Tr pl f n y/\Gp y) (m8 pl f) (fun n y h=>by rw [I n y h.1 h.2,W5]) rs ns 1 _ ai D (oY ns rs Q wr),pA rs A D U,de,I C A J w0,show decide (0<0)=false from rfl,W6]
 rfl
def AL(pl:List PV):∀(f n:Nat)(y:Ex),Tr pl f n y->Gp y->∀u d,m8 pl f n u d=Us y u d
 |0,_,_,h,_,_,_=>h.elim
 |f+1,n,y,⟨p,hp,h⟩,hw,u,d=>by
  rw [m8,hp];simp only
  rcases h with ⟨h1,hn,rfl⟩|⟨h1,h0,hn,rfl⟩|⟨h1,h0,hn,rfl⟩|⟨h1,h0,V,ns,A,rs,J,Q,R,D,C,rfl⟩|⟨h1,h0,Y,V,ns,A,rs,J,Q,R,D,C,rfl⟩
  ·rw [if_pos h1,Lu p.gs (fun g hg=>hw.g ⟨⟨0,p.pa,em,0,em,0,p.gs⟩,none,none⟩ (by simp [aN]) g Kw)]
   rfl
  ·rw [if_neg ai,if_pos h1]
   rfl
  ·rw [if_neg ai,if_neg ai,if_pos h1]
   rfl
  ·rw [if_neg ai,if_neg ai,if_neg ai,if_pos h1,J,D,Ge (AL pl f) V ns A rs Q R C.1 C.2 hw];obtain ⟨e1,I⟩:=tD rs A 4 C.2 (fun r U=>by rcases C.1 r U with e|e<;>rw [e]<;>decide);unfold Us
   cases hl:(cb A rs).l with
   |none=>rw [hl] at e1;simp at e1
   |some z=>
    have:¬(cb A rs).nd.kind=3:=by rw [I];decide
    simp only [if_neg this]
  rw [if_neg ai,if_neg ai,if_neg ai,if_neg ai,J,Lv (AL pl f) V ns A rs Q R D hw];obtain ⟨e1,I⟩:=tD rs A 3 C (fun r U=>by rw [D r U];decide);unfold Us
  cases hl:(cb A rs).l with
  |none=>rw [hl] at e1;simp at e1
  |some z=>
   have:(cb A rs).nd.kind=3:=by rw [I]
   simp only [if_pos this]
def Yz (h:aD:=by
 rw [h3] at hm
 rcases List.mem_cons.1 hm with rfl|hm
 ·exact mT pl f _ x0 h4 w0
 obtain ⟨z,_,A⟩:=cu.mem _ _ (oY ns rs h5 wr) m hm;exact mT pl f _ z A.1 A.2):aD:=h
def Ut (h:aD:=by
 obtain ⟨q,A,_⟩:=id h4;rw [m9,A] at this;simp only at this;omega):aD:=h
def Gp.size{y:Ex}(h:Gp y):(aO y).size<=40000:=by
 have:=kR y h.z;have:=h.p;have:=h.a;omega
def mT(pl:List PV):∀(f n:Nat)(y:Ex),Tr pl f n y->Gp y->UK pl n (m8 pl f n)
 |0,_,_,h,_=>h.elim
 |f+1,n,y,⟨p,hp,h⟩,hw=>by
  have V:=hw.size
  rcases h with ⟨h1,hn,rfl⟩|⟨h1,h0,hn,rfl⟩|⟨h1,h0,hn,rfl⟩|⟨h1,h0,U,ns,x0,rs,h3,h4,h5,C,I,rfl⟩|⟨h1,h0,ab,U,ns,x0,rs,h3,h4,h5,C,I,rfl⟩
  ·have e:m8 pl (f+1) n=fun _ _=>(sg 91++m4 p.gs 0 em)++sg 93:=by
    funext u d
    rw [m8,hp];simp only [if_pos h1]
   have hg:∀g∈p.gs,iG g:=fun g hg=>hw.g ⟨⟨0,p.pa,em,0,em,0,p.gs⟩,none,none⟩ (by simp [aN]) g Kw
   have hl:=hw.a;simp only [dt,aN,bM,jI,dU,eO,if_true] at hl;have hs:(aO ⟨⟨0,p.pa,em,0,em,0,p.gs⟩,none,none⟩)=(sg 91++m4 p.gs 0 em)++sg 93:=by rw [Lu p.gs hg];rfl
   rw [hs,bc,bc] at V;rw [e];exact yM pl n p hp h1 ai ai
  ·have e:m8 pl (f+1) n=fun _ _=>p.nr:=by
    funext u d
    rw [m8,hp];simp only [if_neg (show ¬p.kind=1 by omega),if_pos h1]
   rw [e];exact Co pl n p hp h1
  ·have e:m8 pl (f+1) n=fun _ _=>(p.nb++sg 46)++p.nr:=by
    funext u d
    rw [m8,hp];simp only [if_neg (show ¬p.kind=1 by omega),if_neg (show ¬p.kind=2 by omega),if_pos h1]
   have hs:(aO ⟨⟨2,p.pa,p.nb,p.pa,p.nr,p.pr,[]⟩,none,none⟩)=(p.nb++sg 46)++p.nr:=rfl;rw [hs,bc,bc] at V;rw [e];exact Cp pl n p hp h1 ai
  ·have e:m8 pl (f+1) n=fun _ d=>UY d (Dc (m8 pl f) p.ps p.sg 0 em):=by
    funext u d
    rw [m8,hp];simp only [if_neg (show ¬p.kind=1 by omega),if_neg (show ¬p.kind=2 by omega),if_neg (show ¬p.kind=3 by omega),if_pos h1]
   have Q:Dc (m8 pl f) p.ps p.sg 0 em=aO (cb x0 rs):=by rw [h3,C];exact Ge (AL pl f) U ns x0 rs h4 h5 I.1 I.2 hw
   have J:=hw.p;have D:=cu.len _ _ h5;have Z:=n9 (R:=Tr pl f) (fun _=>0) (fun n x h=>gU _) ns rs h5;rw [iY] at J;obtain ⟨w0,wr⟩:=hw.kids;have Y:0<(aF x0).length:=by
    have:=iZ pl f _ _ h4
    cases f with
    |zero=>exact h4.elim
    |succ g=>
     exact Ut
   rw [bN] at D;rw [e];refine yp pl n p hp h1 (m8 pl f) (fun m hm=> ?_) (by rw [Q];omega) (by rw [h3,C];simp [D]) (by rw [h3,List.length_cons];omega);exact Yz
  have e:m8 pl (f+1) n=fun u _=>UY u (iJ (m8 pl f) p.ps 0 em):=by
   funext u d
   rw [m8,hp];simp only [if_neg (show ¬p.kind=1 by omega),if_neg (show ¬p.kind=2 by omega),if_neg (show ¬p.kind=3 by omega),if_neg (show ¬p.kind=4 by omega)]
  have Q:iJ (m8 pl f) p.ps 0 em=aO (cb x0 rs):=by rw [h3];exact Lv (AL pl f) U ns x0 rs h4 h5 C hw
  have J:=hw.p;have D:=cu.len _ _ h5;have Z:=n9 (R:=Tr pl f) (fun _=>0) (fun n x h=>gU _) ns rs h5;rw [iY] at J;obtain ⟨w0,wr⟩:=hw.kids;have Y:0<(aF x0).length:=by
   have:=iZ pl f _ _ h4
   cases f with
   |zero=>exact h4.elim
   |succ g=>
    exact Ut
  rw [bN] at D;rw [e];refine yV pl n p hp h1 (m8 pl f) (fun m hm=> ?_) (by rw [Q];omega) (by rw [h3,List.length_cons];omega);exact Yz
def gy(W:Nat->ae)(kd:ae):List RV->ae->ae
 | [],s=>s
 |x::xs,s=>gy W kd xs (if eqs x.kd kd then ((((s++sK)++x.nm)++iX)++W x.ex)++lM else s)
def fo(W:Nat->ae)(rl:List RV):List (ae×Nat)->ae->ae
 | [],s=>s
 |k::ks,s=>fo W rl ks (gy W k.1 rl (((s++gm)++k.1)++jl)++g7)
def l4(A:Nat->ae)(kd:ae):∀(l:List RV)(s:ae),s.size<=(gy A kd l s).size
 | [],s=>bV _
 |x::l,s=>by
  have h1:=l4 A kd l (if eqs x.kd kd then ((((s++sK)++x.nm)++iX)++A x.ex)++lM else s);rw [gy]
  split at h1
  ·rename_i h;rw [if_pos h];simp only [bc] at h1;omega
  rename_i h;rw [if_neg h];exact h1
def yu(h:Nat->ae)(rl:List RV):∀(l:List (ae×Nat)) (s:ae),s.size<=(fo h rl l s).size
 | [],s=>bV _
 |k::l,s=>by
  have h1:=yu h rl l (gy h k.1 rl (((s++gm)++k.1)++jl)++g7);have h2:=l4 h k.1 rl (((s++gm)++k.1)++jl);rw [fo];simp only [bc] at h1 h2;omega
def yw(A:Nat->ae)(kd:ae):∀(l:List RV)(s:ae),bB (gy A kd l s)=bB s++(l.filter fun x=>eqs x.kd kd).flatMap fun x=>bB ((((sK++x.nm)++iX)++A x.ex)++lM)
 | [],s=>by simp [gy]
 |x::l,s=>by
  rw [gy,yw A kd l]
  cases h:eqs x.kd kd
  ·simp [h]
  simp [h,de,ct]
def uo(h:Nat->ae)(rl:List RV):∀(l:List (ae×Nat)) (s:ae),bB (fo h rl l s)=bB s++l.flatMap fun k=>bB ((gm++k.1)++jl)++((rl.filter fun x=>eqs x.kd k.1).flatMap fun x=>bB ((((sK++x.nm)++iX)++h x.ex)++lM))++bB g7
 | [],s=>by simp [fo]
 |k::l,s=>by
  rw [fo,uo h rl l,de,yw,bM];simp only [de,ct]
def uq{pl:List PV}{F:Nat}(f:RV->List UInt8)(g:ae×Rl->List UInt8)(k:ae):∀(xs:List RV) (ps:List (ae×Rl)),cS pl F xs ps->(∀x p,p∈ps->x.nm=p.2.name->Tr pl F x.ex p.2.body->f x=g p)->(xs.filter fun x=>eqs x.kd k).flatMap f=(ps.filter fun p=>eqs p.1 k).flatMap g
 | [],[],_,_=>rfl
 |x::xs,p::ps,h,hf=>by
  have A:=uq f g k xs ps h.2 (fun x p D=>hf x p (by simp [D]));obtain ⟨⟨h1,h2,_,C⟩,_⟩:=h;have e:=hf x p ar h2 C;rw [List.filter_cons,List.filter_cons,h1]
  cases eqs p.1 k
  ·simpa using A
  simp [A,e]
 | [],_::_,h,_=>h.elim
 |_::_,[],h,_=>h.elim
def Gf(h:ew ts)(Q:t∈ts):((bx ts).filter fun p=>eqs p.1 t.name)=t.rels.map fun r=>(t.name,r):=by
 obtain ⟨A,B,rfl⟩:=se Q;have C:=h.ty;rw [List.pairwise_append,kB] at C;obtain ⟨_,⟨h2,_⟩,I⟩:=C;have no:∀l:List Ty,(∀u∈l,u.name≠t.name)->((l.flatMap fun t=>t.rels.map fun r=>(t.name,r)).filter fun p=>eqs p.1 t.name)=[]:=fun l hl=>by
  rw [List.filter_eq_nil_iff];intro p C J;obtain ⟨u,D,C⟩:=bZ.1 C;obtain ⟨r,_,rfl⟩:=aU.1 C;exact hl u D ((bz _ _).1 J)
 unfold bx;rw [cN,bM,List.filter_append,List.filter_append,no A (fun u D=>I u D t ar),no B (fun u D e=>h2 u D e.symm),List.nil_append,dU,List.filter_eq_self];intro p C;obtain ⟨r,_,rfl⟩:=aU.1 C;exact (bz _ _).2 rfl
def Uu(C:ew ts)(hF:cS pl F rl (bx ts))(R:∀t∈ts,∀r∈t.rels,Gp r.body):bB (fo (fun n=>m8 pl F n false false) rl (ts.map fun t=>(t.name,t.place)) em)=mC ts:=by
 rw [uo];unfold mC;have key:∀t∈ts,bB ((gm++t.name)++jl)++((rl.filter fun x=>eqs x.kd t.name).flatMap fun x=>bB ((((sK++x.nm)++iX)++m8 pl F x.ex false false)++lM))++bB g7=wE t:=fun t A=>by
  rw [uq (fun x:RV=>bB ((((sK++x.nm)++iX)++m8 pl F x.ex false false)++lM)) (fun p=>bB (HS p.2)) t.name rl (bx ts) hF (fun x p D hn Q=>by
   obtain ⟨U,J,_,I⟩:=dz.1 D;rw [AL pl F _ _ Q (R U J p.2 I),rQ,hn]
   rfl),Gf C A]
  unfold wE mZ wD;rw [List.flatMap_map]
 have all:∀l:List Ty,(∀t∈l,t∈ts)->((l.map fun t=>(t.name,t.place)).flatMap fun k=>bB ((gm++k.1)++jl)++((rl.filter fun x=>eqs x.kd k.1).flatMap fun x=>bB ((((sK++x.nm)++iX)++m8 pl F x.ex false false)++lM))++bB g7)=l.flatMap wE:=by
  intro l hl
  induction l with
  |nil=>rfl
  |cons t l ih=>rw [bY,bM,bM,ih (fun t A=>hl t (by simp [A])),key t (hl t ar)]
 rw [all ts (fun t A=>A)]
 rfl
def AM(A:Nat->ae)(kd:ae)(C:Nat):∀(l:List RV)(s:ae),(∀x∈l,x.nm.size+(A x.ex).size+5<=C)->(gy A kd l s).size<=s.size+l.length*C
 | [],s,_=>by rw [gy];exact Nat.le_add_right _ _
 |x::l,s,h=>by
  have h1:=AM A kd C l (if eqs x.kd kd then ((((s++sK)++x.nm)++iX)++A x.ex)++lM else s) (fun x hx=>h x zb);have h2:=h x ar;rw [gy,List.length_cons,Nat.succ_mul];generalize l.length*C=y at*;refine aV h1 ?_
  split
  ·rw [bc,bc,bc,bc,bc,show sK.size=1 from rfl,show iX.size=2 from rfl,show lM.size=2 from rfl];omega
  omega
def yx(A:Nat->ae)(rl:List RV)(C D:Nat)(hx:∀x∈rl,x.nm.size+(A x.ex).size+5<=C):∀(l:List (ae×Nat)) (s:ae),(∀k∈l,k.1.size+10+rl.length*C<=D)->(fo A rl l s).size<=s.size+l.length*D
 | [],s,_=>by rw [fo];exact Nat.le_add_right _ _
 |k::l,s,h=>by
  have h1:=yx A rl C D hx l (gy A k.1 rl (((s++gm)++k.1)++jl)++g7) (fun x hx=>h x zb);have h2:=AM A k.1 C rl (((s++gm)++k.1)++jl) hx;have I:=h k ar;rw [fo,List.length_cons,Nat.succ_mul];rw [bc,show g7.size=2 from rfl] at h1;rw [bc,bc,bc,show gm.size=5 from rfl,show jl.size=3 from rfl] at h2;generalize l.length*D=y at*;generalize rl.length*C=z at*;omega
def ub1(n C:Nat)(h:n<=500)(A:C=40013):n*C<=20006500:=by subst A;omega
def ub2(n A:Nat)(h:n<=5)(C:A=20006518):n*A<=200000000:=by subst C;omega
def AN{pl:List PV}{F:Nat}:∀(xs:List RV) (ps:List (ae×Rl)),cS pl F xs ps->∀x∈xs,∃p∈ps,x.kd=p.1/\x.nm=p.2.name/\Tr pl F x.ex p.2.body
 | [],[],_,x,A=>by simp at A
 |y::xs,p::ps,h,x,A=>by
  rcases List.mem_cons.1 A with rfl|A
  ·exact ⟨p,ar,h.1.1,h.1.2.1,h.1.2.2.2⟩
  obtain ⟨q,C,h1⟩:=AN xs ps h.2 x A;exact ⟨q,by simp [C],h1⟩
 | [],_::_,h,_,_=>h.elim
 |_::_,[],h,_,_=>h.elim
structure PrB(w:af)(b:Nat)(kv rv pv:ag)(kl:List (ae×Nat))(rl:List RV)(pl:List PV)(l:List PX)(W:Nat->Bool->Bool->ae)(R:ae):Prop where
 dm:DM w b kv rv pv kl rl pl l
 wr:∀x∈rl,UK pl x.ex (W x.ex)
 eq:fo (fun n=>W n false false) rl kl em=R
 sz:R.size<=200000000
def pr_ok(hs:s.size<=500){kl:List (ae×Nat)}{l:List PX}(h:dJ (TT s) (PP s)=.ok (ts,m))(R:eD ts=none)(ak:Gd s m)(U:DM w b kv rv pv kl rl pl l)(ab:uv pl kl rl ts):∃W,PrB w b kv rv pv kl rl pl l W (mk (mC ts)):=by
 obtain ⟨F,hF⟩:=db.fuel rl _ ab.2;have ad:=sized h ak hs;have al:=sT h;have V:=sL (TT s) (PP s) _ _ _ _ _ ar h;obtain ⟨rfl,av⟩:=id ab;have ap:Df [] ts=none:=by
  unfold eD at R
  split at R
  ·simp at R
  assumption
 have ah:=(lO ts [] ap).2;have ac:∀t∈ts,∀r∈t.rels,Gp r.body:=fun t A r D=>⟨((V t A).2 r D).2,al t A r D,aV (ad t A r D).1 ai,aV (ad t A r D).2 ai⟩
 have aj:=Uu ah hF ac;have J:∀x∈rl,UK pl x.ex (m8 pl F x.ex)/\x.nm.size<=8/\(m8 pl F x.ex false false).size<=40000:=fun x J=>by
  obtain ⟨p,an,_,h2,Q⟩:=AN rl _ hF x J;obtain ⟨t,A,_,D⟩:=dz.1 an;have Y:=ac t A _ D;refine ⟨mT pl F _ _ Q Y,by rw [h2];exact ((V t A).2 _ D).1,?_⟩;rw [AL pl F _ _ Q Y,rQ];exact Y.size
 have Z:fo (fun n=>m8 pl F n false false) rl (ts.map fun t=>(t.name,t.place)) em=mk (mC ts):=by rw [<-aj,cW]
 refine ⟨m8 pl F,U,fun x h=>(J x h).1,Z,?_⟩;obtain ⟨C,af⟩:∃C:Nat,C=40013:=⟨_,rfl⟩;obtain ⟨I,ag⟩:∃I:Nat,I=20006518:=⟨_,rfl⟩;have au:=yx (fun n=>m8 pl F n false false) rl C I (fun x h=>by
  have:=(J x h).2
  show x.nm.size+(m8 pl F x.ex false false).size+5<=C
  omega) (ts.map fun t=>(t.name,t.place)) em (fun k am=>by
  obtain ⟨t,A,rfl⟩:=aU.1 am;have h1:=(V t A).1;have h2:=ub1 rl.length C U.rn af
  show t.name.size+10+rl.length*C<=I
  generalize rl.length*C=z at*;omega)
 have Q:=ub2 _ I U.kn ag;rw [Z,show em.size=0 from rfl] at au;generalize (ts.map fun t=>(t.name,t.place)).length*I=z at*;omega
def qy(s:ae)(w:af)(c p:Nat)(D:c≠0)(C:Calls prog 80 #[an s] w fun e w'=>e=bi (.tuple #[.pointer none,au c,au p])/\am w w'):
  Calls prog 43 #[an s] w fun e w'=>e=bi (.tuple #[an ⟨#[]⟩,au c,au p])/\am w w':=by
 have I:((c:Int)==0)=false:=by rw [bR];omega
 have J:((c:Int) != 0)=true:=gX.2 ai;go_enter func43,ntmps43;go_wp2_with fail;refine C.mono ?_;rintro e w1 ⟨rfl,A⟩;go_wp2;go_ret3;exact ⟨rfl,A⟩
def NT(t:ae)(w:af)(R:ae)(C:Calls prog 80 #[an t] w fun e w'=>am w w'/\∃b kv rv pv kl rl pl l W,e=bi (.tuple #[.pointer (some (aC b 5)),au 0,au 0])/\PrB w' b kv rv pv kl rl pl l W R):
  Calls prog 43 #[an t] w fun e w'=>e=bi (.tuple #[an R,au 0,au 0])/\am w w':=by
 go_enter func43,ntmps43;go_wp2_with fail;refine C.mono ?_;rintro e w1 ⟨aj,b,kv,rv,pv,kl,rl,pl,l,W,rfl,Y⟩;have J:=Y.dm;have a1:=Y.sz;have aX:=J.kn;have aY:=J.rn;obtain ⟨a2,a3,rfl⟩:=aw J.kt;obtain ⟨a4,rc,rfl⟩:=aw J.rt;have ay:=Y.wr;have ax:=(Y.eq:fo (fun n=>W n false false) rl (kl.drop 0) em=R);go_wp2_with fail
 go_loopw [8,9] (fun ah ad wr=>∃(i:Nat)(s:ae),i<=kl.length/\ad=au i/\ah=an s/\am w1 wr/\(fo (fun n=>W n false false) rl (kl.drop i) s=R)) (fun _ ad _=>kl.length-(intOf ad).toNat)
 ·exact ⟨0,em,ai,rfl,rfl,az _ _,ax⟩
 ·obtain ⟨i,s,hi,rfl,rfl,A,U⟩:=hrel;have I:=J.below A;have c5:=I.c5;have c6:=I.c6
  by_cases ac:i<kl.length
  ·have aH:(i:Int)<(kl.length:Int):=by omega
   obtain ⟨gk,ck,e1,k0,k1⟩:=I.kat i kl[i] (aI ac);simp only [aK,true_and] at e1;obtain ⟨rfl,rfl⟩:=e1;rw [c8 ac,fo] at U;have aA:=aI ac;generalize kl[i]=x at*;have aL:=yu (fun n=>W n false false) rl (kl.drop (i+1)) (gy (fun n=>W n false false) x.1 rl (((s++gm)++x.1)++jl)++g7);rw [U,bc] at aL;have aM:=l4 (fun n=>W n false false) x.1 rl (((s++gm)++x.1)++jl);rw [bc,bc,bc] at aM;generalize aB:gy (fun n=>W n false false) x.1 rl (((s++gm)++x.1)++jl)=Q at*;have av:=(aB:gy (fun n=>W n false false) x.1 (rl.drop 0) (((s++gm)++x.1)++jl)=Q);have aV:Q.size<=200000000:=ai;have aZ:s.size+x.1.size<=200000000:=ai;go_wp2_with fail
   go_loopw [8,10] (fun ah ag aP=>∃(k:Nat)(s:ae),k<=rl.length/\ag=au k/\ah=an s/\am w1 aP/\(gy (fun n=>W n false false) x.1 (rl.drop k) s=Q)) (fun _ ag _=>rl.length-(intOf ag).toNat)
   ·exact ⟨0,_,ai,rfl,rfl,A,av⟩
   obtain ⟨k,u,aW,rfl,rfl,A,D⟩:=hrel;have I:=J.below A;have c5:=I.c5;have c6:=I.c6;have aO:=A.size;obtain ⟨aU,aT,e1,k0,k1⟩:=I.kat i x aA;simp only [aK,true_and,aR,cg,and_true] at e1;obtain ⟨rfl,rfl⟩:=e1;have aN:=l4 (fun n=>W n false false) x.1 (rl.drop k) u;rw [D] at aN
   by_cases ab:k<rl.length
   ·have aJ:(k:Int)<(rl.length:Int):=by omega
    obtain ⟨gr,cr,e1,a5,aS,a6,a7⟩:=I.rat k rl[k] (aI ab);simp only [aK,true_and] at e1;obtain ⟨rfl,rfl⟩:=e1;rw [c8 ab,gy] at D;have aF:=ay _ (br ab);generalize rl[k]=y at*
    by_cases V:eqs y.kd x.1=true
    ·have aG:(y.kd.toList==x.1.toList)=true:=by rw [<-aQ];exact V
     rw [if_pos V] at D;have al:=l4 (fun n=>W n false false) x.1 (rl.drop (k+1)) (((((u++sK)++y.nm)++iX)++W y.ex false false)++lM);rw [D,bc,bc,bc,bc,bc] at al;have f1:sK.size=1:=rfl;have f2:iX.size=2:=rfl;have f3:lM.size=2:=rfl;rw [f1,f2,f3] at al;have C:=fun (n:Nat)=>aF false false b _ _ pv kl rl l _ (J.below (below_drewN A n))
     generalize W y.ex false false=z at*;have a0:u.size+y.nm.size+z.size<=200000000:=ai;go_wp2_with fail
     go_quiet (fail)
     go_wp2_with fail;refine (C _).mono ?_;rintro e w5 ⟨rfl,aE⟩;have Z:=(below_drewN (az wr.heap.size wr) _).trans (aE.mono (below_drewN (az wr.heap.size wr) _).size);have ar:=A.trans (Z.mono aO);have d6:=ak c6 Z;have a8:=ak aS Z;go_wp2;go_roundw
     ·exact ⟨k+1,_,ai,by go_num,rfl,ar,D⟩
     simp [intOf];omega
    have aG:(y.kd.toList==x.1.toList)=false:=by rw [<-aQ];simpa using V
    rw [if_neg V] at D;go_wp2
    go_quiet (fail)
    go_wp2;go_roundw
    ·exact ⟨k+1,_,ai,by go_num,rfl,below_drewN A _,D⟩
    simp [intOf];omega
   have aJ:¬((k:Int)<(rl.length:Int)):=ai;have e:u=Q:=by
    have:=D;rw [sV ai] at this;exact this
   subst e;go_wp2;go_roundw
   ·exact ⟨i+1,_,ai,by go_num,rfl,A,U⟩
   simp [intOf];omega
  have aH:¬((i:Int)<(kl.length:Int)):=ai;have e:s=R:=by
   have:=U;rw [sV ai] at this;exact this
  subst e;have ap:=aj.trans (A.mono aj.size);go_wp2;go_ret3;exact ⟨rfl,ap⟩
def Uv(q:bq) (h:cj bq->aD:=by
 intro zq;have hr:dy s=.error (some p,c):=by unfold dy;rw [if_neg hs,hm];simp only [hc]
 have e:Lw s=(⟨#[]⟩,c,p):=by unfold Lw;rw [hr]
 unfold ox;rw [e]
 revert hr e
 exact zq.1):aD:=h ⟨q⟩
def Uw(q:bq) (h:cj bq->aD:=by
 intro zq;have hr:dy s=.error (some (PP s j),c):=by unfold dy;rw [if_neg hs,hm]
 have e:Lw s=(⟨#[]⟩,c,PP s j):=by unfold Lw;rw [hr]
 unfold ox;rw [e]
 revert hr e
 exact zq.1):aD:=h ⟨q⟩
def Ux(q:bq) (h:cj bq->aD:=by
 intro zq;have hr:dy s=.ok ts:=by unfold dy;rw [if_neg hs,hm];simp only [hc]
 have e:Lw s=(mk (mC ts),0,0):=by unfold Lw;rw [hr]
 unfold ox;rw [e]
 revert hr e
 exact zq.1):aD:=h ⟨q⟩
def Lw(s:ae):ae×Nat×Nat:=match dy s with
 | .ok ts=>(mk (mC ts),0,0)
 | .error (some p,c)=>(⟨#[]⟩,c,p)
 | .error (none,c)=>(⟨#[]⟩,c,0)
def ox(s:ae)(w:af)(e:Ending)(w':af):Prop:=e=bi (.tuple #[an (Lw s).1,au (Lw s).2.1,au (Lw s).2.2])/\am w w'
def Gg(h:eD ts=some (p,c)):c≠0:=by
 unfold eD at h
 split at h
 ·simp at h;omega
 split at h
 ·simp at h;omega
 split at h
 ·simp at h;omega
 simp at h
def Gh(hs:s.size<=500)(w:af)(h:dJ (TT s) (PP s)=.error (c,j)):c≠0:=by
 obtain ⟨e,w',fr,A,_⟩:=jp s w hs [];have:=A.2;rw [h] at this;exact this.1
def JB(s:ae)(hs:500<s.size)(w:af)(I:Laid w):
  Calls prog 14 #[an s] w fun e w'=>e=bi (.tuple #[an ⟨#[]⟩,au 1,au 0])/\am w w':=by
 have C:=zB s w hs;have hl:=I.lt;go_enter func14,ntmps14;go_wp2_with fail;refine C.mono ?_;rintro e U ⟨D,rfl⟩;have h:=D.alloc D.size wd;have Q:=I.below h hl;unfold PZ cm;have A:=kw 1 _ Q;unfold cm at A;go_wp2_with fail;refine A.mono ?_;rintro e V ⟨rfl,R⟩;have J:=h.trans (R.mono h.size);go_wp2;go_ret3;exact ⟨rfl,J⟩
def JC(s:ae)(w:af)(A:Laid w):Calls prog 14 #[an s] w (ox s w):=by
 by_cases hs:500<s.size
 ·have e:Lw s=(⟨#[]⟩,1,0):=by unfold Lw dy;rw [if_pos hs]
  unfold ox;rw [e];exact JB s hs w A
 cases hm:dJ (TT s) (PP s) with
 |error er=>
  obtain ⟨c,j⟩:=er;refine Uw ?_;intro hr e;exact zQ s _ c hr (Gh ai w hm) w A
 |ok y=>
  obtain ⟨ts,j⟩:=y
  cases hc:eD ts with
  |some q=>
   obtain ⟨p,c⟩:=q;refine Uv ?_;intro hr e;exact zQ s _ c hr (Gg hc) w A
  |none=>
   refine Ux ?_;intro hr e;exact QA s ts hr w A
def NU(s:ae)(w:af):Calls prog 43 #[an s] w (ox s w):=by
 by_cases hs:500<s.size
 ·have e:Lw s=(⟨#[]⟩,1,0):=by unfold Lw dy;rw [if_pos hs]
  unfold ox;rw [e];exact qy s w 1 0 ai (wS s w hs)
 have C:=jp s w ai
 cases hm:dJ (TT s) (PP s) with
 |error er=>
  obtain ⟨c,j⟩:=er;refine Uw ?_;intro hr e;refine qy s w c _ (Gh ai w hm) (C.mono fun e w' h=> ?_);have h2:=h.2;rw [hm] at h2;exact ⟨h2.2,h.1⟩
 |ok y=>
  obtain ⟨ts,j⟩:=y
  cases hc:eD ts with
  |some q=>
   obtain ⟨p,c⟩:=q;refine Uv ?_;intro hr e;refine qy s w c p (Gg hc) (C.mono fun e w' h=> ?_);have h2:=h.2;rw [hm] at h2;simp only [hc] at h2;exact ⟨h2,h.1⟩
  |none=>
   refine Ux ?_;intro hr e;refine NT s w _ (C.mono fun e w' h=>⟨h.1,?_⟩);have h2:=h.2;rw [hm] at h2;simp only [hc] at h2;obtain ⟨b,kv,rv,pv,kl,rl,pl,l,e1,D,J,I,_⟩:=h2;obtain ⟨W,A⟩:=pr_ok ai hm hc I D J;exact ⟨b,kv,rv,pv,kl,rl,pl,l,W,e1,A⟩
def JD(p:Option Addr)(n:Int)(s r D:ae)(w:af)(Q:Laid w):
  Calls prog 15 #[.pointer p,.agg #[au 1,au n,an s,an r,an D]] w fun e w'=>e=bi (.bool true)/\am w w':=by
 have hl:=Q.lt;have C:=((az _ w).alloc aH _:am w (w.alloc (.cells #[au 1,au n,an s,an r,an D] 34)));have K0:=aL.new w #[au 1,au n,an s,an r,an D] 34;have U:=Q.below C hl;have h:=JC s _ U;have A:=fun w'=>NU s w'
 unfold ox at h A;generalize Lw s=X at h A;obtain ⟨x,c,a⟩:=X;simp only at h A;go_enter func15,ntmps15;go_wp2_with fail;refine h.mono ?_;rintro e w1 ⟨rfl,J⟩;have I:=C.trans (J.mono C.size);obtain ⟨d0,d1,d2,d3,d4⟩:=(K0.below J).five;go_wp2_with fail;refine (A w1).mono ?_;rintro e Y ⟨rfl,V⟩;have R:=I.trans (V.mono I.size);go_wp2;go_ret;exact ⟨rfl,R⟩
