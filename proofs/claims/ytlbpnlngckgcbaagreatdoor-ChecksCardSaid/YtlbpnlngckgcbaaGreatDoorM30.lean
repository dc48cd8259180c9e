import Derived.Test.YtlbpnlngckgcbaaGreatDoorM27
set_option linter.all false
set_option maxHeartbeats 4000000
set_option maxRecDepth 100000
namespace Go.Proofs.YtlbpnlngckgcbaaGreatDoor
open Go.RowKit Go.PlainAid Go.Proofs.Tryz
variable {aF cD:Prop} {a b i:Nat} {α:Type}
abbrev ux:=@Nat.testBit_or
abbrev DD:=@Nat.testBit_two_pow_self
abbrev DE:=@Nat.testBit_two_pow_of_ne
abbrev uy:=@Nat.testBit_and
def oQ(kb:Sj->Bool)(who:Tg)(s:Sj):Bool:=if s.rel.size=0 then lQ s who else kb s
def DF(kb:Sj->Bool)(s:Sj)(rel:ae):Bool:=if s.rel.size=0 then kb ⟨s.kind,s.id,rel⟩ else false
def cH(kb:Sj->Bool)(who:Tg)(kd id:ae)(ts:List Tu)(rel:ae):Ex->Bool
 |⟨n,some x,some y⟩=>if n.kind=3 then cH kb who kd id ts rel x||cH kb who kd id ts rel y else if n.kind=4 then cH kb who kd id ts rel x&&cH kb who kd id ts rel y else cH kb who kd id ts rel x&& !cH kb who kd id ts rel y
 |⟨n,none,_⟩=>if n.kind=0 then ts.any (fun t=>decide (t.rel=rel)&&oQ kb who (gx t)) else if n.kind=1 then kb ⟨kd,id,n.n1⟩ else ts.any (fun t=>decide (t.rel=n.n1)&&DF kb (gx t) n.n2)
 |⟨_,some _,none⟩=>false
theorem uz(p:Tg->Bool)(cs:List Tg)(i:Nat):∀j,(eO p cs j).testBit i=(decide (i<j)&&match cs[i]? with|some t=>p t|none=>false)
 |0=>by simp [eO]
 |j+1=>by
  have C:=uz p cs i j;rw [eO]
  by_cases e:i=j
  ·subst e
   cases hc:cs[i]? with
   |none=>rw [hc] at C;simpa using C
   |some t=>
    rw [hc] at C;simp only
    by_cases D:p t=true
    ·rw [if_pos D,ux,DD];simp [D]
    rw [if_neg D,C];simp [D]
  have h1:decide (i<j+1)=decide (i<j):=by rw [decide_eq_decide];omega
  rw [h1,<-C]
  split
  ·split
   ·rw [ux,DE aj,lz]
   rfl
  rfl
theorem Mq(h:b<18446744073709551616)(hi:i<64):(pE a b).testBit i=(a.testBit i&& !b.testBit i):=by
 unfold pE;rw [uy,show 18446744073709551615-b=2 ^ 64-(b+1) by omega,Nat.testBit_two_pow_sub_succ h];simp [hi]
theorem kV(r f i):∀(ts:List Tu)(a:Nat),(iQ ts r f a).testBit i=(a.testBit i||ts.any fun t=>decide (t.rel=r)&&(f t).testBit i)
 | [],a=>by simp [iQ]
 |t::ts,a=>by
  unfold iQ
  by_cases h:t.rel=r
  ·rw [List.filter_cons_of_pos mw,List.foldl_cons];have:=kV r f i ts (f t|||a);unfold iQ at this;rw [this,ux,jD]
   cases a.testBit i<;>cases (f t).testBit i<;>simp [h]
  rw [List.filter_cons_of_neg mw];have:=kV r f i ts a;unfold iQ at this;rw [this,jD];simp [h]
theorem rV(r f)(A:∀t,f t<18446744073709551616):∀(ts:List Tu)(a:Nat),a<18446744073709551616->iQ ts r f a<18446744073709551616
 | [],a,ha=>by simpa [iQ] using ha
 |t::ts,a,ha=>by
  unfold iQ
  by_cases h:t.rel=r
  ·rw [List.filter_cons_of_pos mw,List.foldl_cons];exact rV r f A ts (f t|||a) (yh (n:=64) (A t) ha)
  rw [List.filter_cons_of_neg mw];exact rV r f A ts a ha
theorem yi(v)(C:∀s,v.K s<18446744073709551616)(D:v.cs.length<=64)(rel):∀e,dH v rel e<18446744073709551616
 |⟨n,some x,some y⟩=>by
  have I:=yi v C D rel x;have J:=yi v C D rel y;unfold dH
  split
  ·exact yh (n:=64) J I
  split
  ·decide
  split
  ·exact Nat.and_lt_two_pow (n:=64) _ I
  exact Fu I
 |⟨n,none,r⟩=>by
  unfold dH
  split
  ·exact rV _ _ (fun t=>A7 C D _) _ _ ar
  split
  ·exact C _
  exact rV _ _ (fun t=>Mo C _ _) _ _ ar
 |⟨_,some _,none⟩=>by
  unfold dH
  decide
theorem m2(v)(J:∀s,v.K s<18446744073709551616)(O:v.cs.length<=64){i who}(C:v.cs[i]? =some who)(rel):∀e,(dH v rel e).testBit i=cH (fun s=>(v.K s).testBit i) who v.kd v.id v.ts rel e
 |⟨n,some x,some y⟩=>by
  have D:=m2 v J O C rel x;have I:=m2 v J O C rel y;have hi:=(be.1 C).1;unfold dH cH
  split
  ·rw [ux,D,I,Bool.or_comm]
  split
  ·rename_i h0;rw [<-D,<-I,h0];simp
  split
  ·rw [uy,D,I,Bool.and_comm]
  rw [Mq (yi v J O rel y) aj,D,I]
 |⟨n,none,r⟩=>by
  have hi:=(be.1 C).1;unfold dH cH;have R:∀t,(jd v.K v.cs (gx t)).testBit i=oQ (fun s=>(v.K s).testBit i) who (gx t):=fun t=>by
   unfold jd oQ
   split
   ·rw [uz,C];simp [hi]
   rfl
  have Q:∀t,(rM v.K (gx t) n.n2).testBit i=DF (fun s=>(v.K s).testBit i) (gx t) n.n2:=fun t=>by
   unfold rM DF
   split
   ·rfl
   simp
  split
  ·rw [kV];simp [R]
  split
  ·rfl
  rw [kV];simp [Q]
 |⟨_,some _,none⟩=>by
  unfold dH cH;simp
structure Sys(F:(Sj->Bool)->(Sj->Bool)->Sj->Bool)(rk:Sj->Nat):Prop where
 mono:∀kp BH kn s,(∀x,kp x=true->BH x=true)->F kp kn s=true->F BH kn s=true
 dep:∀kp BH kn S4 s,(∀x,rk x<=rk s->kp x=BH x)->(∀x,rk x<rk s->kn x=S4 x)->F kp kn s=F BH S4 s
structure qJ(F:(Sj->Bool)->(Sj->Bool)->Sj->Bool)(K:Sj->Bool):Prop where
 fix:∀s,K s=F K K s
 least:∀K',(∀s,F K' K s=true->K' s=true)->∀s,K s=true->K' s=true
theorem wB{F:(Sj->Bool)->(Sj->Bool)->Sj->Bool}{rk:Sj->Nat}(S:Sys F rk){D C:Sj->Bool}(h1:qJ F D)(h2:qJ F C)(n:Nat)(Q:∀s,rk s<n->D s=C s)(s:Sj)(hs:rk s<=n)(J:D s=true):C s=true:=by
 have:=h1.least (fun x=>decide (n<rk x)||C x) (fun x I=>by
  by_cases hn:n<rk x
  ·simp [hn]
  rw [S.dep _ C D C x (fun y O=>aM) (fun y O=>Q y aj),<-h2.fix] at I;simp [I]) s J
 have hn:¬n<rk s:=aj
 simpa [hn] using this
theorem DG{F:(Sj->Bool)->(Sj->Bool)->Sj->Bool}{rk:Sj->Nat}(S:Sys F rk){C D:Sj->Bool}(h1:qJ F C)(h2:qJ F D)(s:Sj):C s=D s:=by
 have key:∀n s,rk s<n->C s=D s:=by
  intro n
  induction n with
  |zero=>intro s hs;omega
  |succ n ih=>
   intro s hs;rw [mz];exact ⟨wB S h1 h2 n ih s aj,wB S h2 h1 n (fun x I=>(ih x I).symm) s aj⟩
 exact key (rk s+1) s aj
def h6(kp kn:Sj->Bool)(who:Tg)(kd id:ae)(ts:List Tu)(rel:ae):Ex->Bool
 |⟨n,some x,some y⟩=>if n.kind=3 then h6 kp kn who kd id ts rel x||h6 kp kn who kd id ts rel y else if n.kind=4 then h6 kp kn who kd id ts rel x&&h6 kp kn who kd id ts rel y else h6 kp kn who kd id ts rel x&& !cH kn who kd id ts rel y
 |e=>cH kp who kd id ts rel e
theorem fQ(k who kd id ts rel):∀e,h6 k k who kd id ts rel e=cH k who kd id ts rel e
 |⟨n,some x,some y⟩=>by
  rw [h6,cH,fQ k who kd id ts rel x,fQ k who kd id ts rel y]
 |⟨n,none,r⟩=>by rw [h6];intro a b c h;cases h
 |⟨n,some x,none⟩=>by rw [h6];intro a b c h;cases h
def Mr (A:aF:=by
 rw [BI];exact .inr hs):aF:=A
def BI(kd id:ae)(ts:List Tu)(rel:ae):Ex->Sj->Prop
 |⟨_,some x,some y⟩,s=>BI kd id ts rel x s\/BI kd id ts rel y s
 |⟨n,none,_⟩,s=>(n.kind=0/\∃t∈ts,t.rel=rel/\¬t.of.size=0/\s=gx t)\/(n.kind=1/\s=⟨kd,id,n.n1⟩)\/(¬n.kind=0/\¬n.kind=1/\∃t∈ts,t.rel=n.n1/\t.of.size=0/\s=⟨t.sub,t.who,n.n2⟩)
 |⟨_,some _,none⟩,_=>False
def H4(kd id:ae)(ts:List Tu)(rel:ae):Ex->Sj->Prop
 |⟨n,some x,some y⟩,s=>H4 kd id ts rel x s\/(if n.kind=3\/n.kind=4 then H4 kd id ts rel y s else BI kd id ts rel y s)
 |_,_=>False
section
variable {kp BH kn S4:Sj->Bool}{who:Tg}{kd id:ae}{ts:List Tu}{rel:ae}
theorem jv{α:Type}{f g:α->Bool}:∀{l:List α},(∀x∈l,f x=g x)->l.any f=l.any g
 | [],_=>rfl
 |x::l,h=>by rw [jD,jD,h x an,jv (fun y C=>h y (by simp [C]))]
theorem fR:∀e,(∀s,BI kd id ts rel e s->kp s=BH s)->cH kp who kd id ts rel e=cH BH who kd id ts rel e
 |⟨n,some x,some y⟩,h=>by
  rw [cH,cH,fR x (fun s hs=>h s (by rw [BI];exact .inl hs)),fR y (fun s hs=>h s Mr)]
 |⟨n,none,r⟩,h=>by
  rw [cH,cH]
  split
  ·rename_i h0;refine jv (fun t D=> ?_)
   by_cases C:t.rel=rel
   ·unfold oQ
    split
    ·rfl
    rename_i h2;rw [h (gx t) (by rw [BI];exact .inl ⟨h0,t,D,C,h2,rfl⟩)]
   simp [C]
  rename_i h0
  split
  ·rename_i h1;exact h _ (by rw [BI];exact .inr (.inl ⟨h1,rfl⟩))
  rename_i h1;refine jv (fun t D=> ?_)
  by_cases C:t.rel=n.n1
  ·unfold DF
   split
   ·rename_i h2;rw [h ⟨(gx t).kind,(gx t).id,n.n2⟩ (by rw [BI];exact .inr (.inr ⟨h0,h1,t,D,C,h2,rfl⟩))]
   rfl
  simp [C]
 |⟨n,some x,none⟩,h=>by rw [cH,cH]
theorem fS:∀e,(∀s,BI kd id ts rel e s->kp s=BH s)->(∀s,H4 kd id ts rel e s->kn s=S4 s)->h6 kp kn who kd id ts rel e=h6 BH S4 who kd id ts rel e
 |⟨n,some x,some y⟩,h,g=>by
  have I:=fS x (fun s hs=>h s (by rw [BI];exact .inl hs)) (fun s hs=>g s (by rw [H4];exact .inl hs));rw [h6,h6,I]
  by_cases C:n.kind=3
  ·rw [if_pos C,if_pos C,fS y (fun s hs=>h s Mr) (fun s hs=>g s (by rw [H4,if_pos (.inl C)];exact .inr hs))]
  rw [if_neg C,if_neg C]
  by_cases D:n.kind=4
  ·rw [if_pos D,if_pos D,fS y (fun s hs=>h s Mr) (fun s hs=>g s (by rw [H4,if_pos (.inr D)];exact .inr hs))]
  rw [if_neg D,if_neg D,fR y (fun s hs=>g s (by rw [H4,if_neg (by omega)];exact .inr hs))]
 |⟨n,none,r⟩,h,g=>fR _ h
 |⟨n,some x,none⟩,h,g=>fR _ h
theorem A8{f g:α->Bool}{l:List α}(A:∀x,f x=true->g x=true)(h:l.any f=true):l.any g=true:=by
 rw [ei] at h ⊢;obtain ⟨x,C,D⟩:=h;exact ⟨x,C,A x D⟩
theorem gP(C:∀s,kp s=true->BH s=true):∀e,h6 kp kn who kd id ts rel e=true->h6 BH kn who kd id ts rel e=true
 |⟨n,some x,some y⟩,h=>by
  have D:=gP C x;have O:=gP C y;rw [h6] at h ⊢
  by_cases I:n.kind=3
  ·rw [if_pos I] at h ⊢;rw [oE] at h ⊢;exact h.imp D O
  rw [if_neg I] at h ⊢
  by_cases J:n.kind=4
  ·rw [if_pos J] at h ⊢;rw [bO] at h ⊢;exact ⟨D h.1,O h.2⟩
  rw [if_neg J] at h ⊢;rw [bO] at h ⊢;exact ⟨D h.1,h.2⟩
 |⟨n,none,r⟩,h=>by
  change cH kp who kd id ts rel _=true at h;change cH BH who kd id ts rel _=true;rw [cH] at h ⊢
  split
  ·rename_i h0;rw [if_pos h0] at h;refine A8 (fun t A=> ?_) h;rw [bO] at A ⊢;refine ⟨A.1,?_⟩;have:=A.2;unfold oQ at this ⊢
   split
   ·rename_i h2;rw [if_pos h2] at this;exact this
   rename_i h2;rw [if_neg h2] at this;exact C _ this
  rename_i h0;rw [if_neg h0] at h
  split
  ·rename_i h1;rw [if_pos h1] at h;exact C _ h
  rename_i h1;rw [if_neg h1] at h;refine A8 (fun t A=> ?_) h;rw [bO] at A ⊢;refine ⟨A.1,?_⟩;have:=A.2;unfold DF at this ⊢
  split
  ·rename_i h2;rw [if_pos h2] at this;exact C _ this
  rename_i h2;rw [if_neg h2] at this;exact this
 |⟨n,some x,none⟩,h=>by
  change cH kp who kd id ts rel _=true at h;rw [cH] at h
  cases h
end
abbrev uA:=@List.sum_cons
def qK(a b:Nat):Prop:=∀i,a.testBit i=true->b.testBit i=true
def pop(a:Nat):Nat:=(List.range 64).countP fun i=>a.testBit i
theorem qL{α:Type}{p I:α->Bool}(D:∀x,p x=true->I x=true):∀l:List α,l.countP p<=l.countP I
 | []=>an
 |x::l=>by
  have J:=qL D l;rw [List.countP_cons,List.countP_cons]
  by_cases C:p x=true
  ·simp [C,D x C,J]
  simp only [Bool.not_eq_true] at C;rw [C];simp;omega
theorem qM{α:Type}{p D:α->Bool}(C:∀x,p x=true->D x=true):∀(l:List α)(x:α),x∈l->D x=true->p x=false->l.countP p<l.countP D
 | [],x,h,_,_=>by cases h
 |y::l,x,h,hq,hp=>by
  rw [List.countP_cons,List.countP_cons]
  rcases bA.1 h with rfl|h
  ·have:=qL C l;rw [hp,hq];simp;omega
  have:=qM C l x h hq hp
  by_cases A:p y=true
  ·simp [A,C y A,this]
  simp only [Bool.not_eq_true] at A;rw [A];simp;omega
theorem R8(a):pop a<=64:=by
 have:=List.countP_le_length (p:=fun i=>a.testBit i) (l:=List.range 64)
 simpa [pop] using this
theorem R9(C:b<18446744073709551616)(D:qK a b)(I:a≠b):pop a<pop b:=by
 have:∃i,b.testBit i=true/\a.testBit i=false:=by
  apply Classical.byContradiction;intro hn;apply I;apply Nat.eq_of_testBit_eq;intro i
  cases ha:a.testBit i with
  |true=>rw [D i ha]
  |false=>
   cases C:b.testBit i with
   |false=>rfl
   |true=>exact absurd ⟨i,C,ha⟩ hn
 obtain ⟨i,h1,h2⟩:=this;have hi:i<64:=by
  apply Classical.byContradiction;intro hn;rw [Nat.testBit_lt_two_pow (cg C (Nat.pow_le_pow_right (n:=2) aj (show 64<=i by omega)))] at h1
  cases h1
 exact qM (fun x J=>D x J) _ i (List.mem_range.2 hi) h1 h2
theorem A9(h:qK a b):pop a<=pop b:=qL (fun x A=>h x A) _
def iR(l:List Sj)(K:Sj->Nat):Nat:=(l.map fun s=>64-pop (K s)).sum
theorem Fv{K K'}(h:∀s,qK (K s) (K' s)):∀l,iR l K'<=iR l K
 | []=>by simp [iR]
 |s::l=>by
  have A:=Fv h l;have:=A9 (h s);unfold iR at A ⊢;rw [cj,cj,uA,uA];omega
theorem Fw{K K'}(h:∀s,qK (K s) (K' s)){s}(A:K' s<18446744073709551616)(C:K s≠K' s):∀l,s∈l->iR l K'<iR l K
 | [],hs=>by cases hs
 |t::l,hs=>by
  unfold iR;rw [cj,cj,uA,uA]
  rcases bA.1 hs with rfl|hs
  ·have h1:=Fv h l;have h2:=R9 A (h s) C;have D:=R8 (K' s);unfold iR at h1;omega
  have h1:=Fw h A C l hs;have h2:=A9 (h t);unfold iR at h1;omega
theorem wC(K):∀l,iR l K<=64*l.length
 | []=>by simp [iR]
 |s::l=>by
  have:=wC K l;unfold iR at this ⊢;rw [cj,uA,lj];omega
