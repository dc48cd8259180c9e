import Derived.Test.YtlbpnlngckgcbaaGreatDoorM24
import Derived.Test.YtlbpnlngckgcbaaGreatDoorM28
import Derived.Test.YtlbpnlngckgcbaaGreatDoorM25
set_option linter.all false
set_option maxHeartbeats 4000000
set_option maxRecDepth 100000
namespace Go.Proofs.YtlbpnlngckgcbaaGreatDoor
open Go.RowKit Go.PlainAid Go.Proofs.Tryz
variable {aD br:Prop} {α:Type} {a b n f F m p c j:Nat} {hl:List Hd} {pl:List PV} {ts:List Ty} {t:Ty} {rl:List RV} {s:ae} {w:af} {kv rv pv:ag}
def Sl (h:aD:=by
 rw [FQ];exact .inr hs):aD:=h
def FQ(kd id:ae)(ts:List Tu)(rel:ae):Ex->Sj->Prop
 |⟨_,some x,some y⟩,s=>FQ kd id ts rel x s\/FQ kd id ts rel y s
 |⟨n,none,_⟩,s=>(n.kind=0/\∃t∈ts,t.rel=rel/\¬t.of.size=0/\s=fb t)\/(n.kind=1/\s=⟨kd,id,n.n1⟩)\/(¬n.kind=0/\¬n.kind=1/\∃t∈ts,t.rel=n.n1/\t.of.size=0/\s=⟨t.sub,t.who,n.n2⟩)
 |⟨_,some _,none⟩,_=>False
def MI(kd id:ae)(ts:List Tu)(rel:ae):Ex->Sj->Prop
 |⟨n,some x,some y⟩,s=>MI kd id ts rel x s\/(if n.kind=3\/n.kind=4 then MI kd id ts rel y s else FQ kd id ts rel y s)
 |_,_=>False
section
variable {kp FP kn Z5:Sj->Bool}{who:Tg}{kd id:ae}{ts:List Tu}{rel:ae}
def j1{α:Type}{f g:α->Bool}:∀{l:List α},(∀x∈l,f x=g x)->l.any f=l.any g
 | [],_=>rfl
 |x::l,h=>by rw [kg,kg,h x au,j1 (fun y A=>h y (by simp [A]))]
def gu:∀e,(∀s,FQ kd id ts rel e s->kp s=FP s)->cW kp who kd id ts rel e=cW FP who kd id ts rel e
 |⟨n,some x,some y⟩,h=>by
  rw [cW,cW,gu x (fun s hs=>h s (by rw [FQ];exact .inl hs)),gu y (fun s hs=>h s Sl)]
 |⟨n,none,r⟩,h=>by
  rw [cW,cW]
  split
  .rename_i h0;refine j1 (fun t C=> ?_)
   by_cases A:t.rel=rel
   .unfold g8
    split
    .rfl
    rename_i h2;rw [h (fb t) (by rw [FQ];exact .inl ⟨h0,t,C,A,h2,rfl⟩)]
   simp [A]
  rename_i h0
  split
  .rename_i h1;exact h _ (by rw [FQ];exact .inr (.inl ⟨h1,rfl⟩))
  rename_i h1;refine j1 (fun t C=> ?_)
  by_cases A:t.rel=n.n1
  .unfold Iq
   split
   .rename_i h2;rw [h ⟨(fb t).kind,(fb t).id,n.n2⟩ (by rw [FQ];exact .inr (.inr ⟨h0,h1,t,C,A,h2,rfl⟩))]
   rfl
  simp [A]
 |⟨n,some x,none⟩,h=>by rw [cW,cW]
def gw:∀e,(∀s,FQ kd id ts rel e s->kp s=FP s)->(∀s,MI kd id ts rel e s->kn s=Z5 s)->iu kp kn who kd id ts rel e=iu FP Z5 who kd id ts rel e
 |⟨n,some x,some y⟩,h,g=>by
  have D:=gw x (fun s hs=>h s (by rw [FQ];exact .inl hs)) (fun s hs=>g s (by rw [MI];exact .inl hs));rw [iu,iu,D]
  by_cases A:n.kind=3
  .rw [if_pos A,if_pos A,gw y (fun s hs=>h s Sl) (fun s hs=>g s (by rw [MI,if_pos (.inl A)];exact .inr hs))]
  rw [if_neg A,if_neg A]
  by_cases C:n.kind=4
  .rw [if_pos C,if_pos C,gw y (fun s hs=>h s Sl) (fun s hs=>g s (by rw [MI,if_pos (.inr C)];exact .inr hs))]
  rw [if_neg C,if_neg C,gu y (fun s hs=>g s (by rw [MI,if_neg (by omega)];exact .inr hs))]
 |⟨n,none,r⟩,h,g=>gu _ h
 |⟨n,some x,none⟩,h,g=>gu _ h
def EW{f g:α->Bool}{l:List α}(h:∀x,f x=true->g x=true)(A:l.any f=true):l.any g=true:=by
 rw [dh] at A ⊢;obtain ⟨x,C,D⟩:=A;exact ⟨x,C,h x D⟩
def g9(C:∀s,kp s=true->FP s=true):∀e,iu kp kn who kd id ts rel e=true->iu FP kn who kd id ts rel e=true
 |⟨n,some x,some y⟩,h=>by
  have D:=g9 C x;have Q:=g9 C y;rw [iu] at h ⊢
  by_cases I:n.kind=3
  .rw [if_pos I] at h ⊢;rw [kZ] at h ⊢;exact h.imp D Q
  rw [if_neg I] at h ⊢
  by_cases J:n.kind=4
  .rw [if_pos J] at h ⊢;rw [bP] at h ⊢;exact ⟨D h.1,Q h.2⟩
  rw [if_neg J] at h ⊢;rw [bP] at h ⊢;exact ⟨D h.1,h.2⟩
 |⟨n,none,r⟩,h=>by
  change cW kp who kd id ts rel _=true at h;change cW FP who kd id ts rel _=true;rw [cW] at h ⊢
  split
  .rename_i h0;rw [if_pos h0] at h;refine EW (fun t A=> ?_) h;rw [bP] at A ⊢;refine ⟨A.1,?_⟩;have:=A.2;unfold g8 at this ⊢
   split
   .rename_i h2;rw [if_pos h2] at this;exact this
   rename_i h2;rw [if_neg h2] at this;exact C _ this
  rename_i h0;rw [if_neg h0] at h
  split
  .rename_i h1;rw [if_pos h1] at h;exact C _ h
  rename_i h1;rw [if_neg h1] at h;refine EW (fun t A=> ?_) h;rw [bP] at A ⊢;refine ⟨A.1,?_⟩;have:=A.2;unfold Iq at this ⊢
  split
  .rename_i h2;rw [if_pos h2] at this;exact C _ this
  rename_i h2;rw [if_neg h2] at this;exact this
 |⟨n,some x,none⟩,h=>by
  change cW kp who kd id ts rel _=true at h;rw [cW] at h
  cases h
end
abbrev wW:=@List.sum_cons
def sH(a b:Nat):Prop:=∀i,a.testBit i=true->b.testBit i=true
def pop(a:Nat):Nat:=(List.range 64).countP fun i=>a.testBit i
def sI{α:Type}{p C:α->Bool}(h:∀x,p x=true->C x=true):∀l:List α,l.countP p<=l.countP C
 | []=>au
 |x::l=>by
  have D:=sI h l;rw [List.countP_cons,List.countP_cons]
  by_cases A:p x=true
  .simp [A,h x A,D]
  simp only [Bool.not_eq_true] at A;rw [A];simp;omega
def sJ{α:Type}{p D:α->Bool}(h:∀x,p x=true->D x=true):∀(l:List α)(x:α),x∈l->D x=true->p x=false->l.countP p<l.countP D
 | [],x,A,_,_=>by cases A
 |y::l,x,A,hq,hp=>by
  rw [List.countP_cons,List.countP_cons]
  rcases cG.1 A with rfl|A
  .have:=sI h l;rw [hp,hq];simp;omega
  have:=sJ h l x A hq hp
  by_cases C:p y=true
  .simp [C,h y C,this]
  simp only [Bool.not_eq_true] at C;rw [C];simp;omega
def Y8(a):pop a<=64:=by
 have:=List.countP_le_length (p:=fun i=>a.testBit i) (l:=List.range 64)
 simpa [pop] using this
def Y9(A:b<18446744073709551616)(h:sH a b)(C:a≠b):pop a<pop b:=by
 have:∃i,b.testBit i=true/\a.testBit i=false:=by
  apply Classical.byContradiction;intro hn;apply C;apply Nat.eq_of_testBit_eq;intro i
  cases ha:a.testBit i with
  |true=>rw [h i ha]
  |false=>
   cases A:b.testBit i with
   |false=>rfl
   |true=>exact absurd ⟨i,A,ha⟩ hn
 obtain ⟨i,h1,h2⟩:=this;have hi:i<64:=by
  apply Classical.byContradiction;intro hn;rw [Nat.testBit_lt_two_pow (cM A (Nat.pow_le_pow_right (n:=2) ai (show 64<=i by omega)))] at h1
  cases h1
 exact sJ (fun x D=>h x D) _ i (List.mem_range.2 hi) h1 h2
def EX(h:sH a b):pop a<=pop b:=sI (fun x A=>h x A) _
def jr(l:List Sj)(K:Sj->Nat):Nat:=(l.map fun s=>64-pop (K s)).sum
def Km{K K'}(h:∀s,sH (K s) (K' s)):∀l,jr l K'<=jr l K
 | []=>by simp [jr]
 |s::l=>by
  have A:=Km h l;have:=EX (h s);unfold jr at A ⊢;rw [bZ,bZ,wW,wW];omega
def Ko{K K'}(h:∀s,sH (K s) (K' s)){s}(A:K' s<18446744073709551616)(C:K s≠K' s):∀l,s∈l->jr l K'<jr l K
 | [],hs=>by cases hs
 |t::l,hs=>by
  unfold jr;rw [bZ,bZ,wW,wW]
  rcases cG.1 hs with rfl|hs
  .have h1:=Km h l;have h2:=Y9 A (h s) C;have D:=Y8 (K' s);unfold jr at h1;omega
  have h1:=Ko h A C l hs;have h2:=EX (h t);unfold jr at h1;omega
def zL(K):∀l,jr l K<=64*l.length
 | []=>by simp [jr]
 |s::l=>by
  have:=zL K l;unfold jr at this ⊢;rw [bZ,wW,iK];omega
def oN(n a:Nat):Prop:=∀i,n<=i->a.testBit i=false
def pY(A:n<=64)(h:oN n a):a<18446744073709551616:=by
 apply Nat.lt_pow_two_of_testBit (n:=64);intro i hi;exact h i ai
def lK(v)(A:∀s,oN v.cs.length (v.K s))(rel):∀e,oN v.cs.length (ed v rel e)
 |⟨n,some x,some y⟩=>fun i hi=>by
  have C:=lK v A rel x i hi;have J:=lK v A rel y i hi;unfold ed
  split
  .rw [wT,C,J];rfl
  split
  .simp
  split
  .rw [wU,C];simp
  unfold qP;rw [Nat.testBit_and,C];simp
 |⟨n,none,r⟩=>fun i hi=>by
  have I:∀t,(i6 v.K v.cs (fb t)).testBit i=false:=fun t=>by
   unfold i6
   split
   .rw [wV];have:¬i<v.cs.length:=ai;simp [this]
   exact A _ i hi
  have D:∀t,(sE v.K (fb t) n.n2).testBit i=false:=fun t=>by
   unfold sE
   split
   .exact A _ i hi
   simp
  unfold ed
  split
  .rw [lJ];simp [I]
  split
  .exact A _ i hi
  rw [lJ];simp [D]
 |⟨_,some _,none⟩=>fun i hi=>by
  unfold ed;simp
def Za(ls:List (It×ag))(hl:List Hd)(s:Sj):Prop:=∃p∈ls,∃h∈hl,h.kd=p.1.1.1.name/\s=jX p h
def EY(ls:List (It×ag))(hl:List Hd):List Sj:=ls.flatMap fun p=>hl.map fun h=>jX p h
structure Sm(ls:List (It×ag))(hl:List Hd):Prop where
 hds:∀h∈hl,∀h'∈hl,h.kd=h'.kd->h.id=h'.id->h=h'
 lns:∀p∈ls,∀q∈ls,p.1.1.1.name=q.1.1.1.name->p.1.2.1.name=q.1.2.1.name->p.1.2.1.body=q.1.2.1.body
 str:∀p∈ls,∀h∈hl,h.kd=p.1.1.1.name->∀s,MI h.kd h.id h.ts p.1.2.1.name p.1.2.1.body s->¬Za ls hl s
structure aaH(cs:List Tg)(ls:List (It×ag))(hl:List Hd)(K0 K:Sj->Nat):Prop where
 out:∀s,oN cs.length (K s)
 old:∀s,¬Za ls hl s->K s=K0 s
 sub:∀p∈ls,∀h∈hl,h.kd=p.1.1.1.name->sH (K (jX p h)) (tE K cs p h)
def EZ{cs}(A:cs.length<=64){K K'}(h1:∀s,oN cs.length (K s))(h2:∀s,oN cs.length (K' s))(I:∀s,sH (K s) (K' s)){p:It×ag}{h}(J:∀s,MI h.kd h.id h.ts p.1.2.1.name p.1.2.1.body s->K s=K' s):sH (tE K cs p h) (tE K' cs p h):=by
 intro i hi;unfold tE at hi ⊢
 by_cases C:i<cs.length
 .have D:cs[i]? =some cs[i]:=aI C;rw [nV (Ul K cs h) (fun s=>pY A (h1 s)) A D] at hi;rw [nV (Ul K' cs h) (fun s=>pY A (h2 s)) A D];rw [<-gt] at hi ⊢;dsimp only [Ul] at hi ⊢;rw [<-gw (kp:=fun s=>(K' s).testBit i) (kn:=fun s=>(K s).testBit i) p.1.2.1.body (fun s _=>rfl) (fun s hs=>by show (K s).testBit i=(K' s).testBit i;rw [J s hs])];exact g9 (fun s hs=>I s i hs) _ hi
 rw [lK (Ul K cs h) h1 _ _ i (by simpa [Ul] using C)] at hi
 cases hi
def sK{cs:List Tg}{ls:List (It×ag)}(R:cs.length<=64)(Y:Sm ls hl)(ad:Sj->Nat):SeC cs hl ls (aaH cs ls hl ad) (jr (EY ls hl)) where
 bits:=fun K I s=>pY R (I.out s)
 val:=fun K I p Q h J _=>pY R (lK (Ul K cs h) I.out _ _)
 step:=fun K I p Q h J Z aj=>by
  have ah:oN cs.length (tE K cs p h):=lK (Ul K cs h) I.out _ _;have ac:Za ls hl (jX p h):=⟨p,Q,h,J,Z,rfl⟩;have hs:∀s,sH (K s) (mU K (jX p h) (tE K cs p h) s):=fun s=>by
   unfold mU
   split
   .rename_i e;rw [e];exact I.sub p Q h J Z
   exact fun i hi=>hi
  have ho:∀s,oN cs.length (mU K (jX p h) (tE K cs p h) s):=fun s=>by
   unfold mU
   split
   .exact ah
   exact I.out s
  have U:∀q∈ls,∀A∈hl,A.kd=q.1.1.1.name->sH (tE K cs q A) (tE (mU K (jX p h) (tE K cs p h)) cs q A):=fun q U A C D=>
   EZ R I.out ho hs (fun s ai=>by
    unfold mU;rw [if_neg (fun e=>Y.str q U A C D s ai (by rw [e];exact ac))])
  refine ⟨⟨ho,fun s hn=> ?_,fun q V A C D=> ?_⟩,?_⟩
  .unfold mU;rw [if_neg (fun e=>hn (by rw [e];exact ac))];exact I.old s hn
  .by_cases e:jX q A=jX p h
   .have e1:A=h:=Y.hds A C h J (congrArg Sj.kind e) (congrArg Sj.id e);subst e1;have ab:q.1.2.1.name=p.1.2.1.name:=congrArg Sj.rel e;have ae:=Y.lns q V p Q (by rw [<-D,<-Z]) ab;have af:tE K cs p A=tE K cs q A:=by unfold tE;rw [ab,ae]
    rw [e,show mU K (jX p A) (tE K cs p A) (jX p A)=tE K cs p A from if_pos rfl];exact fun i hi=>U q V A C D i (by rw [<-af];exact hi)
   rw [show mU K (jX p h) (tE K cs p h) (jX q A)=K (jX q A) from if_neg e];exact fun i hi=>U q V A C D i (I.sub q V A C D i hi)
  exact Ko hs (s:=jX p h) (pY R (ho _)) (by rw [show mU K (jX p h) (tE K cs p h) (jX p h)=tE K cs p h from if_pos rfl];exact fun e=>aj e.symm) _ (b6.2 ⟨p,Q,aU.2 ⟨h,J,rfl⟩⟩)
def df(a b:ae):bB (a++b)=bB a++bB b:=by
 show (a++b).data.toList=a.data.toList++b.data.toList
 rw [ByteArray.data_append,Array.toList_append]
def Cz{a b:ae}(h:bB a=bB b):a=b:=by rw [<-cX a,<-cX b,h]
def TW(s:ae)(i:Nat)(g:Gr)(h:iB g):bB (BH s i g)=bB (iY s i)++bB (fG g):=by
 unfold BH o6 fG
 rcases h with ⟨h1,h2⟩|h1|⟨h1,h2⟩
 .have e:bH g=em:=by unfold bH;rw [if_neg ai,h2]
  rw [e,(bz em em).2 rfl,if_neg (show ¬g.reach=1 by omega),if_neg (show ¬g.reach=2 by omega)];simp only [rO,if_true,df,ct];simp [em,bB]
 .have e:bH g=sg 42:=by unfold bH;rw [if_pos h1]
  rw [e,(bz (sg 42) (sg 42)).2 rfl,if_pos h1];simp only [Bool.or_true,if_true,df,ct]
 have e1:eqs g.rel em=false:=by
  exact HK
 have A:eqs g.rel (sg 42)=false:=by
  exact QQ
 rw [ow h1,e1,A,if_neg (show ¬g.reach=1 by omega),if_pos h1];simp only [Bool.or_self,bJ,a8,df,ct]
def FG:∀(gs:List Gr)(i:Nat)(s:ae),0<i->(∀g∈gs,iB g)->bB (mT gs i s)=bB s++gs.flatMap fun g=>[44,32]++bB (fG g)
 | [],i,s,_,_=>by simp [mT]
 |g::gs,i,s,hi,h=>by
  rw [mT,FG gs (i+1) _ ai (fun g A=>h g (by simp [A])),TW s i g (h g au),iY,if_pos hi,df,bN];simp [wD,bB]
def o9:∀(rs:List (ae×Nat×Ex)) (x:Ex),(∀r∈rs,r.1=sg 124)->bB (aP (cd x rs))=bB (aP x)++rs.flatMap fun r=>bB mo++bB (aP r.2.2)
 | [],x,_=>by simp [cd]
 |(t,p,y)::rs,x,h=>by
  have e:t=sg 124:=h (t,p,y) au;rw [cd,o9 rs _ (fun r hr=>h r qF)];simp only [dE,aP,e,show kindOf (sg 124)=3 from ay,if_true,df,bN,ct]
def TX(t:ae):ae:=if kindOf t=4 then vM else vN
def pd:∀(rs:List (ae×Nat×Ex)) (x:Ex),(∀r∈rs,r.1=sg 38\/r.1=sg 45)->rs≠ []->bB (aP (cd x rs))=bB (dX x (aP x) 1)++rs.flatMap fun r=>bB (TX r.1)++bB (dX r.2.2 (aP r.2.2) 2)
 | [],x,_,h=>absurd rfl h
 | [(t,p,y)],x,h,_=>by
  have e:t=sg 38\/t=sg 45:=h (t,p,y) au;have k:¬kindOf t=3:=by rcases e with rfl|rfl<;>decide
  simp only [cd,dE,aP,if_neg k,df,bN,jF,dS,ct,TX]
 |(t,p,y)::r2::rs,x,h,_=>by
  have e:t=sg 38\/t=sg 45:=h (t,p,y) au;have k:¬kindOf t=3:=by rcases e with rfl|rfl<;>decide
  rw [cd,pd (r2::rs) _ (fun r hr=>h r qF) au,bN (x:=(t,p,y))];have A:dX (dE t p x y) (aP (dE t p x y)) 1=aP (dE t p x y):=by
   unfold dX;rw [if_neg];simp [vL,dE,k]
  rw [A];simp only [dE,aP,if_neg k,df,ct,TX]
def mW(pl:List PV):Nat->Nat->Bool->Bool->ae
 |0,_,_,_=>em
 |f+1,n,u,d=>match pl[n]? with
  |none=>em
  |some p=>if p.kind=1 then (sg 91++mT p.gs 0 em)++sg 93 else if p.kind=2 then p.nr else if p.kind=3 then (p.nb++sg 46)++p.nr else if p.kind=4 then Ut d (Cy (mW pl f) p.ps p.sg 0 em) else Ut u (iD (mW pl f) p.ps 0 em)
def TY(y:Ex)(u d:Bool):ae:=Ut (match y.l with
 |none=>false
 |some _=>if y.nd.kind=3 then u else d) (aP y)
def Wy(y:Ex):TY y true true=dX y (aP y) 2:=by
 unfold TY dX Ut vL
 cases y.l with
 |none=>simp
 |some z=>by_cases h:y.nd.kind=3<;>simp [h]
def Wz(y:Ex):TY y true false=dX y (aP y) 1:=by
 unfold TY dX Ut vL
 cases y.l with
 |none=>simp
 |some z=>by_cases h:y.nd.kind=3<;>simp [h]
def rf(y:Ex):TY y false false=aP y:=by
 unfold TY Ut
 cases y.l with
 |none=>simp
 |some z=>by_cases h:y.nd.kind=3<;>simp [h]
def KV(gs:List Gr)(h:∀g∈gs,iB g):(sg 91++mT gs 0 em)++sg 93=qx gs:=by
 unfold qx
 congr 2
 refine Cz ?_;rw [j2]
 cases gs with
 |nil=>rfl
 |cons g gs=>
  rw [mT,FG gs 1 _ ai (fun g A=>h g (by simp [A])),TW em 0 g (h g au)];unfold lC;rw [bZ,bZ,Lib.join_cons];unfold Lib.joinTail iY;simp only [Nat.lt_irrefl,a8,fT,List.flatMap];simp [em,bB,Function.comp_def]
def FH{R:Nat->Ex->Prop}(A:Nat->Bool->Bool->ae)(C:∀n y,R n y->A n false false=aP y):∀(rs:List (ae×Nat×Ex)) (ns:List Nat) (k:Nat) (s:ae),0<k->cu R ns (rs.map fun r=>r.2.2)->bB (iD A ns k s)=bB s++rs.flatMap fun r=>bB mo++bB (aP r.2.2)
 | [],[],k,s,_,_=>by simp [iD]
 |r::rs,n::ns,k,s,hk,h=>by
  have e:A n false false=aP r.2.2:=C n _ h.1;rw [iD,FH A C rs ns (k+1) _ ai h.2,df,FE,if_pos hk,df,e,bN];simp only [ct]
  rfl
 | [],_::_,_,_,_,h=>h.elim
 |_::_,[],_,_,_,h=>h.elim
def WA(t:ae)(h:t=sg 38\/t=sg 45):bB (sg 32)++(bB t++bB (sg 32))=bB (TX t):=by
 rcases h with rfl|rfl<;>rfl
def Ad{R:Nat->Ex->Prop}(A:Nat->Bool->Bool->ae)(C:∀n y,R n y->A n true true=dX y (aP y) 2):∀(rs:List (ae×Nat×Ex)) (ns:List Nat) (k:Nat) (s:ae),0<k->(∀r∈rs,r.1=sg 38\/r.1=sg 45)->cu R ns (rs.map fun r=>r.2.2)->bB (Cy A ns (rs.map fun r=>⟨bB r.1,r.2.1,false⟩) k s)=bB s++rs.flatMap fun r=>bB (TX r.1)++bB (dX r.2.2 (aP r.2.2) 2)
 | [],[],k,s,_,_,_=>by simp [Cy]
 |r::rs,n::ns,k,s,hk,hs,h=>by
  have e:A n true true=dX r.2.2 (aP r.2.2) 2:=C n _ h.1;rw [bZ,Cy,Ad A C rs ns (k+1) _ ai (fun r hr=>hs r qF) h.2,df,oa,if_pos hk,kR hk,e,bN,<-WA r.1 (hs r au)];simp only [df,ct,cX]
 | [],_::_,_,_,_,_,h=>h.elim
 |_::_,[],_,_,_,_,h=>h.elim
structure FT(y:Ex):Prop where
 z:Sz y
 g:∀e∈aO y,∀g∈eM e,iB g
 p:(aF y).length<=1000
 a:(bR y).length<=1000
def ob:∀(rs:List (ae×Nat×Ex)) (x:Ex),(∀p∈aF x,p∈aF (cd x rs))/\∀r∈rs,∀p∈aF r.2.2,p∈aF (cd x rs)
 | [],x=>⟨fun p A=>A,au⟩
 |(t,q,y)::rs,x=>by
  obtain ⟨h1,h2⟩:=ob rs (dE t q x y);refine ⟨fun p A=>h1 p (by simp [dE,aF,A]),fun r C p A=> ?_⟩
  rcases List.mem_cons.1 C with rfl|C
  .exact h1 p (by simp [dE,aF,A])
  exact h2 r C p A
def Ae:∀(rs:List (ae×Nat×Ex)) (x:Ex),(bR (cd x rs)).length=(bR x).length+(rs.map fun r=>(bR r.2.2).length).sum
 | [],x=>by simp [cd]
 |(t,q,y)::rs,x=>by
  rw [cd,Ae rs];simp only [dv,dE,aO,cN,bg,bZ,List.sum_cons];omega
def xI(z:ae×Nat×Ex->Nat):∀(l:List (ae×Nat×Ex)),∀m∈l,z m<=(l.map z).sum
 |a::l,m,h=>by
  simp only [bZ,List.sum_cons]
  rcases List.mem_cons.1 h with rfl|h
  .omega
  have:=xI z l m h;omega
def FT.kids{x:Ex}{rs:List (ae×Nat×Ex)}(h:FT (cd x rs)):FT x/\∀r∈rs,FT r.2.2:=by
 obtain ⟨h1,h2⟩:=ob rs x;have J:=h.p;have Q:=h.a;have C:=h.g;rw [iV] at J;rw [Ae] at Q;rw [dG] at C;refine ⟨⟨fun p I=>h.z p (h1 p I),fun e D=>C e (by simp [D]),ai,ai⟩,fun r A=>⟨fun p I=>h.z p (h2 r A p I),fun e D=>C e ?_,?_,?_⟩⟩
 .rw [aW,b6];exact .inr ⟨r.2.2,aU.2 ⟨r,A,rfl⟩,D⟩
 .have:=xI (fun r=>(aF r.2.2).length+1) rs r A;omega
 have:=xI (fun r=>(bR r.2.2).length) rs r A;omega
def oK{R:Nat->Ex->Prop}{A:Ex->Prop}:∀(ns:List Nat) (rs:List (ae×Nat×Ex)),cu R ns (rs.map fun r=>r.2.2)->(∀r∈rs,A r.2.2)->cu (fun n y=>R n y/\A y) ns (rs.map fun r=>r.2.2)
 | [],[],_,_=>trivial
 |n::ns,r::rs,h,k=>⟨⟨h.1,k r au⟩,oK ns rs h.2 (fun r hr=>k r qF)⟩
 | [],_::_,h,_=>h.elim
 |_::_,[],h,_=>h.elim
def sT:∀(rs:List (ae×Nat×Ex)) (x:Ex) (K:Nat),rs≠ []->(∀r∈rs,(kindOf r.1=3)=(K=3))->(cd x rs).l.isSome=true/\((cd x rs).nd.kind=3)=(K=3)
 | [],x,K,h,_=>absurd rfl h
 | [(t,q,y)],x,K,_,h=>by
  have:=h (t,q,y) au;exact ⟨rfl,this⟩
 |(t,q,y)::r2::rs,x,K,_,h=>sT (r2::rs) (dE t q x y) K au (fun r hr=>h r qF)
def KW(D:∀n y,Tr pl f n y->FT y->∀u d,mW pl f n u d=TY y u d)(C:Nat)(ns:List Nat)(A:Ex)(rs:List (ae×Nat×Ex))(I:Tr pl f C A)(J:cu (Tr pl f) ns (rs.map fun r=>r.2.2))(Q:∀r∈rs,r.1=sg 124)(U:FT (cd A rs)):iD (mW pl f) (C::ns) 0 em=aP (cd A rs):=by
 obtain ⟨w0,wr⟩:=U.kids;refine Cz ?_;rw [iD,FH (R:=fun n y=>Tr pl f n y/\FT y) (mW pl f) (fun n y h=>by rw [D n y h.1 h.2,rf]) rs ns 1 _ ai (oK ns rs J wr),o9 rs A Q,df,D C A I w0,rf]
 rfl
def FI(I:∀n y,Tr pl f n y->FT y->∀u d,mW pl f n u d=TY y u d)(C:Nat)(ns:List Nat)(A:Ex)(rs:List (ae×Nat×Ex))(J:Tr pl f C A)(Q:cu (Tr pl f) ns (rs.map fun r=>r.2.2))(D:∀r∈rs,r.1=sg 38\/r.1=sg 45)(U:rs≠ [])(V:FT (cd A rs)):Cy (mW pl f) (C::ns) (⟨[],0,false⟩::rs.map fun r=>⟨bB r.1,r.2.1,false⟩) 0 em=aP (cd A rs):=by
 obtain ⟨w0,wr⟩:=V.kids;refine Cz ?_;rw [Cy,Ad (R:=fun n y=>Tr pl f n y/\FT y) (mW pl f) (fun n y h=>by rw [I n y h.1 h.2,Wy]) rs ns 1 _ ai D (oK ns rs Q wr),pd rs A D U,df,I C A J w0,show decide (0<0)=false from rfl,Wz]
 rfl
def Af(pl:List PV):∀(f n:Nat)(y:Ex),Tr pl f n y->FT y->∀u d,mW pl f n u d=TY y u d
 |0,_,_,h,_,_,_=>h.elim
 |f+1,n,y,⟨p,hp,h⟩,hw,u,d=>by
  rw [mW,hp];simp only
  rcases h with ⟨h1,hn,rfl⟩|⟨h1,h0,hn,rfl⟩|⟨h1,h0,hn,rfl⟩|⟨h1,h0,V,ns,A,rs,J,Q,R,D,C,rfl⟩|⟨h1,h0,Y,V,ns,A,rs,J,Q,R,D,C,rfl⟩
  .rw [if_pos h1,KV p.gs (fun g hg=>hw.g ⟨⟨0,p.pa,em,0,em,0,p.gs⟩,none,none⟩ (by simp [aO]) g JY)]
   rfl
  .rw [if_neg ai,if_pos h1]
   rfl
  .rw [if_neg ai,if_neg ai,if_pos h1]
   rfl
  .rw [if_neg ai,if_neg ai,if_neg ai,if_pos h1,J,D,FI (Af pl f) V ns A rs Q R C.1 C.2 hw];obtain ⟨e1,I⟩:=sT rs A 4 C.2 (fun r U=>by rcases C.1 r U with e|e<;>rw [e]<;>decide);unfold TY
   cases hl:(cd A rs).l with
   |none=>rw [hl] at e1;simp at e1
   |some z=>
    have:¬(cd A rs).nd.kind=3:=by rw [I];decide
    simp only [if_neg this]
  rw [if_neg ai,if_neg ai,if_neg ai,if_neg ai,J,KW (Af pl f) V ns A rs Q R D hw];obtain ⟨e1,I⟩:=sT rs A 3 C (fun r U=>by rw [D r U];decide);unfold TY
  cases hl:(cd A rs).l with
  |none=>rw [hl] at e1;simp at e1
  |some z=>
   have:(cd A rs).nd.kind=3:=by rw [I]
   simp only [if_pos this]
def X7 (h:aD:=by
 rw [h3] at hm
 rcases List.mem_cons.1 hm with rfl|hm
 .exact mK pl f _ x0 h4 w0
 obtain ⟨z,_,A⟩:=cu.mem _ _ (oK ns rs h5 wr) m hm;exact mK pl f _ z A.1 A.2):aD:=h
def TZ (h:aD:=by
 obtain ⟨q,A,_⟩:=id h4;rw [mX,A] at this;simp only at this;omega):aD:=h
def FT.size{y:Ex}(h:FT y):(aP y).size<=40000:=by
 have:=kN y h.z;have:=h.p;have:=h.a;omega
def mK(pl:List PV):∀(f n:Nat)(y:Ex),Tr pl f n y->FT y->Ui pl n (mW pl f n)
 |0,_,_,h,_=>h.elim
 |f+1,n,y,⟨p,hp,h⟩,hw=>by
  have V:=hw.size
  rcases h with ⟨h1,hn,rfl⟩|⟨h1,h0,hn,rfl⟩|⟨h1,h0,hn,rfl⟩|⟨h1,h0,U,ns,x0,rs,h3,h4,h5,C,I,rfl⟩|⟨h1,h0,ab,U,ns,x0,rs,h3,h4,h5,C,I,rfl⟩
  .have e:mW pl (f+1) n=fun _ _=>(sg 91++mT p.gs 0 em)++sg 93:=by
    funext u d
    rw [mW,hp];simp only [if_pos h1]
   have hg:∀g∈p.gs,iB g:=fun g hg=>hw.g ⟨⟨0,p.pa,em,0,em,0,p.gs⟩,none,none⟩ (by simp [aO]) g JY
   have hl:=hw.a;simp only [dv,aO,bN,jF,dS,eM,if_true] at hl;have hs:(aP ⟨⟨0,p.pa,em,0,em,0,p.gs⟩,none,none⟩)=(sg 91++mT p.gs 0 em)++sg 93:=by rw [KV p.gs hg];rfl
   rw [hs,be,be] at V;rw [e];exact xZ pl n p hp h1 ai ai
  .have e:mW pl (f+1) n=fun _ _=>p.nr:=by
    funext u d
    rw [mW,hp];simp only [if_neg (show ¬p.kind=1 by omega),if_pos h1]
   rw [e];exact BJ pl n p hp h1
  .have e:mW pl (f+1) n=fun _ _=>(p.nb++sg 46)++p.nr:=by
    funext u d
    rw [mW,hp];simp only [if_neg (show ¬p.kind=1 by omega),if_neg (show ¬p.kind=2 by omega),if_pos h1]
   have hs:(aP ⟨⟨2,p.pa,p.nb,p.pa,p.nr,p.pr,[]⟩,none,none⟩)=(p.nb++sg 46)++p.nr:=rfl;rw [hs,be,be] at V;rw [e];exact BK pl n p hp h1 ai
  .have e:mW pl (f+1) n=fun _ d=>Ut d (Cy (mW pl f) p.ps p.sg 0 em):=by
    funext u d
    rw [mW,hp];simp only [if_neg (show ¬p.kind=1 by omega),if_neg (show ¬p.kind=2 by omega),if_neg (show ¬p.kind=3 by omega),if_pos h1]
   have Q:Cy (mW pl f) p.ps p.sg 0 em=aP (cd x0 rs):=by rw [h3,C];exact FI (Af pl f) U ns x0 rs h4 h5 I.1 I.2 hw
   have J:=hw.p;have D:=cu.len _ _ h5;have Z:=nP (R:=Tr pl f) (fun _=>0) (fun n x h=>gS _) ns rs h5;rw [iV] at J;obtain ⟨w0,wr⟩:=hw.kids;have Y:0<(aF x0).length:=by
    have:=iW pl f _ _ h4
    cases f with
    |zero=>exact h4.elim
    |succ g=>
     exact TZ
   rw [bO] at D;rw [e];refine xH pl n p hp h1 (mW pl f) (fun m hm=> ?_) (by rw [Q];omega) (by rw [h3,C];simp [D]) (by rw [h3,List.length_cons];omega);exact X7
  have e:mW pl (f+1) n=fun u _=>Ut u (iD (mW pl f) p.ps 0 em):=by
   funext u d
   rw [mW,hp];simp only [if_neg (show ¬p.kind=1 by omega),if_neg (show ¬p.kind=2 by omega),if_neg (show ¬p.kind=3 by omega),if_neg (show ¬p.kind=4 by omega)]
  have Q:iD (mW pl f) p.ps 0 em=aP (cd x0 rs):=by rw [h3];exact KW (Af pl f) U ns x0 rs h4 h5 C hw
  have J:=hw.p;have D:=cu.len _ _ h5;have Z:=nP (R:=Tr pl f) (fun _=>0) (fun n x h=>gS _) ns rs h5;rw [iV] at J;obtain ⟨w0,wr⟩:=hw.kids;have Y:0<(aF x0).length:=by
   have:=iW pl f _ _ h4
   cases f with
   |zero=>exact h4.elim
   |succ g=>
    exact TZ
  rw [bO] at D;rw [e];refine yj pl n p hp h1 (mW pl f) (fun m hm=> ?_) (by rw [Q];omega) (by rw [h3,List.length_cons];omega);exact X7
def gx(W:Nat->ae)(kd:ae):List RV->ae->ae
 | [],s=>s
 |x::xs,s=>gx W kd xs (if eqs x.kd kd then ((((s++sd)++x.nm)++iU)++W x.ex)++lE else s)
def fp(W:Nat->ae)(rl:List RV):List (ae×Nat)->ae->ae
 | [],s=>s
 |k::ks,s=>fp W rl ks (gx W k.1 rl (((s++gl)++k.1)++jh)++gZ)
def lS(A:Nat->ae)(kd:ae):∀(l:List RV)(s:ae),s.size<=(gx A kd l s).size
 | [],s=>bV _
 |x::l,s=>by
  have h1:=lS A kd l (if eqs x.kd kd then ((((s++sd)++x.nm)++iU)++A x.ex)++lE else s);rw [gx]
  split at h1
  .rename_i h;rw [if_pos h];simp only [be] at h1;omega
  rename_i h;rw [if_neg h];exact h1
def xJ(h:Nat->ae)(rl:List RV):∀(l:List (ae×Nat)) (s:ae),s.size<=(fp h rl l s).size
 | [],s=>bV _
 |k::l,s=>by
  have h1:=xJ h rl l (gx h k.1 rl (((s++gl)++k.1)++jh)++gZ);have h2:=lS h k.1 rl (((s++gl)++k.1)++jh);rw [fp];simp only [be] at h1 h2;omega
def xK(A:Nat->ae)(kd:ae):∀(l:List RV)(s:ae),bB (gx A kd l s)=bB s++(l.filter fun x=>eqs x.kd kd).flatMap fun x=>bB ((((sd++x.nm)++iU)++A x.ex)++lE)
 | [],s=>by simp [gx]
 |x::l,s=>by
  rw [gx,xK A kd l]
  cases h:eqs x.kd kd
  .simp [h]
  simp [h,df,ct]
def tK(h:Nat->ae)(rl:List RV):∀(l:List (ae×Nat)) (s:ae),bB (fp h rl l s)=bB s++l.flatMap fun k=>bB ((gl++k.1)++jh)++((rl.filter fun x=>eqs x.kd k.1).flatMap fun x=>bB ((((sd++x.nm)++iU)++h x.ex)++lE))++bB gZ
 | [],s=>by simp [fp]
 |k::l,s=>by
  rw [fp,tK h rl l,df,xK,bN];simp only [df,ct]
def tL{pl:List PV}{F:Nat}(f:RV->List UInt8)(g:ae×Rl->List UInt8)(k:ae):∀(xs:List RV) (ps:List (ae×Rl)),cT pl F xs ps->(∀x p,p∈ps->x.nm=p.2.name->Tr pl F x.ex p.2.body->f x=g p)->(xs.filter fun x=>eqs x.kd k).flatMap f=(ps.filter fun p=>eqs p.1 k).flatMap g
 | [],[],_,_=>rfl
 |x::xs,p::ps,h,hf=>by
  have A:=tL f g k xs ps h.2 (fun x p D=>hf x p (by simp [D]));obtain ⟨⟨h1,h2,_,C⟩,_⟩:=h;have e:=hf x p au h2 C;rw [List.filter_cons,List.filter_cons,h1]
  cases eqs p.1 k
  .simpa using A
  simp [A,e]
 | [],_::_,h,_=>h.elim
 |_::_,[],h,_=>h.elim
def FJ(h:et ts)(Q:t∈ts):((bx ts).filter fun p=>eqs p.1 t.name)=t.rels.map fun r=>(t.name,r):=by
 obtain ⟨A,B,rfl⟩:=rI Q;have C:=h.ty;rw [List.pairwise_append,ky] at C;obtain ⟨_,⟨h2,_⟩,I⟩:=C;have no:∀l:List Ty,(∀u∈l,u.name≠t.name)->((l.flatMap fun t=>t.rels.map fun r=>(t.name,r)).filter fun p=>eqs p.1 t.name)=[]:=fun l hl=>by
  rw [List.filter_eq_nil_iff];intro p C J;obtain ⟨u,D,C⟩:=b6.1 C;obtain ⟨r,_,rfl⟩:=aU.1 C;exact hl u D ((bz _ _).1 J)
 unfold bx;rw [cN,bN,List.filter_append,List.filter_append,no A (fun u D=>I u D t au),no B (fun u D e=>h2 u D e.symm),List.nil_append,dS,List.filter_eq_self];intro p C;obtain ⟨r,_,rfl⟩:=aU.1 C;exact (bz _ _).2 rfl
def T0(C:et ts)(hF:cT pl F rl (bx ts))(R:∀t∈ts,∀r∈t.rels,FT r.body):bB (fp (fun n=>mW pl F n false false) rl (ts.map fun t=>(t.name,t.place)) em)=mq ts:=by
 rw [tK];unfold mq;have key:∀t∈ts,bB ((gl++t.name)++jh)++((rl.filter fun x=>eqs x.kd t.name).flatMap fun x=>bB ((((sd++x.nm)++iU)++mW pl F x.ex false false)++lE))++bB gZ=vW t:=fun t A=>by
  rw [tL (fun x:RV=>bB ((((sd++x.nm)++iU)++mW pl F x.ex false false)++lE)) (fun p=>bB (G9 p.2)) t.name rl (bx ts) hF (fun x p D hn Q=>by
   obtain ⟨U,J,_,I⟩:=dz.1 D;rw [Af pl F _ _ Q (R U J p.2 I),rf,hn]
   rfl),FJ C A]
  unfold vW mQ vV;rw [List.flatMap_map]
 have all:∀l:List Ty,(∀t∈l,t∈ts)->((l.map fun t=>(t.name,t.place)).flatMap fun k=>bB ((gl++k.1)++jh)++((rl.filter fun x=>eqs x.kd k.1).flatMap fun x=>bB ((((sd++x.nm)++iU)++mW pl F x.ex false false)++lE))++bB gZ)=l.flatMap vW:=by
  intro l hl
  induction l with
  |nil=>rfl
  |cons t l ih=>rw [bZ,bN,bN,ih (fun t A=>hl t (by simp [A])),key t (hl t au)]
 rw [all ts (fun t A=>A)]
 rfl
def Ag(A:Nat->ae)(kd:ae)(C:Nat):∀(l:List RV)(s:ae),(∀x∈l,x.nm.size+(A x.ex).size+5<=C)->(gx A kd l s).size<=s.size+l.length*C
 | [],s,_=>by rw [gx];exact Nat.le_add_right _ _
 |x::l,s,h=>by
  have h1:=Ag A kd C l (if eqs x.kd kd then ((((s++sd)++x.nm)++iU)++A x.ex)++lE else s) (fun x hx=>h x yC);have h2:=h x au;rw [gx,List.length_cons,Nat.succ_mul];generalize l.length*C=y at*;refine aV h1 ?_
  split
  .rw [be,be,be,be,be,show sd.size=1 from rfl,show iU.size=2 from rfl,show lE.size=2 from rfl];omega
  omega
def xL(A:Nat->ae)(rl:List RV)(C D:Nat)(hx:∀x∈rl,x.nm.size+(A x.ex).size+5<=C):∀(l:List (ae×Nat)) (s:ae),(∀k∈l,k.1.size+10+rl.length*C<=D)->(fp A rl l s).size<=s.size+l.length*D
 | [],s,_=>by rw [fp];exact Nat.le_add_right _ _
 |k::l,s,h=>by
  have h1:=xL A rl C D hx l (gx A k.1 rl (((s++gl)++k.1)++jh)++gZ) (fun x hx=>h x yC);have h2:=Ag A k.1 C rl (((s++gl)++k.1)++jh) hx;have I:=h k au;rw [fp,List.length_cons,Nat.succ_mul];rw [be,show gZ.size=2 from rfl] at h1;rw [be,be,be,show gl.size=5 from rfl,show jh.size=3 from rfl] at h2;generalize l.length*D=y at*;generalize rl.length*C=z at*;omega
def ub1(n C:Nat)(h:n<=500)(A:C=40013):n*C<=20006500:=by subst A;omega
def ub2(n A:Nat)(h:n<=5)(C:A=20006518):n*A<=200000000:=by subst C;omega
def Ah{pl:List PV}{F:Nat}:∀(xs:List RV) (ps:List (ae×Rl)),cT pl F xs ps->∀x∈xs,∃p∈ps,x.kd=p.1/\x.nm=p.2.name/\Tr pl F x.ex p.2.body
 | [],[],_,x,A=>by simp at A
 |y::xs,p::ps,h,x,A=>by
  rcases List.mem_cons.1 A with rfl|A
  .exact ⟨p,au,h.1.1,h.1.2.1,h.1.2.2.2⟩
  obtain ⟨q,C,h1⟩:=Ah xs ps h.2 x A;exact ⟨q,by simp [C],h1⟩
 | [],_::_,h,_,_=>h.elim
 |_::_,[],h,_,_=>h.elim
structure PrB(w:af)(b:Nat)(kv rv pv:ag)(kl:List (ae×Nat))(rl:List RV)(pl:List PV)(l:List PX)(W:Nat->Bool->Bool->ae)(R:ae):Prop where
 dm:DM w b kv rv pv kl rl pl l
 wr:∀x∈rl,Ui pl x.ex (W x.ex)
 eq:fp (fun n=>W n false false) rl kl em=R
 sz:R.size<=200000000
def pr_ok(hs:s.size<=500){kl:List (ae×Nat)}{l:List PX}(h:dI (TT s) (PP s)=.ok (ts,m))(R:eB ts=none)(ak:Gd s m)(U:DM w b kv rv pv kl rl pl l)(ab:tO pl kl rl ts):∃W,PrB w b kv rv pv kl rl pl l W (mk (mq ts)):=by
 obtain ⟨F,hF⟩:=dc.fuel rl _ ab.2;have ad:=sized h ak hs;have al:=sq h;have V:=se (TT s) (PP s) _ _ _ _ _ au h;obtain ⟨rfl,av⟩:=id ab;have ap:CB [] ts=none:=by
  unfold eB at R
  split at R
  .simp at R
  assumption
 have ah:=(lG ts [] ap).2;have ac:∀t∈ts,∀r∈t.rels,FT r.body:=fun t A r D=>⟨((V t A).2 r D).2,al t A r D,aV (ad t A r D).1 ai,aV (ad t A r D).2 ai⟩
 have aj:=T0 ah hF ac;have J:∀x∈rl,Ui pl x.ex (mW pl F x.ex)/\x.nm.size<=8/\(mW pl F x.ex false false).size<=40000:=fun x J=>by
  obtain ⟨p,an,_,h2,Q⟩:=Ah rl _ hF x J;obtain ⟨t,A,_,D⟩:=dz.1 an;have Y:=ac t A _ D;refine ⟨mK pl F _ _ Q Y,by rw [h2];exact ((V t A).2 _ D).1,?_⟩;rw [Af pl F _ _ Q Y,rf];exact Y.size
 have Z:fp (fun n=>mW pl F n false false) rl (ts.map fun t=>(t.name,t.place)) em=mk (mq ts):=by rw [<-aj,cX]
 refine ⟨mW pl F,U,fun x h=>(J x h).1,Z,?_⟩;obtain ⟨C,af⟩:∃C:Nat,C=40013:=⟨_,rfl⟩;obtain ⟨I,ag⟩:∃I:Nat,I=20006518:=⟨_,rfl⟩;have ar:=xL (fun n=>mW pl F n false false) rl C I (fun x h=>by
  have:=(J x h).2
  show x.nm.size+(mW pl F x.ex false false).size+5<=C
  omega) (ts.map fun t=>(t.name,t.place)) em (fun k am=>by
  obtain ⟨t,A,rfl⟩:=aU.1 am;have h1:=(V t A).1;have h2:=ub1 rl.length C U.rn af
  show t.name.size+10+rl.length*C<=I
  generalize rl.length*C=z at*;omega)
 have Q:=ub2 _ I U.kn ag;rw [Z,show em.size=0 from rfl] at ar;generalize (ts.map fun t=>(t.name,t.place)).length*I=z at*;omega
def qb(s:ae)(w:af)(c p:Nat)(D:c≠0)(C:Calls prog 80 #[aj s] w fun e w'=>e=bj (.tuple #[.pointer none,ar c,ar p])/\an w w'):
  Calls prog 43 #[aj s] w fun e w'=>e=bj (.tuple #[aj ⟨#[]⟩,ar c,ar p])/\an w w':=by
 have I:((c:Int)==0)=false:=by rw [bW];omega
 have J:((c:Int) != 0)=true:=gV.2 ai;go_enter func43,ntmps43;go_wp2_with fail;refine C.mono ?_;rintro e w1 ⟨rfl,A⟩;go_wp2;go_ret3;exact ⟨rfl,A⟩
def Nl(t:ae)(w:af)(R:ae)(C:Calls prog 80 #[aj t] w fun e w'=>an w w'/\∃b kv rv pv kl rl pl l W,e=bj (.tuple #[.pointer (some (aC b 5)),ar 0,ar 0])/\PrB w' b kv rv pv kl rl pl l W R):
  Calls prog 43 #[aj t] w fun e w'=>e=bj (.tuple #[aj R,ar 0,ar 0])/\an w w':=by
 go_enter func43,ntmps43;go_wp2_with fail;refine C.mono ?_;rintro e w1 ⟨ak,b,kv,rv,pv,kl,rl,pl,l,W,rfl,Y⟩;have J:=Y.dm;have a1:=Y.sz;have aX:=J.kn;have aY:=J.rn;obtain ⟨a2,a3,rfl⟩:=ax J.kt;obtain ⟨a4,rc,rfl⟩:=ax J.rt;have ay:=Y.wr;have aw:=(Y.eq:fp (fun n=>W n false false) rl (kl.drop 0) em=R);go_wp2_with fail
 go_loopw [8,9] (fun ah ad wr=>∃(i:Nat)(s:ae),i<=kl.length/\ad=ar i/\ah=aj s/\an w1 wr/\(fp (fun n=>W n false false) rl (kl.drop i) s=R)) (fun _ ad _=>kl.length-(intOf ad).toNat)
 .exact ⟨0,em,ai,rfl,rfl,aA _ _,aw⟩
 .obtain ⟨i,s,hi,rfl,rfl,A,U⟩:=hrel;have I:=J.below A;have c5:=I.c5;have c6:=I.c6
  by_cases ac:i<kl.length
  .have aH:(i:Int)<(kl.length:Int):=by omega
   obtain ⟨gk,ck,e1,k0,k1⟩:=I.kat i kl[i] (aI ac);simp only [aK,true_and] at e1;obtain ⟨rfl,rfl⟩:=e1;rw [c9 ac,fp] at U;have az:=aI ac;generalize kl[i]=x at*;have aL:=xJ (fun n=>W n false false) rl (kl.drop (i+1)) (gx (fun n=>W n false false) x.1 rl (((s++gl)++x.1)++jh)++gZ);rw [U,be] at aL;have aM:=lS (fun n=>W n false false) x.1 rl (((s++gl)++x.1)++jh);rw [be,be,be] at aM;generalize aB:gx (fun n=>W n false false) x.1 rl (((s++gl)++x.1)++jh)=Q at*;have av:=(aB:gx (fun n=>W n false false) x.1 (rl.drop 0) (((s++gl)++x.1)++jh)=Q);have aV:Q.size<=200000000:=ai;have aZ:s.size+x.1.size<=200000000:=ai;go_wp2_with fail
   go_loopw [8,10] (fun ah ag aP=>∃(k:Nat)(s:ae),k<=rl.length/\ag=ar k/\ah=aj s/\an w1 aP/\(gx (fun n=>W n false false) x.1 (rl.drop k) s=Q)) (fun _ ag _=>rl.length-(intOf ag).toNat)
   .exact ⟨0,_,ai,rfl,rfl,A,av⟩
   obtain ⟨k,u,aW,rfl,rfl,A,D⟩:=hrel;have I:=J.below A;have c5:=I.c5;have c6:=I.c6;have aO:=A.size;obtain ⟨aU,aT,e1,k0,k1⟩:=I.kat i x az;simp only [aK,true_and,aR,cg,and_true] at e1;obtain ⟨rfl,rfl⟩:=e1;have aN:=lS (fun n=>W n false false) x.1 (rl.drop k) u;rw [D] at aN
   by_cases ab:k<rl.length
   .have aJ:(k:Int)<(rl.length:Int):=by omega
    obtain ⟨gr,cr,e1,a5,aS,a6,a7⟩:=I.rat k rl[k] (aI ab);simp only [aK,true_and] at e1;obtain ⟨rfl,rfl⟩:=e1;rw [c9 ab,gx] at D;have aF:=ay _ (bu ab);generalize rl[k]=y at*
    by_cases V:eqs y.kd x.1=true
    .have aG:(y.kd.toList==x.1.toList)=true:=by rw [<-aQ];exact V
     rw [if_pos V] at D;have al:=lS (fun n=>W n false false) x.1 (rl.drop (k+1)) (((((u++sd)++y.nm)++iU)++W y.ex false false)++lE);rw [D,be,be,be,be,be] at al;have f1:sd.size=1:=rfl;have f2:iU.size=2:=rfl;have f3:lE.size=2:=rfl;rw [f1,f2,f3] at al;have C:=fun (n:Nat)=>aF false false b _ _ pv kl rl l _ (J.below (below_drewN A n))
     generalize W y.ex false false=z at*;have a0:u.size+y.nm.size+z.size<=200000000:=ai;go_wp2_with fail
     go_quiet (fail)
     go_wp2_with fail;refine (C _).mono ?_;rintro e w5 ⟨rfl,aE⟩;have Z:=(below_drewN (aA wr.heap.size wr) _).trans (aE.mono (below_drewN (aA wr.heap.size wr) _).size);have au:=A.trans (Z.mono aO);have d6:=am c6 Z;have a8:=am aS Z;go_wp2;go_roundw
     .exact ⟨k+1,_,ai,by go_num,rfl,au,D⟩
     simp [intOf];omega
    have aG:(y.kd.toList==x.1.toList)=false:=by rw [<-aQ];simpa using V
    rw [if_neg V] at D;go_wp2
    go_quiet (fail)
    go_wp2;go_roundw
    .exact ⟨k+1,_,ai,by go_num,rfl,below_drewN A _,D⟩
    simp [intOf];omega
   have aJ:¬((k:Int)<(rl.length:Int)):=ai;have e:u=Q:=by
    have:=D;rw [sx ai] at this;exact this
   subst e;go_wp2;go_roundw
   .exact ⟨i+1,_,ai,by go_num,rfl,A,U⟩
   simp [intOf];omega
  have aH:¬((i:Int)<(kl.length:Int)):=ai;have e:s=R:=by
   have:=U;rw [sx ai] at this;exact this
  subst e;have ap:=ak.trans (A.mono ak.size);go_wp2;go_ret3;exact ⟨rfl,ap⟩
def T2(q:br) (h:cj br->aD:=by
 intro zq;have hr:dy s=.error (some p,c):=by unfold dy;rw [if_neg hs,hm];simp only [hc]
 have e:KY s=(⟨#[]⟩,c,p):=by unfold KY;rw [hr]
 unfold od;rw [e]
 revert hr e
 exact zq.1):aD:=h ⟨q⟩
def T4(q:br) (h:cj br->aD:=by
 intro zq;have hr:dy s=.error (some (PP s j),c):=by unfold dy;rw [if_neg hs,hm]
 have e:KY s=(⟨#[]⟩,c,PP s j):=by unfold KY;rw [hr]
 unfold od;rw [e]
 revert hr e
 exact zq.1):aD:=h ⟨q⟩
def T5(q:br) (h:cj br->aD:=by
 intro zq;have hr:dy s=.ok ts:=by unfold dy;rw [if_neg hs,hm];simp only [hc]
 have e:KY s=(mk (mq ts),0,0):=by unfold KY;rw [hr]
 unfold od;rw [e]
 revert hr e
 exact zq.1):aD:=h ⟨q⟩
def KY(s:ae):ae×Nat×Nat:=match dy s with
 | .ok ts=>(mk (mq ts),0,0)
 | .error (some p,c)=>(⟨#[]⟩,c,p)
 | .error (none,c)=>(⟨#[]⟩,c,0)
def od(s:ae)(w:af)(e:Ending)(w':af):Prop:=e=bj (.tuple #[aj (KY s).1,ar (KY s).2.1,ar (KY s).2.2])/\an w w'
def FK(h:eB ts=some (p,c)):c≠0:=by
 unfold eB at h
 split at h
 .simp at h;omega
 split at h
 .simp at h;omega
 split at h
 .simp at h;omega
 simp at h
def FL(hs:s.size<=500)(w:af)(h:dI (TT s) (PP s)=.error (c,j)):c≠0:=by
 obtain ⟨e,w',fr,A,_⟩:=jm s w hs [];have:=A.2;rw [h] at this;exact this.1
def I7(s:ae)(hs:500<s.size)(w:af)(I:Laid w):
  Calls prog 14 #[aj s] w fun e w'=>e=bj (.tuple #[aj ⟨#[]⟩,ar 1,ar 0])/\an w w':=by
 have C:=yU s w hs;have hl:=I.lt;go_enter func14,ntmps14;go_wp2_with fail;refine C.mono ?_;rintro e U ⟨D,rfl⟩;have h:=D.alloc D.size (aY aw none 0 0);have Q:=I.below h hl;unfold Pp cm;have A:=kq 1 _ Q;unfold cm at A;go_wp2_with fail;refine A.mono ?_;rintro e V ⟨rfl,R⟩;have J:=h.trans (R.mono h.size);go_wp2;go_ret3;exact ⟨rfl,J⟩
def I8(s:ae)(w:af)(A:Laid w):Calls prog 14 #[aj s] w (od s w):=by
 by_cases hs:500<s.size
 .have e:KY s=(⟨#[]⟩,1,0):=by unfold KY dy;rw [if_pos hs]
  unfold od;rw [e];exact I7 s hs w A
 cases hm:dI (TT s) (PP s) with
 |error er=>
  obtain ⟨c,j⟩:=er;refine T4 ?_;intro hr e;exact ze s _ c hr (FL ai w hm) w A
 |ok y=>
  obtain ⟨ts,j⟩:=y
  cases hc:eB ts with
  |some q=>
   obtain ⟨p,c⟩:=q;refine T2 ?_;intro hr e;exact ze s _ c hr (FK hc) w A
  |none=>
   refine T5 ?_;intro hr e;exact P8 s ts hr w A
def Nn(s:ae)(w:af):Calls prog 43 #[aj s] w (od s w):=by
 by_cases hs:500<s.size
 .have e:KY s=(⟨#[]⟩,1,0):=by unfold KY dy;rw [if_pos hs]
  unfold od;rw [e];exact qb s w 1 0 ai (wk s w hs)
 have C:=jm s w ai
 cases hm:dI (TT s) (PP s) with
 |error er=>
  obtain ⟨c,j⟩:=er;refine T4 ?_;intro hr e;refine qb s w c _ (FL ai w hm) (C.mono fun e w' h=> ?_);have h2:=h.2;rw [hm] at h2;exact ⟨h2.2,h.1⟩
 |ok y=>
  obtain ⟨ts,j⟩:=y
  cases hc:eB ts with
  |some q=>
   obtain ⟨p,c⟩:=q;refine T2 ?_;intro hr e;refine qb s w c p (FK hc) (C.mono fun e w' h=> ?_);have h2:=h.2;rw [hm] at h2;simp only [hc] at h2;exact ⟨h2,h.1⟩
  |none=>
   refine T5 ?_;intro hr e;refine Nl s w _ (C.mono fun e w' h=>⟨h.1,?_⟩);have h2:=h.2;rw [hm] at h2;simp only [hc] at h2;obtain ⟨b,kv,rv,pv,kl,rl,pl,l,e1,D,J,I,_⟩:=h2;obtain ⟨W,A⟩:=pr_ok ai hm hc I D J;exact ⟨b,kv,rv,pv,kl,rl,pl,l,W,e1,A⟩
def I9(p:Option Addr)(n:Int)(s r D:ae)(w:af)(Q:Laid w):
  Calls prog 15 #[.pointer p,.agg #[ar 1,ar n,aj s,aj r,aj D]] w fun e w'=>e=bj (.bool true)/\an w w':=by
 have hl:=Q.lt;have C:=((aA _ w).alloc aH _:an w (w.alloc (.cells #[ar 1,ar n,aj s,aj r,aj D] 34)));have K0:=aL.new w #[ar 1,ar n,aj s,aj r,aj D] 34;have U:=Q.below C hl;have h:=I8 s _ U;have A:=fun w'=>Nn s w'
 unfold od at h A;generalize KY s=X at h A;obtain ⟨x,c,a⟩:=X;simp only at h A;go_enter func15,ntmps15;go_wp2_with fail;refine h.mono ?_;rintro e w1 ⟨rfl,J⟩;have I:=C.trans (J.mono C.size);obtain ⟨d0,d1,d2,d3,d4⟩:=(K0.below J).five;go_wp2_with fail;refine (A w1).mono ?_;rintro e Y ⟨rfl,V⟩;have R:=I.trans (V.mono I.size);go_wp2;go_ret;exact ⟨rfl,R⟩
