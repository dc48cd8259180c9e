import Derived.Test.YtlbpnlngckgcbaaGreatDoorM25
import Derived.KernelRfl
set_option linter.all false
set_option maxHeartbeats 4000000
set_option maxRecDepth 100000
namespace Go.Proofs.YtlbpnlngckgcbaaGreatDoor
open Go.RowKit Go.PlainAid
structure Sh where
 k:Nat
 n:Qx
 m:Qx
 l:Option Sh
 r:Option Sh
def jd:Sh:=⟨0,⟨#[]⟩,⟨#[]⟩,none,none⟩
def dW (n:Qx):Sh:=⟨1,n,⟨#[]⟩,none,none⟩
def FB (n m:Qx):Sh:=⟨2,n,m,none,none⟩
def dL (x y:Sh):Sh:=⟨3,⟨#[]⟩,⟨#[]⟩,some x,some y⟩
def kG (x y:Sh):Sh:=⟨4,⟨#[]⟩,⟨#[]⟩,some x,some y⟩
def kH (x y:Sh):Sh:=⟨5,⟨#[]⟩,⟨#[]⟩,some x,some y⟩
def uX:Ex→Sh
 |⟨n,some x,some y⟩=>if n.kind=3 then dL (uX x) (uX y) else if n.kind=4 then kG (uX x) (uX y) else kH (uX x) (uX y)
 |⟨n,none,_⟩=>if n.kind=0 then jd else if n.kind=1 then dW n.n1 else FB n.n1 n.n2
 |⟨_,some _,none⟩=>jd
def gD (kb:Sj→Bool) (who:Tg) (kd id:Qx) (ts:List Tu) (rel:Qx):Sh→Bool
 |⟨k,_,_,some x,some y⟩=>if k=3 then gD kb who kd id ts rel x||gD kb who kd id ts rel y else if k=4 then gD kb who kd id ts rel x&&gD kb who kd id ts rel y else gD kb who kd id ts rel x&& !gD kb who kd id ts rel y
 |⟨k,n,m,none,_⟩=>if k=0 then ts.any (fun t=>decide (t.rel=rel)&&oo kb who (fB t)) else if k=1 then kb ⟨kd,id,n⟩ else ts.any (fun t=>decide (t.rel=n)&&De kb (fB t) m)
 |⟨_,_,_,some _,none⟩=>false
def Ba:Sh→Sh→Bool
 |⟨k,n,m,some x,some y⟩,⟨k',n',m',some x',some y'⟩=>decide (k=k')&&decide (n=n')&&decide (m=m')&&Ba x x'&&Ba y y'
 |⟨k,n,m,none,none⟩,⟨k',n',m',none,none⟩=>decide (k=k')&&decide (n=n')&&decide (m=m')
 |_,_=>false
theorem Af:∀a b:Sh,Ba a b=true→a=b
 |⟨k,n,m,some x,some y⟩,⟨k',n',m',some x',some y'⟩,h=>by
  simp only [Ba,Bool.and_eq_true,decide_eq_true_eq] at h;obtain ⟨⟨⟨⟨rfl,rfl⟩,rfl⟩,h1⟩,h2⟩:=h;rw [Af x x' h1,Af y y' h2]
 |⟨k,n,m,none,none⟩,⟨k',n',m',none,none⟩,h=>by
  simp only [Ba,Bool.and_eq_true,decide_eq_true_eq] at h;obtain ⟨⟨rfl,rfl⟩,rfl⟩:=h
  rfl
 |⟨_,_,_,some _,some _⟩,⟨_,_,_,some _,none⟩,h=>by simp [Ba] at h
 |⟨_,_,_,some _,some _⟩,⟨_,_,_,none,some _⟩,h=>by simp [Ba] at h
 |⟨_,_,_,some _,some _⟩,⟨_,_,_,none,none⟩,h=>by simp [Ba] at h
 |⟨_,_,_,none,none⟩,⟨_,_,_,some _,some _⟩,h=>by simp [Ba] at h
 |⟨_,_,_,none,none⟩,⟨_,_,_,some _,none⟩,h=>by simp [Ba] at h
 |⟨_,_,_,none,none⟩,⟨_,_,_,none,some _⟩,h=>by simp [Ba] at h
 |⟨_,_,_,some _,none⟩,b,h=>by simp [Ba] at h
 |⟨_,_,_,none,some _⟩,b,h=>by simp [Ba] at h
theorem uY (kb:Sj→Bool) (who:Tg) (kd id:Qx) (ts:List Tu) (rel:Qx):∀e,CZ e→bY kb who kd id ts rel e=gD kb who kd id ts rel (uX e)
 |⟨n,some x,some y⟩,h=>by
  have hx:=uY kb who kd id ts rel x h.1;have hy:=uY kb who kd id ts rel y h.2;rw [bY,uX,hx,hy]
  split
  ·simp [dL,gD]
  ·split
   ·simp [kG,gD]
   ·simp [kH,gD]
 |⟨n,none,r⟩,_=>by
  rw [bY,uX]
  split
  ·simp [jd,gD]
  ·split
   ·simp [dW,gD]
   ·simp [FB,gD]
 |⟨n,some x,none⟩,h=>h.elim
def D5:Sh→Option (List Qx)
 |⟨_,_,_,some x,some y⟩=>(D5 x).bind fun a=>(D5 y).map fun b=>a++b
 |⟨k,n,_,none,_⟩=>if k=1 then some [n] else none
 |⟨_,_,_,some _,none⟩=>none
def Lm:Sh→Option (List Qx)
 |⟨k,_,_,some x,some y⟩=>(Lm x).bind fun a=>(if k=5 then D5 y else Lm y).map fun b=>a++b
 |_=>some []
theorem gN {a b:Option (List Qx)} {l:List Qx} (h:(a.bind fun a=>b.map fun b=>a++b)=some l):∃x y,a=some x∧b=some y∧l=x++y:=by
 cases a with
 |none=>cases h
 |some x=>
  cases b with
  |none=>cases h
  |some y=>exact ⟨x,y,rfl,rfl,by simpa using h.symm⟩
section
variable {kd id:Qx} {ts:List Tu} {rel:Qx} {s:Sj}
theorem uZ:∀(e:Ex) (l:List Qx),D5 (uX e)=some l→AU kd id ts rel e s→s.kind=kd∧s.id=id∧s.rel∈l
 |⟨n,some x,some y⟩,l,h,hr=>by
  have key:∃a b,D5 (uX x)=some a∧D5 (uX y)=some b∧l=a++b:=by
   rw [uX] at h
   split at h
   ·unfold dL at h;rw [D5] at h;exact gN h
   ·split at h
    ·unfold kG at h;rw [D5] at h;exact gN h
    ·unfold kH at h;rw [D5] at h;exact gN h
  obtain ⟨a,b,h1,h2,rfl⟩:=key
  rcases hr with hr|hr
  ·obtain ⟨q1,q2,q3⟩:=uZ x a h1 hr;exact ⟨q1,q2,List.mem_append_left _ q3⟩
  ·obtain ⟨q1,q2,q3⟩:=uZ y b h2 hr;exact ⟨q1,q2,List.mem_append_right _ q3⟩
 |⟨n,none,r⟩,l,h,hr=>by
  rw [uX] at h
  split at h
  ·simp [jd,D5] at h
  ·rename_i h0
   split at h
   ·rename_i h1;simp only [dW,D5,if_true,Option.some.injEq] at h;subst h
    rcases hr with ⟨e,_⟩|⟨_,e⟩|⟨_,e,_⟩
    ·exact absurd e h0
    ·subst e;exact ⟨rfl,rfl,List.mem_singleton.2 rfl⟩
    ·exact absurd h1 e
   ·simp [FB,D5] at h
 |⟨n,some x,none⟩,l,h,hr=>hr.elim
theorem kW:∀(e:Ex) (l:List Qx),Lm (uX e)=some l→DY kd id ts rel e s→s.kind=kd∧s.id=id∧s.rel∈l
 |⟨n,some x,some y⟩,l,h,hr=>by
  unfold DY at hr;rw [uX] at h
  by_cases h3:n.kind=3
  ·rw [if_pos h3] at h;unfold dL at h;rw [Lm,if_neg (by decide)] at h;rw [if_pos (.inl h3)] at hr;obtain ⟨a,b,h1,h2,rfl⟩:=gN h
   rcases hr with hr|hr
   ·obtain ⟨q1,q2,q3⟩:=kW x a h1 hr;exact ⟨q1,q2,List.mem_append_left _ q3⟩
   ·obtain ⟨q1,q2,q3⟩:=kW y b h2 hr;exact ⟨q1,q2,List.mem_append_right _ q3⟩
  ·rw [if_neg h3] at h
   by_cases h4:n.kind=4
   ·rw [if_pos h4] at h;unfold kG at h;rw [Lm,if_neg (by decide)] at h;rw [if_pos (.inr h4)] at hr;obtain ⟨a,b,h1,h2,rfl⟩:=gN h
    rcases hr with hr|hr
    ·obtain ⟨q1,q2,q3⟩:=kW x a h1 hr;exact ⟨q1,q2,List.mem_append_left _ q3⟩
    ·obtain ⟨q1,q2,q3⟩:=kW y b h2 hr;exact ⟨q1,q2,List.mem_append_right _ q3⟩
   ·rw [if_neg h4] at h;unfold kH at h;rw [Lm,if_pos rfl] at h;rw [if_neg (fun e=>e.elim h3 h4)] at hr;obtain ⟨a,b,h1,h2,rfl⟩:=gN h
    rcases hr with hr|hr
    ·obtain ⟨q1,q2,q3⟩:=kW x a h1 hr;exact ⟨q1,q2,List.mem_append_left _ q3⟩
    ·obtain ⟨q1,q2,q3⟩:=uZ y b h2 hr;exact ⟨q1,q2,List.mem_append_right _ q3⟩
 |⟨n,none,r⟩,l,h,hr=>hr.elim
 |⟨n,some x,none⟩,l,h,hr=>hr.elim
end
structure R3 where
 kd:Qx
 nm:Qx
 sh:Sh
def P6 (a b:R3):Bool:=decide (a.kd=b.kd)&&decide (a.nm=b.nm)&&Ba a.sh b.sh
theorem Lp {a b:R3} (h:P6 a b=true):a=b:=by
 unfold P6 at h;simp only [Bool.and_eq_true,decide_eq_true_eq] at h;obtain ⟨⟨h1,h2⟩,h3⟩:=h
 cases a
 cases b
 simp only at h1 h2 h3;rw [h1,h2,Af _ _ h3]
def xG {α:Type} (f:α→α→Bool):List α→List α→Bool
 | [],[]=>true
 |x::l,y::m=>f x y&&xG f l m
 |_,_=>false
theorem qQ {α:Type} {f:α→α→Bool} (hf:∀a b,f a b=true→a=b):∀{l m:List α},xG f l m=true→l=m
 | [],[],_=>rfl
 |x::l,y::m,h=>by
  rw [xG,Bool.and_eq_true] at h;rw [hf x y h.1,qQ hf h.2]
 | [],_::_,h=>by cases h
 |_::_,[],h=>by cases h
def JE (x:TR):R3:=⟨x.1.name,x.2.name,uX x.2.body⟩
def xH (g:List R3) (hs:List Hp) (s:Sj):Prop:=∃x∈g,∃h∈hs,h.kd=x.kd∧s=⟨h.kd,h.id,x.nm⟩
def BClo (who:Tg) (hs:List Hp) (g:List R3) (kb:Sj→Bool):Prop:=∀x∈g,∀h∈hs,h.kd=x.kd→gD kb who h.kd h.id h.ts x.nm x.sh=true→kb ⟨h.kd,h.id,x.nm⟩=true
structure IA (who:Tg) (hs:List Hp) (g:List R3) (k0 kb:Sj→Bool):Prop where
 old:∀s,¬xH g hs s→kb s=k0 s
 fix:∀x∈g,∀h∈hs,h.kd=x.kd→gD kb who h.kd h.id h.ts x.nm x.sh=kb ⟨h.kd,h.id,x.nm⟩
 least:∀k',(∀s,¬xH g hs s→k' s=k0 s)→BClo who hs g k'→∀s,kb s=true→k' s=true
def jv (who:Tg) (hs:List Hp):List (List R3)→(Sj→Bool)→(Sj→Bool)→Prop
 | [],k,k'=>k'=k
 |g::gs,k,k'=>∃k1,IA who hs g k k1∧jv who hs gs k1 k'
theorem FC {g:List TR} {hs:List Hp} {s:Sj}:xH (g.map JE) hs s↔Ad g hs s:=by
 constructor
 ·rintro ⟨x,hx,h,hh,e1,e2⟩;obtain ⟨p,hp,rfl⟩:=List.mem_map.1 hx;exact ⟨p,hp,h,hh,e1,e2⟩
 ·rintro ⟨p,hp,h,hh,e1,e2⟩;exact ⟨_,List.mem_map.2 ⟨p,hp,rfl⟩,h,hh,e1,e2⟩
def ve (K:Sj→Nat) (i:Nat) (k:Sj→Bool):Sj→Nat:=fun s=>if (K s).testBit i=k s then K s else K s ^^^ 2 ^ i
theorem nJ (K:Sj→Nat) (i:Nat) (k:Sj→Bool) (s:Sj) (j:Nat):(ve K i k s).testBit j=if j=i then k s else (K s).testBit j:=by
 unfold ve
 by_cases h:(K s).testBit i=k s
 ·rw [if_pos h]
  split
  ·rename_i e;rw [e,h]
  ·rfl
 ·rw [if_neg h,Nat.testBit_xor]
  split
  ·rename_i e;subst e;rw [Nat.testBit_two_pow_self]
   revert h
   cases (K s).testBit j<;>cases k s<;>simp
  ·rename_i e;rw [Nat.testBit_two_pow_of_ne (fun e'=>e e'.symm)];simp
theorem sol_b {cs:List Tg} {hs:List Hp} {g:List TR} {K0 K:Sj→Nat} {i:Nat} {who:Tg} (h:P5 cs hs g K0 K) (hc:cs.length≤64) (hw:cs[i]? =some who) (hwf:∀x∈g,CZ x.2.body):IA who hs (g.map JE) (fun s=>(K0 s).testBit i) (fun s=>(K s).testBit i):=by
 have hi:i<cs.length:=(List.getElem?_eq_some_iff.1 hw).1;have ev:∀(K:Sj→Nat),(∀s,lh cs.length (K s))→∀x∈g,∀y:Hp,∀j w',cs[j]? =some w'→(rX K cs x y).testBit j=gD (fun s=>(K s).testBit j) w' y.kd y.id y.ts x.2.name (uX x.2.body):=fun K ho x hx y j w' hw'=>by
  unfold rX;rw [kE ⟨K,cs,y.kd,y.id,y.ts⟩ (fun s=>mH hc (ho s)) hc hw',uY _ _ _ _ _ _ _ (hwf x hx)]
 refine ⟨fun s hs'=>congrArg (fun n=>Nat.testBit n i) (h.old s (fun e=>hs' (FC.2 e))),fun x hx y hy e=> ?_,fun k' old' Ac s hk=> ?_⟩
 ·obtain ⟨p,hp,rfl⟩:=List.mem_map.1 hx;have:=h.fix p hp y hy e;have e2:=ev K h.out p hp y i who hw;rw [this] at e2;exact e2.symm
 ·have ho':∀s,lh cs.length (ve K i k' s):=fun s j hj=>by
   rw [nJ,if_neg (by omega)];exact h.out s j hj
  have:=h.least (ve K i k') ho' (fun s hs'=> ?_) (fun x hx y hy e j hj=> ?_) s i hk
  ·rw [nJ,if_pos rfl] at this;exact this
  ·unfold ve;have e1:=old' s (fun e=>hs' (FC.1 e));have e2:=h.old s hs';rw [if_pos (by rw [e1,e2]),e2]
  ·rw [nJ]
   by_cases hjc:j<cs.length
   ·have hw':cs[j]? =some cs[j]:=Qw hjc;rw [ev _ ho' x hx y j _ hw'] at hj
    by_cases e':j=i
    ·subst e';rw [if_pos rfl];rw [hw] at hw';obtain rfl:=Option.some.inj hw';have e3:(fun s=>(ve K j k' s).testBit j)=k':=by
      funext s
      rw [nJ,if_pos rfl]
     rw [e3] at hj;exact Ac (JE x) (List.mem_map.2 ⟨x,hx,rfl⟩) y hy e hj
    ·rw [if_neg e'];have e3:(fun s=>(ve K i k' s).testBit j)=fun s=>(K s).testBit j:=by
      funext s
      rw [nJ,if_neg e']
     rw [e3,←ev K h.out x hx y j _ hw',h.fix x hx y hy e] at hj;exact hj
   ·have:(rX (ve K i k') cs x y).testBit j=false:=jr ⟨ve K i k',cs,y.kd,y.id,y.ts⟩ ho' _ _ j (by simpa using hjc);rw [this] at hj
    cases hj
theorem JF {cs:List Tg} {hs:List Hp} {i:Nat} {who:Tg} (hc:cs.length≤64) (hw:cs[i]? =some who):∀{gs:List (List TR)} {K0 K:Sj→Nat},(∀g∈gs,∀x∈g,CZ x.2.body)→Run cs hs gs K0 K→jv who hs (gs.map (List.map JE)) (fun s=>(K0 s).testBit i) (fun s=>(K s).testBit i)
 | [],K0,K,_,h=>by rw [show K=K0 from h];rfl
 |g::gs,K0,K,hwf,⟨K1,h1,h2⟩=>⟨_,sol_b h1 hc hw (hwf g List.mem_cons_self),JF hc hw (fun g' hg'=>hwf g' (List.mem_cons_of_mem _ hg')) h2⟩
theorem FD {who:Tg} {hs:List Hp} {g:List R3} {k0 a b:Sj→Bool} (h:IA who hs g k0 a) (k:IA who hs g k0 b):a=b:=by
 funext s
 rw [Bool.eq_iff_iff];exact ⟨h.least b k.old (fun x hx y hy e he=>by rw [←k.fix x hx y hy e];exact he) s,k.least a h.old (fun x hx y hy e he=>by rw [←h.fix x hx y hy e];exact he) s⟩
theorem nK {who:Tg} {hs:List Hp}:∀{gs:List (List R3)} {k a b:Sj→Bool},jv who hs gs k a→jv who hs gs k b→a=b
 | [],k,a,b,h,h'=>h.trans h'.symm
 |g::gs,k,a,b,⟨k1,h1,h2⟩,⟨k2,h3,h4⟩=>by
  obtain rfl:=FD h1 h3;exact nK h2 h4
theorem ik {who:Tg} {hs:List Hp}:∀{gs gs':List (List R3)} {k b:Sj→Bool},jv who hs (gs++gs') k b→∃a,jv who hs gs k a∧jv who hs gs' a b
 | [],gs',k,b,h=>⟨k,rfl,h⟩
 |g::gs,gs',k,b,⟨k1,h1,h2⟩=>by
  obtain ⟨a,a1,a2⟩:=ik h2;exact ⟨a,⟨k1,h1,a1⟩,a2⟩
theorem xJ {who:Tg} {hs:List Hp}:∀{gs:List (List R3)} {k a:Sj→Bool},jv who hs gs k a→∀s,(∀g∈gs,¬xH g hs s)→a s=k s
 | [],k,a,h,s,_=>by rw [show a=k from h]
 |g::gs,k,a,⟨k1,h1,h2⟩,s,hn=>by
  rw [xJ h2 s (fun g' hg=>hn g' (List.mem_cons_of_mem _ hg)),h1.old s (hn g List.mem_cons_self)]
def P7 (gs:List (List TR)):Bool:=
 gs.all (fun g=>g.all fun x=>(Lm (uX x.2.body)).any fun l=>g.all fun y=> !(decide (y.1.name=x.1.name)&&l.any fun n=>decide (n=y.2.name)))
  &&decide (gs.flatten.Pairwise fun x y=>¬(x.1.name=y.1.name∧x.2.name=y.2.name))
theorem gs_ok {gs:List (List TR)} {hs:List Hp} (h:P7 gs=true) (hd:∀h∈hs,∀h'∈hs,h.kd=h'.kd→h.id=h'.id→h=h'):Du gs hs:=by
 unfold P7 at h;rw [Bool.and_eq_true,List.all_eq_true,decide_eq_true_eq,List.pairwise_flatten] at h;obtain ⟨h1,h2,h3⟩:=h;refine ⟨hd,fun g hg x hx y hy e1 e2=> ?_,h3,fun g hg x hx y hy e s hs ht=> ?_⟩
 ·obtain ⟨i,hi,rfl⟩:=List.getElem_of_mem hx;obtain ⟨j,hj,rfl⟩:=List.getElem_of_mem hy;have hp:=List.pairwise_iff_getElem.1 (h2 g hg)
  rcases Nat.lt_trichotomy i j with hlt|rfl|hlt
  ·exact absurd ⟨e1,e2⟩ (hp i j hi hj hlt)
  ·rfl
  ·exact absurd ⟨e1.symm,e2.symm⟩ (hp j i hj hi hlt)
 ·have h4:=h1 g hg;rw [List.all_eq_true] at h4;have h5:=h4 x hx;rw [Option.any_eq_true] at h5;obtain ⟨l,hl,h6⟩:=h5;obtain ⟨q1,q2,q3⟩:=kW x.2.body l hl hs;obtain ⟨z,hz,y',hy',e3,e4⟩:=ht;rw [List.all_eq_true] at h6;have h7:=h6 z hz;have e5:z.1.name=x.1.name:=by
   rw [←e3,←e,←q1,e4]
   rfl
  have e6:s.rel=z.2.name:=by rw [e4];rfl
  rw [decide_eq_true e5] at h7;simp only [Bool.true_and,Bool.not_eq_true',List.any_eq_false,decide_eq_true_eq] at h7;exact h7 s.rel q3 e6
def lF:Bool→Qx
 |false=>mk ([116,121,112,101,32,117,32,123,32,125,32,116,121,112,101,32,116,32,123,32,97,58,32,91,117,44,32,117,42,44,32,116,35,97,93,59,32,98,58,32,91,117,44,32,117,42,44,32,116,35,97,93,59,32,99,58,32,91,117,44,32,116,35,98,93,59,32]++[112,58,32,97,32,38,32,40,98,32,124,32,99,41,59,32,114,58,32,97,32,45,32,40,98,32,124,32,99,41,59,32,118,58,32,40,99,32,124,32,98,41,32,124,32,97,59,32,125])
 |true=>mk ([116,121,112,101,32,117,32,123,32,125,32,116,121,112,101,32,116,32,123,32,97,58,32,91,117,44,32,117,42,44,32,116,35,97,93,59,32,98,58,32,91,117,44,32,117,42,44,32,116,35,97,93,59,32,99,58,32,91,117,44,32,116,35,98,93,59,32]++[112,58,32,97,32,38,32,98,32,124,32,97,32,38,32,99,59,32,114,58,32,97,32,45,32,98,32,45,32,99,59,32,118,58,32,97,32,124,32,40,98,32,124,32,99,41,59,32,125])
def nb (c:UInt8):Qx:=⟨#[c]⟩
def P8:Bool→Sh
 |false=>kG (dW (nb 97)) (dL (dW (nb 98)) (dW (nb 99)))
 |true=>dL (kG (dW (nb 97)) (dW (nb 98))) (kG (dW (nb 97)) (dW (nb 99)))
def P9:Bool→Sh
 |false=>kH (dW (nb 97)) (dL (dW (nb 98)) (dW (nb 99)))
 |true=>kH (kH (dW (nb 97)) (dW (nb 98))) (dW (nb 99))
def Qa:Bool→Sh
 |false=>dL (dL (dW (nb 99)) (dW (nb 98))) (dW (nb 97))
 |true=>dL (dW (nb 97)) (dL (dW (nb 98)) (dW (nb 99)))
def pu:List (List R3):=[[⟨nb 116,nb 97,jd⟩],[⟨nb 116,nb 98,jd⟩],[⟨nb 116,nb 99,jd⟩]]
def jK (n:Bool):List R3:=[⟨nb 116,nb 112,P8 n⟩,⟨nb 116,nb 114,P9 n⟩,⟨nb 116,nb 118,Qa n⟩]
def subS (c:UInt8):List (List UInt8):=[[117,58,109],[117,58,110],[117,58,111],[117,58,42],[116,58,107,35,if c=99 then 98 else 97],[116,58,108,35,if c=99 then 98 else 97]]
def mJ:List (List UInt8×Nat):=[107,108,122].flatMap fun i=>[97,98,99].flatMap fun c=>(subS c).map fun u=>([116,58,i,35,c,64]++u,if c=99&&u=[117,58,42] then 7 else 0)
def NT:Ex→Bool
 |⟨_,some x,some y⟩=>NT x&&NT y
 |⟨_,none,_⟩=>true
 |⟨_,some _,none⟩=>false
theorem FE:∀e,NT e=true→CZ e
 |⟨_,some x,some y⟩,h=>by
  rw [NT,Bool.and_eq_true] at h;exact ⟨FE x h.1,FE y h.2⟩
 |⟨_,none,_⟩,_=>trivial
 |⟨_,some _,none⟩,h=>by cases h
def Qb (x:TR):Bool:=NT x.2.body&&decide ((aA x.2.name 0 x.2.body).length<40000)&&decide (x.2.name.size≤1000)&&(dZ x.2.name x.2.body).all fun i=>decide (i.rel.size≤1000)
theorem ln_of {x:TR} (h:Qb x=true):Ms x:=by
 unfold Qb at h;simp only [Bool.and_eq_true,decide_eq_true_eq,List.all_eq_true] at h;obtain ⟨⟨⟨h1,h2⟩,h3⟩,h4⟩:=h;exact ⟨FE _ h1,h2,by unfold maxLen;omega,fun i hi=>by have:=h4 i hi;unfold maxLen;omega⟩
def Lr (ts:List Ty):Bool:=P7 (bH ts)&&(bH ts).all (fun g=>g.all Qb)&&decide (((bH ts).map List.length).sum≤1000000)
def FH (n:Bool) (ts:List Ty):Bool:=xG (xG P6) ((bH ts).map (List.map JE)) (pu++[jK n])&&Lr ts
 && [97,98,99,112,114,118].all (fun c=>((bF ts (nb 116)).bind fun t=>aV t (nb c)).isSome)&&(bF ts (nb 117)).isSome
 &&mJ.all fun p=>gY (mk p.1)&&decide (qI ts (dG (mk p.1)).1=p.2)
theorem Ag:(match iL (lF false) with| .ok ts=>FH false ts| .error _=>false)=true:=by kernel_rfl
theorem Dv:(match iL (lF true) with| .ok ts=>FH true ts| .error _=>false)=true:=by kernel_rfl
theorem IB (n:Bool):∃ts,iL (lF n)=.ok ts∧FH n ts=true:=by
 have h:(match iL (lF n) with| .ok ts=>FH n ts| .error _=>false)=true:=by
  cases n
  ·exact Ag
  ·exact Dv
 cases hr:iL (lF n) with
 |ok ts=>rw [hr] at h;exact ⟨ts,rfl,h⟩
 |error e=>rw [hr] at h;cases h
def JG (t:Tu):Bool:=decide (t.kind.size≤1000)&&decide (t.id.size≤1000)&&decide (t.sub.size≤1000)&&decide (t.who.size≤1000)&&decide (t.of.size≤1000)
theorem FI:(mJ.all fun p=>JG (dG (mk p.1)).1)=true:=by kernel_rfl
def nL (h:Hd) (t:Tu):Bool:=zW ⟨h.kd,h.id⟩ ⟨t.kind,t.id⟩
theorem Ls (h:Hd) (va:Option Addr) (vn vc:Nat) (t:Tu) (q:Nat) (w:World) (hx:ag w q #[.string t.kind,.string t.id,.string t.rel,.string t.sub,.string t.who,.string t.of] 123):
  Calls Tryz.prog 148 #[.agg #[.string h.kd,.string h.id,.slice va vn vc],.pointer (some ⟨q,0,none⟩)] w fun e w'=>e=.returned (.bool (nL h t))∧Below w.heap.size w w':=by
 have hl:=hx.lt;have b0:=(Below.refl w.heap.size w).alloc Qv (.cells #[.string h.kd,.string h.id,.slice va vn vc] 282);have B0:=ae b0;have hne:¬(q=w.heap.size):=by omega
 have jV:¬(w.heap.size=q):=by omega
 obtain ⟨x0,x1,x2,x3,x4,x5⟩:=(hx.below b0).six;have GV:=AQ;have yX:=fun w'=>AP ⟨h.kd,h.id⟩ ⟨t.kind,t.id⟩ w'
 dsimp only at yX;clear hx b0;go_enter Tryz.func148,Tryz.ntmps148;go_wp2;go_ret;exact ⟨rfl,aa B0⟩
def Dw (l:List Hd) (t:Tu):Int:=match l.findIdx? (fun h=>nL h t) with
 |some k=>k
 |none=> -1
theorem IC {l:List Hd} {t:Tu} {k:Nat} (hk:k<l.length) (hn:∀j,(h:j<l.length)→j<k→nL l[j] t=false) (he:nL l[k] t=true):Dw l t=k:=by
 unfold Dw;have:l.findIdx? (fun h=>nL h t)=some k:=by
  rw [List.findIdx?_eq_some_iff_getElem];exact ⟨hk,he,fun j hj=>by rw [hn j (by omega) hj];simp⟩
 rw [this]
theorem Dx {l:List Hd} {t:Tu} (hn:∀j,(h:j<l.length)→nL l[j] t=false):Dw l t= -1:=by
 unfold Dw;have:l.findIdx? (fun h=>nL h t)=none:=by
  rw [List.findIdx?_eq_none_iff];intro y hy;obtain ⟨j,hj,rfl⟩:=List.getElem_of_mem hy;exact hn j hj
 rw [this]
theorem Ah (base:Nat) (v:Value) (l:List Hd) (t:Tu) (q:Nat) (w:World) (hn:l.length≤1000) (h:w.ownsRow base 282 3 v l.length (l.flatMap AZ)) (hs:∀x∈l,∃a n c,x.tv=.slice a n c) (hx:ag w q #[.string t.kind,.string t.id,.string t.rel,.string t.sub,.string t.who,.string t.of] 123):
  Calls Tryz.prog 147 #[v,.func (.func 148) #[] #[.pointer (some ⟨q,0,none⟩)]] w fun e w'=>e=.returned (.int .i64 (Dw l t))∧Below w.heap.size w w':=by
 obtain ⟨sa,sc,rfl⟩:=ak h;have H:=ae h;have HX:=ae hx;have HS:=ae hs;clear h hx hs;go_enter Tryz.func147,Tryz.ntmps147;go_wp2
 go_loopw [5,8] (fun u i wr=>∃k:Nat,k≤l.length∧i=.int .i64 k∧Below w.heap.size w wr∧Hid (∀j,(h:j<l.length)→j<k→nL l[j] t=false)) (fun _ i _=>l.length-(intOf i).toNat)
 case atStart=>exact ⟨0,by omega,rfl,Below.refl _ _,ae (fun j e h=>by omega)⟩
 case round=>
  obtain ⟨k,hk,rfl,hb,ed⟩:=hrel;have HB:=ae hb
  by_cases hlt:k<l.length
  ·obtain ⟨g,c,e1,hc⟩:=aZ AZ 3 (fun _=>rfl) (aM (aa H) hb) k l[k] (Qw hlt);simp only [Value.slice.injEq] at e1;obtain ⟨rfl,_,rfl⟩:=e1;obtain ⟨va,vn,vc,hv⟩:=aa HS l[k] (List.getElem_mem hlt);have GD:=ae ((aa HX).below hb);have zQ:=ae (fun (he:nL l[k] t=true)=>IC hlt (aa ed) he);have KQ:=ae (fun (he:nL l[k] t=false)=>(show ∀j,(h:j<l.length)→j<k+1→nL l[j] t=false from fun j h h'=>by
     by_cases e:j=k
     ·subst e;exact he
     ·exact aa ed j h (by omega)))
   have C:=ae (Ls l[k] va vn vc t q wr (aa GD));generalize l[k]=y at*;have k0:wr.cell? ⟨g,k*3,none⟩=some (.string y.kd):=hc 0 _ (by omega) rfl;have k1:wr.cell? ⟨g,k*3+1,none⟩=some (.string y.id):=hc 1 _ (by omega) rfl;have k2:wr.cell? ⟨g,k*3+2,none⟩=some (.slice va vn vc):=by rw [←hv];exact hc 2 _ (by omega) rfl
   have hkn:(k:Int)<(l.length:Int):=by omega
   clear hb hc hv
   cases he:nL y t
   ·rw [he] at C;have Hn:=ae (aa KQ he);clear he zQ KQ;go_wp2_with fail;refine (aa C).mono ?_;rintro e w2 ⟨rfl,hb2⟩;have mO:=ae ((aa HB).trans (hb2.mono (aa HB).size));clear hb2;go_wp2;go_roundw
    case rel=>exact ⟨k+1,by omega,by go_num,aa mO,Hn⟩
    case measure=>simp [intOf];omega
   ·rw [he] at C;have dJ:=ae (aa zQ he);clear he zQ KQ;go_wp2_with fail;refine (aa C).mono ?_;rintro e w2 ⟨rfl,hb2⟩;have mO:=ae ((aa HB).trans (hb2.mono (aa HB).size));clear hb2;go_wp2;go_ret;exact ⟨by first|(rw [aa dJ];done)|simp [aa dJ],aa mO⟩
  ·have dJ:=ae (Dx (t:=t) (fun j hj=>aa ed j hj (by omega)));have hkn:¬((k:Int)<(l.length:Int)):=by omega
   clear hb;go_wp2;go_ret;exact ⟨by first|(rw [aa dJ];done)|simp [aa dJ],aa HB⟩
