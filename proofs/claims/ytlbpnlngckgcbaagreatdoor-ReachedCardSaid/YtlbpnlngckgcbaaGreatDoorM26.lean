import Derived.Test.YtlbpnlngckgcbaaGreatDoorM25
import Derived.KernelRfl
set_option linter.all false
set_option maxHeartbeats 4000000
set_option maxRecDepth 100000
namespace Go.Proofs.YtlbpnlngckgcbaaGreatDoor
open Go.RowKit Go.PlainAid
structure Sh where
 k:Nat
 n:RJ
 m:RJ
 l:Option Sh
 r:Option Sh
def gp:Sh:=⟨0,⟨#[]⟩,⟨#[]⟩,none,none⟩
def rO (n:RJ):Sh:=⟨1,n,⟨#[]⟩,none,none⟩
def yA (n m:RJ):Sh:=⟨2,n,m,none,none⟩
def gP (x y:Sh):Sh:=⟨3,⟨#[]⟩,⟨#[]⟩,some x,some y⟩
def vL (x y:Sh):Sh:=⟨4,⟨#[]⟩,⟨#[]⟩,some x,some y⟩
def rP (x y:Sh):Sh:=⟨5,⟨#[]⟩,⟨#[]⟩,some x,some y⟩
def vM:Ex→Sh
 |⟨n,some x,some y⟩=>if n.kind=3 then gP (vM x) (vM y) else if n.kind=4 then vL (vM x) (vM y) else rP (vM x) (vM y)
 |⟨n,none,_⟩=>if n.kind=0 then gp else if n.kind=1 then rO n.n1 else yA n.n1 n.n2
 |⟨_,some _,none⟩=>gp
def eu (kb:Sj→Bool) (who:Tg) (kd id:RJ) (ts:List Tu) (rel:RJ):Sh→Bool
 |⟨k,_,_,some x,some y⟩=>if k=3 then eu kb who kd id ts rel x||eu kb who kd id ts rel y else if k=4 then eu kb who kd id ts rel x&&eu kb who kd id ts rel y else eu kb who kd id ts rel x&& !eu kb who kd id ts rel y
 |⟨k,n,m,none,_⟩=>if k=0 then ts.any (fun t=>decide (t.rel=rel)&&gV kb who (ed t)) else if k=1 then kb ⟨kd,id,n⟩ else ts.any (fun t=>decide (t.rel=n)&&x9 kb (ed t) m)
 |⟨_,_,_,some _,none⟩=>false
def BJ:Sh→Sh→Bool
 |⟨k,n,m,some x,some y⟩,⟨k',n',m',some x',some y'⟩=>decide (k=k')&&decide (n=n')&&decide (m=m')&&BJ x x'&&BJ y y'
 |⟨k,n,m,none,none⟩,⟨k',n',m',none,none⟩=>decide (k=k')&&decide (n=n')&&decide (m=m')
 |_,_=>false
theorem AC:∀a b:Sh,BJ a b=true→a=b
 |⟨k,n,m,some x,some y⟩,⟨k',n',m',some x',some y'⟩,h=>by
  simp only [BJ,Bool.and_eq_true,decide_eq_true_eq] at h;obtain ⟨⟨⟨⟨rfl,rfl⟩,rfl⟩,h1⟩,h2⟩:=h;rw [AC x x' h1,AC y y' h2]
 |⟨k,n,m,none,none⟩,⟨k',n',m',none,none⟩,h=>by
  simp only [BJ,Bool.and_eq_true,decide_eq_true_eq] at h;obtain ⟨⟨rfl,rfl⟩,rfl⟩:=h
  rfl
 |⟨_,_,_,some _,some _⟩,⟨_,_,_,some _,none⟩,h=>by simp [BJ] at h
 |⟨_,_,_,some _,some _⟩,⟨_,_,_,none,some _⟩,h=>by simp [BJ] at h
 |⟨_,_,_,some _,some _⟩,⟨_,_,_,none,none⟩,h=>by simp [BJ] at h
 |⟨_,_,_,none,none⟩,⟨_,_,_,some _,some _⟩,h=>by simp [BJ] at h
 |⟨_,_,_,none,none⟩,⟨_,_,_,some _,none⟩,h=>by simp [BJ] at h
 |⟨_,_,_,none,none⟩,⟨_,_,_,none,some _⟩,h=>by simp [BJ] at h
 |⟨_,_,_,some _,none⟩,b,h=>by simp [BJ] at h
 |⟨_,_,_,none,some _⟩,b,h=>by simp [BJ] at h
theorem vN (kb:Sj→Bool) (who:Tg) (kd id:RJ) (ts:List Tu) (rel:RJ):∀e,Bq e→cK kb who kd id ts rel e=eu kb who kd id ts rel (vM e)
 |⟨n,some x,some y⟩,h=>by
  have hx:=vN kb who kd id ts rel x h.1;have hy:=vN kb who kd id ts rel y h.2;rw [cK,vM,hx,hy]
  split
  ·simp [gP,eu]
  ·split
   ·simp [vL,eu]
   ·simp [rP,eu]
 |⟨n,none,r⟩,_=>by
  rw [cK,vM]
  split
  ·simp [gp,eu]
  ·split
   ·simp [rO,eu]
   ·simp [yA,eu]
 |⟨n,some x,none⟩,h=>h.elim
def EO:Sh→Option (List RJ)
 |⟨_,_,_,some x,some y⟩=>(EO x).bind fun a=>(EO y).map fun b=>a++b
 |⟨k,n,_,none,_⟩=>if k=1 then some [n] else none
 |⟨_,_,_,some _,none⟩=>none
def MJ:Sh→Option (List RJ)
 |⟨k,_,_,some x,some y⟩=>(MJ x).bind fun a=>(if k=5 then EO y else MJ y).map fun b=>a++b
 |_=>some []
theorem ik {a b:Option (List RJ)} {l:List RJ} (h:(a.bind fun a=>b.map fun b=>a++b)=some l):∃x y,a=some x∧b=some y∧l=x++y:=by
 cases a with
 |none=>cases h
 |some x=>
  cases b with
  |none=>cases h
  |some y=>exact ⟨x,y,rfl,rfl,by simpa using h.symm⟩
section
variable {kd id:RJ} {ts:List Tu} {rel:RJ} {s:Sj}
theorem vO:∀(e:Ex) (l:List RJ),EO (vM e)=some l→Bu kd id ts rel e s→s.kind=kd∧s.id=id∧s.rel∈l
 |⟨n,some x,some y⟩,l,h,hr=>by
  have key:∃a b,EO (vM x)=some a∧EO (vM y)=some b∧l=a++b:=by
   rw [vM] at h
   split at h
   ·unfold gP at h;rw [EO] at h;exact ik h
   ·split at h
    ·unfold vL at h;rw [EO] at h;exact ik h
    ·unfold rP at h;rw [EO] at h;exact ik h
  obtain ⟨a,b,h1,h2,rfl⟩:=key
  rcases hr with hr|hr
  ·obtain ⟨q1,q2,q3⟩:=vO x a h1 hr;exact ⟨q1,q2,List.mem_append_left _ q3⟩
  ·obtain ⟨q1,q2,q3⟩:=vO y b h2 hr;exact ⟨q1,q2,List.mem_append_right _ q3⟩
 |⟨n,none,r⟩,l,h,hr=>by
  rw [vM] at h
  split at h
  ·simp [gp,EO] at h
  ·rename_i h0
   split at h
   ·rename_i h1;simp only [rO,EO,if_true,Option.some.injEq] at h;subst h
    rcases hr with ⟨e,_⟩|⟨_,e⟩|⟨_,e,_⟩
    ·exact absurd e h0
    ·subst e;exact ⟨rfl,rfl,List.mem_singleton.2 rfl⟩
    ·exact absurd h1 e
   ·simp [yA,EO] at h
 |⟨n,some x,none⟩,l,h,hr=>hr.elim
theorem lh:∀(e:Ex) (l:List RJ),MJ (vM e)=some l→EM kd id ts rel e s→s.kind=kd∧s.id=id∧s.rel∈l
 |⟨n,some x,some y⟩,l,h,hr=>by
  unfold EM at hr;rw [vM] at h
  by_cases h3:n.kind=3
  ·rw [if_pos h3] at h;unfold gP at h;rw [MJ,if_neg (by decide)] at h;rw [if_pos (.inl h3)] at hr;obtain ⟨a,b,h1,h2,rfl⟩:=ik h
   rcases hr with hr|hr
   ·obtain ⟨q1,q2,q3⟩:=lh x a h1 hr;exact ⟨q1,q2,List.mem_append_left _ q3⟩
   ·obtain ⟨q1,q2,q3⟩:=lh y b h2 hr;exact ⟨q1,q2,List.mem_append_right _ q3⟩
  ·rw [if_neg h3] at h
   by_cases h4:n.kind=4
   ·rw [if_pos h4] at h;unfold vL at h;rw [MJ,if_neg (by decide)] at h;rw [if_pos (.inr h4)] at hr;obtain ⟨a,b,h1,h2,rfl⟩:=ik h
    rcases hr with hr|hr
    ·obtain ⟨q1,q2,q3⟩:=lh x a h1 hr;exact ⟨q1,q2,List.mem_append_left _ q3⟩
    ·obtain ⟨q1,q2,q3⟩:=lh y b h2 hr;exact ⟨q1,q2,List.mem_append_right _ q3⟩
   ·rw [if_neg h4] at h;unfold rP at h;rw [MJ,if_pos rfl] at h;rw [if_neg (fun e=>e.elim h3 h4)] at hr;obtain ⟨a,b,h1,h2,rfl⟩:=ik h
    rcases hr with hr|hr
    ·obtain ⟨q1,q2,q3⟩:=lh x a h1 hr;exact ⟨q1,q2,List.mem_append_left _ q3⟩
    ·obtain ⟨q1,q2,q3⟩:=vO y b h2 hr;exact ⟨q1,q2,List.mem_append_right _ q3⟩
 |⟨n,none,r⟩,l,h,hr=>hr.elim
 |⟨n,some x,none⟩,l,h,hr=>hr.elim
end
structure R3 where
 kd:RJ
 nm:RJ
 sh:Sh
def Rb (a b:R3):Bool:=decide (a.kd=b.kd)&&decide (a.nm=b.nm)&&BJ a.sh b.sh
theorem MK {a b:R3} (h:Rb a b=true):a=b:=by
 unfold Rb at h;simp only [Bool.and_eq_true,decide_eq_true_eq] at h;obtain ⟨⟨h1,h2⟩,h3⟩:=h
 cases a
 cases b
 simp only at h1 h2 h3;rw [h1,h2,AC _ _ h3]
def yB {α:Type} (f:α→α→Bool):List α→List α→Bool
 | [],[]=>true
 |x::l,y::m=>f x y&&yB f l m
 |_,_=>false
theorem rQ {α:Type} {f:α→α→Bool} (hf:∀a b,f a b=true→a=b):∀{l m:List α},yB f l m=true→l=m
 | [],[],_=>rfl
 |x::l,y::m,h=>by
  rw [yB,Bool.and_eq_true] at h;rw [hf x y h.1,rQ hf h.2]
 | [],_::_,h=>by cases h
 |_::_,[],h=>by cases h
def NG (x:TR):R3:=⟨x.1.name,x.2.name,vM x.2.body⟩
def sM (g:List R3) (hs:List Hp) (s:Sj):Prop:=∃x∈g,∃h∈hs,h.kd=x.kd∧s=⟨h.kd,h.id,x.nm⟩
def BClo (who:Tg) (hs:List Hp) (g:List R3) (kb:Sj→Bool):Prop:=∀x∈g,∀h∈hs,h.kd=x.kd→eu kb who h.kd h.id h.ts x.nm x.sh=true→kb ⟨h.kd,h.id,x.nm⟩=true
structure Gu (who:Tg) (hs:List Hp) (g:List R3) (k0 kb:Sj→Bool):Prop where
 old:∀s,¬sM g hs s→kb s=k0 s
 fix:∀x∈g,∀h∈hs,h.kd=x.kd→eu kb who h.kd h.id h.ts x.nm x.sh=kb ⟨h.kd,h.id,x.nm⟩
 least:∀k',(∀s,¬sM g hs s→k' s=k0 s)→BClo who hs g k'→∀s,kb s=true→k' s=true
def oM (who:Tg) (hs:List Hp):List (List R3)→(Sj→Bool)→(Sj→Bool)→Prop
 | [],k,k'=>k'=k
 |g::gs,k,k'=>∃k1,Gu who hs g k k1∧oM who hs gs k1 k'
theorem Gv {g:List TR} {hs:List Hp} {s:Sj}:sM (g.map NG) hs s↔AA g hs s:=by
 constructor
 ·rintro ⟨x,hx,h,hh,e1,e2⟩;obtain ⟨p,hp,rfl⟩:=List.mem_map.1 hx;exact ⟨p,hp,h,hh,e1,e2⟩
 ·rintro ⟨p,hp,h,hh,e1,e2⟩;exact ⟨_,List.mem_map.2 ⟨p,hp,rfl⟩,h,hh,e1,e2⟩
def vP (K:Sj→Nat) (i:Nat) (k:Sj→Bool):Sj→Nat:=fun s=>if (K s).testBit i=k s then K s else K s ^^^ 2 ^ i
theorem nR (K:Sj→Nat) (i:Nat) (k:Sj→Bool) (s:Sj) (j:Nat):(vP K i k s).testBit j=if j=i then k s else (K s).testBit j:=by
 unfold vP
 by_cases h:(K s).testBit i=k s
 ·rw [if_pos h]
  split
  ·rename_i e;rw [e,h]
  ·rfl
 ·rw [if_neg h,Nat.testBit_xor]
  split
  ·rename_i e;subst e;rw [Nat.testBit_two_pow_self]
   revert h
   cases (K s).testBit j<;>cases k s<;>simp
  ·rename_i e;rw [Nat.testBit_two_pow_of_ne (fun e'=>e e'.symm)];simp
theorem sol_b {cs:List Tg} {hs:List Hp} {g:List TR} {K0 K:Sj→Nat} {i:Nat} {who:Tg} (h:Ra cs hs g K0 K) (hc:cs.length≤64) (hw:cs[i]? =some who) (hwf:∀x∈g,Bq x.2.body):Gu who hs (g.map NG) (fun s=>(K0 s).testBit i) (fun s=>(K s).testBit i):=by
 have hi:i<cs.length:=(List.getElem?_eq_some_iff.1 hw).1;have ev:∀(K:Sj→Nat),(∀s,lG cs.length (K s))→∀x∈g,∀y:Hp,∀j w',cs[j]? =some w'→(rX K cs x y).testBit j=eu (fun s=>(K s).testBit j) w' y.kd y.id y.ts x.2.name (vM x.2.body):=fun K ho x hx y j w' hw'=>by
  unfold rX;rw [kJ ⟨K,cs,y.kd,y.id,y.ts⟩ (fun s=>mR hc (ho s)) hc hw',vN _ _ _ _ _ _ _ (hwf x hx)]
 refine ⟨fun s hs'=>congrArg (fun n=>Nat.testBit n i) (h.old s (fun e=>hs' (Gv.2 e))),fun x hx y hy e=> ?_,fun k' old' Az s hk=> ?_⟩
 ·obtain ⟨p,hp,rfl⟩:=List.mem_map.1 hx;have:=h.fix p hp y hy e;have e2:=ev K h.out p hp y i who hw;rw [this] at e2;exact e2.symm
 ·have ho':∀s,lG cs.length (vP K i k' s):=fun s j hj=>by
   rw [nR,if_neg (by omega)];exact h.out s j hj
  have:=h.least (vP K i k') ho' (fun s hs'=> ?_) (fun x hx y hy e j hj=> ?_) s i hk
  ·rw [nR,if_pos rfl] at this;exact this
  ·unfold vP;have e1:=old' s (fun e=>hs' (Gv.1 e));have e2:=h.old s hs';rw [if_pos (by rw [e1,e2]),e2]
  ·rw [nR]
   by_cases hjc:j<cs.length
   ·have hw':cs[j]? =some cs[j]:=RI hjc;rw [ev _ ho' x hx y j _ hw'] at hj
    by_cases e':j=i
    ·subst e';rw [if_pos rfl];rw [hw] at hw';obtain rfl:=Option.some.inj hw';have e3:(fun s=>(vP K j k' s).testBit j)=k':=by
      funext s
      rw [nR,if_pos rfl]
     rw [e3] at hj;exact Az (NG x) (List.mem_map.2 ⟨x,hx,rfl⟩) y hy e hj
    ·rw [if_neg e'];have e3:(fun s=>(vP K i k' s).testBit j)=fun s=>(K s).testBit j:=by
      funext s
      rw [nR,if_neg e']
     rw [e3,←ev K h.out x hx y j _ hw',h.fix x hx y hy e] at hj;exact hj
   ·have:(rX (vP K i k') cs x y).testBit j=false:=jJ ⟨vP K i k',cs,y.kd,y.id,y.ts⟩ ho' _ _ j (by simpa using hjc);rw [this] at hj
    cases hj
theorem KJ {cs:List Tg} {hs:List Hp} {i:Nat} {who:Tg} (hc:cs.length≤64) (hw:cs[i]? =some who):∀{gs:List (List TR)} {K0 K:Sj→Nat},(∀g∈gs,∀x∈g,Bq x.2.body)→Run cs hs gs K0 K→oM who hs (gs.map (List.map NG)) (fun s=>(K0 s).testBit i) (fun s=>(K s).testBit i)
 | [],K0,K,_,h=>by rw [show K=K0 from h];rfl
 |g::gs,K0,K,hwf,⟨K1,h1,h2⟩=>⟨_,sol_b h1 hc hw (hwf g List.mem_cons_self),KJ hc hw (fun g' hg'=>hwf g' (List.mem_cons_of_mem _ hg')) h2⟩
theorem mU {who:Tg} {hs:List Hp}:∀{gs gs':List (List R3)} {k b:Sj→Bool},oM who hs (gs++gs') k b→∃a,oM who hs gs k a∧oM who hs gs' a b
 | [],gs',k,b,h=>⟨k,rfl,h⟩
 |g::gs,gs',k,b,⟨k1,h1,h2⟩=>by
  obtain ⟨a,a1,a2⟩:=mU h2;exact ⟨a,⟨k1,h1,a1⟩,a2⟩
def Rc (gs:List (List TR)):Bool:=
 gs.all (fun g=>g.all fun x=>(MJ (vM x.2.body)).any fun l=>g.all fun y=> !(decide (y.1.name=x.1.name)&&l.any fun n=>decide (n=y.2.name)))
  &&decide (gs.flatten.Pairwise fun x y=>¬(x.1.name=y.1.name∧x.2.name=y.2.name))
theorem gs_ok {gs:List (List TR)} {hs:List Hp} (h:Rc gs=true) (hd:∀h∈hs,∀h'∈hs,h.kd=h'.kd→h.id=h'.id→h=h'):Ef gs hs:=by
 unfold Rc at h;rw [Bool.and_eq_true,List.all_eq_true,decide_eq_true_eq,List.pairwise_flatten] at h;obtain ⟨h1,h2,h3⟩:=h;refine ⟨hd,fun g hg x hx y hy e1 e2=> ?_,h3,fun g hg x hx y hy e s hs ht=> ?_⟩
 ·obtain ⟨i,hi,rfl⟩:=List.getElem_of_mem hx;obtain ⟨j,hj,rfl⟩:=List.getElem_of_mem hy;have hp:=List.pairwise_iff_getElem.1 (h2 g hg)
  rcases Nat.lt_trichotomy i j with hlt|rfl|hlt
  ·exact absurd ⟨e1,e2⟩ (hp i j hi hj hlt)
  ·rfl
  ·exact absurd ⟨e1.symm,e2.symm⟩ (hp j i hj hi hlt)
 ·have h4:=h1 g hg;rw [List.all_eq_true] at h4;have h5:=h4 x hx;rw [Option.any_eq_true] at h5;obtain ⟨l,hl,h6⟩:=h5;obtain ⟨q1,q2,q3⟩:=lh x.2.body l hl hs;obtain ⟨z,hz,y',hy',e3,e4⟩:=ht;rw [List.all_eq_true] at h6;have h7:=h6 z hz;have e5:z.1.name=x.1.name:=by
   rw [←e3,←e,←q1,e4]
   rfl
  have e6:s.rel=z.2.name:=by rw [e4];rfl
  rw [decide_eq_true e5] at h7;simp only [Bool.true_and,Bool.not_eq_true',List.any_eq_false,decide_eq_true_eq] at h7;exact h7 s.rel q3 e6
def nb (c:UInt8):RJ:=⟨#[c]⟩
def Pn:Ex→Bool
 |⟨_,some x,some y⟩=>Pn x&&Pn y
 |⟨_,none,_⟩=>true
 |⟨_,some _,none⟩=>false
theorem Gw:∀e,Pn e=true→Bq e
 |⟨_,some x,some y⟩,h=>by
  rw [Pn,Bool.and_eq_true] at h;exact ⟨Gw x h.1,Gw y h.2⟩
 |⟨_,none,_⟩,_=>trivial
 |⟨_,some _,none⟩,h=>by cases h
def Re (x:TR):Bool:=Pn x.2.body&&decide ((aB x.2.name 0 x.2.body).length<40000)&&decide (x.2.name.size≤1000)&&(eF x.2.name x.2.body).all fun i=>decide (i.rel.size≤1000)
theorem KL {x:TR} (h:Re x=true):NF x:=by
 unfold Re at h;simp only [Bool.and_eq_true,decide_eq_true_eq,List.all_eq_true] at h;obtain ⟨⟨⟨h1,h2⟩,h3⟩,h4⟩:=h;exact ⟨Gw _ h1,h2,by unfold maxLen;omega,fun i hi=>by have:=h4 i hi;unfold maxLen;omega⟩
def JK (ts:List Ty):Bool:=Rc (aT ts)&&(aT ts).all (fun g=>g.all Re)&&decide (((aT ts).map List.length).sum≤1000000)
def KM (t:Tu):Bool:=decide (t.kind.size≤1000)&&decide (t.id.size≤1000)&&decide (t.sub.size≤1000)&&decide (t.who.size≤1000)&&decide (t.of.size≤1000)
def nS (h:Hd) (t:Tu):Bool:=pY ⟨h.kd,h.id⟩ ⟨t.kind,t.id⟩
theorem ML (h:Hd) (va:Option Addr) (vn vc:Nat) (t:Tu) (q:Nat) (w:World) (hx:ag w q #[.string t.kind,.string t.id,.string t.rel,.string t.sub,.string t.who,.string t.of] 123):
  Calls Tryz.prog 148 #[.agg #[.string h.kd,.string h.id,.slice va vn vc],.pointer (some ⟨q,0,none⟩)] w fun e w'=>e=.returned (.bool (nS h t))∧Below w.heap.size w w':=by
 have hl:=hx.lt;have b0:=(Below.refl w.heap.size w).alloc RH (.cells #[.string h.kd,.string h.id,.slice va vn vc] 282);have B0:=ae b0;have hne:¬(q=w.heap.size):=by omega
 have lX:¬(w.heap.size=q):=by omega
 obtain ⟨x0,x1,x2,x3,x4,x5⟩:=(hx.below b0).six;have Lr:=Bp;have Fw:=fun w'=>Bo ⟨h.kd,h.id⟩ ⟨t.kind,t.id⟩ w'
 dsimp only at Fw;clear hx b0;go_enter Tryz.func148,Tryz.ntmps148;go_wp2;go_ret;exact ⟨rfl,aa B0⟩
def Eg (l:List Hd) (t:Tu):Int:=match l.findIdx? (fun h=>nS h t) with
 |some k=>k
 |none=> -1
theorem JL {l:List Hd} {t:Tu} {k:Nat} (hk:k<l.length) (hn:∀j,(h:j<l.length)→j<k→nS l[j] t=false) (he:nS l[k] t=true):Eg l t=k:=by
 unfold Eg;have:l.findIdx? (fun h=>nS h t)=some k:=by
  rw [List.findIdx?_eq_some_iff_getElem];exact ⟨hk,he,fun j hj=>by rw [hn j (by omega) hj];simp⟩
 rw [this]
theorem Eh {l:List Hd} {t:Tu} (hn:∀j,(h:j<l.length)→nS l[j] t=false):Eg l t= -1:=by
 unfold Eg;have:l.findIdx? (fun h=>nS h t)=none:=by
  rw [List.findIdx?_eq_none_iff];intro y hy;obtain ⟨j,hj,rfl⟩:=List.getElem_of_mem hy;exact hn j hj
 rw [this]
theorem AJ (base:Nat) (v:Value) (l:List Hd) (t:Tu) (q:Nat) (w:World) (hn:l.length≤1000) (h:w.ownsRow base 282 3 v l.length (l.flatMap BD)) (hs:∀x∈l,∃a n c,x.tv=.slice a n c) (hx:ag w q #[.string t.kind,.string t.id,.string t.rel,.string t.sub,.string t.who,.string t.of] 123):
  Calls Tryz.prog 147 #[v,.func (.func 148) #[] #[.pointer (some ⟨q,0,none⟩)]] w fun e w'=>e=.returned (.int .i64 (Eg l t))∧Below w.heap.size w w':=by
 obtain ⟨sa,sc,rfl⟩:=ak h;have H:=ae h;have HX:=ae hx;have HS:=ae hs;clear h hx hs;go_enter Tryz.func147,Tryz.ntmps147;go_wp2
 go_loopw [5,8] (fun u i wr=>∃k:Nat,k≤l.length∧i=.int .i64 k∧Below w.heap.size w wr∧Hid (∀j,(h:j<l.length)→j<k→nS l[j] t=false)) (fun _ i _=>l.length-(intOf i).toNat)
 case atStart=>exact ⟨0,by omega,rfl,Below.refl _ _,ae (fun j e h=>by omega)⟩
 case round=>
  obtain ⟨k,hk,rfl,hb,eH⟩:=hrel;have HB:=ae hb
  by_cases hlt:k<l.length
  ·obtain ⟨g,c,e1,hc⟩:=aU BD 3 (fun _=>rfl) (aF (aa H) hb) k l[k] (RI hlt);simp only [Value.slice.injEq] at e1;obtain ⟨rfl,_,rfl⟩:=e1;obtain ⟨va,vn,vc,hv⟩:=aa HS l[k] (List.getElem_mem hlt);have IQ:=ae ((aa HX).below hb);have Aj:=ae (fun (he:nS l[k] t=true)=>JL hlt (aa eH) he);have Me:=ae (fun (he:nS l[k] t=false)=>(show ∀j,(h:j<l.length)→j<k+1→nS l[j] t=false from fun j h h'=>by
     by_cases e:j=k
     ·subst e;exact he
     ·exact aa eH j h (by omega)))
   have C:=ae (ML l[k] va vn vc t q wr (aa IQ));generalize l[k]=y at*;have k0:wr.cell? ⟨g,k*3,none⟩=some (.string y.kd):=hc 0 _ (by omega) rfl;have k1:wr.cell? ⟨g,k*3+1,none⟩=some (.string y.id):=hc 1 _ (by omega) rfl;have k2:wr.cell? ⟨g,k*3+2,none⟩=some (.slice va vn vc):=by rw [←hv];exact hc 2 _ (by omega) rfl
   have hkn:(k:Int)<(l.length:Int):=by omega
   clear hb hc hv
   cases he:nS y t
   ·rw [he] at C;have Hn:=ae (aa Me he);clear he Aj Me;go_wp2_with fail;refine (aa C).mono ?_;rintro e w2 ⟨rfl,hb2⟩;have iK:=ae ((aa HB).trans (hb2.mono (aa HB).size));clear hb2;go_wp2;go_roundw
    case rel=>exact ⟨k+1,by omega,by go_num,aa iK,Hn⟩
    case measure=>simp [intOf];omega
   ·rw [he] at C;have dN:=ae (aa Aj he);clear he Aj Me;go_wp2_with fail;refine (aa C).mono ?_;rintro e w2 ⟨rfl,hb2⟩;have iK:=ae ((aa HB).trans (hb2.mono (aa HB).size));clear hb2;go_wp2;go_ret;exact ⟨by first|(rw [aa dN];done)|simp [aa dN],aa iK⟩
  ·have dN:=ae (Eh (t:=t) (fun j hj=>aa eH j hj (by omega)));have hkn:¬((k:Int)<(l.length:Int)):=by omega
   clear hb;go_wp2;go_ret;exact ⟨by first|(rw [aa dN];done)|simp [aa dN],aa HB⟩
def lH (h:Hp) (t:Tu):Bool:=pY ⟨h.kd,h.id⟩ ⟨t.kind,t.id⟩
def sN (i:Nat) (t:Tu) (l:List Hp):List Hp:=match l[i]? with
 |some h=>l.set i ⟨h.kd,h.id,h.ts++[t]⟩
 |none=>l
def pK (l:List Hp) (t:Tu):List Hp:=match l.findIdx? (fun h=>lH h t) with
 |some i=>sN i t l
 |none=>sN l.length t (l++[⟨t.kind,t.id,[]⟩])
def bF (gs:List Tu):List Hp:=gs.foldl pK []
theorem rR (gs:List Tu) (t:Tu):bF (gs++[t])=pK (bF gs) t:=by simp [bF]
structure BK (base:Nat) (w:World) (hv:Value) (hl:List Hd):Prop where
 row:w.ownsRow base 282 3 hv hl.length (hl.flatMap BD)
 tup:∀h∈hl,w.ownsRow base 123 6 h.tv h.ts.length (h.ts.flatMap mH)
 ap:hl.Pairwise (fun p q=>∀k,p.tv.ownBlock=some k→q.tv.ownBlock≠some k)
section
variable {base g cap i:Nat} {w w' W w5:World} {hv:Value} {hl:List Hd} {t:Tu}
theorem BK.below (h:BK base w hv hl) (k:Below w.heap.size w w'):BK base w' hv hl:=⟨aF h.row k,fun x hx=>aF (h.tup x hx) k,h.ap⟩
theorem BK.push {kd id:RJ} (h:BK base w hv hl) (hg:w.grownBy w' hv.ownBlock) (hown:w'.ownsRow base 282 3 (.slice (some ⟨g,0,none⟩) (hl.length+1) cap) (hl.length+1) (hl.flatMap BD++[.string kd,.string id,.slice none 0 0])):BK base w' (.slice (some ⟨g,0,none⟩) (hl.length+1) cap) (hl++[⟨kd,id,[],.slice none 0 0⟩]):=by
 refine ⟨by simpa [BD] using hown,fun p hp=> ?_,?_⟩
 ·rcases List.mem_append.1 hp with hp|hp
  ·exact ai (h.tup p hp) (fun g cs f _ hh=>hg.block g (lt_of_some hh) (dH h.row hh (by decide)))
  ·rw [List.mem_singleton] at hp;subst hp;exact World.ownsRow_nil _ _ _ _
 ·refine List.pairwise_append.2 ⟨h.ap,by simp,fun p _ q hq k hk e=> ?_⟩;rw [List.mem_singleton] at hq;subst hq;simp [Value.ownBlock] at e
theorem Gx (x:Hd) (u:Value) (ts:List Tu):∀(l:List Hd) (k:Nat),l[k]? =some x→(l.flatMap BD).set (k*3+2) u=(l.set k ⟨x.kd,x.id,ts,u⟩).flatMap BD
 | [],k,h=>by simp at h
 |y::l,0,h=>by
  simp only [List.getElem?_cons_zero,Option.some.injEq] at h;subst h
  rfl
 |y::l,k+1,h=>by
  have ih:=Gx x u ts l k (by simpa using h);rw [List.flatMap_cons,List.set_append_right _ _ (by show 3≤_;omega),show (k+1)*3+2-(BD y).length=k*3+2 by show (k+1)*3+2-3=_;omega,ih,List.set_cons_succ,List.flatMap_cons]
theorem BK.put {g0 c0:Nat} {p:Hd} (h:BK base w (.slice (some ⟨g0,0,none⟩) hl.length c0) hl) (hi:hl[i]? =some p) (hg:w.grownBy w' p.tv.ownBlock) (hown:w'.ownsRow base 123 6 (.slice (some ⟨g,0,none⟩) (p.ts.length+1) cap) (p.ts.length+1) (p.ts.flatMap mH++mH t)) (hat:p.tv.ownBlock=some g∨w.heap.size≤g):
  BK base (w'.setCell ⟨g0,i*3+2,none⟩ (.slice (some ⟨g,0,none⟩) (p.ts.length+1) cap)) (.slice (some ⟨g0,0,none⟩) hl.length c0) (hl.set i ⟨p.kd,p.id,p.ts++[t],.slice (some ⟨g,0,none⟩) (p.ts.length+1) cap⟩):=by
 have hil:i<hl.length:=(List.getElem?_eq_some_iff.1 hi).1;have hp:p∈hl:=List.mem_of_getElem? hi;have hpe:hl[i]=p:=by rw [RI hil] at hi;exact Option.some.inj hi
 have r1:w'.ownsRow base 282 3 (.slice (some ⟨g0,0,none⟩) hl.length c0) hl.length (hl.flatMap BD):=ai h.row (fun g cs f _ hh=>hg.block g (lt_of_some hh) (dH (h.tup p hp) hh (by decide)));obtain ⟨cur,hb,_⟩:=dS r1;have hap:=List.pairwise_iff_getElem.1 h.ap;refine ⟨?_,fun q hq=> ?_,?_⟩
 ·have:=qb r1 (i*3+2) (.slice (some ⟨g,0,none⟩) (p.ts.length+1) cap);rw [List.length_set,←Gx p _ _ hl i hi];exact this
 ·obtain ⟨j,hj,rfl⟩:=List.getElem_of_mem hq;rw [List.length_set] at hj;refine bD ?_ hb (by decide) _ _
  by_cases e:i=j
  ·subst e;rw [List.getElem_set_self];simp only [List.length_append,List.length_cons,List.length_nil,List.flatMap_append,List.flatMap_cons,List.flatMap_nil,List.append_nil];exact hown
  ·rw [List.getElem_set_ne e];refine dU (h.tup _ (List.getElem_mem hj)) (fun k cs f hk hh=>hg.block k (lt_of_some hh) (fun ek=> ?_))
   rcases Nat.lt_or_gt_of_ne e with hlt|hlt
   ·exact hap i j hil hj hlt k (by rw [hpe];exact ek.symm) hk
   ·exact hap j i hj hil hlt k hk (by rw [hpe];exact ek.symm)
 ·refine List.pairwise_iff_getElem.2 (fun a b ha hb' hab k hk e=> ?_);rw [List.length_set] at ha hb';have old:∀j (hj:j<hl.length),j≠i→hl[j].tv.ownBlock=some k→g=k→False:=fun j hj O8 hk e=>by
   subst e
   rcases hat with e|e
   ·rcases Nat.lt_or_gt_of_ne O8 with hlt|hlt
    ·exact hap j i hj hil hlt g hk (by rw [hpe];exact e)
    ·exact hap i j hil hj hlt g (by rw [hpe];exact e) hk
   ·have:=((h.tup _ (List.getElem_mem hj)).lt g hk).2;omega
  by_cases ea:i=a
  ·subst ea;rw [List.getElem_set_self] at hk;rw [List.getElem_set_ne (by omega)] at e;exact old b hb' (by omega) e (by simpa [Value.ownBlock] using hk)
  ·rw [List.getElem_set_ne ea] at hk
   by_cases eb:i=b
   ·subst eb;rw [List.getElem_set_self] at e;exact old a ha (by omega) hk (by simpa [Value.ownBlock] using e)
   ·rw [List.getElem_set_ne eb] at e;exact hap a b ha hb' hab k hk e
theorem hold_close {g0 c0 pc yn n1:Nat} {pa:Option Addr} {W0:World} {kd id:RJ} {ts:List Tu} {o:Obj} (sF:n1=hl.length) (HB:Below W0.heap.size W0 W) (HI:BK W0.heap.size W (.slice (some ⟨g0,0,none⟩) n1 c0) hl) (HP:hl[i]? =some ⟨kd,id,ts,.slice pa yn pc⟩) (JM:yn=ts.length)
  (hg:(W.alloc o).drew.grownBy w5 (Value.slice pa yn pc).ownBlock) (hown:w5.ownsRow W0.heap.size 123 6 (.slice (some ⟨g,0,none⟩) (yn+1) cap) (yn+1) (ts.flatMap mH++mH t)) (hat:(Value.slice pa yn pc).ownBlock=some g∨g=W.heap.size+1):
  Below W0.heap.size W0 (w5.setCell ⟨g0,i*3+2,none⟩ (.slice (some ⟨g,0,none⟩) (yn+1) cap))∧BK W0.heap.size (w5.setCell ⟨g0,i*3+2,none⟩ (.slice (some ⟨g,0,none⟩) (yn+1) cap)) (.slice (some ⟨g0,0,none⟩) n1 c0) (hl.set i ⟨kd,id,ts++[t],.slice (some ⟨g,0,none⟩) (yn+1) cap⟩):=by
 subst JM;subst sF;have ba:Below W.heap.size W ((W.alloc o).drew):=((Below.refl _ W).alloc RH o).drew;have yC:=HI.below ba;obtain ⟨cur,hb0,hge⟩:=dS HI.row;refine ⟨((HB.trans (ba.mono HB.size)).grown hg (Nat.le_trans HB.size ba.size) (fun k hk=>((HI.tup _ (List.mem_of_getElem? HP)).lt k hk).1)).setCell hge _,?_⟩;exact yC.put HP hg hown (hat.elim .inl (fun e=> .inr (by simp;omega)))
theorem uu {gs:List Tu} {k:Nat} {p p':Hd} (htk:gs.take (k+1)=gs.take k++[t]) (hst:sN i t (hl.map jq)=bF (gs.take k++[t])∧hl.length≤k+1) (hp:hl[i]? =some p) (sG:∀h∈hl,h.ts.length≤k) (hpe:jq p'=⟨p.kd,p.id,p.ts++[t]⟩):
  (hl.set i p').map jq=bF (gs.take (k+1))∧(hl.set i p').length≤k+1∧∀h∈hl.set i p',h.ts.length≤k+1:=by
 refine ⟨?_,by rw [List.length_set];exact hst.2,fun h hh=> ?_⟩
 ·rw [htk,←hst.1,List.map_set,hpe];unfold sN;rw [List.getElem?_map,hp]
  rfl
 ·rcases List.mem_or_eq_of_mem_set hh with hh|rfl
  ·have:=sG h hh;omega
  ·have h1:h.ts=p.ts++[t]:=congrArg Hp.ts hpe;have h2:=sG p (List.mem_of_getElem? hp);rw [h1,List.length_append];simp;omega
end
theorem yD (l:List Hd) (t:Tu):(l.map jq).findIdx? (fun h=>lH h t)=l.findIdx? (fun h=>nS h t):=by
 rw [List.findIdx?_map]
 rfl
theorem Tryz.infoHo:(Tryz.prog.info? 282).map (fun i=>(i.zero,i.size,i.bytes))=some (some (.agg #[.string ⟨#[]⟩,.string ⟨#[]⟩,.slice none 0 0]),3,56):=by kernel_rfl
def MM (gs:List Tu) (w:World) (e:Ending) (w':World):Prop:=∃hv hl,e=.returned hv∧Below w.heap.size w w'∧BK w.heap.size w' hv hl∧hl.map jq=bF gs∧hl.length≤gs.length∧∀h∈hl,h.ts.length≤gs.length
theorem yE (gv:Value) (gs:List Tu) (w:World) (hrow:w.ownsRow 0 123 6 gv gs.length (gs.flatMap mH)) (hm:gs.length≤1000):
  Calls Tryz.prog 98 #[gv] w (MM gs w):=by
 obtain ⟨ga,gc,rfl⟩:=ak hrow;obtain ⟨i0,hi0,hz0,hz1,hz2⟩:=info_parts Tryz.infoTu;obtain ⟨i1,hi1,hy0,hy1,hy2⟩:=info_parts Tryz.infoHo;have HI:=ae hi0;have jg:=ae hz0;have jh:=ae hz1;have ji:=ae hz2;have om:=ae hrow;clear hrow hi0 hz0 hz1 hz2;go_enter Tryz.func98,Tryz.ntmps98;go_wp2_with fail
 go_loopw [3,9] (fun u3 u9 wr=>∃(k:Nat) (hv:Value) (hl:List Hd),u3=hv∧u9=.int .i64 k∧k≤gs.length∧Below w.heap.size w wr∧BK w.heap.size wr hv hl∧Hid (hl.map jq=bF (gs.take k)∧hl.length≤k∧∀h∈hl,h.ts.length≤k)) (fun _ u9 _=>gs.length-(intOf u9).toNat)
 case atStart=>exact ⟨0,_,[],rfl,rfl,by omega,Below.refl _ _,⟨World.ownsRow_nil _ _ _ _,(fun _ h=>by cases h),List.Pairwise.nil⟩,ae ⟨rfl,by simp,(fun _ h=>by cases h)⟩⟩
 case round=>
  obtain ⟨k,hv,hl,rfl,rfl,hk,hB,hI,HR⟩:=hrel;obtain ⟨ha,hc,rfl⟩:=ak hI.row
  by_cases hlt:k<gs.length
  ·have hkn:(k:Int)<(gs.length:Int):=by omega
   have AL:=ae (show gs.take (k+1)=gs.take k++[gs[k]] from List.take_succ_eq_append_getElem hlt);obtain ⟨g,c,e1,hcl⟩:=aU mH 6 (fun _=>rfl) (aF (aa om) hB) k gs[k] (RI hlt);simp only [Value.slice.injEq] at e1;obtain ⟨rfl,_,rfl⟩:=e1;generalize gs[k]=t at*;have k0:wr.cell? ⟨g,k*6,none⟩=some (.string t.kind):=hcl 0 _ (by omega) rfl;have k1:wr.cell? ⟨g,k*6+1,none⟩=some (.string t.id):=hcl 1 _ (by omega) rfl;have k2:wr.cell? ⟨g,k*6+2,none⟩=some (.string t.rel):=hcl 2 _ (by omega) rfl;have k3:wr.cell? ⟨g,k*6+3,none⟩=some (.string t.sub):=hcl 3 _ (by omega) rfl;have k4:wr.cell? ⟨g,k*6+4,none⟩=some (.string t.who):=hcl 4 _ (by omega) rfl;have k5:wr.cell? ⟨g,k*6+5,none⟩=some (.string t.of):=hcl 5 _ (by omega) rfl;have vE:=ae (show ∀u∈mH t,u.oneCell'=true from by
    intro u hu;simp only [mH,List.mem_cons,List.not_mem_nil,or_false] at hu
    rcases hu with rfl|rfl|rfl|rfl|rfl|rfl<;>rfl)
   have ba:=(Below.refl wr.heap.size wr).alloc RH (.cells #[.string t.kind,.string t.id,.string t.rel,.string t.sub,.string t.who,.string t.of] 123);have hbs0:=hB.size;have B1:=ae (hB.trans (ba.mono hbs0));have I1:=ae (hI.below ba);have T1:=ae (show ag (wr.alloc (.cells #[.string t.kind,.string t.id,.string t.rel,.string t.sub,.string t.who,.string t.of] 123)) wr.heap.size #[.string t.kind,.string t.id,.string t.rel,.string t.sub,.string t.who,.string t.of] 123 from ag.new wr _ _);have C:=ae (AJ w.heap.size _ hl t wr.heap.size _ (by have:=(aa HR).2.1;omega) (aa I1).row (fun x hx=>by obtain ⟨a,c,e⟩:=ak ((aa I1).tup x hx);exact ⟨a,_,c,e⟩) (aa T1));have hhl:=(aa HR).2.1;clear hB hI hcl ba;go_wp2_with fail;refine (aa C).mono ?_;rintro e w2 ⟨rfl,hb2⟩;have iK:=ae ((aa B1).trans (hb2.mono (aa B1).size));have yC:=ae ((aa I1).below hb2);have Po:=ae ((aa T1).below hb2);clear hb2 C B1 I1 T1 k0 k1 k2 k3 k4 k5;unfold Eg
   cases hf:hl.findIdx? (fun h=>nS h t) with
   |some i=>
    have hi:i<hl.length:=(List.findIdx?_eq_some_iff_getElem.1 hf).1;have HST:=ae (show sN i t (hl.map jq)=bF (gs.take k++[t])∧hl.length≤k+1 from ⟨by rw [rR,←(aa HR).1];unfold pK;rw [yD,hf],by omega⟩);have Gy:=ae (aa HR).2.2;have hneg:¬((i:Int)<0):=by omega
    clear HR hf;dsimp only;go_wp2_with fail;obtain ⟨zz,hhl1⟩:∃l,l=hl:=⟨_,rfl⟩;obtain ⟨W,hW⟩:∃W,W=w2:=⟨_,rfl⟩;have CU:=yC;have MN:=iK;have TB:=Po;clear yC iK Po;subst hW;subst hhl1;obtain ⟨g0,c0,e0,hcl⟩:=aU BD 3 (fun _=>rfl) (aa CU).row (i) (zz[i]) (RI hi);simp only [Value.slice.injEq] at e0
    first
     |obtain ⟨rfl,sF,rfl⟩:=e0
     |(simp only [Option.some.injEq,Addr.mk.injEq,and_true,true_and] at e0;obtain ⟨rfl,sF,rfl⟩:=e0)
    have k7:W.cell? ⟨g0,i*3+2,none⟩=some zz[i].tv:=hcl 2 _ (by omega) rfl;have sK:=(aa CU).tup _ (List.getElem_mem hi);have HP:=ae (RI hi);have Ky:=aa Gy _ (List.getElem_mem hi);generalize zz[i]=y at*;obtain ⟨ykd,yid,Pp,ytv⟩:=y;simp only at k7 sK Ky;obtain ⟨pa,pc,rfl⟩:=ak sK;obtain ⟨yn,JM⟩:∃n,n=Pp.length:=⟨_,rfl⟩;rw [←JM] at k7 sK Ky HP;have Rf:=ae JM;have JG:=ae sK;obtain ⟨cur,hb0,hge0⟩:=dS (aa CU).row;have hz:=hb0.fz;have Ju:¬(g0=W.heap.size):=by have:=hb0.lt;omega
    have hneq:¬(wr.heap.size=W.heap.size):=by have:=(aa TB).lt;omega
    have c7:(W.alloc (.cells #[.string t.kind,.string t.id,.string t.rel,.string t.sub,.string t.who,.string t.of] 123)).cell? ⟨g0,i*3+2,none⟩=some (.slice pa yn pc):=af k7 ((Below.refl _ W).alloc RH _);obtain ⟨t0,t1,t2,t3,t4,t5⟩:=(aa TB).six;obtain ⟨s0,s1,s2,s3,s4,s5⟩:=((aa TB).below ((Below.refl _ W).alloc RH (.cells #[.string t.kind,.string t.id,.string t.rel,.string t.sub,.string t.who,.string t.of] 123))).six;have Pd:(0:Int)≤((i:Nat):Int):=by omega
    have Pe:((i:Nat):Int)<((zz.length:Nat):Int):=by omega
    have MO:=ae hb0;have m7:=World.new_ne W _ k7;have m8:=World.new_ne W _ t0;have Ii:=ae (show yn+1≤maxLen from by unfold maxLen;omega);have Ij:=ae (show (yn+1)*96≤140737488355328 from by omega);have hbs:=(aa MN).size;have HS:=ae (show w.heap.size≤(W.alloc (.cells #[.string t.kind,.string t.id,.string t.rel,.string t.sub,.string t.who,.string t.of] 123)).drew.heap.size from by simp;omega);have HH:=ae (show (W.alloc (.cells #[.string t.kind,.string t.id,.string t.rel,.string t.sub,.string t.who,.string t.of] 123)).drew.heap.size=W.heap.size+1 from by simp);have Bg:=ae sF;clear hcl sK hb0 JM Ky
    go_region_law (refine step_append_lies _ rfl (.tmp 32) (.tmp 34) 115 rfl w.heap.size 123 i0 _ 6 96 Tryz.underlying115 (aa HI) (aa jg) (aa jh) (aa ji) rfl (by decide) (.slice pa yn pc) yn (Pp.flatMap mH) (by simp [Act.eval,Act.put]) (fG ((aa JG).alloc _)) ⟨W.heap.size,0,none⟩ 1 1 (mH t) (by simp [Act.eval,Act.put]) rfl (World.news_of_block (B:=W.heap.size) (cs:=#[.string t.kind,.string t.id,.string t.rel,.string t.sub,.string t.who,.string t.of]) (t:=123) (fr:=(0,0)) (ag.new W _ _).drew) (aa vE) (by decide) (aa Ii) (aa Ij) (aa HS) (W.heap.size+1) (aa HH) ?_;intro g5 bu w5 aJ au bI jk;have fA:=fG ((aa JG).alloc (.cells #[.string t.kind,.string t.id,.string t.rel,.string t.sub,.string t.who,.string t.of] 123));have pF:=((aa MO).alloc (.cells #[.string t.kind,.string t.id,.string t.rel,.string t.sub,.string t.who,.string t.of] 123)).drew;have K5:ag w5 g0 _ 282:=(au.block g0 pF.lt (own_ne fA pF (by decide))).trans pF;have q7:w5.cell? ⟨g0,i*3+2,none⟩=some (.slice pa yn pc):=au.cell (w:=(W.alloc (.cells #[.string t.kind,.string t.id,.string t.rel,.string t.sub,.string t.who,.string t.of] 123)).drew) c7 (own_ne fA pF (by decide));have zq:=K5.fz;have G5:=ae au;have O5:=ae aJ;have A5:=ae bI;have lq:=K5.lt;clear fA pF K5 au aJ bI)
    all_goals
     go_wp2;go_roundw
     case rel=>
      have hfin:=hold_close (by first|exact aa Bg|rfl) (aa MN) (aa CU) (aa HP) (aa Rf) (aa G5) (aa O5) (aa A5);exact ⟨k+1,_,_,rfl,by go_num,by omega,hfin.1,(by first|exact hfin.2|(rw [←aa Bg];exact hfin.2)),ae (uu (aa AL) (aa HST) (aa HP) (aa Gy) rfl)⟩
     case measure=>simp [intOf];omega
   |none=>
    have HST:=ae (show sN hl.length t ((hl++[(⟨t.kind,t.id,[],.slice none 0 0⟩:Hd)]).map jq)=bF (gs.take k++[t])∧(hl++[(⟨t.kind,t.id,[],.slice none 0 0⟩:Hd)]).length≤k+1 from ⟨by rw [rR,←(aa HR).1];unfold pK;rw [yD,hf];simp [jq],by simp;omega⟩);have Gy:=ae (show ∀h∈hl++[(⟨t.kind,t.id,[],.slice none 0 0⟩:Hd)],h.ts.length≤k from fun h hh=>by
     rcases List.mem_append.1 hh with hh|hh
     ·exact (aa HR).2.2 h hh
     ·rw [List.mem_singleton] at hh;subst hh;simp)
    obtain ⟨t0,t1,t2,t3,t4,t5⟩:=(aa Po).six;have hs2:=(aa iK).size;clear HR hf;dsimp only;go_wp2_with (at_builtin;go_must (refine wpList_append_lies _ rfl _ _ 185 rfl w.heap.size 282 i1 _ 3 56 Tryz.underlying185 hi1 hy0 hy1 hy2 rfl (by decide) (.slice ha hl.length hc) hl.length (hl.flatMap BD) rfl ?hown ⟨w2.heap.size,0,none⟩ 1 1 [.string t.kind,.string t.id,.slice none 0 0] rfl rfl ?hnews ?hone (by decide) ?h63 ?hbytes ?hbase (w2.heap.size+1) ?hH ?hrest))
    case hown=>exact (aa yC).row.alloc _
    case hnews=>exact World.news_of_block (B:=w2.heap.size) (cs:=#[.string t.kind,.string t.id,.slice none 0 0]) (t:=282) (fr:=(0,0)) (ag.new _ _ _)
    case hone=>
     intro u hu;simp at hu
     rcases hu with rfl|rfl|rfl<;>rfl
    case h63=>unfold maxLen;omega
    case hbytes=>omega
    case hbase=>simp;omega
    case hH=>simp
    case hrest=>
     intro g6 nK w6 d9 aZ jC uX;have b3:=(Below.refl w2.heap.size w2).alloc RH (.cells #[.string t.kind,.string t.id,.slice none 0 0] 282);have I3:=(aa yC).below b3;have T3:=(aa Po).below b3;have CU:=ae (I3.push aZ d9);have MN:=ae (Below.grown ((aa iK).trans (b3.mono hs2)) aZ (by simp;omega) (fun q hq=>(I3.row.lt q hq).1));have TB:=ae (show ag w6 wr.heap.size _ 123 from (aZ.block _ T3.lt (own_ne I3.row T3 (by decide))).trans T3);have hi:hl.length<(hl++[(⟨t.kind,t.id,[],.slice none 0 0⟩:Hd)]).length:=by simp
     clear b3 I3 T3 d9 aZ jC yC iK Po t0 t1 t2 t3 t4 t5;go_wp2_with fail;obtain ⟨W,hW⟩:∃W,W=w6:=⟨_,rfl⟩;subst hW;generalize hl++[(⟨t.kind,t.id,[],.slice none 0 0⟩:Hd)]=zz at*;obtain ⟨g0,c0,e0,hcl⟩:=aU BD 3 (fun _=>rfl) (aa CU).row (hl.length) (zz[hl.length]) (RI hi);simp only [Value.slice.injEq] at e0
     first
      |obtain ⟨rfl,sF,rfl⟩:=e0
      |(simp only [Option.some.injEq,Addr.mk.injEq,and_true,true_and] at e0;obtain ⟨rfl,sF,rfl⟩:=e0)
     have k7:W.cell? ⟨g6,hl.length*3+2,none⟩=some zz[hl.length].tv:=hcl 2 _ (by omega) rfl;have sK:=(aa CU).tup _ (List.getElem_mem hi);have HP:=ae (RI hi);have Ky:=aa Gy _ (List.getElem_mem hi);generalize zz[hl.length]=y at*;obtain ⟨ykd,yid,Pp,ytv⟩:=y;simp only at k7 sK Ky;obtain ⟨pa,pc,rfl⟩:=ak sK;obtain ⟨yn,JM⟩:∃n,n=Pp.length:=⟨_,rfl⟩;rw [←JM] at k7 sK Ky HP;have Rf:=ae JM;have JG:=ae sK;obtain ⟨cur,hb0,hge0⟩:=dS (aa CU).row;have hz:=hb0.fz;have Ju:¬(g6=W.heap.size):=by have:=hb0.lt;omega
     have hneq:¬(wr.heap.size=W.heap.size):=by have:=(aa TB).lt;omega
     have c7:(W.alloc (.cells #[.string t.kind,.string t.id,.string t.rel,.string t.sub,.string t.who,.string t.of] 123)).cell? ⟨g6,hl.length*3+2,none⟩=some (.slice pa yn pc):=af k7 ((Below.refl _ W).alloc RH _);obtain ⟨t0,t1,t2,t3,t4,t5⟩:=(aa TB).six;obtain ⟨s0,s1,s2,s3,s4,s5⟩:=((aa TB).below ((Below.refl _ W).alloc RH (.cells #[.string t.kind,.string t.id,.string t.rel,.string t.sub,.string t.who,.string t.of] 123))).six;have Pd:(0:Int)≤((hl.length:Nat):Int):=by omega
     have Pe:((hl.length:Nat):Int)<((hl.length+1:Nat):Int):=by omega
     have MO:=ae hb0;have m7:=World.new_ne W _ k7;have m8:=World.new_ne W _ t0;have Ii:=ae (show yn+1≤maxLen from by unfold maxLen;omega);have Ij:=ae (show (yn+1)*96≤140737488355328 from by omega);have hbs:=(aa MN).size;have HS:=ae (show w.heap.size≤(W.alloc (.cells #[.string t.kind,.string t.id,.string t.rel,.string t.sub,.string t.who,.string t.of] 123)).drew.heap.size from by simp;omega);have HH:=ae (show (W.alloc (.cells #[.string t.kind,.string t.id,.string t.rel,.string t.sub,.string t.who,.string t.of] 123)).drew.heap.size=W.heap.size+1 from by simp);have Bg:=ae sF;clear hcl sK hb0 JM Ky
     go_region_law (refine step_append_lies _ rfl (.tmp 32) (.tmp 34) 115 rfl w.heap.size 123 i0 _ 6 96 Tryz.underlying115 (aa HI) (aa jg) (aa jh) (aa ji) rfl (by decide) (.slice pa yn pc) yn (Pp.flatMap mH) (by simp [Act.eval,Act.put]) (fG ((aa JG).alloc _)) ⟨W.heap.size,0,none⟩ 1 1 (mH t) (by simp [Act.eval,Act.put]) rfl (World.news_of_block (B:=W.heap.size) (cs:=#[.string t.kind,.string t.id,.string t.rel,.string t.sub,.string t.who,.string t.of]) (t:=123) (fr:=(0,0)) (ag.new W _ _).drew) (aa vE) (by decide) (aa Ii) (aa Ij) (aa HS) (W.heap.size+1) (aa HH) ?_;intro g5 bu w5 aJ au bI jk;have fA:=fG ((aa JG).alloc (.cells #[.string t.kind,.string t.id,.string t.rel,.string t.sub,.string t.who,.string t.of] 123));have pF:=((aa MO).alloc (.cells #[.string t.kind,.string t.id,.string t.rel,.string t.sub,.string t.who,.string t.of] 123)).drew;have K5:ag w5 g6 _ 282:=(au.block g6 pF.lt (own_ne fA pF (by decide))).trans pF;have q7:w5.cell? ⟨g6,hl.length*3+2,none⟩=some (.slice pa yn pc):=au.cell (w:=(W.alloc (.cells #[.string t.kind,.string t.id,.string t.rel,.string t.sub,.string t.who,.string t.of] 123)).drew) c7 (own_ne fA pF (by decide));have zq:=K5.fz;have G5:=ae au;have O5:=ae aJ;have A5:=ae bI;have lq:=K5.lt;clear fA pF K5 au aJ bI)
     all_goals
      go_wp2;go_roundw
      case rel=>
       have hfin:=hold_close (by first|exact aa Bg|rfl) (aa MN) (aa CU) (aa HP) (aa Rf) (aa G5) (aa O5) (aa A5);exact ⟨k+1,_,_,rfl,by go_num,by omega,hfin.1,(by first|exact hfin.2|(rw [←aa Bg];exact hfin.2)),ae (uu (aa AL) (aa HST) (aa HP) (aa Gy) rfl)⟩
      case measure=>simp [intOf];omega
  ·have hkn:¬((k:Int)<(gs.length:Int)):=by omega
   have hke:k=gs.length:=by omega
   have yC:=ae hI;have iK:=ae hB;have bP:=ae (show hl.map jq=bF gs∧hl.length≤gs.length∧∀h∈hl,h.ts.length≤gs.length from by
    have:=aa HR;rw [hke,List.take_length] at this;exact this)
   clear hB hI HR hke;go_wp2;go_ret;exact ⟨_,hl,rfl,aa iK,aa yC,aa bP⟩
