import Derived.Test.YtlbpnlngckgcbaaGreatDoorProg
import Derived.WalkKit
import Derived.WalkLawsBesides
import Derived.WalkSpells
import Derived.BigQuiet
import Derived.PlainAid
import Derived.Lib.Strings
import Derived.Deep.RegionHeld3
import Derived.Deep.RegionWith
import Derived.Deep.DrawnRows
import Derived.Deep.AppendLies
import Derived.Laws.ResultCell
import Derived.Laws.Rows
import Derived.Deep.LoopGhost
import Derived.Deep.DeepCutAuto
set_option linter.all false
set_option maxHeartbeats 4000000
set_option maxRecDepth 100000
namespace Go.RowKit
theorem Hid.u{p:Prop}(h:Hid p):p:=h
end Go.RowKit
namespace Go.Proofs.YtlbpnlngckgcbaaGreatDoor
open Go.RowKit Go.PlainAid Go.Proofs.Tryz
variable {aD bq:Prop} {n a b B p d g k i size base base':Nat} {T e:TypeId} {row:Option Nat} {P:Program} {rest:List Oper} {o:Obj}
abbrev ae:=ByteArray
abbrev af:=World
abbrev ag:=Value
theorem ab{n:Nat}:n<=n:=Nat.le_refl n
theorem ac{α:Type}{l:List α}{i:Nat}(h:i<l.length):l[i]? =some l[i]:=List.getElem?_eq_getElem h
abbrev bV:=@Nat.le_refl
abbrev az:=@Below.refl
structure cj(q:Prop):Prop where
 out:q
abbrev am(w:af):af->Prop:=Below w.heap.size w
def aH:n<=n:=bV _
variable {w:af}
def bo:Below n w w:=az _ _
def bP{c:TypeId}:w.ownsRow a c b (.slice none 0 0) 0 []:=World.ownsRow_nil _ _ _ _
abbrev aC(b o:Nat):Addr:=⟨b,o,none⟩
abbrev aP(b:Nat):Addr:=⟨b,0,none⟩
abbrev bu(b:Nat):ag:=.pointer (some ⟨b,0,none⟩)
abbrev au(n:Int):ag:=.int .i64 n
abbrev an(s:ae):ag:=.string s
abbrev aA(a:Option Addr)(n c:Nat):ag:=.slice a n c
abbrev bi(v:ag):Ending:=.returned v
abbrev rS:=@Array.length_toList
abbrev l5:=@List.length_pos_iff
def aS (h:aD:=by
 simp;omega):aD:=h
def ai (h:aD:=by
 omega):aD:=h
def ar (h:aD:=by
 simp):aD:=h
def Xi (h:aD:=by
 go_wp2_with (first|(go_at_call 203;refine (hZ _ _).mono ?_;rintro e w' ⟨rfl,rfl⟩)|(go_at_call 204;refine (nf _ _).mono ?_;rintro e w' ⟨rfl,rfl⟩));go_ret;exact ⟨by rw [qA.u];rfl,rfl⟩):aD:=h
def Gq (h:aD:=by
 exact ⟨k+1,ai,ai,by go_num,Hn⟩):aD:=h
def aj{p:Prop}(h:p):Hid p:=h
def aE{p:Prop}(h:Hid p):p:=h
def blank(c:Int):Bool:=c==32||c==9||c==10
def letter(c:Int):Bool:=decide (97<=c)&&decide (c<=122)
def digit(c:Int):Bool:=decide (48<=c)&&decide (c<=57)
def hZ(c w):Calls prog 203 #[.int .u8 c] w fun e w'=>e=bi (.bool (letter c))/\w'=w:=by
 by_cases h1:97<=c
 ·go_enter func203,ntmps203;go_wp2;go_ret;exact ⟨by simp [letter,h1],rfl⟩
 go_enter func203,ntmps203;go_wp2;go_ret;exact ⟨by simp [letter];omega,rfl⟩
def nf(c w):Calls prog 204 #[.int .u8 c] w fun e w'=>e=bi (.bool (digit c))/\w'=w:=by
 by_cases h1:48<=c
 ·go_enter func204,ntmps204;go_wp2;go_ret;exact ⟨by simp [digit,h1],rfl⟩
 go_enter func204,ntmps204;go_wp2;go_ret;exact ⟨by simp [digit];omega,rfl⟩
def tE(c w):Calls prog 111 #[.int .u8 c] w fun e w'=>e=bi (.bool (blank c))/\w'=w:=by
 go_enter func111,ntmps111;go_wp2
 all_goals
  go_ret;exact ⟨by simp_all [blank],rfl⟩
def dx(c:UInt8):Bool:=letter c.toNat||digit c.toNat
def ej(c:UInt8):Bool:=blank c.toNat
def df:List UInt8->Nat
 | []=>0
 |c::r=>if letter c.toNat then 1+(r.takeWhile dx).length else 1
def kL:List UInt8->Nat
 | []=>0
 |c::r=>if letter c.toNat then 1+(r.takeWhile dx).length else 0
def Lx(l)(h:l≠ []):((df l:Nat):Int)=if (1:Int)<(kL l:Nat) then ((kL l:Nat):Int) else 1:=by
 cases l with
 |nil=>exact absurd rfl h
 |cons c r=>
  simp only [df,kL]
  by_cases hc:letter c.toNat=true
  ·simp only [hc,if_true]
   split<;>omega
  simp [hc]
def fB{α:Type}(p:α->Bool):∀(l:List α)(k:Nat),(∀j,(h:j<k)->(A:j<l.length)->p l[j]=true)->k<=l.length->((h:k<l.length)->p l[k]=false)->(l.takeWhile p).length=k
 | [],k,_,h2,_=>by simp at h2;simp [h2]
 |a::r,0,_,_,h3=>by
  have:=h3 ar;simp at this;simp [this]
 |a::r,k+1,h1,h2,h3=>by
  have ha:=h1 0 ai ar;simp at ha;simp [ha];exact fB p r k (fun j h A=>by have:=h1 (j+1) ai aS;simpa using this) (by simpa using h2) (fun h=>by have:=h3 aS;simpa using this)
def bB(s:ae):List UInt8:=s.data.toList
def mk(l:List UInt8):ae:=⟨l.toArray⟩
def j6(l):bB (mk l)=l:=rfl
def cW(s):mk (bB s)=s:=rfl
def bj(s):(bB s).length=s.size:=by show s.data.toList.length=s.data.size;exact rS
def uV(s k)(h:k<(bB s).length):bt s k=((bB s)[k].toNat:Int):=by
 rw [bj] at h;unfold bt;rw [dif_pos h];rfl
def aT(s):s.toList=bB s:=ByteArray.toList_eq s
def qB(s k)(h0:0<s.size)(I:letter (bt s 0)=true)(h1:1<=k)(D:k<=s.size)(Q:∀j,1<=j->j<k->(letter (bt s j)||digit (bt s j))=true)(C:k<s.size->(letter (bt s k)||digit (bt s k))=false):kL (bB s)=k:=by
 have A:=uV s;rw [<-bj] at h0 D C;generalize bB s=l at*
 cases l with
 |nil=>simp at h0
 |cons c r=>
  have J:=A 0 ar;simp only [List.getElem_cons_zero] at J;rw [J] at I;simp only [kL,I,if_true];simp only [List.length_cons] at D C;have:=fB dx r (k-1) (fun j h R=>by
   have:=Q (j+1) ai ai;rw [A (j+1) aS] at this
   simpa [dx] using this) ai (fun h=>by
   obtain ⟨q,rfl⟩:∃q,k=q+1:=⟨k-1,ai⟩;have:=C ai;rw [A (q+1) aS] at this
   simpa [dx] using this)
  omega
def uW(s)(h0:0<s.size)(A:letter (bt s 0)=false):kL (bB s)=0:=by
 have D:=uV s;rw [<-bj] at h0;generalize bB s=l at*
 cases l with
 |nil=>simp at h0
 |cons c r=>
  have C:=D 0 ar;simp only [List.getElem_cons_zero] at C;rw [C] at A;simp [kL,A]
def Dk(s)(h:bB s≠ []):0<s.size:=by
 rw [<-bj];exact l5.2 h
def ng(s w)(hs:s.size<=maxLen):
  Calls prog 144 #[an s] w fun e w'=>e=bi (au (kL (bB s)))/\w'=w:=by
 unfold maxLen at hs
 by_cases C:bB s=[]
 ·have Y:s.toList=[]:=by rw [aT];exact C
  have U:=aj C;go_enter func144,ntmps144;go_wp2;go_ret;exact ⟨by rw [U.u];rfl,rfl⟩
 ·have h0:0<s.size:=Dk s C;have Y:s.toList.isEmpty=false:=by rw [aT];simpa using C
  have Z:=get_bt s
  cases hl:letter (bt s 0)
  ·have qA:=aj (uW s h0 hl);go_enter func144,ntmps144;go_wp2_with (go_at_call 203;refine (hZ _ _).mono ?_;rintro e w' ⟨rfl,rfl⟩);go_ret;exact ⟨by rw [qA.u];rfl,rfl⟩
  go_enter func144,ntmps144;go_wp2_with (go_at_call 203;refine (hZ _ _).mono ?_;rintro e w' ⟨rfl,rfl⟩)
  go_loop [3] (fun i=>∃k:Nat,1<=k/\k<=s.size/\i=au k/\Hid (∀j,1<=j->j<k->(letter (bt s j)||digit (bt s j))=true)) (fun i=>s.size-(intOf i).toNat)
  ·exact ⟨1,ai,ai,rfl,aj (fun j h D=>ai)⟩
  obtain ⟨k,J,Q,rfl,A⟩:=hrel
  by_cases V:k<s.size
  ·cases R:letter (bt s k)
   ·cases I:digit (bt s k)
    ·have qA:=aj (qB s k h0 hl J Q (aE A) (fun _=>by simp [R,I]));exact Xi
    have Hn:=aj (show ∀j,1<=j->j<k+1->(letter (bt s j)||digit (bt s j))=true from fun j h D=>by
     by_cases e:j=k
     ·rw [e,I];simp
     exact aE A j h ai)
    go_wp2_with (first|(go_at_call 203;refine (hZ _ _).mono ?_;rintro e w' ⟨rfl,rfl⟩)|(go_at_call 204;refine (nf _ _).mono ?_;rintro e w' ⟨rfl,rfl⟩))
    go_round
    ·exact Gq
    simp [intOf];omega
   have Hn:=aj (show ∀j,1<=j->j<k+1->(letter (bt s j)||digit (bt s j))=true from fun j h D=>by
    by_cases e:j=k
    ·rw [e,R];simp
    exact aE A j h ai)
   go_wp2_with (first|(go_at_call 203;refine (hZ _ _).mono ?_;rintro e w' ⟨rfl,rfl⟩)|(go_at_call 204;refine (nf _ _).mono ?_;rintro e w' ⟨rfl,rfl⟩))
   go_round
   ·exact Gq
   simp [intOf];omega
  have qA:=aj (qB s k h0 hl J Q (aE A) (fun h=>absurd h V));exact Xi
def yA(s w)(hs:s.size<=maxLen):
  Calls prog 112 #[an s] w fun e w'=>e=bi (au (df (bB s)))/\w'=w:=by
 by_cases A:bB s=[]
 ·have D:s.toList=[]:=by rw [aT];exact A
  go_enter func112,ntmps112;go_wp2;go_ret;exact ⟨by rw [A];rfl,rfl⟩
 ·have D:s.toList.isEmpty=false:=by rw [aT];simpa using A
  have C:=Lx (bB s) A;generalize hn:kL (bB s)=n at C
  by_cases h1:(1:Int)<(n:Int)
  ·go_enter func112,ntmps112;go_wp2_with (go_at_call 144;refine (ng _ _ hs).mono ?_;rintro e w' ⟨rfl,rfl⟩;rw [hn]);go_ret;exact ⟨by rw [C,if_pos h1];rfl,rfl⟩
  go_enter func112,ntmps112;go_wp2_with (go_at_call 144;refine (ng _ _ hs).mono ?_;rintro e w' ⟨rfl,rfl⟩;rw [hn]);go_ret;exact ⟨by rw [C,if_neg ai];rfl,rfl⟩
abbrev cX:=@List.take_of_length_le
abbrev nh:=@List.length_drop
abbrev bE:=@bodyPost_ret
def Xj (h:aD:=by
 go_wp2_with (first|(go_at_call 111;refine (tE _ _).mono ?_;rintro e w' ⟨rfl,rfl⟩));refine (yA _ _ hsz).mono ?_;rintro e w' ⟨rfl,rfl⟩;rw [ut];generalize hn:df ((bB s).drop k)=n at*;go_wp2;exact bE (v:=.agg #[au k,an (s.extract k (k+n))]) (by simp [results,results71,go_sem]) rfl ⟨by rw [Hp.u,Hx.u n rfl],bo.alloc aH _⟩):aD:=h
def skip(l:List UInt8)(k:Nat):Nat:=k+((l.drop k).takeWhile ej).length
def jb(l:List UInt8)(p:Nat):List UInt8:=(l.drop p).take (df (l.drop p))
def UZ(s a k)(h1:a<=k)(J:k<=s.size)(I:∀j,a<=j->j<k->blank (bt s j)=true)(C:k<s.size->blank (bt s k)=false):skip (bB s) a=k:=by
 have A:=uV s;rw [<-bj] at J C;generalize bB s=l at*;unfold skip;have:=fB ej (l.drop a) (k-a) (fun j h D=>by
  simp at D;have:=I (a+j) ai ai;rw [A (a+j) ai] at this
  simpa [ej] using this) aS (fun h=>by
  simp at h;have:=C ai;rw [A k ai] at this
  simpa [ej,show a+(k-a)=k by omega] using this)
 omega
def uX(l):df l<=l.length:=by
 cases l with
 |nil=>simp [df]
 |cons c r=>
  simp only [df];have:=(List.takeWhile_sublist dx (l:=r)).length_le
  split<;>simp<;>omega
def Dl(s a b):bB (s.extract a b)=((bB s).drop a).take (b-a):=Lib.extract_data s a b
def extract_mk(s a b):s.extract a b=mk (((bB s).drop a).take (b-a)):=Lib.extract_eq s a b
def ut(s a):bB (s.extract a s.size)=(bB s).drop a:=by
 rw [Dl,cX];rw [nh,bj];omega
def yB(s)(a:Nat)(w)(hs:s.size<=maxLen)(ha:a<=s.size):
  Calls prog 71 #[an s,au a] w fun e w'=>e=bi (.agg #[au (skip (bB s) a),an (mk (jb (bB s) (skip (bB s) a)))])/\am w w':=by
 unfold maxLen at hs;have V:=get_bt s;go_enter func71,ntmps71;go_wp2
 go_loop [1] (fun i=>∃k:Nat,a<=k/\k<=s.size/\i=au k/\Hid (∀j,a<=j->j<k->blank (bt s j)=true)) (fun i=>s.size-(intOf i).toNat)
 ·exact ⟨a,ai,ai,rfl,aj (fun j h Q=>ai)⟩
 ·obtain ⟨k,R,U,rfl,C⟩:=hrel
  by_cases hc:k<s.size/\blank (bt s k)=true
  ·obtain ⟨I,D⟩:=hc;have Hn:=aj (show ∀j,a<=j->j<k+1->blank (bt s j)=true from fun j h Q=>by
    by_cases e:j=k
    ·rw [e,D]
    exact aE C j h ai)
   go_wp2_with (first|(go_at_call 111;refine (tE _ _).mono ?_;rintro e w' ⟨rfl,rfl⟩))
   go_round
   ·exact Gq
   simp [intOf];omega
  have Hp:=aj (UZ s a k R U (aE C) (fun h=>by
   cases A:blank (bt s k)
   ·rfl
   exact absurd ⟨h,A⟩ hc))
  have J:=uX ((bB s).drop k);rw [nh,bj] at J;have Hx:=aj (show ∀n,df ((bB s).drop k)=n->s.extract k (k+n)=mk (jb (bB s) k) from fun n hn=>by
   rw [extract_mk,jb,hn,show k+n-k=n by omega])
  have hsz:(s.extract k s.size).size<=maxLen:=by rw [ByteArray.size_extract];unfold maxLen;omega
  by_cases I:k<s.size
  ·have D:blank (bt s k)=false:=by
    cases A:blank (bt s k)
    ·rfl
    exact absurd ⟨I,A⟩ hc
   exact Xj
  exact Xj
abbrev aV:=@Nat.le_trans
abbrev cM:=@Nat.lt_of_lt_of_le
abbrev ea:=@Below.heap_setCell
abbrev jA:=@World.cell?_of_block
abbrev fD:=@Nat.lt_or_ge
abbrev eb:=@List.length_take
def Ob (h:aD:=by
 simp [World.setCell]):aD:=h
variable {W w1:af}
def Oc(A:am W w1):(∀b o,b<W.heap.size->w1.cell? (aC b o)=W.cell? (aC b o))/\(∀b o,b<W.heap.size->w1.frozen? (aC b o)=W.frozen? (aC b o)):=
 ⟨fun b o h=>A.cell (p:=⟨b,o,none⟩) h,fun b o h=>A.frozen (p:=⟨b,o,none⟩) h⟩
structure But(b:Nat)(w w':af):Prop where
 os:w'.os=w.os
 tape:w'.tape=w.tape
 output:w'.output=w.output
 size:w.heap.size<=w'.heap.size
 block:∀k,k<w.heap.size->k≠b->w'.heap[k]? =w.heap[k]?
def But.refl(b w):But b w w:=⟨rfl,rfl,rfl,bV _,fun _ _ _=>rfl⟩
variable {y z:af}
def But.trans{x}(h:But b x y)(k:But b y z):But b x z:=
 ⟨k.os.trans h.os,k.tape.trans h.tape,k.output.trans h.output,aV h.size k.size,fun i hi A=>(k.block i (cM hi h.size) A).trans (h.block i hi A)⟩
def But.of_below{x}(h:am x y):But b x y:=⟨h.os,h.tape,h.output,h.size,fun k A _=>h.block k A⟩
def But.below{x}(h:But b x y)(A:B<=b)(D:B<=x.heap.size):Below B x y:=⟨h.os,h.tape,h.output,h.size,fun k C=>h.block k ai ai⟩
def But.drew{x}(h:But b x y):But b x y.drew:=⟨h.os,h.tape,h.output,h.size,h.block⟩
def But.alloc{x}(h:But b x y)(o):But b x (y.alloc o):=
 h.trans (But.of_below (bo.alloc aH o))
def But.setCell{x}(h:But b x y)(o u):But b x (y.setCell (aC b o) u):=
 h.trans ⟨rfl,rfl,rfl,by simp [World.setCell],fun k C A=>ea _ _ _ _ (by simpa using A)⟩
def But.setNew{x}(h:But b x y){a}(ha:x.heap.size<=a.block)(u):But b x (y.setCell a u):=
 ⟨h.os,h.tape,h.output,aV h.size Ob,fun k C A=>(ea _ _ _ _ ai).trans (h.block k C A)⟩
def But.cell{x}(h:But b x y){a}(ha:a.block<x.heap.size)(A:a.block≠b):y.cell? a=x.cell? a:=jA (w:=x) (h.block a.block ha A)
structure Rd(w:af)(b:Nat)(s:ae)(p:Nat)(t:ae)(d:Nat):Prop where
 blk:w.heap[b]? =some (.cells #[an s,au p,an t,au d] 140)
variable {s:ae}
def Rd.lt{t}(h:Rd w b s p t d):b<w.heap.size:=by
 rcases fD b w.heap.size with k|k
 ·exact k
 have:=h.blk;rw [Array.getElem?_eq_none k] at this;cases this
def Rd.c0{t}(h:Rd w b s p t d):w.cell? (aP b)=some (an s):=by simp [World.cell?,h.blk]
def Rd.c1{t}(h:Rd w b s p t d):w.cell? (aC b 1)=some (au p):=by simp [World.cell?,h.blk]
def Rd.c2{t}(h:Rd w b s p t d):w.cell? (aC b 2)=some (an t):=by simp [World.cell?,h.blk]
def Rd.c3{t}(h:Rd w b s p t d):w.cell? (aC b 3)=some (au d):=by simp [World.cell?,h.blk]
def Rd.fz{t}(h:Rd w b s p t d)(o):w.frozen? (aC b o)=false:=by simp [World.frozen?,h.blk]
variable {w':af}
def Rd.of_block{t}(h:Rd w b s p t d)(e:w'.heap[b]? =w.heap[b]?):Rd w' b s p t d:=⟨e.trans h.blk⟩
def Rd.below{t}(h:Rd w b s p t d)(k:am w w'):Rd w' b s p t d:=h.of_block (k.block b h.lt)
def Rd.drew{t}(h:Rd w b s p t d):Rd w.drew b s p t d:=⟨h.blk⟩
def Rd.alloc{t}(h:Rd w b s p t d)(o):Rd (w.alloc o) b s p t d:=h.below (bo.alloc aH o)
def gA{o c}{f:Nat×Nat}(u)(h:w.heap[b]? =some (.cells c T f)):
  (w.setCell (aC b o) u).heap[b]? =some (.cells (c.setIfInBounds o u) T f):=by
 simp [World.setCell,Array.getElem?_modify,h]
def Rd.now{t}(h:Rd w b s p t d)(A:Nat)(t'):
  Rd ((w.setCell (aC b 1) (au A)).setCell (aC b 2) (an t')) b s A t' d:=by
 refine ⟨?_⟩;rw [gA _ (gA _ h.blk)]
 rfl
def aL(w:af)(g:Nat)(cs:Array ag)(T:TypeId):Prop:=w.heap[g]? =some (.cells cs T)
def aL.new(w:af)(cs:Array ag)(T:TypeId):aL (w.alloc (.cells cs T)) w.heap.size cs T:=by
 show (w.heap.push _)[w.heap.size]? =_
 simp
variable {cs:Array ag}
def aL.lt(h:aL w g cs T):g<w.heap.size:=by
 rcases fD g w.heap.size with k|k
 ·exact k
 unfold aL at h;rw [Array.getElem?_eq_none k] at h;cases h
def aL.below(h:aL w g cs T)(k:am w w'):aL w' g cs T:=(k.block g h.lt).trans h
def aL.but(h:aL w g cs T)(k:But b w w')(A:g≠b):aL w' g cs T:=(k.block g h.lt A).trans h
def aL.alloc(h:aL w g cs T)(o):aL (w.alloc o) g cs T:=h.below (bo.alloc aH o)
def aL.drew(h:aL w g cs T):aL w.drew g cs T:=h
def aL.other(h:aL w g cs T){a}(ha:g≠a.block)(u):aL (w.setCell a u) g cs T:=(ea _ _ _ _ ha).trans h
def aL.set(h:aL w g cs T)(o u):aL (w.setCell (aC g o) u) g (cs.setIfInBounds o u) T:=gA u h
variable {v:ag}
def aL.cell(h:aL w g cs T){o}(A:cs[o]? =some v):w.cell? (aC g o)=some v:=by unfold aL at h;simp [World.cell?,h,A]
def aL.fz(h:aL w g cs T)(o):w.frozen? (aC g o)=false:=by unfold aL at h;simp [World.frozen?,h]
def dI(s:ae)(k:Nat):Nat:=skip (bB s) k
def cI(s:ae)(k:Nat):ae:=mk (jb (bB s) (skip (bB s) k))
def U0(l k)(h:k<=l.length):skip l k<=l.length:=by
 unfold skip;have:=(List.takeWhile_sublist ej (l:=l.drop k)).length_le;rw [nh] at this;omega
def uY(l p)(h:p<=l.length):p+(jb l p).length<=l.length:=by
 unfold jb;have:=uX (l.drop p);rw [eb,nh] at*;omega
def JF(l):(mk l).size=l.length:=by simp [mk,ByteArray.size]
def ni(s k)(h:k<=s.size):dI s k+(cI s k).size<=s.size:=by
 unfold dI cI;rw [JF,<-bj];rw [<-bj] at h;exact uY _ _ (U0 _ _ h)
def Od(n w):Calls prog 76 #[au n] w fun e w'=>e=bi (au n)/\w'=w:=by
 go_enter func76,ntmps76;go_wp2;go_ret;exact ⟨rfl,rfl⟩
def o7(s)(k:Nat)(a:Int)(w)(hs:s.size<=maxLen)(ha:k<=s.size)(h:a=(k:Int)):
  Calls prog 71 #[an s,au a] w fun e w'=>e=bi (.agg #[au (dI s k),an (cI s k)])/\am w w':=by
 subst h;exact yB s k w hs ha
attribute [local go_sem ↓] Go.wp_at_zero Go.wp_at_succ
def Oe(b s p t d w)(hs:s.size<=maxLen)(h:Rd w b s p t d)(I:p+t.size<=s.size):
  Calls prog 220 #[bu b] w fun e w'=>e=bi (.tuple #[])/\Rd w' b s (dI s (p+t.size)) (cI s (p+t.size)) d/\But b w w':=by
 unfold maxLen at hs;have h0:=h.c0;have h1:=h.c1;have h2:=h.c2;have J:IntKind.i64.wrap ((p:Int)+(t.size:Int))=(p:Int)+(t.size:Int):=IntWalk.i64_in _ ⟨ai,ai⟩;go_enter func220,ntmps220;go_wp2
 go_region_with
  (first|(go_at_call 76;refine (Od _ _).mono ?_;rintro e w' ⟨rfl,rfl⟩)|(go_at_call 71;refine (o7 s (p+t.size) _ _ hs I ?_).mono ?_;(omega);rintro e w' ⟨rfl,C⟩;have A:=h.drew.below C;have k0:=A.c0;have k1:=A.c1;have Q:=A.c2;have R:=A.fz;have D:=A))
 all_goals (go_end0;exact ⟨rfl,D.now _ _,(((But.refl b w).drew.trans (But.of_below C)).setCell 1 _).setCell 2 _⟩)
abbrev jB:=@List.any_eq_false
abbrev dB:=@List.getElem_of_mem
abbrev eA:=@List.getD_eq_getElem?_getD
abbrev aI:=@ac
abbrev dg:=@List.any_eq_true
abbrev br:=@List.getElem_mem
def eqs(a b:ae):Bool:=bB a==bB b
def gN(t:ae)(l:List ae):Bool:=l.any fun x=>eqs t x
def Dm(t l)(h:∀j,j<l.length->eqs t (l.getD j ByteArray.empty)=false):gN t l=false:=by
 unfold gN;rw [jB];intro x C;obtain ⟨j,A,rfl⟩:=dB C;have:=h j A;simp [eA,aI A] at this;simp [this]
def Gs(t l j)(A:j<l.length)(h:eqs t (l.getD j ByteArray.empty)=true):gN t l=true:=by
 unfold gN;rw [dg];refine ⟨l[j],br _,?_⟩
 simpa [eA,aI A] using h
def Ly(g cap l t w)(ab:l.length<=maxLen)(R:∀i,i<l.length->w.cell? (aC g i)=some (an (l.getD i ByteArray.empty))):
  Calls prog 219 #[aA (some (aP g)) l.length cap,an t] w fun e w'=>(∃n:Int,e=bi (au n)/\decide (0<=n)=gN t l)/\w'=w:=by
 unfold maxLen at ab;generalize Q:l.length=N at*;have I:=aj Q;clear Q;generalize D:(fun i=>l.getD i ByteArray.empty)=L at*;have ac:∀i,i<N->w.cell? (aC g i)=some (an (L i)):=fun i hi=>by rw [R i hi,<-D]
 clear R;go_enter func219,ntmps219;go_wp2
 go_loop [5,8] (fun u i=>∃k:Nat,k<=N/\i=au k/\Hid (∀j,j<k->eqs t (L j)=false)) (fun _ i=>N-(intOf i).toNat)
 ·exact ⟨0,ai,rfl,aj (fun j h=>ai)⟩
 ·obtain ⟨k,ad,rfl,J⟩:=hrel
  by_cases Z:k<N
  ·cases A:eqs t (L k)
   ·have V:(t.toList==(L k).toList)=false:=by rw [aT,aT];exact A
    have U:=aj (show ∀j,j<k+1->eqs t (L j)=false from fun j h=>by
     by_cases e:j=k
     ·rw [e,A]
     exact aE J j ai)
    go_wp2
    go_round
    ·exact ⟨k+1,ai,by go_num,U⟩
    simp [intOf];omega
   have V:(t.toList==(L k).toList)=true:=by rw [aT,aT];exact A
   have C:=aj (Gs t l k (by rw [I.u];exact Z) (by have this:l.getD k ByteArray.empty=L k:=congrFun D k;rw [this];exact A));go_wp2;go_ret;exact ⟨⟨k,rfl,by rw [C.u];simp⟩,rfl⟩
  have C:=aj (Dm t l (fun j Y=>by have this:l.getD j ByteArray.empty=L j:=congrFun D j;rw [this];exact aE J j (by rw [I.u] at Y;omega)));go_wp2;go_ret;exact ⟨⟨-1,rfl,by rw [C.u];decide⟩,rfl⟩
def AO(g cap l t w)(A:l.length<=maxLen)(C:∀i,i<l.length->w.cell? (aC g i)=some (an (l.getD i ByteArray.empty))):
  Calls prog 168 #[aA (some (aP g)) l.length cap,an t] w fun e w'=>e=bi (.bool (gN t l))/\w'=w:=by
 have h:=Ly g cap l t w A C;go_enter func168,ntmps168;go_wp2_with fail;refine h.mono ?_;rintro e w' ⟨⟨n,rfl,A⟩,rfl⟩;go_wp2;go_ret;exact ⟨by rw [<-A];rfl,rfl⟩
def AP(b s p t d g cap l w)(h:Rd w b s p t d)(C:l.length<=maxLen)(A:∀i,i<l.length->w.cell? (aC g i)=some (an (l.getD i ByteArray.empty))):
  Calls prog 113 #[bu b,aA (some (aP g)) l.length cap] w fun e w'=>e=bi (.bool (gN t l))/\w'=w:=by
 have H:=AO g cap l t w C A;have h2:=h.c2;go_enter func113,ntmps113;go_wp2_with fail;refine H.mono ?_;rintro e w' ⟨rfl,rfl⟩;go_wp2;go_ret;exact ⟨rfl,rfl⟩
abbrev kV:=@decide_eq_true
abbrev l6:=@decide_eq_false
abbrev cd:=@World.new_ne
abbrev uZ:Array ag:=#[au 0,an ⟨#[]⟩]
def aaC (h:aD:=by
 simp [results,results221,go_sem,JG,cm,hcb]):aD:=h
def dC(t:ae):Bool:=match bB t with
 | []=>false
 |c::r=>letter c.toNat&& !(c::r== [116,121,112,101])
def next(s:ae)(k:Nat):Nat:=dI s k+(cI s k).size
def cm(c:Nat):ag:=.iface 134 (au c)
structure qz(w:af)(b:Nat)(s:ae)(k d:Nat):Prop where
 rd:Rd w b s (dI s k) (cI s k) d
 le:k<=s.size
def qz.of_rd(h:Rd w b s (dI s (next s k)) (cI s (next s k)) d)(A:k<=s.size):qz w b s (next s k) d:=⟨h,ni s k A⟩
def qz.below(h:qz w b s k d)(A:am w w'):qz w' b s k d:=⟨h.rd.below A,h.le⟩
def qz.alloc(h:qz w b s k d)(o):qz (w.alloc o) b s k d:=⟨h.rd.alloc o,h.le⟩
def qz.drew(h:qz w b s k d):qz w.drew b s k d:=⟨h.rd.drew,h.le⟩
def qz.setNew(h:qz w b s k d){a}(ha:a.block≠b)(u):qz (w.setCell a u) b s k d:=
 ⟨h.rd.of_block (ea _ _ _ _ (Ne.symm ha)),h.le⟩
def vb(b s k d w)(hs:s.size<=maxLen)(h:qz w b s k d):
  Calls prog 220 #[bu b] w fun e w'=>e=bi (.tuple #[])/\qz w' b s (next s k) d/\But b w w':=by
 refine (Oe b s _ _ d w hs h.rd (ni s k h.le)).mono ?_;rintro e w' ⟨rfl,h1,h2⟩;exact ⟨rfl,qz.of_rd h1 h.le,h2⟩
def YA(t):dC t=(decide ((0:Int)<(kL (bB t):Nat))&& !(t.toList== [116,121,112,101])):=by
 rw [aT];unfold dC
 cases bB t with
 |nil=>rfl
 |cons c r=>
  simp only [kL]
  by_cases hc:letter c.toNat=true
  rotate_left
  ·simp [hc]
  simp only [hc,if_true];rw [show decide ((0:Int)<((1+(r.takeWhile dx).length:Nat):Int))=true from kV ai]
def qC(s k)(hs:s.size<=maxLen)(h:k<=s.size):(cI s k).size<=maxLen:=by
 have:=ni s k h;unfold maxLen at*;omega
def l7(p t w)(A:t.size<=maxLen):
  Calls prog 171 #[.agg #[au p,an t]] w fun e w'=>e=bi (.bool (dC t))/\am w w':=by
 have C:=A;have h:=YA t;generalize hn:kL (bB t)=n at h
 by_cases h0:(0:Int)<(n:Int)
 ·rw [kV h0] at h
  cases A:(t.toList== [116,121,112,101])
  all_goals
   rw [A] at h;go_enter func171,ntmps171;go_wp2_with (go_at_call 144;refine (ng _ _ C).mono ?_;rintro e w' ⟨rfl,rfl⟩;rw [hn]);go_ret;exact ⟨by rw [h];rfl,bo.alloc aH _⟩
 ·rw [l6 h0] at h;go_enter func171,ntmps171;go_wp2_with (go_at_call 144;refine (ng _ _ C).mono ?_;rintro e w' ⟨rfl,rfl⟩;rw [hn]);go_ret;exact ⟨by rw [h];rfl,bo.alloc aH _⟩
def at1(b s k d g cap x w)(h:qz w b s k d)(A:w.cell? (aP g)=some (an x)):
  Calls prog 113 #[bu b,aA (some (aP g)) 1 cap] w fun e w'=>e=bi (.bool (eqs (cI s k) x))/\w'=w:=
 (AP b s _ _ d g cap [x] w h.rd (by simp [maxLen]) (fun i hi=>by
  have e:i=0:=by simp at hi;exact hi
  subst e;exact A)).mono fun e w' ⟨h1,h2⟩=>⟨by rw [h1];simp [gN],h2⟩
def Of(b s k d x w)(hs:s.size<=maxLen)(h:qz w b s k d)(A:eqs (cI s k) x=true):
  Calls prog 169 #[bu b,an x] w fun e w'=>e=.returned .nilIface/\qz w' b s (next s k) d/\But b w w':=by
 go_enter func169,ntmps169;go_wp2_with fail;refine (at1 b s k d _ _ x _ (h.alloc _) ar).mono ?_;rintro e w' ⟨rfl,rfl⟩;rw [A];go_wp2_with fail;refine (vb b s k d _ hs (h.alloc _)).mono ?_;rintro e w' ⟨rfl,h1,h2⟩;go_wp2;go_ret;exact ⟨rfl,h1,(((But.refl b w).alloc _).trans h2)⟩
def U2(b s k d x w)(h:qz w b s k d)(A:eqs (cI s k) x=false):
  Calls prog 169 #[bu b,an x] w fun e w'=>e=bi (cm 2)/\qz w' b s k d/\am w w':=by
 go_enter func169,ntmps169;go_wp2_with fail;refine (at1 b s k d _ _ x _ (h.alloc _) ar).mono ?_;rintro e w' ⟨rfl,rfl⟩;rw [A];go_wp2;go_ret;exact ⟨rfl,h.alloc _,bo.alloc aH _⟩
def yC(s:ae)(k:Nat):ag:=.agg #[au (dI s k),an (cI s k)]
def JG:ag:=.agg #[au 0,an ⟨#[]⟩]
def Lz(b s k d w)(hs:s.size<=maxLen)(h:qz w b s k d)(D:dC (cI s k)=false):
  Calls prog 221 #[bu b] w fun e w'=>e=bi (.tuple #[JG,cm 2])/\qz w' b s k d/\am w w':=by
 have h1:=h.rd.c1;have h2:=h.rd.c2;have J:=h.rd.lt;go_enter func221,ntmps221;go_wp2_with (go_at_call 171;refine (l7 _ _ _ (qC s k hs h.le)).mono ?_;rintro e w' ⟨rfl,C⟩;rw [D];obtain ⟨hcb,I⟩:=Oc C);have A:am w w':=(bo.alloc aH _).trans (C.mono ar);exact bE (v:=.tuple #[JG,cm 2]) aaC rfl ⟨rfl,((h.below A).setNew aS _).setNew aS _,(A.setCell ar _).setCell ar _⟩
def LA(b s k d w)(hs:s.size<=maxLen)(h:qz w b s k d)(D:dC (cI s k)=true)(J:8<(cI s k).size):
  Calls prog 221 #[bu b] w fun e w'=>e=bi (.tuple #[JG,cm 3])/\qz w' b s k d/\am w w':=by
 have h1:=h.rd.c1;have h2:=h.rd.c2;have R:=h.rd.lt;have Q:(8:Int)<((cI s k).size:Int):=ai;go_enter func221,ntmps221;go_wp2_with (go_at_call 171;refine (l7 _ _ _ (qC s k hs h.le)).mono ?_;rintro e w' ⟨rfl,C⟩;rw [D];obtain ⟨hcb,I⟩:=Oc C);have A:am w w':=(bo.alloc aH _).trans (C.mono ar);exact bE (v:=.tuple #[JG,cm 3]) aaC rfl ⟨rfl,((h.below A).setNew aS _).setNew aS _,(A.setCell ar _).setCell ar _⟩
def U3(b s k d w)(hs:s.size<=maxLen)(h:qz w b s k d)(Z:dC (cI s k)=true)(af:(cI s k).size<=8):
  Calls prog 221 #[bu b] w fun e w'=>e=bi (.tuple #[yC s k,.nilIface])/\qz w' b s (next s k) d/\But b w w':=by
 have h1:=h.rd.c1;have h2:=h.rd.c2;have Q:=h.rd.lt;have ag:((cI s k).size:Int)<=(8:Int):=ai;go_enter func221,ntmps221;go_wp2_with (go_at_call 171;refine (l7 _ _ _ (qC s k hs h.le)).mono ?_;rintro e w' ⟨rfl,A⟩;rw [Z];obtain ⟨Y,ab⟩:=Oc A);have I:am w w':=(bo.alloc aH _).trans (A.mono ar);have ah:w.heap.size<w'.heap.size:=by have:=A.size;simp at this;omega
 have k1:w'.cell? (aC b 1)=some (au (dI s k)):=(I.cell Q).trans h1;have R:w'.cell? (aC b 2)=some (an (cI s k)):=(I.cell Q).trans h2;have V:=(aL.new w uZ 107).below A;clear Y ab A h1 h2;have n1:=cd w' _ k1;have n2:=cd w' _ R
 go_region_held3 (fun w'=>w'.cell? (aC b 1)=some (au (dI s k))/\w'.cell? (aC b 2)=some (an (cI s k))) (go_keep) (fail)
 rename_i ac;clear ac;go_wp2_with fail;refine (vb b s k d _ hs ((h.below I).alloc _).drew).mono ?_;rintro e al ⟨rfl,p2,D⟩;have U:=(But.of_below (b:=b) I).trans (((But.refl b w').alloc _).drew.trans D);have J:=(aL.new w' #[au (dI s k),an (cI s k)] 107).drew.but D ai;have C:=(V.alloc _).drew.but D ai;have aj:=J.cell (o:=0) rfl;have ak:=J.cell (o:=1) rfl;have ad:=C.cell (o:=0) rfl;have ae:=C.cell (o:=1) rfl;have ap:=C.fz;clear D k1 R n1 n2 J C;go_wp2;exact bE (v:=.tuple #[yC s k,.nilIface]) (by simp [results,results221,go_sem,yC,ad,ae]) rfl ⟨rfl,(p2.setNew aS _).setNew aS _,(U.setNew ar _).setNew ar _⟩
abbrev dS:=@beq_iff_eq
abbrev aZ:=@if_false
def Og (h:aD:=by
 rintro e w' ⟨rfl,h1,h2⟩;exact ⟨But.of_below h2,JG,d,rfl,rfl,h1,h.good⟩):aD:=h
structure Gr where
 ty:ae
 tp:Nat
 reach:Nat
 rel:ae
 rp:Nat
structure Nd where
 kind:Nat
 place:Nat
 n1:ae
 p1:Nat
 n2:ae
 p2:Nat
 gs:List Gr
structure Ex where
 nd:Nd
 l:Option Ex
 r:Option Ex
structure Rl where
 name:ae
 place:Nat
 body:Ex
structure Ty where
 name:ae
 place:Nat
 rels:List Rl
abbrev eL(α:Type):=Except (Nat×Nat) (α×Nat)
def em:ae:=⟨#[]⟩
def sg(c:UInt8):ae:=⟨#[c]⟩
def jQ:ae:=⟨#[116,121,112,101]⟩
section
variable (T:Nat->ae)(P:Nat->Nat)
def dh(i:Nat):eL Unit:=if dC (T i) then (if 8<(T i).size then .error (3,i) else .ok ((),i+1)) else .error (2,i)
def b9(x:ae)(i:Nat):eL Unit:=match dh T i with
 | .error e=> .error e
 | .ok (_,j)=>if eqs (T j) x then .ok ((),j+1) else .error (2,j)
def dT(i:Nat):eL Gr:=match dh T i with
 | .error e=> .error e
 | .ok (_,j)=>if eqs (T j) (sg 42) then .ok (⟨T i,P i,1,em,0⟩,j+1)
  else if eqs (T j) (sg 35) then (match dh T (j+1) with
   | .error e=> .error e
   | .ok (_,m)=> .ok (⟨T i,P i,2,T (j+1),P (j+1)⟩,m))
  else .ok (⟨T i,P i,0,em,0⟩,j)
def dQ:Nat->List Gr->Nat->eL (List Gr)
 |0,_,i=> .error (0,i)
 |f+1,acc,i=>match dT T P (i+1) with
  | .error e=> .error e
  | .ok (g,j)=>if eqs (T j) (sg 44) then dQ f (acc++[g]) j
   else if eqs (T j) (sg 93) then .ok (acc++[g],j+1) else .error (2,j)
def JH(i:Nat)(gs:List Gr):Ex:=⟨⟨0,P i,em,0,em,0,gs⟩,none,none⟩
def j7(i:Nat):eL Ex:=match dQ T P 512 [] i with
 | .error e=> .error e
 | .ok (gs,j)=> .ok (JH P i gs,j)
def h6(i:Nat):eL Ex:=match dh T i with
 | .error e=> .error e
 | .ok (_,j)=>if eqs (T j) (sg 46) then (match dh T (j+1) with
   | .error e=> .error e
   | .ok (_,m)=> .ok (⟨⟨2,P i,T i,P i,T (j+1),P (j+1),[]⟩,none,none⟩,m))
  else .ok (⟨⟨1,P i,T i,P i,em,0,[]⟩,none,none⟩,j)
def eR(A:Bool)(h:Nat->eL Ex)(i:Nat):eL Ex:=
 if eqs (T i) (sg 91) then j7 T P i
 else if eqs (T i) (sg 40) then
  (if A then (match h (i+1) with
   | .error e=> .error e
   | .ok (x,j)=>if eqs (T j) (sg 41) then .ok (x,j+1) else .error (2,j))
  else .error (3,i))
 else h6 T P i
def kindOf(t:ae):Nat:=if eqs t (sg 124) then 3 else if eqs t (sg 38) then 4 else 5
def dF(t:ae)(p:Nat)(x y:Ex):Ex:=⟨⟨kindOf t,p,em,0,em,0,[]⟩,some x,some y⟩
def joinL(signs:List ae)(part:Nat->eL Ex):Nat->Ex->Nat->eL Ex
 |0,_,i=> .error (0,i)
 |f+1,x,i=>if gN (T i) signs then (match part (i+1) with
   | .error e=> .error e
   | .ok (y,j)=>joinL signs part f (dF (T i) (P i) x y) j)
  else .ok (x,i)
def eU(signs:List ae)(part:Nat->eL Ex)(i:Nat):eL Ex:=match part i with
 | .error e=> .error e
 | .ok (x,j)=>joinL T P signs part 512 x j
def h7(A:Bool)(h:Nat->eL Ex)(i:Nat):eL Ex:=eU T P [sg 38,sg 45] (eR T P A h) i
def fp:Nat->Nat->eL Ex
 |0,i=>eU T P [sg 124] (h7 T P false (fun _=> .error (0,0))) i
 |n+1,i=>eU T P [sg 124] (h7 T P true (fp n)) i
def kW(i:Nat):eL Rl:=match b9 T (sg 58) i with
 | .error e=> .error e
 | .ok (_,j)=>match fp T P 4 j with
  | .error e=> .error e
  | .ok (x,m)=>if eqs (T m) (sg 59) then .ok (⟨T i,P i,x⟩,m+1) else .error (2,m)
def di:Nat->List Rl->Nat->eL (List Rl)
 |0,_,i=> .error (0,i)
 |f+1,acc,i=>if eqs (T i) (sg 125) then .ok (acc,i+1)
  else if dC (T i)&&acc.length==6 then .error (3,i)
  else match kW T P i with
   | .error e=> .error e
   | .ok (r,j)=>di f (acc++[r]) j
def j8(i:Nat):eL Ty:=if eqs (T i) jQ then (match b9 T (sg 123) (i+1) with
  | .error e=> .error e
  | .ok (_,j)=>match di T P 512 [] j with
   | .error e=> .error e
   | .ok (rs,m)=> .ok (⟨T (i+1),P (i+1),rs⟩,m))
 else .error (2,i)
def cQ:Nat->List Ty->Nat->eL (List Ty)
 |0,_,i=> .error (0,i)
 |f+1,acc,i=>if eqs (T i) em then .ok (acc,i)
  else if eqs (T i) jQ&&acc.length==5 then .error (3,i)
  else match j8 T P i with
   | .error e=> .error e
   | .ok (t,j)=>cQ f (acc++[t]) j
def dJ:eL (List Ty):=cQ T P 512 [] 0
end
def K(s:ae):Nat->Nat
 |0=>0
 |i+1=>next s (K s i)
def TT(s:ae)(i:Nat):ae:=cI s (K s i)
def PP(s:ae)(i:Nat):Nat:=dI s (K s i)
structure At(w:af)(b:Nat)(s:ae)(i d:Nat):Prop where
 pos:qz w b s (K s i) d
 good:i<=K s i
variable {w:af} {s:ae}
def At.le(h:At w b s i d):i<=s.size:=aV h.good h.pos.le
variable {w':af}
def At.below(h:At w b s i d)(k:am w w'):At w' b s i d:=⟨h.pos.below k,h.good⟩
def At.alloc(h:At w b s i d)(o):At (w.alloc o) b s i d:=⟨h.pos.alloc o,h.good⟩
def At.drew(h:At w b s i d):At w.drew b s i d:=⟨h.pos.drew,h.good⟩
def At.setNew(h:At w b s i d){a}(ha:a.block≠b)(u):At (w.setCell a u) b s i d:=⟨h.pos.setNew ha u,h.good⟩
def At.lt(h:At w b s i d):b<w.heap.size:=h.pos.rd.lt
def At.grown(h:At w b s i d)(k:w.grownBy w' row)(A:some b≠row):At w' b s i d:=⟨⟨h.pos.rd.of_block (k.block b h.lt A),h.pos.le⟩,h.good⟩
def JI(l k):k<=skip l k:=by unfold skip;omega
def LB(h:i<=K s i)(A:0<(TT s i).size):i+1<=K s (i+1):=by
 show i+1<=dI s (K s i)+(cI s (K s i)).size
 have:=JI (bB s) (K s i);unfold TT at A;unfold dI;omega
def At.next(h:qz w b s (next s (K s i)) d)(A:i<=K s i)(C:0<(TT s i).size):At w b s (i+1) d:=⟨h,LB A C⟩
def Dn{t}(h:dC t=true):0<t.size:=by
 rw [<-bj];unfold dC at h;generalize bB t=l at*
 cases l with
 |nil=>simp at h
 |cons c r=>simp
variable {x:ae}
def dR{t}(h:eqs t x=true)(A:0<(bB x).length):0<t.size:=by
 rw [<-bj];unfold eqs at h;rw [dS] at h;rw [h];exact A
def IsI(v:ag):Prop:=v=.nilIface\/∃t x,v=.iface t x
def Post{α:Type}(b:Nat)(s:ae)(d:Nat)(w:af)(r:eL α)(rep:af->α->ag->Prop)(bad:ag->Prop)(e:Ending)(w':af):Prop:=
 But b w w'/\match r with
  | .ok (x,j)=>∃v,e=bi (.tuple #[v,.nilIface])/\rep w' x v/\At w' b s j d
  | .error (c,j)=>∃v d',e=bi (.tuple #[v,cm c])/\bad v/\At w' b s j d'
def eG(b s i d w)(hs:s.size<=maxLen)(h:At w b s i d):
  Calls prog 221 #[bu b] w (Post b s d w (dh (TT s) i) (fun _ _ v=>v=yC s (K s i)) (fun v=>v=JG)):=by
 unfold dh
 cases hn:dC (TT s i)
 ·refine (Lz b s (K s i) d w hs h.pos hn).mono ?_;exact Og
 ·by_cases hl:8<(TT s i).size
  ·simp only [hl,if_true];refine (LA b s (K s i) d w hs h.pos hn hl).mono ?_;exact Og
  simp only [hl,if_true,aZ];refine (U3 b s (K s i) d w hs h.pos hn (by unfold TT at hl;omega)).mono ?_;rintro e w' ⟨rfl,h1,h2⟩;exact ⟨h2,_,rfl,rfl,At.next h1 h.good (Dn hn)⟩
def mU (h:aD:=by
 first|omega|(simp;omega)|simp):aD:=h
def cq{a b c:af}(h:Hid (Below B a b))(k:Below B a b->Below B a c:=by intro h;with_reducible repeat (first|exact h|refine Below.drew ?_|(refine Below.setCell ?_ ?_ _;rotate_left;exact mU)|(refine Below.alloc ?_ ?_ _;rotate_left;exact mU))):Below B a c:=k (aE h)
variable {cs:Array ag}
def cY{a b:af}{ds:Array ag}(h:Hid (aL a g cs T))(k:aL a g cs T->aL b g ds T:=by intro h;with_reducible repeat (first|exact h|apply aL.alloc|apply aL.drew|apply aL.set|(apply aL.other;case ha=>exact mU))):aL b g ds T:=k (aE h)
def eH{a b c:af}(h:Hid (But B a b))(k:But B a b->But B a c:=by intro h;with_reducible repeat (first|exact h|refine But.alloc ?_ _|refine But.drew ?_|(refine But.setNew ?_ ?_ _;rotate_left;exact mU))):But B a c:=k (aE h)
def JJ{a b c:af}(h:Hid (But B a b))(k:But B a b->But B a c:=by intro h;with_reducible repeat (first|exact h|refine But.alloc ?_ _|refine But.drew ?_|refine But.setCell ?_ _ _|(refine But.setNew ?_ ?_ _;rotate_left;exact mU))):But B a c:=k (aE h)
def hY{a b:af}(h:Hid (At a g s i d))(k:At a g s i d->At b g s i d:=by intro h;with_reducible repeat (first|exact h|refine At.alloc ?_ _|refine At.drew ?_|(refine At.setNew ?_ ?_ _;rotate_left;exact mU))):At b g s i d:=k (aE h)
abbrev eN:=@info_parts
abbrev fE:=@decide_eq_true_eq
abbrev l8:=@List.all_eq_true
abbrev l9:=@wpList_append_lies
abbrev j9:=@World.news_of_block
def bQ (h:aD:=by
 rfl):aD:=h
def aaF(w:af)(cs:Array ag)(T n:Nat)(h:n=w.heap.size):aL (w.alloc (.cells cs T)) n cs T:=by subst h;exact aL.new w cs T
variable {v:ag} {xs:List ag}
def eB{D:Array Oper}{o:Oper}{a:Act}{Q:Exit->Act->af->Prop}{s x:Operand}{t:TypeId}{z:ag}{bytes:Nat}(ho:o.op=.call {callee:=.builtin .append,args:=#[s,x],argTypes:=#[t,t]})(ad:P.underlying t=some (.slice e))(V:(P.info? e).map (fun i=>(i.zero,i.size,i.bytes))=some (some z,size,bytes))(base:Nat)(ac:w.ownsRow base e size v n xs)(g m:Nat)(C:List ag)(H:Nat)(h:∀g' cap w',w'.ownsRow base e size (.slice (some ⟨g',0,none⟩) (n+m) cap) (n+m) (xs++C)->w.grownBy w' v.ownBlock->(v.ownBlock=some g'\/g'=H)->g'<w'.heap.size->wpList P D Q rest (a.put o.dst (.slice (some ⟨g',0,none⟩) (n+m) cap)) w')(hs:a.eval s=v:=by rfl)(ae:a.eval x=.slice (some ⟨g,0,none⟩) m m:=by rfl)(ab:o.guard=none:=by rfl)(A:(C.length==m*size&&(z.cells.size==size&&(decide (0<size)&&(decide (0<m)&&C.all fun u=>u.oneCell'))))=true:=by rfl)(Y:aL w g C.toArray e:=by first|exact aL.new _ _ _|exact aaF _ _ _ _ ar)(R:n+m<=maxLen:=by unfold maxLen;omega)(Z:(n+m)*bytes<=140737488355328:=by omega)(hbase:base<=w.heap.size:=by first|omega|(simp;omega)|simp)(U:w.heap.size=H:=by first|rfl|simp):wpList P D Q (o::rest) a w:=by
 obtain ⟨i,h1,h2,I,J⟩:=eN V;simp only [Bool.and_eq_true,beq_iff_eq,fE,l8] at A;exact l9 w ab s x t ho base e i z size bytes ad h1 h2 I J A.2.1 A.2.2.1 v n xs hs ac ⟨g,0,none⟩ m m C ae A.1 (j9 (cs:=C.toArray) (fr:=(0,0)) Y) A.2.2.2.2 A.2.2.2.1 R Z hbase H U h
def aM (h:aD:=by
 kernel_rfl):aD:=h
def U5(v:ag):Prop:=∃(p:Nat)(t:ae),v=.agg #[au p,an t]
def aL.two{x y}(h:aL w g #[x,y] T):w.cell? (aP g)=some x/\w.cell? (aC g 1)=some y:=⟨h.cell rfl,h.cell rfl⟩
def aL.three{x y z}(h:aL w g #[x,y,z] T):w.cell? (aP g)=some x/\w.cell? (aC g 1)=some y/\w.cell? (aC g 2)=some z:=⟨h.cell rfl,h.cell rfl,h.cell rfl⟩
def aL.five{x y z u}(h:aL w g #[x,y,z,u,v] T):w.cell? (aP g)=some x/\w.cell? (aC g 1)=some y/\w.cell? (aC g 2)=some z/\w.cell? (aC g 3)=some u/\w.cell? (aC g 4)=some v:=⟨h.cell rfl,h.cell rfl,h.cell rfl,h.cell rfl,h.cell rfl⟩
def AQ{P fn p u ty}(h:fn.results=#[.cell p ty,.tmp u])(tmps w g cs t e d)(D:tmps.getD p undef=bu g)(I:tmps.getD u undef=e)(A:aL w g cs t)(J:P.underlying ty=some d)(C:(match d with| .struct _| .array _ _=>true|_=>false)=true)(hi:(P.info? ty).map (·.size)=some cs.size):
  (results fn tmps).run P w=.ok (.tuple #[.agg cs,e]) w:=by
 rw [results_cell_tmp h,D,I];simp [asAddr,run_loadVar_row w g t ty cs (0,0) d A J C hi]
def iM(b s i d x w)(hs:s.size<=maxLen)(h:At w b s i d)(A:eqs (TT s i) x=true)(C:0<(bB x).length):
  Calls prog 169 #[bu b,an x] w fun e w'=>e=.returned .nilIface/\At w' b s (i+1) d/\But b w w':=by
 refine (Of b s (K s i) d x w hs h.pos A).mono ?_;rintro e w' ⟨rfl,h1,h2⟩;exact ⟨rfl,At.next h1 h.good (dR A C),h2⟩
def np(b s i d x w)(h:At w b s i d)(A:eqs (TT s i) x=false):
  Calls prog 169 #[bu b,an x] w fun e w'=>e=bi (cm 2)/\At w' b s i d/\But b w w':=by
 refine (U2 b s (K s i) d x w h.pos A).mono ?_;rintro e w' ⟨rfl,h1,h2⟩;exact ⟨rfl,⟨h1,h.good⟩,But.of_below h2⟩
def steps(b s i d w)(hs:s.size<=maxLen)(h:At w b s i d)(A:0<(TT s i).size):
  Calls prog 220 #[bu b] w fun e w'=>e=bi (.tuple #[])/\At w' b s (i+1) d/\But b w w':=by
 refine (vb b s (K s i) d w hs h.pos).mono ?_;rintro e w' ⟨rfl,h1,h2⟩;exact ⟨rfl,At.next h1 h.good A,h2⟩
def ats(b s i d g cap x w)(h:At w b s i d)(A:w.cell? (aP g)=some (an x)):
  Calls prog 113 #[bu b,aA (some (aP g)) 1 cap] w fun e w'=>e=bi (.bool (eqs (TT s i) x))/\w'=w:=
 at1 b s (K s i) d g cap x w h.pos A
def AR(b s i d x w)(hs:s.size<=maxLen)(h:At w b s i d)(c j)(I:dh (TT s) i=.error (c,j)):
  Calls prog 170 #[bu b,an x] w (Post b s d w (.error (c,j):eL Unit) (fun _ _ v=>v=yC s (K s i)) U5):=by
 have J:=h.lt;have C:=eG b s i d (w.alloc (.cells #[au 0,an ⟨#[]⟩] 107)) hs (h.alloc _);rw [I] at C;go_enter func170,ntmps170;go_wp2_with fail;refine C.mono ?_;rintro e w1 ⟨b1,v,d',rfl,rfl,D⟩;have A:=((But.refl b w).alloc _).trans b1;have R:=(aL.new w uZ 107).but b1 ai;obtain ⟨U,V⟩:=R.two;have z:=R.fz;have Q:=R.lt;unfold cm JG;go_wp2;exact bE (v:=.tuple #[JG,cm c]) (AQ results170 _ _ w.heap.size #[au 0,an ⟨#[]⟩] 107 _ _ rfl rfl (((R.set 0 _).set 1 _).alloc _) underlying107 rfl aM) rfl
  ⟨((A.setNew ar _).setNew ar _).alloc _,JG,d',rfl,⟨0,_,rfl⟩,((D.setNew aS _).setNew aS _).alloc _⟩
def AU(b s i d x w)(hs:s.size<=maxLen)(h:At w b s i d)(j)(ac:dh (TT s) i=.ok ((),j))(ab:eqs (TT s j) x=true)(ad:0<(bB x).length):
  Calls prog 170 #[bu b,an x] w (Post b s d w (.ok ((),j+1):eL Unit) (fun _ _ v=>v=yC s (K s i)) U5):=by
 have ae:=h.lt;have C:=eG b s i d (w.alloc (.cells #[au 0,an ⟨#[]⟩] 107)) hs (h.alloc _);rw [ac] at C;go_enter func170,ntmps170;go_wp2_with fail;refine C.mono ?_;rintro e w1 ⟨b1,v,rfl,rfl,Y⟩;have J:=((But.refl b w).alloc _).trans b1;have R:=(aL.new w uZ 107).but b1 ai;obtain ⟨aj,al⟩:=R.two;have ag:=R.lt;have af:¬(w.heap.size=w1.heap.size):=ai;unfold yC;go_wp2
 go_region_held3 (fun w'=>w'.cell? (aP w1.heap.size)=some (au (dI s (K s i)))/\w'.cell? (aC w1.heap.size 1)=some (an (cI s (K s i))))
  (go_keep) ((go_at_call 169;refine (iM b s j d x _ hs ?_ ab ad).mono ?_;(exact (Y.alloc _).drew);rintro e ap ⟨rfl,Z,D⟩;have V:=(aL.new w1 #[au (dI s (K s i)),an (cI s (K s i))] 107).drew.but D ai;obtain ⟨ah,n1⟩:=V.two;have A:=(R.alloc (.cells #[au (dI s (K s i)),an (cI s (K s i))] 107)).drew.but D ai;obtain ⟨ak,am⟩:=A.two;have av:=A.fz;have U:=A;have I:=Z;have Q:=D))
 go_wp2;exact bE (v:=.tuple #[yC s (K s i),.nilIface]) (AQ results170 _ _ w.heap.size #[au (dI s (K s i)),an (cI s (K s i))] 107 _ _ rfl rfl ((U.set 0 _).set 1 _) underlying107 rfl aM) rfl
  ⟨(((J.alloc _).drew.trans Q).setNew ar _).setNew ar _,_,rfl,rfl,(I.setNew aS _).setNew aS _⟩
def Dr(b s i d x w)(hs:s.size<=maxLen)(h:At w b s i d)(j)(ac:dh (TT s) i=.ok ((),j))(ab:eqs (TT s j) x=false):
  Calls prog 170 #[bu b,an x] w (Post b s d w (.error (2,j):eL Unit) (fun _ _ v=>v=yC s (K s i)) U5):=by
 have ad:=h.lt;have C:=eG b s i d (w.alloc (.cells #[au 0,an ⟨#[]⟩] 107)) hs (h.alloc _);rw [ac] at C;go_enter func170,ntmps170;go_wp2_with fail;refine C.mono ?_;rintro e w1 ⟨b1,v,rfl,rfl,Y⟩;have J:=((But.refl b w).alloc _).trans b1;have R:=(aL.new w uZ 107).but b1 ai;obtain ⟨ah,ak⟩:=R.two;have af:=R.lt;have ae:¬(w.heap.size=w1.heap.size):=ai;unfold yC;go_wp2
 go_region_held3 (fun w'=>w'.cell? (aP w1.heap.size)=some (au (dI s (K s i)))/\w'.cell? (aC w1.heap.size 1)=some (an (cI s (K s i))))
  (go_keep) ((go_at_call 169;refine (np b s j d x _ ?_ ab).mono ?_;(exact (Y.alloc _).drew);rintro e am ⟨rfl,Z,D⟩;have V:=(aL.new w1 #[au (dI s (K s i)),an (cI s (K s i))] 107).drew.but D ai;obtain ⟨ag,n1⟩:=V.two;have A:=(R.alloc (.cells #[au (dI s (K s i)),an (cI s (K s i))] 107)).drew.but D ai;obtain ⟨aj,al⟩:=A.two;have ap:=A.fz;have U:=A;have I:=Z;have Q:=D))
 go_wp2;exact bE (v:=.tuple #[yC s (K s i),cm 2]) (AQ results170 _ _ w.heap.size #[au (dI s (K s i)),an (cI s (K s i))] 107 _ _ rfl rfl ((U.set 0 _).set 1 _) underlying107 rfl aM) rfl
  ⟨(((J.alloc _).drew.trans Q).setNew ar _).setNew ar _,_,d,rfl,⟨_,_,rfl⟩,(I.setNew aS _).setNew aS _⟩
def gO(b s i d x w)(hs:s.size<=maxLen)(h:At w b s i d)(D:0<(bB x).length):
  Calls prog 170 #[bu b,an x] w (Post b s d w (b9 (TT s) x i) (fun _ _ v=>v=yC s (K s i)) U5):=by
 unfold b9
 cases C:dh (TT s) i with
 |error e=>exact AR b s i d x w hs h e.1 e.2 C
 |ok y=>
  obtain ⟨⟨⟩,j⟩:=y
  cases A:eqs (TT s j) x
  ·simp only [A];exact Dr b s i d x w hs h j C A
  simp only [A];exact AU b s i d x w hs h j C A D
abbrev pC:Array ag:=#[au 0,an ⟨#[]⟩,au 0,au 0,an ⟨#[]⟩]
abbrev nt:Obj:=.cells #[au 0,an ⟨#[]⟩,au 0,au 0,an ⟨#[]⟩] 207
def ax (h:aD:=by
 decide):aD:=h
def Oh(q:bq) (h:cj bq->aD:=by
 intro zq;have Oi:=aL.but Gi b3 ai;have G3:=aL.but G2 b3 ai;have R3:aL w3 w.heap.size pC 207:=Oi;obtain ⟨p0,p1,p2,p3,p4⟩:=R3.five;obtain ⟨q0,q1,q2,q3,q4⟩:=G3.five;have zp:=R3.fz;have zq:=G3.fz;have tz:=G3.lt;have tz':w.heap.size<w3.heap.size:=ai;have B3:=But.trans B2 b3
 revert Oi G3 R3 p0 p1 p2 p3 p4 q0 q1 q2 q3 q4 zp zq tz tz' B3
 exact zq.1):aD:=h ⟨q⟩
def Oj(q:bq) (h:cj bq->aD:=by
 intro zq;rintro e w2 ⟨rfl,a2,b2⟩;have Gi:=aL.but (g:=w.heap.size) (T:=207) (cY R) b2 ai;have G2':=aL.but (g:=w.heap.size+1) (T:=207) (cY G) b2 ai
 revert w2 a2 b2 Gi G2'
 exact zq.1):aD:=h ⟨q⟩
def dj(g:Gr):Array ag:=#[au g.tp,an g.ty,au g.reach,au g.rp,an g.rel]
def Gu(g:Gr):ag:=.agg (dj g)
def YB(v:ag):Prop:=∃g,v=Gu g
def dr(h:af)(x:ag)(T n:Nat)(A:n=h.heap.size):(h.alloc (.cells #[x] T)).cell? (aP n)=some x:=by
 subst A;exact (aL.new h #[x] T).cell rfl
def ce{P fn p u ty}(h:fn.results=#[.cell p ty,.tmp u])(tmps w g cs' t e d)(D:tmps.getD p undef=bu g)(I:tmps.getD u undef=e)(A:∃cs,aL w g cs t/\cs=cs')(J:P.underlying ty=some d)(C:(match d with| .struct _| .array _ _=>true|_=>false)=true)(hi:(P.info? ty).map (·.size)=some cs'.size):
  (results fn tmps).run P w=.ok (.tuple #[.agg cs',e]) w:=by
 obtain ⟨cs,A,rfl⟩:=A;exact AQ h tmps w g cs t e d D I A J C hi
def LH(b s i d w)(hs:s.size<=maxLen)(h:At w b s i d)(c j)(I:dh (TT s) i=.error (c,j)):
  Calls prog 277 #[bu b] w (Post b s d w (.error (c,j):eL Gr) (fun _ g v=>v=Gu g) YB):=by
 have Y:=h.lt;have C:=eG b s i d _ hs ((h.alloc nt).alloc nt);rw [I] at C;go_enter func277,ntmps277;go_wp2_with fail;refine C.mono ?_;rintro e w1 ⟨b1,v,d',rfl,rfl,D⟩;have A:=((But.refl b w).alloc _).alloc _ |>.trans b1;have R:=((aL.new w pC 207).alloc _).but b1 ai;have G:=(aL.new (w.alloc nt) pC 207).but b1 aS;rw [show (w.alloc nt).heap.size=w.heap.size+1 by simp] at G;obtain ⟨ac,ad,ae,r3,af⟩:=R.five;obtain ⟨g0,J,Q,U,V⟩:=G.five;have ah:=R.fz;have ag:=G.fz;have Z:=G.lt;have ab:w.heap.size<w1.heap.size:=ai;unfold cm JG;go_wp2;refine bE (v:=.tuple #[.agg #[au 0,an ⟨#[]⟩,au 0,au 0,an ⟨#[]⟩],cm c]) (ce results277 _ _ w.heap.size _ 207 _ _ rfl rfl ?hB underlying207 rfl aM) rfl ?post
 case hB=>exact ⟨_,(cY R),by rfl⟩
 case post=>exact ⟨(eH A),_,d',rfl,⟨⟨⟨#[]⟩,0,0,⟨#[]⟩,0⟩,rfl⟩,(hY D)⟩
def Ok(b:Nat)(s:ae)(i d:Nat)(w:af)(hs:s.size<=maxLen)(h:At w b s i d)(j:Nat)(Z:dh (TT s) i=.ok ((),j))(R:eL Gr)
  (A:(if eqs (TT s j) (sg 42) then .ok (⟨TT s i,PP s i,1,em,0⟩,j+1) else if eqs (TT s j) (sg 35) then (match dh (TT s) (j+1) with
   | .error e=> .error e
   | .ok (_,m)=> .ok (⟨TT s i,PP s i,2,TT s (j+1),PP s (j+1)⟩,m)) else .ok (⟨TT s i,PP s i,0,em,0⟩,j))=R):
  Calls prog 277 #[bu b] w (Post b s d w R (fun _ g v=>v=Gu g) YB):=by
 have ah:=h.lt;have C:=eG b s i d _ hs ((h.alloc nt).alloc nt);rw [Z] at C;go_enter func277,ntmps277;go_wp2_with fail;refine C.mono ?_;rintro e w1 ⟨b1,v,rfl,rfl,D⟩;have J:=((But.refl b w).alloc _).alloc _ |>.trans b1;have R:=((aL.new w pC 207).alloc _).but b1 ai;have G:=(aL.new (w.alloc nt) pC 207).but b1 aS;rw [show (w.alloc nt).heap.size=w.heap.size+1 by simp] at G;obtain ⟨ap,av,aw,r3,ay⟩:=R.five;obtain ⟨g0,ab,ac,ad,ag⟩:=G.five;have aA:=R.fz;have az:=G.fz;have al:=G.lt;have am:w.heap.size<w1.heap.size:=ai;have aj:¬(w1.heap.size=w.heap.size):=ai;have ak:¬(w1.heap.size=w.heap.size+1):=ai;unfold yC;go_wp2_with fail;refine (ats b s j d _ _ (sg 42) _ ?_ ?_).mono ?_
 ·exact (hY D)
 ·exact dr _ _ _ _ ar
 rintro e w2 ⟨rfl,rfl⟩
 cases h1:eqs (TT s j) (sg 42)<;>rw [h1] at A
 ·go_wp2_with fail;refine (ats b s j d _ _ (sg 35) _ ?_ ?_).mono ?_
  ·exact (hY D)
  ·exact dr _ _ _ _ ar
  rintro e w2 ⟨rfl,rfl⟩
  cases h2:eqs (TT s j) (sg 35)<;>rw [h2] at A
  ·go_wp2;obtain rfl:=aE A;refine bE (v:=.tuple #[Gu ⟨TT s i,PP s i,0,em,0⟩,.nilIface]) (ce results277 _ _ w.heap.size _ 207 _ _ rfl rfl ?hB underlying207 rfl aM) rfl ?post
   case hB=>exact ⟨_,(cY R),by rfl⟩
   case post=>exact ⟨(eH J),_,rfl,rfl,(hY D)⟩
  have Y:=h2;go_wp2_with fail;refine (steps b s j d _ hs ?_ ?_).mono ?_
  ·exact (hY D)
  ·exact dR Y ax
  refine Oj ?_;intro w2 a2 b2 Gi G2';have G2:aL w2 (w.heap.size+1) #[au (dI s (K s i)),an (cI s (K s i)),au 2,au 0,an ⟨#[]⟩] 207:=G2';have I:aL w2 w.heap.size pC 207:=Gi;obtain ⟨p0,p1,p2,p3,p4⟩:=I.five;obtain ⟨q0,q1,q2,q3,q4⟩:=G2.five;have tz:=G2.lt;have tz':w.heap.size<w2.heap.size:=ai;have B2:=But.trans (x:=w) (eH J) b2;go_wp2_with fail;have C:=eG b s (j+1) d w2 hs a2
  cases U:dh (TT s) (j+1) with
  |error e=>
   rw [U] at C A;refine C.mono ?_;rintro e w3 ⟨b3,v,d',rfl,rfl,Q⟩;refine Oh ?_;intro Oi G3 R3 p0 p1 p2 p3 p4 q0 q1 q2 q3 q4 zp zq tz tz' B3;unfold JG cm;go_wp2;obtain rfl:=aE A;refine bE (v:=.tuple #[Gu ⟨TT s i,PP s i,2,em,0⟩,cm _]) (ce results277 _ _ w.heap.size _ 207 _ _ rfl rfl ?hB3 underlying207 rfl aM) rfl ?post3
   case hB3=>exact ⟨_,(cY Oi),by rfl⟩
   case post3=>exact ⟨(eH B3),_,d',rfl,⟨_,rfl⟩,(hY Q)⟩
  |ok y=>
   obtain ⟨⟨⟩,m⟩:=y;rw [U] at C A;refine C.mono ?_;rintro e w3 ⟨b3,v,rfl,rfl,Q⟩;refine Oh ?_;intro Oi G3 R3 p0 p1 p2 p3 p4 q0 q1 q2 q3 q4 zp zq tz tz' B3;unfold yC;go_wp2;obtain rfl:=aE A;refine bE (v:=.tuple #[Gu ⟨TT s i,PP s i,2,TT s (j+1),PP s (j+1)⟩,.nilIface]) (ce results277 _ _ w.heap.size _ 207 _ _ rfl rfl ?hB4 underlying207 rfl aM) rfl ?post4
   case hB4=>exact ⟨_,(cY Oi),by rfl⟩
   case post4=>exact ⟨(eH B3),_,rfl,rfl,(hY Q)⟩
 ·have V:=h1;go_wp2_with fail;refine (steps b s j d _ hs ?_ ?_).mono ?_
  ·exact (hY D)
  ·exact dR V ax
  refine Oj ?_;intro w2 a2 b2 Gi G2';have G2:aL w2 (w.heap.size+1) #[au (dI s (K s i)),an (cI s (K s i)),au 1,au 0,an ⟨#[]⟩] 207:=G2';have I:aL w2 w.heap.size pC 207:=Gi;obtain ⟨p0,p1,p2,p3,p4⟩:=I.five;obtain ⟨q0,q1,q2,q3,q4⟩:=G2.five;have zp:=I.fz;have tz:=G2.lt;have tz':w.heap.size<w2.heap.size:=ai;have B2:=But.trans (x:=w) (eH J) b2;go_wp2;obtain rfl:=aE A;refine bE (v:=.tuple #[Gu ⟨TT s i,PP s i,1,em,0⟩,.nilIface]) (ce results277 _ _ w.heap.size _ 207 _ _ rfl rfl ?hB2 underlying207 rfl aM) rfl ?Ol
  case hB2=>exact ⟨_,(cY Gi),by rfl⟩
  case Ol=>exact ⟨(eH B2),_,rfl,rfl,(hY a2)⟩
def ve(b s i d w)(hs:s.size<=maxLen)(h:At w b s i d):
  Calls prog 277 #[bu b] w (Post b s d w (dT (TT s) (PP s) i) (fun _ g v=>v=Gu g) YB):=by
 unfold dT
 cases A:dh (TT s) i with
 |error e=>exact LH b s i d w hs h e.1 e.2 A
 |ok y=>
  obtain ⟨⟨⟩,j⟩:=y;exact Ok b s i d w hs h j A _ rfl
def Ex.ind(Q:Ex->Prop)(h0:∀n r,Q ⟨n,none,r⟩)(h1:∀n a,Q ⟨n,some a,none⟩)(h2:∀n a b,Q a->Q b->Q ⟨n,some a,some b⟩):∀e,Q e
 |⟨n,none,r⟩=>h0 n r
 |⟨n,some a,none⟩=>h1 n a
 |⟨n,some a,some b⟩=>h2 n a b (Ex.ind Q h0 h1 h2 a) (Ex.ind Q h0 h1 h2 b)
def fi(k:Nat):TypeId:=if k=3 then 244 else if k=4 then 245 else 246
def cz(l:List Gr):List ag:=l.flatMap fun g=>(dj g).toList
def U6(b:Nat)(w:af)(n:Nd)(v:ag):Prop:=
 (n.kind=0/\∃sv,v=.iface 236 (.agg #[au n.place,sv])/\w.ownsRow (b+1) 207 5 sv n.gs.length (cz n.gs))\/
 (n.kind=1/\v=.iface 238 (.agg #[au n.place,an n.n1]))\/
 (n.kind=2/\v=.iface 240 (.agg #[au n.place,au n.p1,an n.n1,au n.p2,an n.n2]))
def bA(b:Nat)(w:af):Ex->ag->Prop
 |⟨n,some x,some y⟩,v=>∃h A,v=.iface (fi n.kind) (.agg #[au n.place,h,A])/\bA b w x h/\bA b w y A
 |⟨n,none,_⟩,v=>U6 b w n v
 |⟨_,some _,none⟩,_=>False
def ay(h:w.ownsRow base e size v n xs)
  (k:∀g cs f,base<=g->w.heap[g]? =some (.cells cs e f)->w'.heap[g]? =w.heap[g]?):w'.ownsRow base e size v n xs:=by
 obtain ⟨h1,h2⟩:=h;refine ⟨h1,?_⟩
 rcases h2 with h2|⟨g,cap,A,hv,C,D,r⟩
 ·exact Or.inl h2
 ·exact Or.inr ⟨g,cap,A,hv,C,(k g A (0,0) C D).trans D,r⟩
def o8(b:Nat)(w w':af):Prop:=∀g cs f,b+1<=g->w.heap[g]? =some (.cells cs 207 f)->w'.heap[g]? =w.heap[g]?
def lt_of_some(h:w.heap[g]? =some o):g<w.heap.size:=by
 rcases fD g w.heap.size with k|k
 ·exact k
 rw [Array.getElem?_eq_none k] at h;cases h
def o8.of_but(h:But b w w'):o8 b w w':=fun g cs f C A=>h.block g (lt_of_some A) ai
def bA.frame(k:o8 b w w'):∀e v,bA b w e v->bA b w' e v:=by
 intro e
 induction e using Ex.ind with
 |h0 n r=>
  intro v h
  rcases h with ⟨h1,sv,h2,A⟩|h|h
  ·exact Or.inl ⟨h1,sv,h2,ay A k⟩
  ·exact Or.inr (Or.inl h)
  exact Or.inr (Or.inr h)
 |h1 n a=>intro v h;exact h
 |h2 n a c iha NV=>
  rintro v ⟨C,D,h1,h2,A⟩;exact ⟨C,D,h1,iha _ h2,NV _ A⟩
def bA.but{e}(h:bA b w e v)(k:But b w w'):bA b w' e v:=bA.frame (o8.of_but k) e v h
def bA.isI{e}(h:bA b w e v):∃t x,v=.iface t x:=by
 match e,h with
 |⟨n,some x,some y⟩,⟨vx,vy,h1,_⟩=>exact ⟨_,_,h1⟩
 |⟨n,none,_⟩,h=>
  rcases h with ⟨h1,sv,h2,A⟩|⟨_,h⟩|⟨_,h⟩
  ·exact ⟨_,_,h2⟩
  ·exact ⟨_,_,h⟩
  exact ⟨_,_,h⟩
abbrev eV(b:Nat)(s:ae)(d:Nat)(w:af)(r:eL Ex):Ending->af->Prop:=Post b s d w r (bA b) IsI
def U7(b s i d w)(hs:s.size<=maxLen)(h:At w b s i d)(c j)(D:dh (TT s) i=.error (c,j)):
  Calls prog 273 #[bu b] w (eV b s d w (.error (c,j))):=by
 have C:=eG b s i d w hs h;rw [D] at C;go_enter func273,ntmps273;go_wp2_with fail;refine C.mono ?_;rintro e w1 ⟨b1,v,d',rfl,rfl,A⟩;unfold JG cm;go_wp2;go_ret2;exact ⟨(eH b1),_,d',rfl,.inl rfl,(hY A)⟩
def U8(b s i d w)(hs:s.size<=maxLen)(h:At w b s i d)(j)(D:dh (TT s) i=.ok ((),j))(h1:eqs (TT s j) (sg 46)=false):
  Calls prog 273 #[bu b] w (eV b s d w (.ok (⟨⟨1,PP s i,TT s i,PP s i,em,0,[]⟩,none,none⟩,j))):=by
 have I:=h.lt;have C:=eG b s i d w hs h;rw [D] at C;go_enter func273,ntmps273;go_wp2_with fail;refine C.mono ?_;rintro e w1 ⟨b1,v,rfl,rfl,A⟩;unfold yC;go_wp2_with fail;refine (ats b s j d _ _ (sg 46) _ ?_ ?_).mono ?_
 ·exact (hY A)
 ·exact dr _ _ _ _ ar
 rintro e J ⟨rfl,rfl⟩;rw [h1];go_wp2;go_ret2;exact ⟨(eH b1),_,rfl,.inr (.inl ⟨rfl,rfl⟩),(hY A)⟩
def U9(b s i d w)(hs:s.size<=maxLen)(h:At w b s i d)(j m)(ad:dh (TT s) i=.ok ((),j))(h1:eqs (TT s j) (sg 46)=true)(V:Hid (dh (TT s) (j+1)=.ok ((),m))):
  Calls prog 273 #[bu b] w (eV b s d w (.ok (⟨⟨2,PP s i,TT s i,PP s i,TT s (j+1),PP s (j+1),[]⟩,none,none⟩,m))):=by
 have ac:=h.lt;have C:=eG b s i d w hs h;rw [ad] at C;go_enter func273,ntmps273;go_wp2_with fail;refine C.mono ?_;rintro e w1 ⟨b1,v,rfl,rfl,D⟩;have ae:b<w1.heap.size:=cM ac b1.size;unfold yC;go_wp2_with fail;refine (ats b s j d _ _ (sg 46) _ ?_ ?_).mono ?_
 ·exact (hY D)
 ·exact dr _ _ _ _ ar
 rintro e Q ⟨rfl,rfl⟩;rw [h1];go_wp2_with fail;refine (steps b s j d _ hs ?_ ?_).mono ?_
 ·exact (hY D)
 ·exact dR h1 ax
 rintro e Q ⟨rfl,Z,I⟩;have Y:=aL.but (g:=w1.heap.size) (T:=107) (aL.alloc (aL.new w1 #[au (dI s (K s i)),an (cI s (K s i))] 107) _) I ai;have R:=But.trans (x:=w) (eH b1) I;go_wp2_with fail;have C:=eG b s (j+1) d Q hs Z;rw [V] at C;refine C.mono ?_;rintro e ag ⟨J,v,rfl,rfl,ab⟩;have A:=aL.but Y J ai;obtain ⟨af,n1⟩:=A.two;have hn:=A.lt;have U:=But.trans R J;unfold yC;go_wp2;go_ret2;exact ⟨(eH U),_,rfl,.inr (.inr ⟨rfl,rfl⟩),(hY ab)⟩
def Om(b s i d w)(hs:s.size<=maxLen)(h:At w b s i d)(j c m)(ad:dh (TT s) i=.ok ((),j))(h1:eqs (TT s j) (sg 46)=true)(V:Hid (dh (TT s) (j+1)=.error (c,m))):
  Calls prog 273 #[bu b] w (eV b s d w (.error (c,m))):=by
 have ac:=h.lt;have C:=eG b s i d w hs h;rw [ad] at C;go_enter func273,ntmps273;go_wp2_with fail;refine C.mono ?_;rintro e w1 ⟨b1,v,rfl,rfl,D⟩;have ae:b<w1.heap.size:=cM ac b1.size;unfold yC;go_wp2_with fail;refine (ats b s j d _ _ (sg 46) _ ?_ ?_).mono ?_
 ·exact (hY D)
 ·exact dr _ _ _ _ ar
 rintro e Q ⟨rfl,rfl⟩;rw [h1];go_wp2_with fail;refine (steps b s j d _ hs ?_ ?_).mono ?_
 ·exact (hY D)
 ·exact dR h1 ax
 rintro e Q ⟨rfl,Z,I⟩;have Y:=aL.but (g:=w1.heap.size) (T:=107) (aL.alloc (aL.new w1 #[au (dI s (K s i)),an (cI s (K s i))] 107) _) I ai;have R:=But.trans (x:=w) (eH b1) I;go_wp2_with fail;have C:=eG b s (j+1) d Q hs Z;rw [V] at C;refine C.mono ?_;rintro e ag ⟨J,v,d',rfl,rfl,ab⟩;have A:=aL.but Y J ai;obtain ⟨af,n1⟩:=A.two;have hn:=A.lt;have U:=But.trans R J;unfold JG cm;go_wp2;go_ret2;exact ⟨(eH U),_,d',rfl,.inr ⟨_,_,rfl⟩,(hY ab)⟩
def On(b s i d w)(hs:s.size<=maxLen)(h:At w b s i d):
  Calls prog 273 #[bu b] w (eV b s d w (h6 (TT s) (PP s) i)):=by
 unfold h6
 cases C:dh (TT s) i with
 |error e=>exact U7 b s i d w hs h e.1 e.2 C
 |ok y=>
  obtain ⟨⟨⟩,j⟩:=y
  cases h1:eqs (TT s j) (sg 46)
  ·simp only [h1];exact U8 b s i d w hs h j C h1
  cases A:dh (TT s) (j+1) with
  |error e=>simp only [h1,A];exact Om b s i d w hs h j e.1 e.2 C h1 (A)
  |ok y=>
   obtain ⟨⟨⟩,m⟩:=y;simp only [h1,A];exact U9 b s i d w hs h j m C h1 (A)
def Ds(p t x y)(C:IsI x)(D:IsI y)(w):
  Calls prog 263 #[.agg #[au p,an t],x,y] w fun e w'=>e=bi (.iface (fi (kindOf t)) (.agg #[au p,x,y]))/\am w w':=by
 have A:∀a b,(t.toList== [124])=a->(t.toList== [38])=b->kindOf t=if a then 3 else if b then 4 else 5:=by
  intro a b h1 h2;unfold kindOf eqs;rw [<-aT,show bB (sg 124)=[124] from rfl,show bB (sg 38)=[38] from rfl,h1,h2]
 cases h1:(t.toList== [124])
 ·cases h2:(t.toList== [38])
  all_goals
   rw [A _ _ h1 h2]
   rcases C with rfl|⟨I,J,rfl⟩<;>rcases D with rfl|⟨ty,Q,rfl⟩
   all_goals
    go_enter func263,ntmps263;go_wp2;go_ret;exact ⟨rfl,(bo.alloc aH _).alloc ar _⟩
 ·rw [A _ _ h1 rfl]
  rcases C with rfl|⟨I,J,rfl⟩<;>rcases D with rfl|⟨ty,Q,rfl⟩
  all_goals
   go_enter func263,ntmps263;go_wp2;go_ret;exact ⟨rfl,(bo.alloc aH _).alloc ar _⟩
def Oo (h:aD:=by
 split at h
 ·split at h
  ·simp at h
  rename_i A;have:=mf T _ _ _ A;simp at h;omega
 simp at h;omega):aD:=h
def ka{α:Type}(r:Nat->eL α):Prop:=∀i x j,r i=.ok (x,j)->i<j
def mf(T):ka (dh T):=by
 intro i x j h;unfold dh at h
 repeat' split at h
 all_goals simp at h
 omega
def fO(T y):ka (b9 T y):=by
 intro i x j h;unfold b9 at h
 split at h
 ·simp at h
 rename_i A;have:=mf T _ _ _ A
 split at h<;>simp at h
 omega
def nu(T P):ka (dT T P):=by
 intro i x j h;unfold dT at h
 split at h
 ·simp at h
 rename_i C;have:=mf T _ _ _ C
 split at h
 ·simp at h;omega
 exact Oo
def vg(T P):∀f acc,ka (dQ T P f acc)
 |0,_=>fun i x j h=>by simp [dQ] at h
 |f+1,acc=>fun i x j h=>by
  unfold dQ at h
  split at h
  ·simp at h
  rename_i A;have:=nu T P _ _ _ A
  split at h
  ·have:=vg T P f _ _ _ _ h;omega
  split at h<;>simp at h
  omega
def vh(T P):ka (j7 T P):=by
 intro i x j h;unfold j7 at h
 split at h
 ·simp at h
 rename_i A;have:=vg T P _ _ _ _ _ A;simp at h;omega
def tG(T P):ka (h6 T P):=by
 intro i x j h;unfold h6 at h
 split at h
 ·simp at h
 rename_i C;have:=mf T _ _ _ C;exact Oo
def ke(T P room inner)(hi:ka inner):ka (eR T P room inner):=by
 intro i x j h;unfold eR at h
 split at h
 ·exact vh T P _ _ _ h
 split at h
 ·split at h
  ·split at h
   ·simp at h
   rename_i A;have:=hi _ _ _ A
   split at h<;>simp at h
   omega
  simp at h
 exact tG T P _ _ _ h
def vi(T P l part)(A:ka part):∀f y i x j,joinL T P l part f y i=.ok (x,j)->i<=j
 |0,_,i,x,j=>fun h=>by simp [joinL] at h
 |f+1,y,i,x,j=>fun h=>by
  unfold joinL at h
  split at h
  ·split at h
   ·simp at h
   rename_i C;have:=A _ _ _ C;have:=vi T P l part A f _ _ _ _ h;omega
  simp at h;omega
def pD(T P l part)(A:ka part):ka (eU T P l part):=by
 intro i x j h;unfold eU at h
 split at h
 ·simp at h
 rename_i C;have:=A _ _ _ C;have:=vi T P l part A _ _ _ _ _ h;omega
def hJ(T P room inner)(hi:ka inner):ka (h7 T P room inner):=
 pD T P _ _ (ke T P room inner hi)
def gV(T P):∀n,ka (fp T P n)
 |0=>pD T P _ _ (hJ T P false _ (fun i x j h=>by simp at h))
 |n+1=>pD T P _ _ (hJ T P true _ (gV T P n))
def oz(T P):ka (kW T P):=by
 intro i x j h;unfold kW at h
 split at h
 ·simp at h
 rename_i C;have:=fO T _ _ _ _ C
 split at h
 ·simp at h
 rename_i A;have:=gV T P _ _ _ _ A
 split at h<;>simp at h
 omega
def pE(T P):∀f acc,ka (di T P f acc)
 |0,_=>fun i x j h=>by simp [di] at h
 |f+1,acc=>fun i x j h=>by
  unfold di at h
  split at h
  ·simp at h;omega
  split at h
  ·simp at h
  split at h
  ·simp at h
  rename_i A;have:=oz T P _ _ _ A;have:=pE T P f _ _ _ _ h;omega
def vj(T P):ka (j8 T P):=by
 intro i x j h;unfold j8 at h
 split at h
 ·split at h
  ·simp at h
  rename_i C;have:=fO T _ _ _ _ C
  split at h
  ·simp at h
  rename_i A;have:=pE T P _ _ _ _ _ A;simp at h;omega
 simp at h
abbrev vk:=@wp_loop_rounds
abbrev rW:=@rounds_succ
def fK (h:aD:=by
 unfold maxLen;omega):aD:=h
variable {l:List ae}
def LI{t}(h:gN t l=true)(C:∀x∈l,0<(bB x).length):0<t.size:=by
 unfold gN at h;rw [dg] at h;obtain ⟨x,D,A⟩:=h;exact dR A (C x D)
def yY(F b:Nat)(aK:F=264\/F=249)(s:ae)(i d:Nat)(w:af)(hs:s.size<=500)(h:At w b s i d)(g cap:Nat)(l:List ae)(part:Nat->eL Ex)(aR:ka part)
  (Y:∀i w,At w b s i d->Calls prog F #[bu b] w (eV b s d w (part i)))
  (av:l.length<=maxLen) (aS:∀x∈l,0<(bB x).length) (aO:g≠b) (aQ:g<w.heap.size) (aN:∀i,i<l.length->w.cell? (aC g i)=some (an (l.getD i ByteArray.empty))):
  Calls prog 248 #[bu b,.func (.func F) #[bu b] #[],aA (some (aP g)) l.length cap] w (eV b s d w (eU (TT s) (PP s) l part i)):=by
 rcases aK with rfl|rfl
 all_goals
  have aG:(s.size<=maxLen):=fK;unfold eU
  cases aw:part i with
  |error e=>
   obtain ⟨c,j⟩:=e;have C:=Y i w h;rw [aw] at C;go_enter func248,ntmps248;go_wp2_with fail;refine C.mono ?_;rintro e w1 ⟨b1,v,d',rfl,hv,ah⟩;unfold cm;go_wp2_with fail;refine vk 1 ?_;rw [rW];go_wp2;go_ret2;exact ⟨b1,v,d',rfl,hv,ah⟩
  |ok y=>
   obtain ⟨aE,ax⟩:=y;have C:=Y i w h;rw [aw] at C;simp only;generalize aM:joinL (TT s) (PP s) l part 512 aE ax=R;go_enter func248,ntmps248;go_wp2_with fail;refine C.mono ?_;rintro e w1 ⟨b1,v,rfl,hv,ah⟩;go_wp2_with fail
   go_loopg [8,9] 512 (fun k u8 ay wr=>But b w wr/\((ay=.nilIface/\∃x j,bA b wr x u8/\At wr b s j d/\512<=k+j/\(joinL (TT s) (PP s) l part k x j=R))\/(∃c j d',ay=cm c/\IsI u8/\At wr b s j d'/\(R=.error (c,j)))))
   ·exact ⟨b1,.inl ⟨rfl,aE,ax,hv,ah,ai,aM⟩⟩
   obtain ⟨V,⟨rfl,x,j,hv,ha,aZ,A⟩|⟨c,j,d',rfl,hv,ha,A⟩⟩:=hrel
   ·have aX:12<=gk:=by have:=ha.le;omega
    obtain ⟨f,rfl⟩:∃f,gk=f+1:=⟨gk-1,ai⟩;have ar:=(fun i hi=>(V.cell aQ aO).trans (aN i hi):∀i,i<l.length->wr.cell? (aC g i)=some (an (l.getD i ByteArray.empty)));have a0:b<wr.heap.size:=ha.lt;obtain ⟨a1,a2,rfl⟩:=hv.isI;have c1:=ha.pos.rd.c1;have c2:=ha.pos.rd.c2;unfold joinL at A
    cases Q:gN (TT s j) l
    ·simp only [Q] at A;go_wp2_with fail;refine (AP b s _ _ d g cap l _ ha.pos.rd av ar).mono ?_;rintro e ac ⟨rfl,rfl⟩;rw [show gN (cI s (K s j)) l=false from Q];go_wp2;go_ret2;rw [<-A];exact ⟨V,_,rfl,hv,ha⟩
    simp only [Q,if_true] at A;go_wp2_with fail;refine (AP b s _ _ d g cap l _ ha.pos.rd av ar).mono ?_;rintro e ac ⟨rfl,rfl⟩;rw [show gN (cI s (K s j)) l=true from Q];go_wp2_with fail;refine (steps b s j d _ aG (ha.alloc _) (LI Q aS)).mono ?_;rintro e aB ⟨rfl,ap,ak⟩;have U:=(aL.new ac #[au (dI s (K s j)),an (cI s (K s j))] 137).but ak ai;have am:=But.trans V (But.trans ((But.refl b ac).alloc _) ak);have aH:=bA.but hv (But.trans ((But.refl b ac).alloc _) ak)
    cases al:part (j+1) with
    |error e=>
     obtain ⟨aJ,ab⟩:=e;have J:=Y (j+1) aB ap;rw [al] at A J;go_wp2_with fail;refine J.mono ?_;rintro e aV ⟨I,az,d4,rfl,Z,aj⟩;have ag:=U.but I (by have:=U.lt;have:=ha.lt;omega);obtain ⟨aT,aU⟩:=ag.two;have ad:=But.trans am I;unfold cm;go_wp2_with fail;refine (Ds _ _ _ _ (.inr ⟨_,_,rfl⟩) Z _).mono ?_;rintro e w5 ⟨rfl,D⟩;go_wp2
     go_roundg 0
     case measure=>omega
     case rel=>exact ⟨(But.trans ad (But.of_below D)),.inr ⟨aJ,ab,d4,rfl,.inr ⟨_,_,rfl⟩,(aj.below D),A.symm⟩⟩
    |ok y=>
     obtain ⟨aW,ab⟩:=y;have J:=Y (j+1) aB ap;have aY:j+1<ab:=aR _ _ _ al;rw [al] at A J;go_wp2_with fail;refine J.mono ?_;rintro e aV ⟨I,az,rfl,Z,aj⟩;have ag:=U.but I (by have:=U.lt;have:=ha.lt;omega);obtain ⟨aT,aU⟩:=ag.two;have ad:=But.trans am I;have aI:=bA.but aH I;go_wp2_with fail;refine (Ds _ _ _ _ (.inr ⟨_,_,rfl⟩) (.inr Z.isI:IsI az) _).mono ?_;rintro e w5 ⟨rfl,D⟩;go_wp2
     go_roundg f
     case measure=>omega
     case rel=>exact ⟨(But.trans ad (But.of_below D)),.inl ⟨rfl,dF (TT s j) (PP s j) x aW,ab,⟨_,_,rfl,(bA.but aI (But.of_below D)),(bA.but Z (But.of_below D))⟩,(aj.below D),ai,A⟩⟩
   have aF:=V;unfold cm;go_wp2;go_ret2;rw [A];exact ⟨aF,_,d',rfl,hv,ha⟩
abbrev aR:=@Option.some.injEq
def Tryz.info207:(Tryz.prog.info? 207).map (fun i=>(i.zero,i.size,i.bytes))=some (some (.agg #[au 0,an ⟨#[]⟩,au 0,au 0,an ⟨#[]⟩]),5,56):=by kernel_rfl
def Xk(T:Nat->ae)(P:Nat->Nat)(k:Nat)(acc:List Gr)(j:Nat):eL (List Gr):=
 if eqs (T j) (sg 44) then dQ T P k acc j else if eqs (T j) (sg 93) then .ok (acc,j+1) else .error (2,j)
def own_ne(h:w.ownsRow base e size v n xs)(C:aL w g cs T)(I:T≠e):some g≠v.ownBlock:=by
 rcases h.2 with ⟨rfl,_⟩|⟨g',cap,J,rfl,Q,A,r⟩
 ·simp [Value.ownBlock]
 intro D;simp only [Value.ownBlock,aR] at D;subst D;unfold aL at C;rw [C] at A;simp at A;exact I A.2
def bU(h:w.ownsRow base e size v n xs)(C:aL w g cs T)(D:T≠e)(o u):(w.setCell (aC g o) u).ownsRow base e size v n xs:=
 ay h fun g' I f J A=>ea _ _ _ _ (fun (e':g'=g)=>by
  subst e';unfold aL at C;rw [C] at A;simp at A;exact D A.2.1)
def bk(h:w.ownsRow base e size v n xs)(C:base'<=base):w.ownsRow base' e size v n xs:=by
 obtain ⟨h1,h2⟩:=h;refine ⟨h1,?_⟩
 rcases h2 with h2|⟨g,cap,A,hv,D,r⟩
 ·exact Or.inl h2
 exact Or.inr ⟨g,cap,A,hv,aV C D,r⟩
def AV(l g):cz (l++[g])=cz l++(dj g).toList:=by simp [cz]
variable {y z:af}
def But.grown{x}(h:But b x y)(A:y.grownBy z row)(I:∀k,row=some k->x.heap.size<=k):But b x z:=
 ⟨A.os.trans h.os,A.tape.trans h.tape,A.output.trans h.output,aV h.size A.size,fun k C D=>(A.block k (cM C h.size) (fun e=>by have:=I k e.symm;omega)).trans (h.block k C D)⟩
def aL.new'(w:af)(cs:Array ag)(T n:Nat)(h:n=w.heap.size):aL (w.alloc (.cells cs T)) n cs T:=by subst h;exact aL.new w cs T
def YC(g):∀u∈(dj g).toList,u.oneCell'=true:=by
 intro u h;simp [dj] at h
 rcases h with rfl|rfl|rfl|rfl|rfl<;>rfl
def listM(P:Nat->Nat)(i:Nat)(R:eL (List Gr)):eL Ex:=match R with
 | .error e=> .error e
 | .ok (gs,j)=> .ok (JH P i gs,j)
def LJ(b s i d w)(hs:s.size<=500)(h:At w b s i d)(aX:eqs (TT s i) (sg 91)=true):
  Calls prog 271 #[bu b] w (eV b s d w (j7 (TT s) (PP s) i)):=by
 have bv:=h.lt;have aw:(s.size<=maxLen):=fK;have a6:=dR aX ax;have c1:=h.pos.rd.c1;clear aX;change Calls _ _ _ _ (eV b s d w (listM (PP s) i (dQ (TT s) (PP s) 512 [] i)));generalize a7:dQ (TT s) (PP s) 512 [] i=R;go_enter func271,ntmps271;go_wp2_with fail
 go_loopg [5] 512 (fun k bg wr=>∃(f:Bool)(acc:List Gr)(j:Nat)(sv:ag),bg=.bool f/\But b w wr/\At wr b s j d/\512<=k+j/\acc.length<=j/\
  aL wr w.heap.size #[au (dI s (K s i)),sv] 236/\wr.ownsRow w.heap.size 207 5 sv acc.length (cz acc)/\
  ((f=true->j=i/\dQ (TT s) (PP s) k acc j=R)/\(f=false->Xk (TT s) (PP s) k acc j=R)))
 ·exact ⟨true,[],i,_,rfl,(But.refl b w).alloc _,h.alloc _,ai,ar,aL.new _ _ _,bP,aj ⟨fun _=>⟨rfl,a7⟩,fun h=>by cases h⟩⟩
 ·obtain ⟨f,acc,j,sv,rfl,aW,ha,aY,bp,hl,ho,an⟩:=hrel;have br:12<=gk:=by have:=ha.le;omega
  obtain ⟨aR,rfl⟩:∃f,gk=f+1:=⟨gk-1,ai⟩;have ac:=ha;have ah:=aW;have Q:=hl;have al:=ho;obtain ⟨aJ,l1⟩:=hl.two;have aU:=hl.fz;have a9:=hl.lt;have ba:=ha.lt;clear ha aW hl ho
  go_upto_region 3 with fail
  go_cut [19] (fun s' bj=>∃c:Bool,s'=.bool c/\am wr bj/\(cond c ((0<(TT s j).size)/\dQ (TT s) (PP s) (aR+1) acc j=R) ((if eqs (TT s j) (sg 93) then .ok (acc,j+1) else .error (2,j))=R)))
  ·cases f with
   |true=>
    obtain ⟨e1,ab⟩:=an.1 rfl;have aQ:=show _/\_ from ⟨(by rw [e1];exact a6:0<(TT s j).size),ab⟩
    clear e1 ab an;go_wp2
    go_meet
    exact ⟨true,rfl,az _ _,aQ⟩
   |false=>
    have aQ:=(show cond (eqs (TT s j) (sg 44)) ((0<(TT s j).size)/\dQ (TT s) (PP s) (aR+1) acc j=R) ((if eqs (TT s j) (sg 93) then .ok (acc,j+1) else .error (2,j))=R) from by
     have D:=an.2 rfl;unfold Xk at D
     cases a0:eqs (TT s j) (sg 44)<;>rw [a0] at D
     ·exact D
     exact ⟨dR a0 ax,D⟩)
    clear an;go_wp2_with fail;refine (ats b s j d _ _ (sg 44) _ ?_ ?_).mono ?_
    ·exact (hY ac)
    ·exact dr _ _ _ _ ar
    rintro e w1 ⟨rfl,rfl⟩;go_wp2
    go_meet
    exact ⟨_,rfl,bo.alloc aH _,aQ⟩
  obtain ⟨c,rfl,av,af⟩:=hcut;have ac:=ac.below av;have ah:=ah.trans (But.of_below av);have Q:=Q.below av;have al:=ay al (fun g cs f _ J=>av.block g (lt_of_some J));obtain ⟨aJ,l1⟩:=Q.two;have aU:=Q.fz;have a9:=Q.lt;have ba:=ac.lt;clear av an;obtain ⟨bz,bc⟩:∃z,z=wc:=⟨_,rfl⟩;subst bc
  cases c with
  |true=>
   obtain ⟨e1,ab⟩:=aE af;clear af;go_wp2_with fail;refine (steps b s j d _ aw ?_ e1).mono ?_
   ·exact (hY ac)
   rintro e ad ⟨rfl,Y,A⟩;have U:=aL.but (g:=w.heap.size) (T:=236) (cY Q) A ai;have aB:=ay (w':=ad) al (fun g cs f aT J=>(A.block g (by first|exact lt_of_some J|(have:=lt_of_some J;simp;omega)) ai).trans (by first|rfl|exact Below.heap_alloc _ _ _ (lt_of_some J)));have ae:=But.trans (x:=w) (eH ah) A;clear A;unfold dQ at ab
   cases D:dT (TT s) (PP s) (j+1) with
   |error e=>
    obtain ⟨c3,a1⟩:=e;rw [D] at ab;have C:=ve b s (j+1) d ad aw Y;rw [D] at C;clear D;go_wp2_with fail;refine C.mono ?_;rintro e aK ⟨Z,bh,d3,rfl,⟨I,rfl⟩,aG⟩;have V:=U.but Z ai;have bf:=V.lt;obtain ⟨aJ,l1⟩:=V.two;have aO:=But.trans ae Z;clear Z V;unfold cm Gu dj;go_wp2;go_ret2;rw [<-ab];exact ⟨(eH aO),_,d3,rfl,.inr ⟨_,_,rfl⟩,(hY aG)⟩
   |ok y=>
    obtain ⟨I,a1⟩:=y;have bt:=nu _ _ _ _ _ D;rw [D] at ab;have C:=ve b s (j+1) d ad aw Y;rw [D] at C;clear D;go_wp2_with fail;refine C.mono ?_;rintro e aK ⟨Z,bh,rfl,rfl,aG⟩;have V:=U.but Z ai;have bf:=V.lt;obtain ⟨aJ,l1⟩:=V.two;have aU:=V.fz;have aV:=ay (w':=aK) aB (fun g cs f aT J=>Z.block g (lt_of_some J) ai);have aO:=But.trans ae Z;have bw:=aG.le;clear Z;unfold Gu dj;go_wp2_with (at_builtin;go_must (refine eB rfl underlying211 Tryz.info207 w.heap.size ((aV.alloc _).alloc _) (aK.heap.size+1) 1 (dj I).toList (aK.heap.size+2) ?hrest))
    case hrest=>
     intro bn bl bi bb aI a8 bs;have aA:=(V.alloc (.cells (dj I) 207)).alloc (.cells (dj I) 207);have aF:=(aV.alloc (.cells (dj I) 207)).alloc (.cells (dj I) 207);have aN:=(aG.alloc (.cells (dj I) 207)).alloc (.cells (dj I) 207);have ap:aL bi w.heap.size #[au (dI s (K s i)),sv] 236:=(aI.block _ aA.lt (own_ne aF aA ax)).trans aA;have a4:=aN.grown aI (own_ne aF aN.pos.rd.blk ax);have a5:=But.grown ((aO.alloc (.cells (dj I) 207)).alloc (.cells (dj I) 207)) aI (fun k aY=>(aF.lt k aY).1);obtain ⟨a2,a3⟩:=ap.two;have bA:=ap.fz;have bx:=ap.lt;clear aA aF aN aI a8 aJ l1 aU;go_wp2
     go_roundg aR
     case measure=>omega
     case rel=>exact ⟨false,acc++[I],a1,_,rfl,(eH a5),(hY a4),ai,aS,ap.set 1 _,by rw [List.length_append,AV];exact bU bb ap ax 1 _,aj ⟨fun h=>(by cases h),fun _=>ab⟩⟩
  |false=>
   go_wp2_with fail
   cases hc:eqs (TT s j) (sg 93)
   ·have ak:=hc;clear hc
    go_region_held3 (fun w'=>w'.cell? (aP w.heap.size)=some (au (dI s (K s i)))/\w'.cell? (aC w.heap.size 1)=some sv)
     (go_keep) ((go_at_call 169;refine (np b s j d (sg 93) _ ?_ ak).mono ?_;(exact ac.drew);rintro e ad ⟨rfl,Y,A⟩;have U:=Q.drew.but A ai;obtain ⟨a2,a3⟩:=U.two;have aM:=Y;have aB:=(ay (w':=ad) al (fun g cs f aT J=>A.block g (lt_of_some J) ai));have ae:=(But.trans (x:=w) ah.drew A);clear U Y A))
    all_goals
     go_wp2;go_ret2;simp only [cond,ak,if_true,Bool.false_eq_true,aZ] at af;rw [<-af];exact ⟨ae,_,d,rfl,.inr ⟨_,_,rfl⟩,aM⟩
   have ak:=hc;clear hc
   go_region_held3 (fun w'=>w'.cell? (aP w.heap.size)=some (au (dI s (K s i)))/\w'.cell? (aC w.heap.size 1)=some sv)
    (go_keep) ((go_at_call 169;refine (iM b s j d (sg 93) _ aw ?_ ak ax).mono ?_;(exact ac.drew);rintro e ad ⟨rfl,Y,A⟩;have U:=Q.drew.but A ai;obtain ⟨a2,a3⟩:=U.two;have aM:=Y;have aB:=(ay (w':=ad) al (fun g cs f aT J=>A.block g (lt_of_some J) ai));have ae:=(But.trans (x:=w) ah.drew A);clear U Y A))
   all_goals
    go_wp2;go_ret2;simp only [cond,ak,if_true,Bool.false_eq_true,aZ] at af;rw [<-af];exact ⟨ae,_,rfl,.inl ⟨rfl,_,rfl,bk aB ai⟩,aM⟩
