import Derived.Test.YtlbpnlngckgcbaaGreatDoorProg
import Derived.WalkLawsBesides
import Derived.WalkSpells
import Derived.BigQuiet
import Derived.PlainAid
import Derived.Lib.Strings
import Derived.Deep.RegionHeld3
import Derived.Deep.DrawnRows
import Derived.Deep.AppendLies
import Derived.Deep.LoopGhost
set_option linter.all false
set_option maxHeartbeats 4000000
set_option maxRecDepth 100000
namespace Go.RowKit
theorem Hid.u{p:Prop}(h:Hid p):p:=h
end Go.RowKit
namespace Go.Proofs.YtlbpnlngckgcbaaGreatDoor
open Go.RowKit Go.PlainAid Go.Proofs.Tryz
variable {aA aU:Prop} {n a b B p d g k i base size:Nat} {T e:TypeId} {row:Option Nat} {o:Obj}
abbrev ae:=ByteArray
abbrev af:=World
abbrev ag:=Value
theorem ab{n:Nat}:n<=n:=Nat.le_refl n
theorem ac{α:Type}{l:List α}{i:Nat}(h:i<l.length):l[i]? =some l[i]:=List.getElem?_eq_getElem h
abbrev bY:=@Nat.le_refl
abbrev az:=@Below.refl
abbrev qZ:=@Array.length_toList
abbrev mX:=@List.length_pos_iff
def aM (h:aA:=by
 simp;omega):aA:=h
def aj (h:aA:=by
 omega):aA:=h
def ar (h:aA:=by
 simp):aA:=h
def M6 (h:aA:=by
 go_wp2_with (first|(go_at_call 203;refine (hD _ _).mono ?_;rintro e w' ⟨rfl,rfl⟩)|(go_at_call 204;refine (mY _ _).mono ?_;rintro e w' ⟨rfl,rfl⟩));go_ret;exact ⟨by rw [qe.u];rfl,rfl⟩):aA:=h
structure bF(q:Prop):Prop where
 out:q
abbrev an(w:af):af->Prop:=Below w.heap.size w
def aD:n<=n:=bY _
variable {w:af}
def bj:Below n w w:=az _ _
def bL{c:TypeId}:w.ownsRow a c b (.slice none 0 0) 0 []:=World.ownsRow_nil _ _ _ _
def ai{p:Prop}(h:p):Hid p:=h
def ak{p:Prop}(h:Hid p):p:=h
def blank(c:Int):Bool:=c==32||c==9||c==10
def letter(c:Int):Bool:=decide (97<=c)&&decide (c<=122)
def digit(c:Int):Bool:=decide (48<=c)&&decide (c<=57)
def hD(c w):Calls prog 203 #[.int .u8 c] w fun e w'=>e=.returned (.bool (letter c))/\w'=w:=by
 by_cases h1:97<=c
 ·go_enter func203,ntmps203;go_wp2;go_ret;exact ⟨by simp [letter,h1],rfl⟩
 go_enter func203,ntmps203;go_wp2;go_ret;exact ⟨by simp [letter];omega,rfl⟩
def mY(c w):Calls prog 204 #[.int .u8 c] w fun e w'=>e=.returned (.bool (digit c))/\w'=w:=by
 by_cases h1:48<=c
 ·go_enter func204,ntmps204;go_wp2;go_ret;exact ⟨by simp [digit,h1],rfl⟩
 go_enter func204,ntmps204;go_wp2;go_ret;exact ⟨by simp [digit];omega,rfl⟩
def sP(c w):Calls prog 111 #[.int .u8 c] w fun e w'=>e=.returned (.bool (blank c))/\w'=w:=by
 go_enter func111,ntmps111;go_wp2
 all_goals
  go_ret;exact ⟨by simp_all [blank],rfl⟩
def dg(c:UInt8):Bool:=letter c.toNat||digit c.toNat
def dX(c:UInt8):Bool:=blank c.toNat
def cW:List UInt8->Nat
 | []=>0
 |c::r=>if letter c.toNat then 1+(r.takeWhile dg).length else 1
def kz:List UInt8->Nat
 | []=>0
 |c::r=>if letter c.toNat then 1+(r.takeWhile dg).length else 0
def Km(l)(h:l≠ []):((cW l:Nat):Int)=if (1:Int)<(kz l:Nat) then ((kz l:Nat):Int) else 1:=by
 cases l with
 |nil=>exact absurd rfl h
 |cons c r=>
  simp only [cW,kz]
  by_cases hc:letter c.toNat=true
  ·simp only [hc,if_true]
   split<;>omega
  simp [hc]
def fl{α:Type}(p:α->Bool):∀(l:List α)(k:Nat),(∀j,(h:j<k)->(A:j<l.length)->p l[j]=true)->k<=l.length->((h:k<l.length)->p l[k]=false)->(l.takeWhile p).length=k
 | [],k,_,h2,_=>by simp at h2;simp [h2]
 |a::r,0,_,_,h3=>by
  have:=h3 ar;simp at this;simp [this]
 |a::r,k+1,h1,h2,h3=>by
  have ha:=h1 0 aj ar;simp at ha;simp [ha];exact fl p r k (fun j h A=>by have:=h1 (j+1) aj aM;simpa using this) (by simpa using h2) (fun h=>by have:=h3 aM;simpa using this)
def bJ(s:ae):List UInt8:=s.data.toList
def mk(l:List UInt8):ae:=⟨l.toArray⟩
def kM(l):bJ (mk l)=l:=rfl
def dj(s):mk (bJ s)=s:=rfl
def bh(s):(bJ s).length=s.size:=by show s.data.toList.length=s.data.size;exact qZ
def ui(s k)(h:k<(bJ s).length):bt s k=((bJ s)[k].toNat:Int):=by
 rw [bh] at h;unfold bt;rw [dif_pos h];rfl
def aO(s):s.toList=bJ s:=ByteArray.toList_eq s
def qf(s k)(h0:0<s.size)(I:letter (bt s 0)=true)(h1:1<=k)(D:k<=s.size)(Q:∀j,1<=j->j<k->(letter (bt s j)||digit (bt s j))=true)(C:k<s.size->(letter (bt s k)||digit (bt s k))=false):kz (bJ s)=k:=by
 have A:=ui s;rw [<-bh] at h0 D C;generalize bJ s=l at*
 cases l with
 |nil=>simp at h0
 |cons c r=>
  have J:=A 0 ar;simp only [List.getElem_cons_zero] at J;rw [J] at I;simp only [kz,I,if_true];simp only [List.length_cons] at D C;have:=fl dg r (k-1) (fun j h R=>by
   have:=Q (j+1) aj aj;rw [A (j+1) aM] at this
   simpa [dg] using this) aj (fun h=>by
   obtain ⟨q,rfl⟩:∃q,k=q+1:=⟨k-1,aj⟩;have:=C aj;rw [A (q+1) aM] at this
   simpa [dg] using this)
  omega
def uj(s)(h0:0<s.size)(A:letter (bt s 0)=false):kz (bJ s)=0:=by
 have D:=ui s;rw [<-bh] at h0;generalize bJ s=l at*
 cases l with
 |nil=>simp at h0
 |cons c r=>
  have C:=D 0 ar;simp only [List.getElem_cons_zero] at C;rw [C] at A;simp [kz,A]
def BZ(s)(h:bJ s≠ []):0<s.size:=by
 rw [<-bh];exact mX.2 h
def mZ(s w)(hs:s.size<=maxLen):
  Calls prog 144 #[.string s] w fun e w'=>e=.returned (.int .i64 (kz (bJ s)))/\w'=w:=by
 unfold maxLen at hs
 by_cases C:bJ s=[]
 ·have Z:s.toList=[]:=by rw [aO];exact C
  have V:=ai C;go_enter func144,ntmps144;go_wp2;go_ret;exact ⟨by rw [V.u];rfl,rfl⟩
 ·have h0:0<s.size:=BZ s C;have Z:s.toList.isEmpty=false:=by rw [aO];simpa using C
  have ab:=get_bt s
  cases hl:letter (bt s 0)
  ·have qe:=ai (uj s h0 hl);go_enter func144,ntmps144;go_wp2_with (go_at_call 203;refine (hD _ _).mono ?_;rintro e w' ⟨rfl,rfl⟩);go_ret;exact ⟨by rw [qe.u];rfl,rfl⟩
  go_enter func144,ntmps144;go_wp2_with (go_at_call 203;refine (hD _ _).mono ?_;rintro e w' ⟨rfl,rfl⟩)
  go_loop [3] (fun i=>∃k:Nat,1<=k/\k<=s.size/\i=.int .i64 k/\Hid (∀j,1<=j->j<k->(letter (bt s j)||digit (bt s j))=true)) (fun i=>s.size-(intOf i).toNat)
  case atStart=>exact ⟨1,aj,aj,rfl,ai (fun j h I=>aj)⟩
  case round=>
   obtain ⟨k,Q,R,rfl,A⟩:=hrel
   by_cases Y:k<s.size
   ·cases U:letter (bt s k)
    ·cases J:digit (bt s k)
     ·have qe:=ai (qf s k h0 hl Q R (ak A) (fun _=>by simp [U,J]));exact M6
     have D:=ai (show ∀j,1<=j->j<k+1->(letter (bt s j)||digit (bt s j))=true from fun j h I=>by
      by_cases e:j=k
      ·rw [e,J];simp
      exact ak A j h aj)
     go_wp2_with (first|(go_at_call 203;refine (hD _ _).mono ?_;rintro e w' ⟨rfl,rfl⟩)|(go_at_call 204;refine (mY _ _).mono ?_;rintro e w' ⟨rfl,rfl⟩))
     go_round
     case rel=>exact ⟨k+1,aj,aj,by go_num,D⟩
     case measure=>simp [intOf];omega
    have D:=ai (show ∀j,1<=j->j<k+1->(letter (bt s j)||digit (bt s j))=true from fun j h I=>by
     by_cases e:j=k
     ·rw [e,U];simp
     exact ak A j h aj)
    go_wp2_with (first|(go_at_call 203;refine (hD _ _).mono ?_;rintro e w' ⟨rfl,rfl⟩)|(go_at_call 204;refine (mY _ _).mono ?_;rintro e w' ⟨rfl,rfl⟩))
    go_round
    case rel=>exact ⟨k+1,aj,aj,by go_num,D⟩
    case measure=>simp [intOf];omega
   have qe:=ai (qf s k h0 hl Q R (ak A) (fun h=>absurd h Y));exact M6
def xl(s w)(hs:s.size<=maxLen):
  Calls prog 112 #[.string s] w fun e w'=>e=.returned (.int .i64 (cW (bJ s)))/\w'=w:=by
 have D:=ai hs
 by_cases A:bJ s=[]
 ·have Q:s.toList=[]:=by rw [aO];exact A
  have J:=ai A;go_enter func112,ntmps112;go_wp2;go_ret;exact ⟨by rw [J.u];rfl,rfl⟩
 ·have Q:s.toList.isEmpty=false:=by rw [aO];simpa using A
  have C:=ai (Km (bJ s) A);generalize hn:kz (bJ s)=n at C;have I:=ai hn
  by_cases h1:(1:Int)<(n:Int)
  ·go_enter func112,ntmps112;go_wp2_with (go_at_call 144;refine (mZ _ _ D.u).mono ?_;rintro e w' ⟨rfl,rfl⟩;rw [I.u]);go_ret;exact ⟨by rw [ak C,if_pos h1];rfl,rfl⟩
  go_enter func112,ntmps112;go_wp2_with (go_at_call 144;refine (mZ _ _ D.u).mono ?_;rintro e w' ⟨rfl,rfl⟩;rw [I.u]);go_ret;exact ⟨by rw [ak C,if_neg aj];rfl,rfl⟩
abbrev dy:=@List.take_of_length_le
abbrev m2:=@List.length_drop
abbrev bq:=@bodyPost_ret
def WQ (h:aA:=by
 go_wp2_with (first|(go_at_call 111;refine (sP _ _).mono ?_;rintro e w' ⟨rfl,rfl⟩));refine (xl _ _ Hsz.u).mono ?_;rintro e w' ⟨rfl,rfl⟩;rw [tE];generalize hn:cW ((bJ s).drop k)=n at*;go_wp2;exact bq (v:=.agg #[.int .i64 k,.string (s.extract k (k+n))]) (by simp [results,results71,go_sem]) rfl ⟨by rw [Hp.u,Hx.u n rfl],bj.alloc aD _⟩):aA:=h
def skip(l:List UInt8)(k:Nat):Nat:=k+((l.drop k).takeWhile dX).length
def iN(l:List UInt8)(p:Nat):List UInt8:=(l.drop p).take (cW (l.drop p))
def Us(s a k)(h1:a<=k)(J:k<=s.size)(I:∀j,a<=j->j<k->blank (bt s j)=true)(C:k<s.size->blank (bt s k)=false):skip (bJ s) a=k:=by
 have A:=ui s;rw [<-bh] at J C;generalize bJ s=l at*;unfold skip;have:=fl dX (l.drop a) (k-a) (fun j h D=>by
  simp at D;have:=I (a+j) aj aj;rw [A (a+j) aj] at this
  simpa [dX] using this) aM (fun h=>by
  simp at h;have:=C aj;rw [A k aj] at this
  simpa [dX,show a+(k-a)=k by omega] using this)
 omega
def uk(l):cW l<=l.length:=by
 cases l with
 |nil=>simp [cW]
 |cons c r=>
  simp only [cW];have:=(List.takeWhile_sublist dg (l:=r)).length_le
  split<;>simp<;>omega
def B8(s a b):bJ (s.extract a b)=((bJ s).drop a).take (b-a):=Lib.extract_data s a b
def extract_mk(s a b):s.extract a b=mk (((bJ s).drop a).take (b-a)):=Lib.extract_eq s a b
def tE(s a):bJ (s.extract a s.size)=(bJ s).drop a:=by
 rw [B8,dy];rw [m2,bh];omega
def xm(s)(a:Nat)(w)(hs:s.size<=maxLen)(ha:a<=s.size):
  Calls prog 71 #[.string s,.int .i64 a] w fun e w'=>e=.returned (.agg #[.int .i64 (skip (bJ s) a),.string (mk (iN (bJ s) (skip (bJ s) a)))])/\an w w':=by
 unfold maxLen at hs;have Z:=get_bt s;go_enter func71,ntmps71;go_wp2
 go_loop [1] (fun i=>∃k:Nat,a<=k/\k<=s.size/\i=.int .i64 k/\Hid (∀j,a<=j->j<k->blank (bt s j)=true)) (fun i=>s.size-(intOf i).toNat)
 case atStart=>exact ⟨a,aj,aj,rfl,ai (fun j h R=>aj)⟩
 case round=>
  obtain ⟨k,U,V,rfl,C⟩:=hrel
  by_cases hc:k<s.size/\blank (bt s k)=true
  ·obtain ⟨I,D⟩:=hc;have J:=ai (show ∀j,a<=j->j<k+1->blank (bt s j)=true from fun j h R=>by
    by_cases e:j=k
    ·rw [e,D]
    exact ak C j h aj)
   go_wp2_with (first|(go_at_call 111;refine (sP _ _).mono ?_;rintro e w' ⟨rfl,rfl⟩))
   go_round
   case rel=>exact ⟨k+1,aj,aj,by go_num,J⟩
   case measure=>simp [intOf];omega
  have Hp:=ai (Us s a k U V (ak C) (fun h=>by
   cases A:blank (bt s k)
   ·rfl
   exact absurd ⟨h,A⟩ hc))
  have Q:=uk ((bJ s).drop k);rw [m2,bh] at Q;have Hx:=ai (show ∀n,cW ((bJ s).drop k)=n->s.extract k (k+n)=mk (iN (bJ s) k) from fun n hn=>by
   rw [extract_mk,iN,hn,show k+n-k=n by omega])
  have Y:(s.extract k s.size).size<=maxLen:=by rw [ByteArray.size_extract];unfold maxLen;omega
  have Hsz:=ai Y
  by_cases I:k<s.size
  ·have D:blank (bt s k)=false:=by
    cases A:blank (bt s k)
    ·rfl
    exact absurd ⟨I,A⟩ hc
   exact WQ
  exact WQ
abbrev aP:=@Nat.le_trans
abbrev cK:=@Nat.lt_of_lt_of_le
abbrev dN:=@Below.heap_setCell
abbrev ji:=@World.cell?_of_block
abbrev gh:=@Nat.lt_or_ge
abbrev dO:=@List.length_take
def M7 (h:aA:=by
 simp [World.setCell]):aA:=h
variable {W w1:af}
def M8(A:an W w1):(∀b o,b<W.heap.size->w1.cell? ⟨b,o,none⟩=W.cell? ⟨b,o,none⟩)/\(∀b o,b<W.heap.size->w1.frozen? ⟨b,o,none⟩=W.frozen? ⟨b,o,none⟩):=
 ⟨fun b o h=>A.cell (p:=⟨b,o,none⟩) h,fun b o h=>A.frozen (p:=⟨b,o,none⟩) h⟩
structure But(b:Nat)(w w':af):Prop where
 os:w'.os=w.os
 tape:w'.tape=w.tape
 output:w'.output=w.output
 size:w.heap.size<=w'.heap.size
 block:∀k,k<w.heap.size->k≠b->w'.heap[k]? =w.heap[k]?
def But.refl(b w):But b w w:=⟨rfl,rfl,rfl,bY _,fun _ _ _=>rfl⟩
variable {y z:af}
def But.trans{x}(h:But b x y)(k:But b y z):But b x z:=
 ⟨k.os.trans h.os,k.tape.trans h.tape,k.output.trans h.output,aP h.size k.size,fun i hi A=>(k.block i (cK hi h.size) A).trans (h.block i hi A)⟩
def But.of_below{x}(h:an x y):But b x y:=⟨h.os,h.tape,h.output,h.size,fun k A _=>h.block k A⟩
def But.below{x}(h:But b x y)(A:B<=b)(D:B<=x.heap.size):Below B x y:=⟨h.os,h.tape,h.output,h.size,fun k C=>h.block k aj aj⟩
def But.drew{x}(h:But b x y):But b x y.drew:=⟨h.os,h.tape,h.output,h.size,h.block⟩
def But.alloc{x}(h:But b x y)(o):But b x (y.alloc o):=
 h.trans (But.of_below (bj.alloc aD o))
def But.setCell{x}(h:But b x y)(o u):But b x (y.setCell ⟨b,o,none⟩ u):=
 h.trans ⟨rfl,rfl,rfl,by simp [World.setCell],fun k C A=>dN _ _ _ _ (by simpa using A)⟩
def But.setNew{x}(h:But b x y){a}(ha:x.heap.size<=a.block)(u):But b x (y.setCell a u):=
 ⟨h.os,h.tape,h.output,aP h.size M7,fun k C A=>(dN _ _ _ _ aj).trans (h.block k C A)⟩
def But.cell{x}(h:But b x y){a}(ha:a.block<x.heap.size)(A:a.block≠b):y.cell? a=x.cell? a:=ji (w:=x) (h.block a.block ha A)
structure Rd(w:af)(b:Nat)(s:ae)(p:Nat)(t:ae)(d:Nat):Prop where
 blk:w.heap[b]? =some (.cells #[.string s,.int .i64 p,.string t,.int .i64 d] 140)
variable {s:ae}
def Rd.lt{t}(h:Rd w b s p t d):b<w.heap.size:=by
 rcases gh b w.heap.size with k|k
 ·exact k
 have:=h.blk;rw [Array.getElem?_eq_none k] at this;cases this
def Rd.c0{t}(h:Rd w b s p t d):w.cell? ⟨b,0,none⟩=some (.string s):=by simp [World.cell?,h.blk]
def Rd.c1{t}(h:Rd w b s p t d):w.cell? ⟨b,1,none⟩=some (.int .i64 p):=by simp [World.cell?,h.blk]
def Rd.c2{t}(h:Rd w b s p t d):w.cell? ⟨b,2,none⟩=some (.string t):=by simp [World.cell?,h.blk]
def Rd.c3{t}(h:Rd w b s p t d):w.cell? ⟨b,3,none⟩=some (.int .i64 d):=by simp [World.cell?,h.blk]
def Rd.fz{t}(h:Rd w b s p t d)(o):w.frozen? ⟨b,o,none⟩=false:=by simp [World.frozen?,h.blk]
variable {w':af}
def Rd.of_block{t}(h:Rd w b s p t d)(e:w'.heap[b]? =w.heap[b]?):Rd w' b s p t d:=⟨e.trans h.blk⟩
def Rd.below{t}(h:Rd w b s p t d)(k:an w w'):Rd w' b s p t d:=h.of_block (k.block b h.lt)
def Rd.drew{t}(h:Rd w b s p t d):Rd w.drew b s p t d:=⟨h.blk⟩
def Rd.alloc{t}(h:Rd w b s p t d)(o):Rd (w.alloc o) b s p t d:=h.below (bj.alloc aD o)
def fS{o c}{f:Nat×Nat}(u)(h:w.heap[b]? =some (.cells c T f)):
  (w.setCell ⟨b,o,none⟩ u).heap[b]? =some (.cells (c.setIfInBounds o u) T f):=by
 simp [World.setCell,Array.getElem?_modify,h]
def Rd.now{t}(h:Rd w b s p t d)(A:Nat)(t'):
  Rd ((w.setCell ⟨b,1,none⟩ (.int .i64 A)).setCell ⟨b,2,none⟩ (.string t')) b s A t' d:=by
 refine ⟨?_⟩;rw [fS _ (fS _ h.blk)]
 rfl
def aE(w:af)(g:Nat)(cs:Array ag)(T:TypeId):Prop:=w.heap[g]? =some (.cells cs T)
def aE.new(w:af)(cs:Array ag)(T:TypeId):aE (w.alloc (.cells cs T)) w.heap.size cs T:=by
 show (w.heap.push _)[w.heap.size]? =_
 simp
variable {cs:Array ag}
def aE.lt(h:aE w g cs T):g<w.heap.size:=by
 rcases gh g w.heap.size with k|k
 ·exact k
 unfold aE at h;rw [Array.getElem?_eq_none k] at h;cases h
def aE.below(h:aE w g cs T)(k:an w w'):aE w' g cs T:=(k.block g h.lt).trans h
def aE.but(h:aE w g cs T)(k:But b w w')(A:g≠b):aE w' g cs T:=(k.block g h.lt A).trans h
def aE.alloc(h:aE w g cs T)(o):aE (w.alloc o) g cs T:=h.below (bj.alloc aD o)
def aE.drew(h:aE w g cs T):aE w.drew g cs T:=h
def aE.other(h:aE w g cs T){a}(ha:g≠a.block)(u):aE (w.setCell a u) g cs T:=(dN _ _ _ _ ha).trans h
def aE.set(h:aE w g cs T)(o u):aE (w.setCell ⟨g,o,none⟩ u) g (cs.setIfInBounds o u) T:=fS u h
variable {v:ag}
def aE.cell(h:aE w g cs T){o}(A:cs[o]? =some v):w.cell? ⟨g,o,none⟩=some v:=by unfold aE at h;simp [World.cell?,h,A]
def aE.fz(h:aE w g cs T)(o):w.frozen? ⟨g,o,none⟩=false:=by unfold aE at h;simp [World.frozen?,h]
def dz(s:ae)(k:Nat):Nat:=skip (bJ s) k
def cD(s:ae)(k:Nat):ae:=mk (iN (bJ s) (skip (bJ s) k))
def Ut(l k)(h:k<=l.length):skip l k<=l.length:=by
 unfold skip;have:=(List.takeWhile_sublist dX (l:=l.drop k)).length_le;rw [m2] at this;omega
def ul(l p)(h:p<=l.length):p+(iN l p).length<=l.length:=by
 unfold iN;have:=uk (l.drop p);rw [dO,m2] at*;omega
def Iz(l):(mk l).size=l.length:=by simp [mk,ByteArray.size]
def m3(s k)(h:k<=s.size):dz s k+(cD s k).size<=s.size:=by
 unfold dz cD;rw [Iz,<-bh];rw [<-bh] at h;exact ul _ _ (Ut _ _ h)
def M9(n w):Calls prog 76 #[.int .i64 n] w fun e w'=>e=.returned (.int .i64 n)/\w'=w:=by
 go_enter func76,ntmps76;go_wp2;go_ret;exact ⟨rfl,rfl⟩
def oL(s)(k:Nat)(a:Int)(w)(hs:s.size<=maxLen)(ha:k<=s.size)(h:a=(k:Int)):
  Calls prog 71 #[.string s,.int .i64 a] w fun e w'=>e=.returned (.agg #[.int .i64 (dz s k),.string (cD s k)])/\an w w':=by
 subst h;exact xm s k w hs ha
attribute [local go_sem ↓] Go.wp_at_zero Go.wp_at_succ
def Na(b s p t d w)(hs:s.size<=maxLen)(h:Rd w b s p t d)(J:p+t.size<=s.size):
  Calls prog 220 #[.pointer (some ⟨b,0,none⟩)] w fun e w'=>e=.returned (.tuple #[])/\Rd w' b s (dz s (p+t.size)) (cD s (p+t.size)) d/\But b w w':=by
 have I:=ai hs;unfold maxLen at hs;have H:=ai h;have h0:=h.c0;have h1:=h.c1;have h2:=h.c2;have Q:IntKind.i64.wrap ((p:Int)+(t.size:Int))=(p:Int)+(t.size:Int):=IntWalk.i64_in _ ⟨aj,aj⟩;go_enter func220,ntmps220;go_wp2
 go_region_with
  (first|(go_at_call 76;refine (M9 _ _).mono ?_;rintro e w' ⟨rfl,rfl⟩)|(go_at_call 71;refine (oL s (p+t.size) _ _ I.u J ?_).mono ?_;(omega);rintro e w' ⟨rfl,C⟩;have A:=H.u.drew.below C;have k0:=A.c0;have k1:=A.c1;have R:=A.c2;have U:=A.fz;have D:=ai A))
 all_goals (go_end0;exact ⟨rfl,D.u.now _ _,(((But.refl b w).drew.trans (But.of_below C)).setCell 1 _).setCell 2 _⟩)
abbrev jk:=@List.any_eq_false
abbrev dk:=@List.getElem_of_mem
abbrev ef:=@List.getD_eq_getElem?_getD
abbrev aH:=@ac
abbrev cX:=@List.any_eq_true
abbrev bn:=@List.getElem_mem
def eqs(a b:ae):Bool:=bJ a==bJ b
def gw(t:ae)(l:List ae):Bool:=l.any fun x=>eqs t x
def B9(t l)(h:∀j,j<l.length->eqs t (l.getD j ByteArray.empty)=false):gw t l=false:=by
 unfold gw;rw [jk];intro x C;obtain ⟨j,A,rfl⟩:=dk C;have:=h j A;simp [ef,aH A] at this;simp [this]
def E4(t l j)(A:j<l.length)(h:eqs t (l.getD j ByteArray.empty)=true):gw t l=true:=by
 unfold gw;rw [cX];refine ⟨l[j],bn _,?_⟩
 simpa [ef,aH A] using h
def Ko(g cap l t w)(ac:l.length<=maxLen)(U:∀i,i<l.length->w.cell? ⟨g,i,none⟩=some (.string (l.getD i ByteArray.empty))):
  Calls prog 219 #[.slice (some ⟨g,0,none⟩) l.length cap,.string t] w fun e w'=>(∃n:Int,e=.returned (.int .i64 n)/\decide (0<=n)=gw t l)/\w'=w:=by
 unfold maxLen at ac;generalize R:l.length=N at*;have J:=ai R;clear R;generalize D:(fun i=>l.getD i ByteArray.empty)=L at*;have I:=ai D;have ad:∀i,i<N->w.cell? ⟨g,i,none⟩=some (.string (L i)):=fun i hi=>by rw [U i hi,<-D]
 clear U D;go_enter func219,ntmps219;go_wp2
 go_loop [5,8] (fun u i=>∃k:Nat,k<=N/\i=.int .i64 k/\Hid (∀j,j<k->eqs t (L j)=false)) (fun _ i=>N-(intOf i).toNat)
 case atStart=>exact ⟨0,aj,rfl,ai (fun j h=>aj)⟩
 case round=>
  obtain ⟨k,ae,rfl,Q⟩:=hrel
  by_cases ab:k<N
  ·cases A:eqs t (L k)
   ·have Y:(t.toList==(L k).toList)=false:=by rw [aO,aO];exact A
    have V:=ai (show ∀j,j<k+1->eqs t (L j)=false from fun j h=>by
     by_cases e:j=k
     ·rw [e,A]
     exact ak Q j aj)
    go_wp2
    go_round
    case rel=>exact ⟨k+1,aj,by go_num,V⟩
    case measure=>simp [intOf];omega
   have Y:(t.toList==(L k).toList)=true:=by rw [aO,aO];exact A
   have C:=ai (E4 t l k (by rw [J.u];exact ab) (by have this:l.getD k ByteArray.empty=L k:=congrFun I.u k;rw [this];exact A));go_wp2;go_ret;exact ⟨⟨k,rfl,by rw [C.u];simp⟩,rfl⟩
  have C:=ai (B9 t l (fun j Z=>by have this:l.getD j ByteArray.empty=L j:=congrFun I.u j;rw [this];exact ak Q j (by rw [J.u] at Z;omega)));go_wp2;go_ret;exact ⟨⟨-1,rfl,by rw [C.u];decide⟩,rfl⟩
def zN(g cap l t w)(A:l.length<=maxLen)(D:∀i,i<l.length->w.cell? ⟨g,i,none⟩=some (.string (l.getD i ByteArray.empty))):
  Calls prog 168 #[.slice (some ⟨g,0,none⟩) l.length cap,.string t] w fun e w'=>e=.returned (.bool (gw t l))/\w'=w:=by
 have h:=Ko g cap l t w A D;have H:=ai h;go_enter func168,ntmps168;go_wp2_with fail;refine H.u.mono ?_;rintro e w' ⟨⟨n,rfl,A⟩,rfl⟩;have C:=ai A;go_wp2;go_ret;exact ⟨by rw [<-C.u];rfl,rfl⟩
def zO(b s p t d g cap l w)(h:Rd w b s p t d)(C:l.length<=maxLen)(A:∀i,i<l.length->w.cell? ⟨g,i,none⟩=some (.string (l.getD i ByteArray.empty))):
  Calls prog 113 #[.pointer (some ⟨b,0,none⟩),.slice (some ⟨g,0,none⟩) l.length cap] w fun e w'=>e=.returned (.bool (gw t l))/\w'=w:=by
 have H:=ai (zN g cap l t w C A);have h2:=h.c2;go_enter func113,ntmps113;go_wp2_with fail;refine H.u.mono ?_;rintro e w' ⟨rfl,rfl⟩;go_wp2;go_ret;exact ⟨rfl,rfl⟩
abbrev m4:=@decide_eq_true
abbrev m5:=@decide_eq_false
abbrev cm:=@World.new_ne
abbrev uo:Array ag:=#[.int .i64 0,.string ⟨#[]⟩]
abbrev kN(a0:Int)(a1:ae):Array ag:=#[.int .i64 a0,.string a1]
def aaA (h:aA:=by
 simp [results,results221,go_sem,IA,cj,hcb]):aA:=h
def dl(t:ae):Bool:=match bJ t with
 | []=>false
 |c::r=>letter c.toNat&& !(c::r== [116,121,112,101])
def next(s:ae)(k:Nat):Nat:=dz s k+(cD s k).size
def cj(c:Nat):ag:=.iface 134 (.int .i64 c)
structure qd(w:af)(b:Nat)(s:ae)(k d:Nat):Prop where
 rd:Rd w b s (dz s k) (cD s k) d
 le:k<=s.size
def qd.of_rd(h:Rd w b s (dz s (next s k)) (cD s (next s k)) d)(A:k<=s.size):qd w b s (next s k) d:=⟨h,m3 s k A⟩
def qd.below(h:qd w b s k d)(A:an w w'):qd w' b s k d:=⟨h.rd.below A,h.le⟩
def qd.alloc(h:qd w b s k d)(o):qd (w.alloc o) b s k d:=⟨h.rd.alloc o,h.le⟩
def qd.drew(h:qd w b s k d):qd w.drew b s k d:=⟨h.rd.drew,h.le⟩
def qd.setNew(h:qd w b s k d){a}(ha:a.block≠b)(u):qd (w.setCell a u) b s k d:=
 ⟨h.rd.of_block (dN _ _ _ _ (Ne.symm ha)),h.le⟩
def uq(b s k d w)(hs:s.size<=maxLen)(h:qd w b s k d):
  Calls prog 220 #[.pointer (some ⟨b,0,none⟩)] w fun e w'=>e=.returned (.tuple #[])/\qd w' b s (next s k) d/\But b w w':=by
 refine (Na b s _ _ d w hs h.rd (m3 s k h.le)).mono ?_;rintro e w' ⟨rfl,h1,h2⟩;exact ⟨rfl,qd.of_rd h1 h.le,h2⟩
def Yc(t):dl t=(decide ((0:Int)<(kz (bJ t):Nat))&& !(t.toList== [116,121,112,101])):=by
 rw [aO];unfold dl
 cases bJ t with
 |nil=>rfl
 |cons c r=>
  simp only [kz]
  by_cases hc:letter c.toNat=true
  rotate_left
  ·simp [hc]
  simp only [hc,if_true];rw [show decide ((0:Int)<((1+(r.takeWhile dg).length:Nat):Int))=true from m4 aj]
def qg(s k)(hs:s.size<=maxLen)(h:k<=s.size):(cD s k).size<=maxLen:=by
 have:=m3 s k h;unfold maxLen at*;omega
def lV(p t w)(A:t.size<=maxLen):
  Calls prog 171 #[.agg #[.int .i64 p,.string t]] w fun e w'=>e=.returned (.bool (dl t))/\an w w':=by
 have C:=ai A;have h:=ai (Yc t);generalize hn:kz (bJ t)=n at h;have D:=ai hn
 by_cases h0:(0:Int)<(n:Int)
 ·rw [m4 h0] at h
  cases A:(t.toList== [116,121,112,101])
  all_goals
   rw [A] at h;go_enter func171,ntmps171;go_wp2_with (go_at_call 144;refine (mZ _ _ C.u).mono ?_;rintro e w' ⟨rfl,rfl⟩;rw [D.u]);go_ret;exact ⟨by rw [ak h];rfl,bj.alloc aD _⟩
 ·rw [m5 h0] at h;go_enter func171,ntmps171;go_wp2_with (go_at_call 144;refine (mZ _ _ C.u).mono ?_;rintro e w' ⟨rfl,rfl⟩;rw [D.u]);go_ret;exact ⟨by rw [ak h];rfl,bj.alloc aD _⟩
def at1(b s k d g cap x w)(h:qd w b s k d)(A:w.cell? ⟨g,0,none⟩=some (.string x)):
  Calls prog 113 #[.pointer (some ⟨b,0,none⟩),.slice (some ⟨g,0,none⟩) 1 cap] w fun e w'=>e=.returned (.bool (eqs (cD s k) x))/\w'=w:=
 (zO b s _ _ d g cap [x] w h.rd (by simp [maxLen]) (fun i hi=>by
  have e:i=0:=by simp at hi;exact hi
  subst e;exact A)).mono fun e w' ⟨h1,h2⟩=>⟨by rw [h1];simp [gw],h2⟩
def Nb(b s k d x w)(hs:s.size<=maxLen)(h:qd w b s k d)(I:eqs (cD s k) x=true):
  Calls prog 169 #[.pointer (some ⟨b,0,none⟩),.string x] w fun e w'=>e=.returned .nilIface/\qd w' b s (next s k) d/\But b w w':=by
 have H:=ai h;have D:=ai hs;go_enter func169,ntmps169;go_wp2_with fail;refine (at1 b s k d _ _ x _ (H.u.alloc _) ar).mono ?_;rintro e w' ⟨rfl,rfl⟩;rw [I];go_wp2_with fail;refine (uq b s k d _ D.u (H.u.alloc _)).mono ?_;rintro e w' ⟨rfl,h1,h2⟩;have A:=ai h1;have C:=ai (((But.refl b w).alloc _).trans h2);go_wp2;go_ret;exact ⟨rfl,A.u,C.u⟩
def Uu(b s k d x w)(h:qd w b s k d)(A:eqs (cD s k) x=false):
  Calls prog 169 #[.pointer (some ⟨b,0,none⟩),.string x] w fun e w'=>e=.returned (cj 2)/\qd w' b s k d/\an w w':=by
 have H:=ai h;go_enter func169,ntmps169;go_wp2_with fail;refine (at1 b s k d _ _ x _ (H.u.alloc _) ar).mono ?_;rintro e w' ⟨rfl,rfl⟩;rw [A];go_wp2;go_ret;exact ⟨rfl,H.u.alloc _,bj.alloc aD _⟩
def xn(s:ae)(k:Nat):ag:=.agg #[.int .i64 (dz s k),.string (cD s k)]
def IA:ag:=.agg #[.int .i64 0,.string ⟨#[]⟩]
def Kq(b s k d w)(hs:s.size<=maxLen)(h:qd w b s k d)(I:dl (cD s k)=false):
  Calls prog 221 #[.pointer (some ⟨b,0,none⟩)] w fun e w'=>e=.returned (.tuple #[IA,cj 2])/\qd w' b s k d/\an w w':=by
 have H:=ai h;have D:=ai (qg s k hs h.le);have h1:=h.rd.c1;have h2:=h.rd.c2;have Q:=h.rd.lt;go_enter func221,ntmps221;go_wp2_with (go_at_call 171;refine (lV _ _ _ D.u).mono ?_;rintro e w' ⟨rfl,C⟩;rw [I];obtain ⟨hcb,J⟩:=M8 C);have A:an w w':=(bj.alloc aD _).trans (C.mono ar);exact bq (v:=.tuple #[IA,cj 2]) aaA rfl ⟨rfl,((H.u.below A).setNew aM _).setNew aM _,(A.setCell ar _).setCell ar _⟩
def Kr(b s k d w)(hs:s.size<=maxLen)(h:qd w b s k d)(I:dl (cD s k)=true)(Q:8<(cD s k).size):
  Calls prog 221 #[.pointer (some ⟨b,0,none⟩)] w fun e w'=>e=.returned (.tuple #[IA,cj 3])/\qd w' b s k d/\an w w':=by
 have H:=ai h;have D:=ai (qg s k hs h.le);have h1:=h.rd.c1;have h2:=h.rd.c2;have U:=h.rd.lt;have R:(8:Int)<((cD s k).size:Int):=aj;go_enter func221,ntmps221;go_wp2_with (go_at_call 171;refine (lV _ _ _ D.u).mono ?_;rintro e w' ⟨rfl,C⟩;rw [I];obtain ⟨hcb,J⟩:=M8 C);have A:an w w':=(bj.alloc aD _).trans (C.mono ar);exact bq (v:=.tuple #[IA,cj 3]) aaA rfl ⟨rfl,((H.u.below A).setNew aM _).setNew aM _,(A.setCell ar _).setCell ar _⟩
def Uv(b s k d w)(hs:s.size<=maxLen)(h:qd w b s k d)(af:dl (cD s k)=true)(am:(cD s k).size<=8):
  Calls prog 221 #[.pointer (some ⟨b,0,none⟩)] w fun e w'=>e=.returned (.tuple #[xn s k,.nilIface])/\qd w' b s (next s k) d/\But b w w':=by
 have H:=ai h;have Y:=ai (qg s k hs h.le);have Z:=ai hs;clear hs;have h1:=h.rd.c1;have h2:=h.rd.c2;have Q:=h.rd.lt;have ap:((cD s k).size:Int)<=(8:Int):=aj;clear h;go_enter func221,ntmps221;go_wp2_with (go_at_call 171;refine (lV _ _ _ Y.u).mono ?_;rintro e w' ⟨rfl,C⟩;rw [af];obtain ⟨ae,ag⟩:=M8 C);have A:an w w':=(bj.alloc aD _).trans (C.mono ar);have au:w.heap.size<w'.heap.size:=by have:=C.size;simp at this;omega
 have k1:w'.cell? ⟨b,1,none⟩=some (.int .i64 (dz s k)):=(A.cell Q).trans h1;have R:w'.cell? ⟨b,2,none⟩=some (.string (cD s k)):=(A.cell Q).trans h2;have V:=ai A;have ab:=ai (H.u.below A);have ad:=ai ((aE.new w uo 107).below C);clear ae ag C A h1 h2;have n1:=cm w' _ k1;have n2:=cm w' _ R
 go_region_held3 (fun w'=>w'.cell? ⟨b,1,none⟩=some (.int .i64 (dz s k))/\w'.cell? ⟨b,2,none⟩=some (.string (cD s k))) (go_keep) (fail)
 rename_i ah;clear ah;go_wp2_with fail;refine (uq b s k d _ Z.u (ab.u.alloc _).drew).mono ?_;rintro e ax ⟨rfl,p2,I⟩;have ac:=ai p2;have U:=ai ((But.of_below (b:=b) V.u).trans (((But.refl b w').alloc _).drew.trans I));have J:=(aE.new w' (kN (dz s k) (cD s k)) 107).drew.but I aj;have D:=(ad.u.alloc _).drew.but I aj;have av:=J.cell (o:=0) rfl;have aw:=J.cell (o:=1) rfl;have ak:=D.cell (o:=0) rfl;have al:=D.cell (o:=1) rfl;have ay:=D.fz;clear p2 I k1 R n1 n2 J D;go_wp2;exact bq (v:=.tuple #[xn s k,.nilIface]) (by simp [results,results221,go_sem,xn,ak,al]) rfl ⟨rfl,(ac.u.setNew aM _).setNew aM _,(U.u.setNew ar _).setNew ar _⟩
abbrev dA:=@beq_iff_eq
abbrev aV:=@if_false
def Nc (h:aA:=by
 rintro e w' ⟨rfl,h1,h2⟩;exact ⟨But.of_below h2,IA,d,rfl,rfl,h1,h.good⟩):aA:=h
structure Gr where
 ty:ae
 tp:Nat
 reach:Nat
 rel:ae
 rp:Nat
structure Nd where
 kind:Nat
 place:Nat
 n1:ae
 p1:Nat
 n2:ae
 p2:Nat
 gs:List Gr
structure Ex where
 nd:Nd
 l:Option Ex
 r:Option Ex
structure Rl where
 name:ae
 place:Nat
 body:Ex
structure Ty where
 name:ae
 place:Nat
 rels:List Rl
abbrev eI(α:Type):=Except (Nat×Nat) (α×Nat)
def em:ae:=⟨#[]⟩
def sg(c:UInt8):ae:=⟨#[c]⟩
def jA:ae:=⟨#[116,121,112,101]⟩
section
variable (T:Nat->ae)(P:Nat->Nat)
def dh(i:Nat):eI Unit:=if dl (T i) then (if 8<(T i).size then .error (3,i) else .ok ((),i+1)) else .error (2,i)
def bZ(x:ae)(i:Nat):eI Unit:=match dh T i with
 | .error e=> .error e
 | .ok (_,j)=>if eqs (T j) x then .ok ((),j+1) else .error (2,j)
def dY(i:Nat):eI Gr:=match dh T i with
 | .error e=> .error e
 | .ok (_,j)=>if eqs (T j) (sg 42) then .ok (⟨T i,P i,1,em,0⟩,j+1)
  else if eqs (T j) (sg 35) then (match dh T (j+1) with
   | .error e=> .error e
   | .ok (_,m)=> .ok (⟨T i,P i,2,T (j+1),P (j+1)⟩,m))
  else .ok (⟨T i,P i,0,em,0⟩,j)
def dZ:Nat->List Gr->Nat->eI (List Gr)
 |0,_,i=> .error (0,i)
 |f+1,acc,i=>match dY T P (i+1) with
  | .error e=> .error e
  | .ok (g,j)=>if eqs (T j) (sg 44) then dZ f (acc++[g]) j
   else if eqs (T j) (sg 93) then .ok (acc++[g],j+1) else .error (2,j)
def IB(i:Nat)(gs:List Gr):Ex:=⟨⟨0,P i,em,0,em,0,gs⟩,none,none⟩
def lw(i:Nat):eI Ex:=match dZ T P 512 [] i with
 | .error e=> .error e
 | .ok (gs,j)=> .ok (IB P i gs,j)
def jl(i:Nat):eI Ex:=match dh T i with
 | .error e=> .error e
 | .ok (_,j)=>if eqs (T j) (sg 46) then (match dh T (j+1) with
   | .error e=> .error e
   | .ok (_,m)=> .ok (⟨⟨2,P i,T i,P i,T (j+1),P (j+1),[]⟩,none,none⟩,m))
  else .ok (⟨⟨1,P i,T i,P i,em,0,[]⟩,none,none⟩,j)
def eR(A:Bool)(h:Nat->eI Ex)(i:Nat):eI Ex:=
 if eqs (T i) (sg 91) then lw T P i
 else if eqs (T i) (sg 40) then
  (if A then (match h (i+1) with
   | .error e=> .error e
   | .ok (x,j)=>if eqs (T j) (sg 41) then .ok (x,j+1) else .error (2,j))
  else .error (3,i))
 else jl T P i
def kindOf(t:ae):Nat:=if eqs t (sg 124) then 3 else if eqs t (sg 38) then 4 else 5
def fU(t:ae)(p:Nat)(x y:Ex):Ex:=⟨⟨kindOf t,p,em,0,em,0,[]⟩,some x,some y⟩
def joinL(signs:List ae)(part:Nat->eI Ex):Nat->Ex->Nat->eI Ex
 |0,_,i=> .error (0,i)
 |f+1,x,i=>if gw (T i) signs then (match part (i+1) with
   | .error e=> .error e
   | .ok (y,j)=>joinL signs part f (fU (T i) (P i) x y) j)
  else .ok (x,i)
def fe(signs:List ae)(part:Nat->eI Ex)(i:Nat):eI Ex:=match part i with
 | .error e=> .error e
 | .ok (x,j)=>joinL T P signs part 512 x j
def hE(A:Bool)(h:Nat->eI Ex)(i:Nat):eI Ex:=fe T P [sg 38,sg 45] (eR T P A h) i
def fp:Nat->Nat->eI Ex
 |0,i=>fe T P [sg 124] (hE T P false (fun _=> .error (0,0))) i
 |n+1,i=>fe T P [sg 124] (hE T P true (fp n)) i
def lW(i:Nat):eI Rl:=match bZ T (sg 58) i with
 | .error e=> .error e
 | .ok (_,j)=>match fp T P 4 j with
  | .error e=> .error e
  | .ok (x,m)=>if eqs (T m) (sg 59) then .ok (⟨T i,P i,x⟩,m+1) else .error (2,m)
def dv:Nat->List Rl->Nat->eI (List Rl)
 |0,_,i=> .error (0,i)
 |f+1,acc,i=>if eqs (T i) (sg 125) then .ok (acc,i+1)
  else if dl (T i)&&acc.length==6 then .error (3,i)
  else match lW T P i with
   | .error e=> .error e
   | .ok (r,j)=>dv f (acc++[r]) j
def ly(i:Nat):eI Ty:=if eqs (T i) jA then (match bZ T (sg 123) (i+1) with
  | .error e=> .error e
  | .ok (_,j)=>match dv T P 512 [] j with
   | .error e=> .error e
   | .ok (rs,m)=> .ok (⟨T (i+1),P (i+1),rs⟩,m))
 else .error (2,i)
def cS:Nat->List Ty->Nat->eI (List Ty)
 |0,_,i=> .error (0,i)
 |f+1,acc,i=>if eqs (T i) em then .ok (acc,i)
  else if eqs (T i) jA&&acc.length==5 then .error (3,i)
  else match ly T P i with
   | .error e=> .error e
   | .ok (t,j)=>cS f (acc++[t]) j
def eg:eI (List Ty):=cS T P 512 [] 0
end
def K(s:ae):Nat->Nat
 |0=>0
 |i+1=>next s (K s i)
def TT(s:ae)(i:Nat):ae:=cD s (K s i)
def PP(s:ae)(i:Nat):Nat:=dz s (K s i)
structure At(w:af)(b:Nat)(s:ae)(i d:Nat):Prop where
 pos:qd w b s (K s i) d
 good:i<=K s i
variable {w:af} {s:ae}
def At.le(h:At w b s i d):i<=s.size:=aP h.good h.pos.le
variable {w':af}
def At.below(h:At w b s i d)(k:an w w'):At w' b s i d:=⟨h.pos.below k,h.good⟩
def At.alloc(h:At w b s i d)(o):At (w.alloc o) b s i d:=⟨h.pos.alloc o,h.good⟩
def At.drew(h:At w b s i d):At w.drew b s i d:=⟨h.pos.drew,h.good⟩
def At.setNew(h:At w b s i d){a}(ha:a.block≠b)(u):At (w.setCell a u) b s i d:=⟨h.pos.setNew ha u,h.good⟩
def At.lt(h:At w b s i d):b<w.heap.size:=h.pos.rd.lt
def At.grown(h:At w b s i d)(k:w.grownBy w' row)(A:some b≠row):At w' b s i d:=⟨⟨h.pos.rd.of_block (k.block b h.lt A),h.pos.le⟩,h.good⟩
def IC(l k):k<=skip l k:=by unfold skip;omega
def Ks(h:i<=K s i)(A:0<(TT s i).size):i+1<=K s (i+1):=by
 show i+1<=dz s (K s i)+(cD s (K s i)).size
 have:=IC (bJ s) (K s i);unfold TT at A;unfold dz;omega
def At.next(h:qd w b s (next s (K s i)) d)(A:i<=K s i)(C:0<(TT s i).size):At w b s (i+1) d:=⟨h,Ks A C⟩
def Ca{t}(h:dl t=true):0<t.size:=by
 rw [<-bh];unfold dl at h;generalize bJ t=l at*
 cases l with
 |nil=>simp at h
 |cons c r=>simp
variable {x:ae}
def df{t}(h:eqs t x=true)(A:0<(bJ x).length):0<t.size:=by
 rw [<-bh];unfold eqs at h;rw [dA] at h;rw [h];exact A
def IsI(v:ag):Prop:=v=.nilIface\/∃t x,v=.iface t x
def Post{α:Type}(b:Nat)(s:ae)(d:Nat)(w:af)(r:eI α)(rep:af->α->ag->Prop)(bad:ag->Prop)(e:Ending)(w':af):Prop:=
 But b w w'/\match r with
  | .ok (x,j)=>∃v,e=.returned (.tuple #[v,.nilIface])/\rep w' x v/\At w' b s j d
  | .error (c,j)=>∃v d',e=.returned (.tuple #[v,cj c])/\bad v/\At w' b s j d'
def et(b s i d w)(hs:s.size<=maxLen)(h:At w b s i d):
  Calls prog 221 #[.pointer (some ⟨b,0,none⟩)] w (Post b s d w (dh (TT s) i) (fun _ _ v=>v=xn s (K s i)) (fun v=>v=IA)):=by
 unfold dh
 cases hn:dl (TT s i)
 ·refine (Kq b s (K s i) d w hs h.pos hn).mono ?_;exact Nc
 ·by_cases hl:8<(TT s i).size
  ·simp only [hl,if_true];refine (Kr b s (K s i) d w hs h.pos hn hl).mono ?_;exact Nc
  simp only [hl,if_true,aV];refine (Uv b s (K s i) d w hs h.pos hn (by unfold TT at hl;omega)).mono ?_;rintro e w' ⟨rfl,h1,h2⟩;exact ⟨h2,_,rfl,rfl,At.next h1 h.good (Ca hn)⟩
def oM (h:aA:=by
 first|omega|(simp;omega)|simp):aA:=h
def cd{a b c:af}(h:Hid (Below B a b))(k:Below B a b->Below B a c:=by intro h;with_reducible repeat (first|exact h|refine Below.drew ?_|(refine Below.setCell ?_ ?_ _;rotate_left;exact oM)|(refine Below.alloc ?_ ?_ _;rotate_left;exact oM))):Below B a c:=k (ak h)
variable {cs:Array ag}
def cM{a b:af}{ds:Array ag}(h:Hid (aE a g cs T))(k:aE a g cs T->aE b g ds T:=by intro h;with_reducible repeat (first|exact h|apply aE.alloc|apply aE.drew|apply aE.set|(apply aE.other;case ha=>exact oM))):aE b g ds T:=k (ak h)
def eu{a b c:af}(h:Hid (But B a b))(k:But B a b->But B a c:=by intro h;with_reducible repeat (first|exact h|refine But.alloc ?_ _|refine But.drew ?_|(refine But.setNew ?_ ?_ _;rotate_left;exact oM))):But B a c:=k (ak h)
def ID{a b c:af}(h:Hid (But B a b))(k:But B a b->But B a c:=by intro h;with_reducible repeat (first|exact h|refine But.alloc ?_ _|refine But.drew ?_|refine But.setCell ?_ _ _|(refine But.setNew ?_ ?_ _;rotate_left;exact oM))):But B a c:=k (ak h)
def hA{a b:af}(h:Hid (At a g s i d))(k:At a g s i d->At b g s i d:=by intro h;with_reducible repeat (first|exact h|refine At.alloc ?_ _|refine At.drew ?_|(refine At.setNew ?_ ?_ _;rotate_left;exact oM))):At b g s i d:=k (ak h)
abbrev E6:Obj:=.cells #[.int .i64 0,.string ⟨#[]⟩] 107
def aw (h:aA:=by
 kernel_rfl):aA:=h
def Ux(v:ag):Prop:=∃(p:Nat)(t:ae),v=.agg #[.int .i64 p,.string t]
def aE.two{x y}(h:aE w g #[x,y] T):w.cell? ⟨g,0,none⟩=some x/\w.cell? ⟨g,1,none⟩=some y:=⟨h.cell rfl,h.cell rfl⟩
def aE.three{x y z}(h:aE w g #[x,y,z] T):w.cell? ⟨g,0,none⟩=some x/\w.cell? ⟨g,1,none⟩=some y/\w.cell? ⟨g,2,none⟩=some z:=⟨h.cell rfl,h.cell rfl,h.cell rfl⟩
variable {v:ag}
def aE.five{x y z u}(h:aE w g #[x,y,z,u,v] T):w.cell? ⟨g,0,none⟩=some x/\w.cell? ⟨g,1,none⟩=some y/\w.cell? ⟨g,2,none⟩=some z/\w.cell? ⟨g,3,none⟩=some u/\w.cell? ⟨g,4,none⟩=some v:=⟨h.cell rfl,h.cell rfl,h.cell rfl,h.cell rfl,h.cell rfl⟩
def zP{P fn p u ty}(h:fn.results=#[.cell p ty,.tmp u])(tmps w g cs t e d)(D:tmps.getD p undef=.pointer (some ⟨g,0,none⟩))(I:tmps.getD u undef=e)(A:aE w g cs t)(J:P.underlying ty=some d)(C:(match d with| .struct _| .array _ _=>true|_=>false)=true)(hi:(P.info? ty).map (·.size)=some cs.size):
  (results fn tmps).run P w=.ok (.tuple #[.agg cs,e]) w:=by
 rw [results_cell_tmp h,D,I];simp [asAddr,run_loadVar_row w g t ty cs (0,0) d A J C hi]
def ix(b s i d x w)(hs:s.size<=maxLen)(h:At w b s i d)(A:eqs (TT s i) x=true)(C:0<(bJ x).length):
  Calls prog 169 #[.pointer (some ⟨b,0,none⟩),.string x] w fun e w'=>e=.returned .nilIface/\At w' b s (i+1) d/\But b w w':=by
 refine (Nb b s (K s i) d x w hs h.pos A).mono ?_;rintro e w' ⟨rfl,h1,h2⟩;exact ⟨rfl,At.next h1 h.good (df A C),h2⟩
def nf(b s i d x w)(h:At w b s i d)(A:eqs (TT s i) x=false):
  Calls prog 169 #[.pointer (some ⟨b,0,none⟩),.string x] w fun e w'=>e=.returned (cj 2)/\At w' b s i d/\But b w w':=by
 refine (Uu b s (K s i) d x w h.pos A).mono ?_;rintro e w' ⟨rfl,h1,h2⟩;exact ⟨rfl,⟨h1,h.good⟩,But.of_below h2⟩
def steps(b s i d w)(hs:s.size<=maxLen)(h:At w b s i d)(A:0<(TT s i).size):
  Calls prog 220 #[.pointer (some ⟨b,0,none⟩)] w fun e w'=>e=.returned (.tuple #[])/\At w' b s (i+1) d/\But b w w':=by
 refine (uq b s (K s i) d w hs h.pos).mono ?_;rintro e w' ⟨rfl,h1,h2⟩;exact ⟨rfl,At.next h1 h.good A,h2⟩
def ats(b s i d g cap x w)(h:At w b s i d)(A:w.cell? ⟨g,0,none⟩=some (.string x)):
  Calls prog 113 #[.pointer (some ⟨b,0,none⟩),.slice (some ⟨g,0,none⟩) 1 cap] w fun e w'=>e=.returned (.bool (eqs (TT s i) x))/\w'=w:=
 at1 b s (K s i) d g cap x w h.pos A
def zQ(b s i d x w)(hs:s.size<=maxLen)(h:At w b s i d)(c j)(R:dh (TT s) i=.error (c,j)):
  Calls prog 170 #[.pointer (some ⟨b,0,none⟩),.string x] w (Post b s d w (.error (c,j):eI Unit) (fun _ _ v=>v=xn s (K s i)) Ux):=by
 have U:=h.lt;have C:=ai (et b s i d (w.alloc E6) hs (h.alloc _));rw [R] at C;go_enter func170,ntmps170;go_wp2_with fail;refine (ak C).mono ?_;rintro e w1 ⟨b1,v,d',rfl,rfl,Q⟩;have D:=ai Q;have I:=ai (((But.refl b w).alloc _).trans b1);have A:=(aE.new w uo 107).but b1 aj;obtain ⟨Y,Z⟩:=A.two;have z:=A.fz;have V:=A.lt;have J:=ai A;unfold cj IA;go_wp2;exact bq (v:=.tuple #[IA,cj c]) (zP results170 _ _ w.heap.size #[.int .i64 0,.string ⟨#[]⟩] 107 _ _ rfl rfl (((J.u.set 0 _).set 1 _).alloc _) underlying107 rfl aw) rfl
  ⟨((I.u.setNew ar _).setNew ar _).alloc _,IA,d',rfl,⟨0,_,rfl⟩,((D.u.setNew aM _).setNew aM _).alloc _⟩
def zR(b s i d x w)(hs:s.size<=maxLen)(h:At w b s i d)(j)(af:dh (TT s) i=.ok ((),j))(ae:eqs (TT s j) x=true)(ag:0<(bJ x).length):
  Calls prog 170 #[.pointer (some ⟨b,0,none⟩),.string x] w (Post b s d w (.ok ((),j+1):eI Unit) (fun _ _ v=>v=xn s (K s i)) Ux):=by
 have ah:=h.lt;have ab:=ai hs;have Z:=ai ae;have C:=ai (et b s i d (w.alloc E6) hs (h.alloc _));rw [af] at C;go_enter func170,ntmps170;go_wp2_with fail;refine (ak C).mono ?_;rintro e w1 ⟨b1,v,rfl,rfl,a1⟩;have J:=ai a1;have R:=ai (((But.refl b w).alloc _).trans b1);have A:=(aE.new w uo 107).but b1 aj;have V:=ai A;obtain ⟨ap,av⟩:=A.two;have am:=A.lt;have al:¬(w.heap.size=w1.heap.size):=aj;unfold xn;go_wp2
 go_region_held3 (fun w'=>w'.cell? ⟨w1.heap.size,0,none⟩=some (.int .i64 (dz s (K s i)))/\w'.cell? ⟨w1.heap.size,1,none⟩=some (.string (cD s (K s i))))
  (go_keep) ((go_at_call 169;refine (ix b s j d x _ ab.u ?_ Z.u ag).mono ?_;(exact (J.u.alloc _).drew);rintro e ay ⟨rfl,ad,I⟩;have ac:=(aE.new w1 (kN (dz s (K s i)) (cD s (K s i))) 107).drew.but I aj;obtain ⟨an,n1⟩:=ac.two;have D:=(V.u.alloc (.cells #[.int .i64 (dz s (K s i)),.string (cD s (K s i))] 107)).drew.but I aj;obtain ⟨au,ax⟩:=D.two;have az:=D.fz;have Y:=ai D;have Q:=ai ad;have U:=ai I))
 go_wp2;exact bq (v:=.tuple #[xn s (K s i),.nilIface]) (zP results170 _ _ w.heap.size #[.int .i64 (dz s (K s i)),.string (cD s (K s i))] 107 _ _ rfl rfl ((Y.u.set 0 _).set 1 _) underlying107 rfl aw) rfl
  ⟨(((R.u.alloc _).drew.trans U.u).setNew ar _).setNew ar _,_,rfl,rfl,(Q.u.setNew aM _).setNew aM _⟩
def Ce(b s i d x w)(hs:s.size<=maxLen)(h:At w b s i d)(j)(ae:dh (TT s) i=.ok ((),j))(ad:eqs (TT s j) x=false):
  Calls prog 170 #[.pointer (some ⟨b,0,none⟩),.string x] w (Post b s d w (.error (2,j):eI Unit) (fun _ _ v=>v=xn s (K s i)) Ux):=by
 have af:=h.lt;have Z:=ai ad;have C:=ai (et b s i d (w.alloc E6) hs (h.alloc _));rw [ae] at C;go_enter func170,ntmps170;go_wp2_with fail;refine (ak C).mono ?_;rintro e w1 ⟨b1,v,rfl,rfl,a1⟩;have J:=ai a1;have R:=ai (((But.refl b w).alloc _).trans b1);have A:=(aE.new w uo 107).but b1 aj;have V:=ai A;obtain ⟨am,ap⟩:=A.two;have ah:=A.lt;have ag:¬(w.heap.size=w1.heap.size):=aj;unfold xn;go_wp2
 go_region_held3 (fun w'=>w'.cell? ⟨w1.heap.size,0,none⟩=some (.int .i64 (dz s (K s i)))/\w'.cell? ⟨w1.heap.size,1,none⟩=some (.string (cD s (K s i))))
  (go_keep) ((go_at_call 169;refine (nf b s j d x _ ?_ Z.u).mono ?_;(exact (J.u.alloc _).drew);rintro e av ⟨rfl,ac,I⟩;have ab:=(aE.new w1 (kN (dz s (K s i)) (cD s (K s i))) 107).drew.but I aj;obtain ⟨al,n1⟩:=ab.two;have D:=(V.u.alloc (.cells #[.int .i64 (dz s (K s i)),.string (cD s (K s i))] 107)).drew.but I aj;obtain ⟨an,au⟩:=D.two;have ax:=D.fz;have Y:=ai D;have Q:=ai ac;have U:=ai I))
 go_wp2;exact bq (v:=.tuple #[xn s (K s i),cj 2]) (zP results170 _ _ w.heap.size #[.int .i64 (dz s (K s i)),.string (cD s (K s i))] 107 _ _ rfl rfl ((Y.u.set 0 _).set 1 _) underlying107 rfl aw) rfl
  ⟨(((R.u.alloc _).drew.trans U.u).setNew ar _).setNew ar _,_,d,rfl,⟨_,_,rfl⟩,(Q.u.setNew aM _).setNew aM _⟩
def gx(b s i d x w)(hs:s.size<=maxLen)(h:At w b s i d)(D:0<(bJ x).length):
  Calls prog 170 #[.pointer (some ⟨b,0,none⟩),.string x] w (Post b s d w (bZ (TT s) x i) (fun _ _ v=>v=xn s (K s i)) Ux):=by
 unfold bZ
 cases C:dh (TT s) i with
 |error e=>exact zQ b s i d x w hs h e.1 e.2 C
 |ok y=>
  obtain ⟨⟨⟩,j⟩:=y
  cases A:eqs (TT s j) x
  ·simp only [A];exact Ce b s i d x w hs h j C A
  simp only [A];exact zR b s i d x w hs h j C A D
abbrev re:Array ag:=#[.int .i64 0,.string ⟨#[]⟩,.int .i64 0,.int .i64 0,.string ⟨#[]⟩]
abbrev ng:Obj:=.cells #[.int .i64 0,.string ⟨#[]⟩,.int .i64 0,.int .i64 0,.string ⟨#[]⟩] 207
def au (h:aA:=by
 decide):aA:=h
def bc (h:aA:=by
 rfl):aA:=h
def Nf(q:aU) (h:bF aU->aA:=by
 intro zq;have Kx:=ai (aE.but kP.u b3 aj);have G3:=aE.but HG2.u b3 aj;have R3:aE w3 w.heap.size re 207:=Kx.u;obtain ⟨p0,p1,p2,p3,p4⟩:=R3.five;obtain ⟨q0,q1,q2,q3,q4⟩:=G3.five;have zp:=R3.fz;have zq:=G3.fz;have tz:=G3.lt;have tz':w.heap.size<w3.heap.size:=aj;have A3:=ai a3;have B3:=ai (But.trans B2.u b3)
 revert Kx G3 R3 p0 p1 p2 p3 p4 q0 q1 q2 q3 q4 zp zq tz tz' A3 B3
 exact zq.1):aA:=h ⟨q⟩
def Ng(q:aU) (h:bF aU->aA:=by
 intro zq;rintro e w2 ⟨rfl,a2,b2⟩;have kP:=ai (aE.but (g:=w.heap.size) (T:=207) (cM HR) b2 aj);have G2':=aE.but (g:=w.heap.size+1) (T:=207) (cM HG) b2 aj
 revert w2 a2 b2 kP G2'
 exact zq.1):aA:=h ⟨q⟩
def Nh(q:aU) (h:bF aU->aA:=by
 intro zq;have R2:aE w2 w.heap.size re 207:=kP.u;obtain ⟨p0,p1,p2,p3,p4⟩:=R2.five;obtain ⟨q0,q1,q2,q3,q4⟩:=G2.five
 revert R2 p0 p1 p2 p3 p4 q0 q1 q2 q3 q4
 exact zq.1):aA:=h ⟨q⟩
def cR(g:Gr):Array ag:=#[.int .i64 g.tp,.string g.ty,.int .i64 g.reach,.int .i64 g.rp,.string g.rel]
def E7(g:Gr):ag:=.agg (cR g)
def Yd(v:ag):Prop:=∃g,v=E7 g
def db(h:af)(x:ag)(T n:Nat)(A:n=h.heap.size):(h.alloc (.cells #[x] T)).cell? ⟨n,0,none⟩=some x:=by
 subst A;exact (aE.new h #[x] T).cell rfl
def bR{P fn p u ty}(h:fn.results=#[.cell p ty,.tmp u])(tmps w g cs' t e d)(D:tmps.getD p undef=.pointer (some ⟨g,0,none⟩))(I:tmps.getD u undef=e)(A:∃cs,aE w g cs t/\cs=cs')(J:P.underlying ty=some d)(C:(match d with| .struct _| .array _ _=>true|_=>false)=true)(hi:(P.info? ty).map (·.size)=some cs'.size):
  (results fn tmps).run P w=.ok (.tuple #[.agg cs',e]) w:=by
 obtain ⟨cs,A,rfl⟩:=A;exact zP h tmps w g cs t e d D I A J C hi
def Ky(b s i d w)(hs:s.size<=maxLen)(h:At w b s i d)(c j)(R:dh (TT s) i=.error (c,j)):
  Calls prog 277 #[.pointer (some ⟨b,0,none⟩)] w (Post b s d w (.error (c,j):eI Gr) (fun _ g v=>v=E7 g) Yd):=by
 have ab:=h.lt;have C:=ai (et b s i d _ hs ((h.alloc ng).alloc ng));rw [R] at C;go_enter func277,ntmps277;go_wp2_with fail;refine (ak C).mono ?_;rintro e w1 ⟨b1,v,d',rfl,rfl,Q⟩;have D:=ai Q;have I:=ai (((But.refl b w).alloc _).alloc _ |>.trans b1);have A:=((aE.new w re 207).alloc _).but b1 aj;have G:=(aE.new (w.alloc ng) re 207).but b1 aM;rw [show (w.alloc ng).heap.size=w.heap.size+1 by simp] at G;have J:=ai A;obtain ⟨ae,af,ag,r3,ah⟩:=A.five;obtain ⟨g0,U,V,Y,Z⟩:=G.five;have am:=A.fz;have al:=G.fz;have ac:=G.lt;have ad:w.heap.size<w1.heap.size:=aj;unfold cj IA;go_wp2;refine bq (v:=.tuple #[.agg #[.int .i64 0,.string ⟨#[]⟩,.int .i64 0,.int .i64 0,.string ⟨#[]⟩],cj c]) (bR results277 _ _ w.heap.size _ 207 _ _ rfl rfl ?hB underlying207 rfl aw) rfl ?post
 case hB=>exact ⟨_,(cM J),bc⟩
 case post=>exact ⟨(eu I),_,d',rfl,⟨⟨⟨#[]⟩,0,0,⟨#[]⟩,0⟩,rfl⟩,(hA D)⟩
def Ni(b:Nat)(s:ae)(i d:Nat)(w:af)(hs:s.size<=maxLen)(h:At w b s i d)(j:Nat)(ac:dh (TT s) i=.ok ((),j))(D:eI Gr)
  (ab:(if eqs (TT s j) (sg 42) then .ok (⟨TT s i,PP s i,1,em,0⟩,j+1) else if eqs (TT s j) (sg 35) then (match dh (TT s) (j+1) with
   | .error e=> .error e
   | .ok (_,m)=> .ok (⟨TT s i,PP s i,2,TT s (j+1),PP s (j+1)⟩,m)) else .ok (⟨TT s i,PP s i,0,em,0⟩,j))=D):
  Calls prog 277 #[.pointer (some ⟨b,0,none⟩)] w (Post b s d w D (fun _ g v=>v=E7 g) Yd):=by
 have A:=ai ab;have am:=h.lt;have R:=ai hs;have C:=ai (et b s i d _ hs ((h.alloc ng).alloc ng));rw [ac] at C;go_enter func277,ntmps277;go_wp2_with fail;refine (ak C).mono ?_;rintro e w1 ⟨b1,v,rfl,rfl,Z⟩;have I:=ai Z;have Q:=ai (((But.refl b w).alloc _).alloc _ |>.trans b1);have D:=((aE.new w re 207).alloc _).but b1 aj;have G:=(aE.new (w.alloc ng) re 207).but b1 aM;rw [show (w.alloc ng).heap.size=w.heap.size+1 by simp] at G;have HR:=ai D;have HG:=ai G;obtain ⟨ay,az,aB,r3,aC⟩:=D.five;obtain ⟨g0,ad,ag,ah,al⟩:=G.five;have aF:=D.fz;have aD:=G.fz;have av:=G.lt;have ax:w.heap.size<w1.heap.size:=aj;have an:¬(w1.heap.size=w.heap.size):=aj;have ap:¬(w1.heap.size=w.heap.size+1):=aj;unfold xn;go_wp2_with fail;refine (ats b s j d _ _ (sg 42) _ ?_ ?_).mono ?_
 ·exact (hA I)
 ·exact db _ _ _ _ ar
 rintro e w2 ⟨rfl,rfl⟩
 cases h1:eqs (TT s j) (sg 42)<;>rw [h1] at A
 ·go_wp2_with fail;refine (ats b s j d _ _ (sg 35) _ ?_ ?_).mono ?_
  ·exact (hA I)
  ·exact db _ _ _ _ ar
  rintro e w2 ⟨rfl,rfl⟩
  cases h2:eqs (TT s j) (sg 35)<;>rw [h2] at A
  ·go_wp2;obtain rfl:=ak A;refine bq (v:=.tuple #[E7 ⟨TT s i,PP s i,0,em,0⟩,.nilIface]) (bR results277 _ _ w.heap.size _ 207 _ _ rfl rfl ?hB underlying207 rfl aw) rfl ?post
   case hB=>exact ⟨_,(cM HR),bc⟩
   case post=>exact ⟨(eu Q),_,rfl,rfl,(hA I)⟩
  have Y:=ai h2;go_wp2_with fail;refine (steps b s j d _ R.u ?_ ?_).mono ?_
  ·exact (hA I)
  ·exact df Y.u au
  refine Ng ?_;intro w2 a2 b2 kP G2';have G2:aE w2 (w.heap.size+1) #[.int .i64 (dz s (K s i)),.string (cD s (K s i)),.int .i64 2,.int .i64 0,.string ⟨#[]⟩] 207:=G2';refine Nh ?_;intro R2 p0 p1 p2 p3 p4 q0 q1 q2 q3 q4;have tz:=G2.lt;have tz':w.heap.size<w2.heap.size:=aj;have HG2:=ai G2;have J:=ai a2;have B2:=ai (But.trans (x:=w) (eu Q) b2);go_wp2_with fail;have C:=ai (et b s (j+1) d w2 R.u J.u)
  cases U:dh (TT s) (j+1) with
  |error e=>
   rw [U] at C A;refine (ak C).mono ?_;rintro e w3 ⟨b3,v,d',rfl,rfl,a3⟩;refine Nf ?_;intro Kx G3 R3 p0 p1 p2 p3 p4 q0 q1 q2 q3 q4 zp zq tz tz' A3 B3;unfold IA cj;go_wp2;obtain rfl:=ak A;refine bq (v:=.tuple #[E7 ⟨TT s i,PP s i,2,em,0⟩,cj _]) (bR results277 _ _ w.heap.size _ 207 _ _ rfl rfl ?hB3 underlying207 rfl aw) rfl ?post3
   case hB3=>exact ⟨_,(cM Kx),bc⟩
   case post3=>exact ⟨(eu B3),_,d',rfl,⟨_,rfl⟩,(hA A3)⟩
  |ok y=>
   obtain ⟨⟨⟩,m⟩:=y;rw [U] at C A;refine (ak C).mono ?_;rintro e w3 ⟨b3,v,rfl,rfl,a3⟩;refine Nf ?_;intro Kx G3 R3 p0 p1 p2 p3 p4 q0 q1 q2 q3 q4 zp zq tz tz' A3 B3;unfold xn;go_wp2;obtain rfl:=ak A;refine bq (v:=.tuple #[E7 ⟨TT s i,PP s i,2,TT s (j+1),PP s (j+1)⟩,.nilIface]) (bR results277 _ _ w.heap.size _ 207 _ _ rfl rfl ?hB4 underlying207 rfl aw) rfl ?post4
   case hB4=>exact ⟨_,(cM Kx),bc⟩
   case post4=>exact ⟨(eu B3),_,rfl,rfl,(hA A3)⟩
 ·have V:=ai h1;go_wp2_with fail;refine (steps b s j d _ R.u ?_ ?_).mono ?_
  ·exact (hA I)
  ·exact df V.u au
  refine Ng ?_;intro w2 a2 b2 kP G2';have G2:aE w2 (w.heap.size+1) #[.int .i64 (dz s (K s i)),.string (cD s (K s i)),.int .i64 1,.int .i64 0,.string ⟨#[]⟩] 207:=G2';refine Nh ?_;intro R2 p0 p1 p2 p3 p4 q0 q1 q2 q3 q4;have zp:=R2.fz;have tz:=G2.lt;have tz':w.heap.size<w2.heap.size:=aj;have J:=ai a2;have B2:=ai (But.trans (x:=w) (eu Q) b2);go_wp2;obtain rfl:=ak A;refine bq (v:=.tuple #[E7 ⟨TT s i,PP s i,1,em,0⟩,.nilIface]) (bR results277 _ _ w.heap.size _ 207 _ _ rfl rfl ?hB2 underlying207 rfl aw) rfl ?Nj
  case hB2=>exact ⟨_,(cM kP),bc⟩
  case Nj=>exact ⟨(eu B2),_,rfl,rfl,(hA J)⟩
def uu(b s i d w)(hs:s.size<=maxLen)(h:At w b s i d):
  Calls prog 277 #[.pointer (some ⟨b,0,none⟩)] w (Post b s d w (dY (TT s) (PP s) i) (fun _ g v=>v=E7 g) Yd):=by
 unfold dY
 cases A:dh (TT s) i with
 |error e=>exact Ky b s i d w hs h e.1 e.2 A
 |ok y=>
  obtain ⟨⟨⟩,j⟩:=y;exact Ni b s i d w hs h j A _ rfl
def Ex.ind(Q:Ex->Prop)(h0:∀n r,Q ⟨n,none,r⟩)(h1:∀n a,Q ⟨n,some a,none⟩)(h2:∀n a b,Q a->Q b->Q ⟨n,some a,some b⟩):∀e,Q e
 |⟨n,none,r⟩=>h0 n r
 |⟨n,some a,none⟩=>h1 n a
 |⟨n,some a,some b⟩=>h2 n a b (Ex.ind Q h0 h1 h2 a) (Ex.ind Q h0 h1 h2 b)
def gy(k:Nat):TypeId:=if k=3 then 244 else if k=4 then 245 else 246
def cz(l:List Gr):List ag:=l.flatMap fun g=>(cR g).toList
def Uy(b:Nat)(w:af)(n:Nd)(v:ag):Prop:=
 (n.kind=0/\∃sv,v=.iface 236 (.agg #[.int .i64 n.place,sv])/\w.ownsRow (b+1) 207 5 sv n.gs.length (cz n.gs))\/
 (n.kind=1/\v=.iface 238 (.agg #[.int .i64 n.place,.string n.n1]))\/
 (n.kind=2/\v=.iface 240 (.agg #[.int .i64 n.place,.int .i64 n.p1,.string n.n1,.int .i64 n.p2,.string n.n2]))
def bB(b:Nat)(w:af):Ex->ag->Prop
 |⟨n,some x,some y⟩,v=>∃h A,v=.iface (gy n.kind) (.agg #[.int .i64 n.place,h,A])/\bB b w x h/\bB b w y A
 |⟨n,none,_⟩,v=>Uy b w n v
 |⟨_,some _,none⟩,_=>False
variable {xs:List ag}
def ay(h:w.ownsRow base e size v n xs)
  (k:∀g cs f,base<=g->w.heap[g]? =some (.cells cs e f)->w'.heap[g]? =w.heap[g]?):w'.ownsRow base e size v n xs:=by
 obtain ⟨h1,h2⟩:=h;refine ⟨h1,?_⟩
 rcases h2 with h2|⟨g,cap,A,hv,C,D,r⟩
 ·exact Or.inl h2
 ·exact Or.inr ⟨g,cap,A,hv,C,(k g A (0,0) C D).trans D,r⟩
def oN(b:Nat)(w w':af):Prop:=∀g cs f,b+1<=g->w.heap[g]? =some (.cells cs 207 f)->w'.heap[g]? =w.heap[g]?
def lt_of_some(h:w.heap[g]? =some o):g<w.heap.size:=by
 rcases gh g w.heap.size with k|k
 ·exact k
 rw [Array.getElem?_eq_none k] at h;cases h
def oN.of_but(h:But b w w'):oN b w w':=fun g cs f C A=>h.block g (lt_of_some A) aj
def bB.frame(k:oN b w w'):∀e v,bB b w e v->bB b w' e v:=by
 intro e
 induction e using Ex.ind with
 |h0 n r=>
  intro v h
  rcases h with ⟨h1,sv,h2,A⟩|h|h
  ·exact Or.inl ⟨h1,sv,h2,ay A k⟩
  ·exact Or.inr (Or.inl h)
  exact Or.inr (Or.inr h)
 |h1 n a=>intro v h;exact h
 |h2 n a c iha WR=>
  rintro v ⟨C,D,h1,h2,A⟩;exact ⟨C,D,h1,iha _ h2,WR _ A⟩
def bB.but{e}(h:bB b w e v)(k:But b w w'):bB b w' e v:=bB.frame (oN.of_but k) e v h
def bB.isI{e}(h:bB b w e v):∃t x,v=.iface t x:=by
 match e,h with
 |⟨n,some x,some y⟩,⟨vx,vy,h1,_⟩=>exact ⟨_,_,h1⟩
 |⟨n,none,_⟩,h=>
  rcases h with ⟨h1,sv,h2,A⟩|⟨_,h⟩|⟨_,h⟩
  ·exact ⟨_,_,h2⟩
  ·exact ⟨_,_,h⟩
  exact ⟨_,_,h⟩
abbrev eL(b:Nat)(s:ae)(d:Nat)(w:af)(r:eI Ex):Ending->af->Prop:=Post b s d w r (bB b) IsI
def Uz(b s i d w)(hs:s.size<=maxLen)(h:At w b s i d)(c j)(J:dh (TT s) i=.error (c,j)):
  Calls prog 273 #[.pointer (some ⟨b,0,none⟩)] w (eL b s d w (.error (c,j))):=by
 have C:=ai (et b s i d w hs h);rw [J] at C;go_enter func273,ntmps273;go_wp2_with fail;refine (ak C).mono ?_;rintro e w1 ⟨b1,v,d',rfl,rfl,I⟩;have A:=ai I;have D:=ai b1;unfold IA cj;go_wp2;go_ret2;exact ⟨(eu D),_,d',rfl,.inl rfl,(hA A)⟩
def UA(b s i d w)(hs:s.size<=maxLen)(h:At w b s i d)(j)(J:dh (TT s) i=.ok ((),j))(h1:eqs (TT s j) (sg 46)=false):
  Calls prog 273 #[.pointer (some ⟨b,0,none⟩)] w (eL b s d w (.ok (⟨⟨1,PP s i,TT s i,PP s i,em,0,[]⟩,none,none⟩,j))):=by
 have Q:=h.lt;have C:=ai (et b s i d w hs h);rw [J] at C;go_enter func273,ntmps273;go_wp2_with fail;refine (ak C).mono ?_;rintro e w1 ⟨b1,v,rfl,rfl,I⟩;have A:=ai I;have D:=ai b1;unfold xn;go_wp2_with fail;refine (ats b s j d _ _ (sg 46) _ ?_ ?_).mono ?_
 ·exact (hA A)
 ·exact db _ _ _ _ ar
 rintro e R ⟨rfl,rfl⟩;rw [h1];go_wp2;go_ret2;exact ⟨(eu D),_,rfl,.inr (.inl ⟨rfl,rfl⟩),(hA A)⟩
def UB(b s i d w)(hs:s.size<=maxLen)(h:At w b s i d)(j m)(am:dh (TT s) i=.ok ((),j))(h1:eqs (TT s j) (sg 46)=true)(ae:Hid (dh (TT s) (j+1)=.ok ((),m))):
  Calls prog 273 #[.pointer (some ⟨b,0,none⟩)] w (eL b s d w (.ok (⟨⟨2,PP s i,TT s i,PP s i,TT s (j+1),PP s (j+1),[]⟩,none,none⟩,m))):=by
 have al:=h.lt;have D:=ai hs;have C:=ai (et b s i d w hs h);rw [am] at C;go_enter func273,ntmps273;go_wp2_with fail;refine (ak C).mono ?_;have ac:=ai h1;rintro e w1 ⟨b1,v,rfl,rfl,a1⟩;have A:=ai a1;have Y:=ai b1;have an:b<w1.heap.size:=cK al b1.size;unfold xn;go_wp2_with fail;refine (ats b s j d _ _ (sg 46) _ ?_ ?_).mono ?_
 ·exact (hA A)
 ·exact db _ _ _ _ ar
 rintro e R ⟨rfl,rfl⟩;rw [h1];go_wp2_with fail;refine (steps b s j d _ D.u ?_ ?_).mono ?_
 ·exact (hA A)
 ·exact df ac.u au
 rintro e R ⟨rfl,ag,J⟩;have af:=aE.but (g:=w1.heap.size) (T:=107) (aE.alloc (aE.new w1 (kN (dz s (K s i)) (cD s (K s i))) 107) _) J aj;have ad:=ai af;have U:=ai ag;have Z:=ai (But.trans (x:=w) (eu Y) J);go_wp2_with fail;have C:=ai (et b s (j+1) d R D.u U.u);rw [ak ae] at C;refine (ak C).mono ?_;rintro e av ⟨Q,v,rfl,rfl,ah⟩;have I:=aE.but ad.u Q aj;obtain ⟨ap,n1⟩:=I.two;have hn:=I.lt;have V:=ai ah;have ab:=ai (But.trans Z.u Q);unfold xn;go_wp2;go_ret2;exact ⟨(eu ab),_,rfl,.inr (.inr ⟨rfl,rfl⟩),(hA V)⟩
def Nk(b s i d w)(hs:s.size<=maxLen)(h:At w b s i d)(j c m)(am:dh (TT s) i=.ok ((),j))(h1:eqs (TT s j) (sg 46)=true)(ae:Hid (dh (TT s) (j+1)=.error (c,m))):
  Calls prog 273 #[.pointer (some ⟨b,0,none⟩)] w (eL b s d w (.error (c,m))):=by
 have al:=h.lt;have D:=ai hs;have C:=ai (et b s i d w hs h);rw [am] at C;go_enter func273,ntmps273;go_wp2_with fail;refine (ak C).mono ?_;have ac:=ai h1;rintro e w1 ⟨b1,v,rfl,rfl,a1⟩;have A:=ai a1;have Y:=ai b1;have an:b<w1.heap.size:=cK al b1.size;unfold xn;go_wp2_with fail;refine (ats b s j d _ _ (sg 46) _ ?_ ?_).mono ?_
 ·exact (hA A)
 ·exact db _ _ _ _ ar
 rintro e R ⟨rfl,rfl⟩;rw [h1];go_wp2_with fail;refine (steps b s j d _ D.u ?_ ?_).mono ?_
 ·exact (hA A)
 ·exact df ac.u au
 rintro e R ⟨rfl,ag,J⟩;have af:=aE.but (g:=w1.heap.size) (T:=107) (aE.alloc (aE.new w1 (kN (dz s (K s i)) (cD s (K s i))) 107) _) J aj;have ad:=ai af;have U:=ai ag;have Z:=ai (But.trans (x:=w) (eu Y) J);go_wp2_with fail;have C:=ai (et b s (j+1) d R D.u U.u);rw [ak ae] at C;refine (ak C).mono ?_;rintro e av ⟨Q,v,d',rfl,rfl,ah⟩;have I:=aE.but ad.u Q aj;obtain ⟨ap,n1⟩:=I.two;have hn:=I.lt;have V:=ai ah;have ab:=ai (But.trans Z.u Q);unfold IA cj;go_wp2;go_ret2;exact ⟨(eu ab),_,d',rfl,.inr ⟨_,_,rfl⟩,(hA V)⟩
def Nl(b s i d w)(hs:s.size<=maxLen)(h:At w b s i d):
  Calls prog 273 #[.pointer (some ⟨b,0,none⟩)] w (eL b s d w (jl (TT s) (PP s) i)):=by
 unfold jl
 cases C:dh (TT s) i with
 |error e=>exact Uz b s i d w hs h e.1 e.2 C
 |ok y=>
  obtain ⟨⟨⟩,j⟩:=y
  cases h1:eqs (TT s j) (sg 46)
  ·simp only [h1];exact UA b s i d w hs h j C h1
  cases A:dh (TT s) (j+1) with
  |error e=>simp only [h1,A];exact Nk b s i d w hs h j e.1 e.2 C h1 (ai A)
  |ok y=>
   obtain ⟨⟨⟩,m⟩:=y;simp only [h1,A];exact UB b s i d w hs h j m C h1 (ai A)
def Cf(p t x y)(C:IsI x)(D:IsI y)(w):
  Calls prog 263 #[.agg #[.int .i64 p,.string t],x,y] w fun e w'=>e=.returned (.iface (gy (kindOf t)) (.agg #[.int .i64 p,x,y]))/\an w w':=by
 have A:∀a b,(t.toList== [124])=a->(t.toList== [38])=b->kindOf t=if a then 3 else if b then 4 else 5:=by
  intro a b h1 h2;unfold kindOf eqs;rw [<-aO,show bJ (sg 124)=[124] from rfl,show bJ (sg 38)=[38] from rfl,h1,h2]
 cases h1:(t.toList== [124])
 ·cases h2:(t.toList== [38])
  all_goals
   rw [A _ _ h1 h2]
   rcases C with rfl|⟨I,J,rfl⟩<;>rcases D with rfl|⟨ty,Q,rfl⟩
   all_goals
    go_enter func263,ntmps263;go_wp2;go_ret;exact ⟨rfl,(bj.alloc aD _).alloc ar _⟩
 ·rw [A _ _ h1 rfl]
  rcases C with rfl|⟨I,J,rfl⟩<;>rcases D with rfl|⟨ty,Q,rfl⟩
  all_goals
   go_enter func263,ntmps263;go_wp2;go_ret;exact ⟨rfl,(bj.alloc aD _).alloc ar _⟩
def Nn (h:aA:=by
 split at h
 ·split at h
  ·simp at h
  rename_i A;have:=lX T _ _ _ A;simp at h;omega
 simp at h;omega):aA:=h
def jQ{α:Type}(r:Nat->eI α):Prop:=∀i x j,r i=.ok (x,j)->i<j
def lX(T):jQ (dh T):=by
 intro i x j h;unfold dh at h
 repeat' split at h
 all_goals simp at h
 omega
def fy(T y):jQ (bZ T y):=by
 intro i x j h;unfold bZ at h
 split at h
 ·simp at h
 rename_i A;have:=lX T _ _ _ A
 split at h<;>simp at h
 omega
def nh(T P):jQ (dY T P):=by
 intro i x j h;unfold dY at h
 split at h
 ·simp at h
 rename_i C;have:=lX T _ _ _ C
 split at h
 ·simp at h;omega
 exact Nn
def uv(T P):∀f acc,jQ (dZ T P f acc)
 |0,_=>fun i x j h=>by simp [dZ] at h
 |f+1,acc=>fun i x j h=>by
  unfold dZ at h
  split at h
  ·simp at h
  rename_i A;have:=nh T P _ _ _ A
  split at h
  ·have:=uv T P f _ _ _ _ h;omega
  split at h<;>simp at h
  omega
def uw(T P):jQ (lw T P):=by
 intro i x j h;unfold lw at h
 split at h
 ·simp at h
 rename_i A;have:=uv T P _ _ _ _ _ A;simp at h;omega
def sR(T P):jQ (jl T P):=by
 intro i x j h;unfold jl at h
 split at h
 ·simp at h
 rename_i C;have:=lX T _ _ _ C;exact Nn
def jR(T P room inner)(hi:jQ inner):jQ (eR T P room inner):=by
 intro i x j h;unfold eR at h
 split at h
 ·exact uw T P _ _ _ h
 split at h
 ·split at h
  ·split at h
   ·simp at h
   rename_i A;have:=hi _ _ _ A
   split at h<;>simp at h
   omega
  simp at h
 exact sR T P _ _ _ h
def ux(T P l part)(A:jQ part):∀f y i x j,joinL T P l part f y i=.ok (x,j)->i<=j
 |0,_,i,x,j=>fun h=>by simp [joinL] at h
 |f+1,y,i,x,j=>fun h=>by
  unfold joinL at h
  split at h
  ·split at h
   ·simp at h
   rename_i C;have:=A _ _ _ C;have:=ux T P l part A f _ _ _ _ h;omega
  simp at h;omega
def oZ(T P l part)(A:jQ part):jQ (fe T P l part):=by
 intro i x j h;unfold fe at h
 split at h
 ·simp at h
 rename_i C;have:=A _ _ _ C;have:=ux T P l part A _ _ _ _ _ h;omega
def gU(T P room inner)(hi:jQ inner):jQ (hE T P room inner):=
 oZ T P _ _ (jR T P room inner hi)
def gI(T P):∀n,jQ (fp T P n)
 |0=>oZ T P _ _ (gU T P false _ (fun i x j h=>by simp at h))
 |n+1=>oZ T P _ _ (gU T P true _ (gI T P n))
def od(T P):jQ (lW T P):=by
 intro i x j h;unfold lW at h
 split at h
 ·simp at h
 rename_i C;have:=fy T _ _ _ _ C
 split at h
 ·simp at h
 rename_i A;have:=gI T P _ _ _ _ A
 split at h<;>simp at h
 omega
def o0(T P):∀f acc,jQ (dv T P f acc)
 |0,_=>fun i x j h=>by simp [dv] at h
 |f+1,acc=>fun i x j h=>by
  unfold dv at h
  split at h
  ·simp at h;omega
  split at h
  ·simp at h
  split at h
  ·simp at h
  rename_i A;have:=od T P _ _ _ A;have:=o0 T P f _ _ _ _ h;omega
def uy(T P):jQ (ly T P):=by
 intro i x j h;unfold ly at h
 split at h
 ·split at h
  ·simp at h
  rename_i C;have:=fy T _ _ _ _ C
  split at h
  ·simp at h
  rename_i A;have:=o0 T P _ _ _ _ _ A;simp at h;omega
 simp at h
abbrev uz:=@wp_loop_rounds
abbrev rf:=@rounds_succ
def gz (h:aA:=by
 unfold maxLen;omega):aA:=h
def Np(q:aU) (h:bF aU->aA:=by
 intro zq;have S4:=S3.u.but b4 (by have:=S3.u.lt;have:=HA.u.lt;omega);obtain ⟨s0,s1⟩:=S4.two;have B4:=ai (But.trans B3.u b4);have A4:=ai a4;have V4:=ai hv4
 revert S4 s0 s1 B4 A4 V4
 exact zq.1):aA:=h ⟨q⟩
variable {l:List ae}
def Kz{t}(h:gw t l=true)(C:∀x∈l,0<(bJ x).length):0<t.size:=by
 unfold gw at h;rw [cX] at h;obtain ⟨x,D,A⟩:=h;exact df A (C x D)
def xP(F b:Nat)(aS:F=264\/F=249)(s:ae)(i d:Nat)(w:af)(hs:s.size<=500)(h:At w b s i d)(g cap:Nat)(l:List ae)(part:Nat->eI Ex)(a2:jQ part)
  (a3:∀i w,At w b s i d->Calls prog F #[.pointer (some ⟨b,0,none⟩)] w (eL b s d w (part i)))
  (aZ:l.length<=maxLen) (a5:∀x∈l,0<(bJ x).length) (aX:g≠b) (aY:g<w.heap.size) (aW:∀i,i<l.length->w.cell? ⟨g,i,none⟩=some (.string (l.getD i ByteArray.empty))):
  Calls prog 248 #[.pointer (some ⟨b,0,none⟩),.func (.func F) #[.pointer (some ⟨b,0,none⟩)] #[],.slice (some ⟨g,0,none⟩) l.length cap] w (eL b s d w (fe (TT s) (PP s) l part i)):=by
 rcases aS with rfl|rfl
 all_goals
  have aJ:Hid (s.size<=maxLen):=ai gz;have Hp:=ai a3;have aH:=ai a2;have aG:=ai aW;have au:=ai aZ;have aI:=ai a5;have ap:=ai h;unfold fe
  cases ax:part i with
  |error e=>
   obtain ⟨c,j⟩:=e;have C:=ai (Hp.u i w ap.u);rw [ax] at C;go_enter func248,ntmps248;go_wp2_with fail;refine (ak C).mono ?_;rintro e w1 ⟨b1,v,d',rfl,hv,a1⟩;have Z:=ai a1;have ac:=ai b1;have ah:=ai hv;unfold cj;go_wp2_with fail;refine uz 1 ?_;rw [rf];go_wp2;go_ret2;exact ⟨ac.u,v,d',rfl,ah.u,Z.u⟩
  |ok y=>
   obtain ⟨aD,ay⟩:=y;have C:=ai (Hp.u i w ap.u);rw [ax] at C;simp only;generalize aV:joinL (TT s) (PP s) l part 512 aD ay=av;have aF:=ai aV;go_enter func248,ntmps248;go_wp2_with fail;refine (ak C).mono ?_;rintro e w1 ⟨b1,v,rfl,hv,a1⟩;have Z:=ai a1;have ac:=ai b1;have ah:=ai hv;go_wp2_with fail
   go_loopg [8,9] 512 (fun k u8 az wr=>But b w wr/\((az=.nilIface/\∃x j,bB b wr x u8/\At wr b s j d/\512<=k+j/\Hid (joinL (TT s) (PP s) l part k x j=av))\/(∃c j d',az=cj c/\IsI u8/\At wr b s j d'/\Hid (av=.error (c,j)))))
   case atStart=>exact ⟨ac.u,.inl ⟨rfl,aD,ay,ah.u,Z.u,aj,aF⟩⟩
   case round=>
    obtain ⟨am,⟨rfl,x,j,hv,ha,ba,ag⟩|⟨c,j,d',rfl,hv,ha,ag⟩⟩:=hrel
    ·have a8:12<=gk:=by have:=ha.le;omega
     obtain ⟨f,rfl⟩:∃f,gk=f+1:=⟨gk-1,aj⟩;have HA:=ai ha;have R:=ai am;have U:=ai hv;have aw:=ai (fun i hi=>(am.cell aY aX).trans (aG.u i hi):∀i,i<l.length->wr.cell? ⟨g,i,none⟩=some (.string (l.getD i ByteArray.empty)));have bb:b<wr.heap.size:=ha.lt;obtain ⟨bc,be,rfl⟩:=hv.isI;have c1:=ha.pos.rd.c1;have c2:=ha.pos.rd.c2;have J:=ak ag;unfold joinL at J
     cases Q:gw (TT s j) l
     ·simp only [Q] at J;have D:=ai J;go_wp2_with fail;refine (zO b s _ _ d g cap l _ HA.u.pos.rd au.u aw.u).mono ?_;rintro e Y ⟨rfl,rfl⟩;rw [show gw (cD s (K s j)) l=false from Q];go_wp2;go_ret2;rw [<-ak D];exact ⟨R.u,_,rfl,U.u,HA.u⟩
     simp only [Q,if_true] at J;have D:=ai J;go_wp2_with fail;refine (zO b s _ _ d g cap l _ HA.u.pos.rd au.u aw.u).mono ?_;rintro e Y ⟨rfl,rfl⟩;rw [show gw (cD s (K s j)) l=true from Q];have aK:=ai Q;go_wp2_with fail;refine (steps b s j d _ (ak aJ) (HA.u.alloc _) (Kz aK.u aI.u)).mono ?_;rintro e aC ⟨rfl,aQ,al⟩;have S3:=ai ((aE.new Y (kN (dz s (K s j)) (cD s (K s j))) 137).but al aj);have B3:=ai (But.trans R.u (But.trans ((But.refl b Y).alloc _) al));have aN:=ai (bB.but U.u (But.trans ((But.refl b Y).alloc _) al));have ar:=ai aQ
     cases an:part (j+1) with
     |error e=>
      obtain ⟨aR,V⟩:=e;have I:=ai (Hp.u (j+1) aC ar.u);rw [an] at D I;go_wp2_with fail;refine (ak I).mono ?_;rintro e a6 ⟨b4,aB,d4,rfl,hv4,a4⟩;refine Np ?_;intro S4 s0 s1 B4 A4 V4;unfold cj;go_wp2_with fail;refine (Cf _ _ _ _ (.inr ⟨_,_,rfl⟩) V4.u _).mono ?_;rintro e w5 ⟨rfl,A⟩;have ad:=ai (But.trans B4.u (But.of_below A));have ab:=ai (A4.u.below A);go_wp2
      go_roundg 0
      case measure=>omega
      case rel=>exact ⟨ad.u,.inr ⟨aR,V,d4,rfl,.inr ⟨_,_,rfl⟩,ab.u,ai (ak D).symm⟩⟩
     |ok y=>
      obtain ⟨a7,V⟩:=y;have I:=ai (Hp.u (j+1) aC ar.u);have a9:j+1<V:=aH.u _ _ _ an;rw [an] at D I;go_wp2_with fail;refine (ak I).mono ?_;rintro e a6 ⟨b4,aB,rfl,hv4,a4⟩;refine Np ?_;intro S4 s0 s1 B4 A4 V4;have aO:=ai (bB.but aN.u b4);have aL:=ai (.inr hv4.isI:IsI aB);go_wp2_with fail;refine (Cf _ _ _ _ (.inr ⟨_,_,rfl⟩) aL.u _).mono ?_;rintro e w5 ⟨rfl,A⟩;have ad:=ai (But.trans B4.u (But.of_below A));have ab:=ai (A4.u.below A);have aP:=ai (bB.but aO.u (But.of_below A));have aM:=ai (bB.but V4.u (But.of_below A));go_wp2
      go_roundg f
      case measure=>omega
      case rel=>exact ⟨ad.u,.inl ⟨rfl,fU (TT s j) (PP s j) x a7,V,⟨_,_,rfl,aP.u,aM.u⟩,ab.u,aj,ai (ak D)⟩⟩
    have R:=ai am;have HA:=ai ha;have U:=ai hv;unfold cj;go_wp2;go_ret2;rw [ak ag];exact ⟨R.u,_,d',rfl,U.u,HA.u⟩
