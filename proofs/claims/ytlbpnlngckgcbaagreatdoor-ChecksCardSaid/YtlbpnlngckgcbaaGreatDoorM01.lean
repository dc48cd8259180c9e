import Derived.Test.YtlbpnlngckgcbaaGreatDoorProg
import Derived.WalkKit
import Derived.WalkLawsBesides
import Derived.WalkSpells
import Derived.BigQuiet
import Derived.PlainAid
import Derived.Lib.Strings
import Derived.Deep.RegionHeld3
import Derived.Deep.RegionWith
import Derived.Deep.DrawnRows
import Derived.Deep.AppendLies
import Derived.Laws.ResultCell
import Derived.Laws.Rows
set_option linter.all false
set_option maxHeartbeats 4000000
set_option maxRecDepth 100000
namespace Go.RowKit
theorem Hid.u{p:Prop}(h:Hid p):p:=h
end Go.RowKit
namespace Go.Proofs.YtlbpnlngckgcbaaGreatDoor
open Go.RowKit Go.PlainAid Go.Proofs.Tryz
variable {aF cD:Prop} {n a b B p d g k i base size:Nat} {T e:TypeId} {row:Option Nat} {o:Obj}
abbrev ae:=ByteArray
abbrev af:=World
abbrev ag:=Value
theorem ab{n:Nat}:n<=n:=Nat.le_refl n
theorem ac{α:Type}{l:List α}{i:Nat}(h:i<l.length):l[i]? =some l[i]:=List.getElem?_eq_getElem h
abbrev cm:=@Nat.le_refl
abbrev aw:=@Below.refl
abbrev ig:=@List.takeWhile_cons
abbrev wS:=@Array.length_toList
abbrev mg:=@List.length_pos_iff
def aM (A:aF:=by
 simp;omega):aF:=A
def aj (A:aF:=by
 omega):aF:=A
def an (A:aF:=by
 simp):aF:=A
def IK (A:aF:=by
 go_wp2_with (first|(go_at_call 203;refine (gX _ _).mono ?_;rintro e w' ⟨rfl,rfl⟩)|(go_at_call 204;refine (mh _ _).mono ?_;rintro e w' ⟨rfl,rfl⟩));go_ret;exact ⟨by rw [BK.u];rfl,rfl⟩):aF:=A
structure QW(q:Prop):Prop where
 out:q
theorem az:n<=n:=cm _
variable {w:af}
theorem ba:Below n w w:=aw _ _
theorem bN{c:TypeId}:w.ownsRow a c b (.slice none 0 0) 0 []:=World.ownsRow_nil _ _ _ _
theorem ai{p:Prop}(h:p):Hid p:=h
theorem ak{p:Prop}(h:Hid p):p:=h
def blank(c:Int):Bool:=c==32||c==9||c==10
def letter(c:Int):Bool:=decide (97<=c)&&decide (c<=122)
def digit(c:Int):Bool:=decide (48<=c)&&decide (c<=57)
theorem gX(c w):Calls prog 203 #[.int .u8 c] w fun e w'=>e=.returned (.bool (letter c))/\w'=w:=by
 by_cases h1:97<=c
 ·go_enter func203,ntmps203;go_wp2;go_ret;exact ⟨by simp [letter,h1],rfl⟩
 go_enter func203,ntmps203;go_wp2;go_ret;exact ⟨by simp [letter];omega,rfl⟩
theorem mh(c w):Calls prog 204 #[.int .u8 c] w fun e w'=>e=.returned (.bool (digit c))/\w'=w:=by
 by_cases h1:48<=c
 ·go_enter func204,ntmps204;go_wp2;go_ret;exact ⟨by simp [digit,h1],rfl⟩
 go_enter func204,ntmps204;go_wp2;go_ret;exact ⟨by simp [digit];omega,rfl⟩
theorem qV(c w):Calls prog 111 #[.int .u8 c] w fun e w'=>e=.returned (.bool (blank c))/\w'=w:=by
 go_enter func111,ntmps111;go_wp2
 all_goals
  go_ret;exact ⟨by simp_all [blank],rfl⟩
def dt(c:UInt8):Bool:=letter c.toNat||digit c.toNat
def dK(c:UInt8):Bool:=blank c.toNat
def dV:List UInt8->Nat
 | []=>0
 |c::r=>if letter c.toNat then 1+(r.takeWhile dt).length else 1
def jY:List UInt8->Nat
 | []=>0
 |c::r=>if letter c.toNat then 1+(r.takeWhile dt).length else 0
theorem FV(l)(h:l≠ []):((dV l:Nat):Int)=if (1:Int)<(jY l:Nat) then ((jY l:Nat):Int) else 1:=by
 cases l with
 |nil=>exact absurd rfl h
 |cons c r=>
  simp only [dV,jY]
  by_cases hc:letter c.toNat=true
  ·simp only [hc,if_true]
   split<;>omega
  simp [hc]
theorem gy{α:Type}(p:α->Bool):∀(l:List α)(k:Nat),(∀j,(C:j<k)->(D:j<l.length)->p l[j]=true)->k<=l.length->((C:k<l.length)->p l[k]=false)->(l.takeWhile p).length=k
 | [],k,_,h2,_=>by simp at h2;simp [h2]
 |a::r,0,_,_,h3=>by
  have:=h3 an;simp at this;simp [ig,this]
 |a::r,k+1,h1,h2,h3=>by
  have ha:=h1 0 aj an;simp at ha;simp [ig,ha];exact gy p r k (fun j C D=>by have:=h1 (j+1) aj aM;simpa using this) (by simpa using h2) (fun C=>by have:=h3 aM;simpa using this)
def bW(s:ae):List UInt8:=s.data.toList
def mk(l:List UInt8):ae:=⟨l.toArray⟩
theorem si(l):bW (mk l)=l:=rfl
theorem gh(s):mk (bW s)=s:=rfl
theorem bf(s):(bW s).length=s.size:=by show s.data.toList.length=s.data.size;exact wS
theorem sj(s k)(h:k<(bW s).length):bt s k=((bW s)[k].toNat:Int):=by
 rw [bf] at h;unfold bt;rw [dif_pos h];rfl
theorem aO(s):s.toList=bW s:=ByteArray.toList_eq s
theorem oY(s k)(h0:0<s.size)(J:letter (bt s 0)=true)(h1:1<=k)(I:k<=s.size)(R:∀j,1<=j->j<k->(letter (bt s j)||digit (bt s j))=true)(D:k<s.size->(letter (bt s k)||digit (bt s k))=false):jY (bW s)=k:=by
 have C:=sj s;rw [<-bf] at h0 I D;generalize bW s=l at*
 cases l with
 |nil=>simp at h0
 |cons c r=>
  have O:=C 0 an;simp only [List.getElem_cons_zero] at O;rw [O] at J;simp only [jY,J,if_true];simp only [List.length_cons] at I D;have:=gy dt r (k-1) (fun j Q U=>by
   have:=R (j+1) aj aj;rw [C (j+1) aM] at this
   simpa [dt] using this) aj (fun Q=>by
   obtain ⟨q,rfl⟩:∃q,k=q+1:=⟨k-1,aj⟩;have:=D aj;rw [C (q+1) aM] at this
   simpa [dt] using this)
  omega
theorem sl(s)(h0:0<s.size)(C:letter (bt s 0)=false):jY (bW s)=0:=by
 have I:=sj s;rw [<-bf] at h0;generalize bW s=l at*
 cases l with
 |nil=>simp at h0
 |cons c r=>
  have D:=I 0 an;simp only [List.getElem_cons_zero] at D;rw [D] at C;simp [jY,C]
theorem yO(s)(h:bW s≠ []):0<s.size:=by
 rw [<-bf];exact mg.2 h
theorem mi(s w)(hs:s.size<=maxLen):
  Calls prog 144 #[.string s] w fun e w'=>e=.returned (.int .i64 (jY (bW s)))/\w'=w:=by
 unfold maxLen at hs
 by_cases D:bW s=[]
 ·have ab:s.toList=[]:=by rw [aO];exact D
  have Y:=ai D;clear D;go_enter func144,ntmps144;go_wp2;go_ret;exact ⟨by rw [Y.u];rfl,rfl⟩
 ·have h0:0<s.size:=yO s D;have ab:s.toList.isEmpty=false:=by rw [aO];simpa using D
  clear D;have ad:=get_bt s
  cases hl:letter (bt s 0)
  ·have BK:=ai (sl s h0 hl);go_enter func144,ntmps144;go_wp2_with (go_at_call 203;refine (gX _ _).mono ?_;rintro e w' ⟨rfl,rfl⟩);go_ret;exact ⟨by rw [BK.u];rfl,rfl⟩
  have ac:=ai hl;go_enter func144,ntmps144;go_wp2_with (go_at_call 203;refine (gX _ _).mono ?_;rintro e w' ⟨rfl,rfl⟩)
  go_loop [3] (fun i=>∃k:Nat,1<=k/\k<=s.size/\i=.int .i64 k/\Hid (∀j,1<=j->j<k->(letter (bt s j)||digit (bt s j))=true)) (fun i=>s.size-(intOf i).toNat)
  case atStart=>exact ⟨1,aj,aj,rfl,ai (fun j C O=>aj)⟩
  case round=>
   obtain ⟨k,R,U,rfl,I⟩:=hrel
   by_cases Z:k<s.size
   ·cases V:letter (bt s k)
    ·cases Q:digit (bt s k)
     ·have BK:=ai (oY s k h0 hl R U (ak I) (fun _=>by simp [V,Q]));exact IK
     have J:=ai (show ∀j,1<=j->j<k+1->(letter (bt s j)||digit (bt s j))=true from fun j C O=>by
      by_cases e:j=k
      ·rw [e,Q];simp
      exact ak I j C aj)
     go_wp2_with (first|(go_at_call 203;refine (gX _ _).mono ?_;rintro e w' ⟨rfl,rfl⟩)|(go_at_call 204;refine (mh _ _).mono ?_;rintro e w' ⟨rfl,rfl⟩))
     go_round
     case rel=>exact ⟨k+1,aj,aj,by go_num,J⟩
     case measure=>simp [intOf];omega
    have J:=ai (show ∀j,1<=j->j<k+1->(letter (bt s j)||digit (bt s j))=true from fun j C O=>by
     by_cases e:j=k
     ·rw [e,V];simp
     exact ak I j C aj)
    go_wp2_with (first|(go_at_call 203;refine (gX _ _).mono ?_;rintro e w' ⟨rfl,rfl⟩)|(go_at_call 204;refine (mh _ _).mono ?_;rintro e w' ⟨rfl,rfl⟩))
    go_round
    case rel=>exact ⟨k+1,aj,aj,by go_num,J⟩
    case measure=>simp [intOf];omega
   have BK:=ai (oY s k h0 hl R U (ak I) (fun C=>absurd C Z));exact IK
theorem uX(s w)(hs:s.size<=maxLen):
  Calls prog 112 #[.string s] w fun e w'=>e=.returned (.int .i64 (dV (bW s)))/\w'=w:=by
 have I:=ai hs
 by_cases C:bW s=[]
 ·have Q:s.toList=[]:=by rw [aO];exact C
  have O:=ai C;clear C;go_enter func112,ntmps112;go_wp2;go_ret;exact ⟨by rw [O.u];rfl,rfl⟩
 ·have Q:s.toList.isEmpty=false:=by rw [aO];simpa using C
  have D:=ai (FV (bW s) C);clear C;generalize hn:jY (bW s)=n at D;have J:=ai hn;clear hn
  by_cases h1:(1:Int)<(n:Int)
  ·go_enter func112,ntmps112;go_wp2_with (go_at_call 144;refine (mi _ _ I.u).mono ?_;rintro e w' ⟨rfl,rfl⟩;rw [J.u]);go_ret;exact ⟨by rw [ak D,if_pos h1];rfl,rfl⟩
  go_enter func112,ntmps112;go_wp2_with (go_at_call 144;refine (mi _ _ I.u).mono ?_;rintro e w' ⟨rfl,rfl⟩;rw [J.u]);go_ret;exact ⟨by rw [ak D,if_neg aj];rfl,rfl⟩
abbrev eh:=@List.take_of_length_le
abbrev nY:=@List.length_drop
abbrev bc:=@bodyPost_ret
def Pw (A:aF:=by
 clear hc;go_wp2_with (first|(go_at_call 111;refine (qV _ _).mono ?_;rintro e w' ⟨rfl,rfl⟩));refine (uX _ _ Hsz.u).mono ?_;rintro e w' ⟨rfl,rfl⟩;rw [rG];generalize hn:dV ((bW s).drop k)=n at*;have C:=ai hn;clear hn;go_wp2;exact bc (v:=.agg #[.int .i64 k,.string (s.extract k (k+n))]) (by simp [results,results71,go_sem]) rfl ⟨by rw [Hp.u,Hx.u n rfl],ba.alloc az _⟩):aF:=A
def skip(l:List UInt8)(k:Nat):Nat:=k+((l.drop k).takeWhile dK).length
def jm(l:List UInt8)(p:Nat):List UInt8:=(l.drop p).take (dV (l.drop p))
theorem NE(s a k)(h1:a<=k)(Q:k<=s.size)(O:∀j,a<=j->j<k->blank (bt s j)=true)(I:k<s.size->blank (bt s k)=false):skip (bW s) a=k:=by
 have D:=sj s;rw [<-bf] at Q I;generalize bW s=l at*;unfold skip;have:=gy dK (l.drop a) (k-a) (fun j C J=>by
  simp at J;have:=O (a+j) aj aj;rw [D (a+j) aj] at this
  simpa [dK] using this) aM (fun C=>by
  simp at C;have:=I aj;rw [D k aj] at this
  simpa [dK,show a+(k-a)=k by omega] using this)
 omega
theorem sm(l):dV l<=l.length:=by
 cases l with
 |nil=>simp [dV]
 |cons c r=>
  simp only [dV];have:=(List.takeWhile_sublist dt (l:=r)).length_le
  split<;>simp<;>omega
theorem yP(s a b):bW (s.extract a b)=((bW s).drop a).take (b-a):=Lib.extract_data s a b
theorem extract_mk(s a b):s.extract a b=mk (((bW s).drop a).take (b-a)):=Lib.extract_eq s a b
theorem rG(s a):bW (s.extract a s.size)=(bW s).drop a:=by
 rw [yP,eh];rw [nY,bf];omega
theorem uY(s)(a:Nat)(w)(hs:s.size<=maxLen)(ha:a<=s.size):
  Calls prog 71 #[.string s,.int .i64 a] w fun e w'=>e=.returned (.agg #[.int .i64 (skip (bW s) a),.string (mk (jm (bW s) (skip (bW s) a)))])/\Below w.heap.size w w':=by
 have ac:=ai hs;unfold maxLen at hs;have ad:=get_bt s;go_enter func71,ntmps71;go_wp2
 go_loop [1] (fun i=>∃k:Nat,a<=k/\k<=s.size/\i=.int .i64 k/\Hid (∀j,a<=j->j<k->blank (bt s j)=true)) (fun i=>s.size-(intOf i).toNat)
 case atStart=>exact ⟨a,aj,aj,rfl,ai (fun j D Y=>aj)⟩
 case round=>
  obtain ⟨k,Z,ab,rfl,J⟩:=hrel
  by_cases hc:k<s.size/\blank (bt s k)=true
  ·obtain ⟨Q,O⟩:=hc;have U:=ai (show ∀j,a<=j->j<k+1->blank (bt s j)=true from fun j D Y=>by
    by_cases e:j=k
    ·rw [e,O]
    exact ak J j D aj)
   go_wp2_with (first|(go_at_call 111;refine (qV _ _).mono ?_;rintro e w' ⟨rfl,rfl⟩))
   go_round
   case rel=>exact ⟨k+1,aj,aj,by go_num,U⟩
   case measure=>simp [intOf];omega
  have Hp:=ai (NE s a k Z ab (ak J) (fun D=>by
   cases I:blank (bt s k)
   ·rfl
   exact absurd ⟨D,I⟩ hc))
  have V:=sm ((bW s).drop k);rw [nY,bf] at V;have Hx:=ai (show ∀n,dV ((bW s).drop k)=n->s.extract k (k+n)=mk (jm (bW s) k) from fun n hn=>by
   rw [extract_mk,jm,hn,show k+n-k=n by omega])
  have R:(s.extract k s.size).size<=maxLen:=by rw [ByteArray.size_extract];unfold maxLen;omega
  have Hsz:=ai R;clear R
  by_cases Q:k<s.size
  ·have O:blank (bt s k)=false:=by
    cases I:blank (bt s k)
    ·rfl
    exact absurd ⟨Q,I⟩ hc
   exact Pw
  exact Pw
abbrev aL:=@Nat.le_trans
abbrev cg:=@Nat.lt_of_lt_of_le
abbrev dP:=@Below.heap_setCell
abbrev iV:=@World.cell?_of_block
abbrev ii:=@Nat.lt_or_ge
abbrev gj:=@List.length_take
variable {W w1:af}
theorem IL(A:Below W.heap.size W w1):(∀b o,b<W.heap.size->w1.cell? ⟨b,o,none⟩=W.cell? ⟨b,o,none⟩)/\(∀b o,b<W.heap.size->w1.frozen? ⟨b,o,none⟩=W.frozen? ⟨b,o,none⟩):=
 ⟨fun b o h=>A.cell (p:=⟨b,o,none⟩) h,fun b o h=>A.frozen (p:=⟨b,o,none⟩) h⟩
structure But(b:Nat)(w w':af):Prop where
 os:w'.os=w.os
 tape:w'.tape=w.tape
 output:w'.output=w.output
 size:w.heap.size<=w'.heap.size
 block:∀k,k<w.heap.size->k≠b->w'.heap[k]? =w.heap[k]?
theorem But.refl(b w):But b w w:=⟨rfl,rfl,rfl,cm _,fun _ _ _=>rfl⟩
variable {x y z:af}
theorem But.trans(h:But b x y)(k:But b y z):But b x z:=
 ⟨k.os.trans h.os,k.tape.trans h.tape,k.output.trans h.output,aL h.size k.size,fun i hi A=>(k.block i (cg hi h.size) A).trans (h.block i hi A)⟩
theorem But.of_below(h:Below x.heap.size x y):But b x y:=⟨h.os,h.tape,h.output,h.size,fun k A _=>h.block k A⟩
theorem But.below(C:But b x y)(D:B<=b)(J:B<=x.heap.size):Below B x y:=⟨C.os,C.tape,C.output,C.size,fun k I=>C.block k aj aj⟩
theorem But.drew(h:But b x y):But b x y.drew:=⟨h.os,h.tape,h.output,h.size,h.block⟩
theorem But.alloc(h:But b x y)(o):But b x (y.alloc o):=
 h.trans (But.of_below (ba.alloc az o))
theorem But.setCell(h:But b x y)(o u):But b x (y.setCell ⟨b,o,none⟩ u):=
 h.trans ⟨rfl,rfl,rfl,by simp [World.setCell],fun k C A=>dP _ _ _ _ (by simpa using A)⟩
theorem But.setNew(C:But b x y){a}(ha:x.heap.size<=a.block)(u):But b x (y.setCell a u):=
 ⟨C.os,C.tape,C.output,aL C.size (by simp [World.setCell]),fun k I D=>(dP _ _ _ _ aj).trans (C.block k I D)⟩
theorem But.cell(h:But b x y){a}(ha:a.block<x.heap.size)(A:a.block≠b):y.cell? a=x.cell? a:=iV (w:=x) (h.block a.block ha A)
structure Rd(w:af)(b:Nat)(s:ae)(p:Nat)(t:ae)(d:Nat):Prop where
 blk:w.heap[b]? =some (.cells #[.string s,.int .i64 p,.string t,.int .i64 d] 140)
variable {s:ae}
theorem Rd.lt{t}(h:Rd w b s p t d):b<w.heap.size:=by
 rcases ii b w.heap.size with k|k
 ·exact k
 have:=h.blk;rw [Array.getElem?_eq_none k] at this;cases this
theorem Rd.c0{t}(h:Rd w b s p t d):w.cell? ⟨b,0,none⟩=some (.string s):=by simp [World.cell?,h.blk]
theorem Rd.c1{t}(h:Rd w b s p t d):w.cell? ⟨b,1,none⟩=some (.int .i64 p):=by simp [World.cell?,h.blk]
theorem Rd.c2{t}(h:Rd w b s p t d):w.cell? ⟨b,2,none⟩=some (.string t):=by simp [World.cell?,h.blk]
theorem Rd.c3{t}(h:Rd w b s p t d):w.cell? ⟨b,3,none⟩=some (.int .i64 d):=by simp [World.cell?,h.blk]
theorem Rd.fz{t}(h:Rd w b s p t d)(o):w.frozen? ⟨b,o,none⟩=false:=by simp [World.frozen?,h.blk]
variable {w':af}
theorem Rd.of_block{t}(h:Rd w b s p t d)(e:w'.heap[b]? =w.heap[b]?):Rd w' b s p t d:=⟨e.trans h.blk⟩
theorem Rd.below{t}(h:Rd w b s p t d)(k:Below w.heap.size w w'):Rd w' b s p t d:=h.of_block (k.block b h.lt)
theorem Rd.drew{t}(h:Rd w b s p t d):Rd w.drew b s p t d:=⟨h.blk⟩
theorem Rd.alloc{t}(h:Rd w b s p t d)(o):Rd (w.alloc o) b s p t d:=h.below (ba.alloc az o)
theorem fU{o c}{f:Nat×Nat}(u)(h:w.heap[b]? =some (.cells c T f)):
  (w.setCell ⟨b,o,none⟩ u).heap[b]? =some (.cells (c.setIfInBounds o u) T f):=by
 simp [World.setCell,Array.getElem?_modify,h]
theorem Rd.now{t}(A:Rd w b s p t d)(h:Nat)(t'):
  Rd ((w.setCell ⟨b,1,none⟩ (.int .i64 h)).setCell ⟨b,2,none⟩ (.string t')) b s h t' d:=by
 refine ⟨?_⟩;rw [fU _ (fU _ A.blk)]
 rfl
def aB(w:af)(g:Nat)(cs:Array ag)(T:TypeId):Prop:=w.heap[g]? =some (.cells cs T)
theorem aB.new(w:af)(cs:Array ag)(T:TypeId):aB (w.alloc (.cells cs T)) w.heap.size cs T:=by
 show (w.heap.push _)[w.heap.size]? =_
 simp
variable {cs:Array ag}
theorem aB.lt(h:aB w g cs T):g<w.heap.size:=by
 rcases ii g w.heap.size with k|k
 ·exact k
 unfold aB at h;rw [Array.getElem?_eq_none k] at h;cases h
theorem aB.below(h:aB w g cs T)(k:Below w.heap.size w w'):aB w' g cs T:=(k.block g h.lt).trans h
theorem aB.but(h:aB w g cs T)(k:But b w w')(A:g≠b):aB w' g cs T:=(k.block g h.lt A).trans h
theorem aB.alloc(h:aB w g cs T)(o):aB (w.alloc o) g cs T:=h.below (ba.alloc az o)
theorem aB.drew(h:aB w g cs T):aB w.drew g cs T:=h
theorem aB.other(h:aB w g cs T){a}(ha:g≠a.block)(u):aB (w.setCell a u) g cs T:=(dP _ _ _ _ ha).trans h
theorem aB.set(h:aB w g cs T)(o u):aB (w.setCell ⟨g,o,none⟩ u) g (cs.setIfInBounds o u) T:=fU u h
variable {v:ag}
theorem aB.cell(h:aB w g cs T){o}(A:cs[o]? =some v):w.cell? ⟨g,o,none⟩=some v:=by unfold aB at h;simp [World.cell?,h,A]
theorem aB.fz(h:aB w g cs T)(o):w.frozen? ⟨g,o,none⟩=false:=by unfold aB at h;simp [World.frozen?,h]
def cC(s:ae)(k:Nat):Nat:=skip (bW s) k
def bT(s:ae)(k:Nat):ae:=mk (jm (bW s) (skip (bW s) k))
theorem NF(l k)(h:k<=l.length):skip l k<=l.length:=by
 unfold skip;have:=(List.takeWhile_sublist dK (l:=l.drop k)).length_le;rw [nY] at this;omega
theorem so(l p)(h:p<=l.length):p+(jm l p).length<=l.length:=by
 unfold jm;have:=sm (l.drop p);rw [gj,nY] at*;omega
theorem Es(l):(mk l).size=l.length:=by simp [mk,ByteArray.size]
theorem mj(s k)(h:k<=s.size):cC s k+(bT s k).size<=s.size:=by
 unfold cC bT;rw [Es,<-bf];rw [<-bf] at h;exact so _ _ (NF _ _ h)
theorem BL(n w):Calls prog 76 #[.int .i64 n] w fun e w'=>e=.returned (.int .i64 n)/\w'=w:=by
 go_enter func76,ntmps76;go_wp2;go_ret;exact ⟨rfl,rfl⟩
theorem iA(s)(k:Nat)(a:Int)(w)(hs:s.size<=maxLen)(ha:k<=s.size)(h:a=(k:Int)):
  Calls prog 71 #[.string s,.int .i64 a] w fun e w'=>e=.returned (.agg #[.int .i64 (cC s k),.string (bT s k)])/\Below w.heap.size w w':=by
 subst h;exact uY s k w hs ha
abbrev pR:=@IntWalk.i64_in
attribute [local go_sem ↓] Go.wp_at_zero Go.wp_at_succ
theorem IM(b s p t d w)(hs:s.size<=maxLen)(C:Rd w b s p t d)(Q:p+t.size<=s.size):
  Calls prog 220 #[.pointer (some ⟨b,0,none⟩)] w fun e w'=>e=.returned (.tuple #[])/\Rd w' b s (cC s (p+t.size)) (bT s (p+t.size)) d/\But b w w':=by
 have O:=ai hs;unfold maxLen at hs;have H:=ai C;have h0:=C.c0;have h1:=C.c1;have h2:=C.c2;have V:=C.fz;have R:=C.lt;clear C;have U:IntKind.i64.wrap ((p:Int)+(t.size:Int))=(p:Int)+(t.size:Int):=pR _ ⟨aj,aj⟩;go_enter func220,ntmps220;go_wp2
 go_region_with
  (first|(go_at_call 76;refine (BL _ _).mono ?_;rintro e w' ⟨rfl,rfl⟩)|(go_at_call 71;refine (iA s (p+t.size) _ _ O.u Q ?_).mono ?_;(omega);rintro e w' ⟨rfl,I⟩;have D:=H.u.drew.below I;have k0:=D.c0;have k1:=D.c1;have Y:=D.c2;have Z:=D.fz;have J:=ai D;clear D))
 all_goals (go_end0;exact ⟨rfl,J.u.now _ _,(((But.refl b w).drew.trans (But.of_below I)).setCell 1 _).setCell 2 _⟩)
abbrev iW:=@List.any_eq_false
abbrev dn:=@List.getElem_of_mem
abbrev dQ:=@List.getD_eq_getElem?_getD
abbrev aG:=@ac
abbrev ei:=@List.any_eq_true
abbrev bu:=@List.getElem_mem
def eqs(a b:ae):Bool:=bW a==bW b
def gz(t:ae)(l:List ae):Bool:=l.any fun x=>eqs t x
theorem yQ(t l)(A:∀j,j<l.length->eqs t (l.getD j ByteArray.empty)=false):gz t l=false:=by
 unfold gz;rw [iW];intro x C;obtain ⟨j,h,rfl⟩:=dn C;have:=A j h;simp [dQ,aG h] at this;simp [this]
theorem BM(t l j)(A:j<l.length)(h:eqs t (l.getD j ByteArray.empty)=true):gz t l=true:=by
 unfold gz;rw [ei];refine ⟨l[j],bu _,?_⟩
 simpa [dQ,aG A] using h
theorem FW(g cap l t w)(ae:l.length<=maxLen)(U:∀i,i<l.length->w.cell? ⟨g,i,none⟩=some (.string (l.getD i ByteArray.empty))):
  Calls prog 219 #[.slice (some ⟨g,0,none⟩) l.length cap,.string t] w fun e w'=>(∃n:Int,e=.returned (.int .i64 n)/\decide (0<=n)=gz t l)/\w'=w:=by
 unfold maxLen at ae;generalize R:l.length=N at*;have O:=ai R;clear R;generalize I:(fun i=>l.getD i ByteArray.empty)=L at*;have J:=ai I;have ab:∀i,i<N->w.cell? ⟨g,i,none⟩=some (.string (L i)):=fun i hi=>by rw [U i hi,<-I]
 clear U I;go_enter func219,ntmps219;go_wp2
 go_loop [5,8] (fun u i=>∃k:Nat,k<=N/\i=.int .i64 k/\Hid (∀j,j<k->eqs t (L j)=false)) (fun _ i=>N-(intOf i).toNat)
 case atStart=>exact ⟨0,aj,rfl,ai (fun j Z=>aj)⟩
 case round=>
  obtain ⟨k,ag,rfl,Q⟩:=hrel
  by_cases V:k<N
  ·have af:=ab k V
   cases C:eqs t (L k)
   ·have ac:(t.toList==(L k).toList)=false:=by rw [aO,aO];exact C
    have Y:=ai (show ∀j,j<k+1->eqs t (L j)=false from fun j Z=>by
     by_cases e:j=k
     ·rw [e,C]
     exact ak Q j aj)
    clear C;go_wp2
    go_round
    case rel=>exact ⟨k+1,aj,by go_num,Y⟩
    case measure=>simp [intOf];omega
   have ac:(t.toList==(L k).toList)=true:=by rw [aO,aO];exact C
   have D:=ai (BM t l k (by rw [O.u];exact V) (by have this:l.getD k ByteArray.empty=L k:=congrFun J.u k;rw [this];exact C));clear C;go_wp2;go_ret;exact ⟨⟨k,rfl,by rw [D.u];simp⟩,rfl⟩
  have D:=ai (yQ t l (fun j ad=>by have this:l.getD j ByteArray.empty=L j:=congrFun J.u j;rw [this];exact ak Q j (by rw [O.u] at ad;omega)));go_wp2;go_ret;exact ⟨⟨-1,rfl,by rw [D.u];decide⟩,rfl⟩
theorem wT(g cap l t w)(h:l.length<=maxLen)(C:∀i,i<l.length->w.cell? ⟨g,i,none⟩=some (.string (l.getD i ByteArray.empty))):
  Calls prog 168 #[.slice (some ⟨g,0,none⟩) l.length cap,.string t] w fun e w'=>e=.returned (.bool (gz t l))/\w'=w:=by
 have A:=FW g cap l t w h C;have H:=ai A;clear A C;go_enter func168,ntmps168;go_wp2_with fail;refine H.u.mono ?_;rintro e w' ⟨⟨n,rfl,h⟩,rfl⟩;have D:=ai h;clear h;go_wp2;go_ret;exact ⟨by rw [<-D.u];rfl,rfl⟩
theorem wU(b s p t d g cap l w)(h:Rd w b s p t d)(C:l.length<=maxLen)(A:∀i,i<l.length->w.cell? ⟨g,i,none⟩=some (.string (l.getD i ByteArray.empty))):
  Calls prog 113 #[.pointer (some ⟨b,0,none⟩),.slice (some ⟨g,0,none⟩) l.length cap] w fun e w'=>e=.returned (.bool (gz t l))/\w'=w:=by
 have H:=ai (wT g cap l t w C A);clear A;have h2:=h.c2;clear h;go_enter func113,ntmps113;go_wp2_with fail;refine H.u.mono ?_;rintro e w' ⟨rfl,rfl⟩;go_wp2;go_ret;exact ⟨rfl,rfl⟩
abbrev ml:=@decide_eq_true
abbrev k5:=@decide_eq_false
abbrev bj:=@World.new_ne
def Px (A:aF:=by
 simp [results,results221,go_sem,Et,bY,hcb]):aF:=A
def c9(t:ae):Bool:=match bW t with
 | []=>false
 |c::r=>letter c.toNat&& !(c::r== [116,121,112,101])
def next(s:ae)(k:Nat):Nat:=cC s k+(bT s k).size
def bY(c:Nat):ag:=.iface 134 (.int .i64 c)
structure oV(w:af)(b:Nat)(s:ae)(k d:Nat):Prop where
 rd:Rd w b s (cC s k) (bT s k) d
 le:k<=s.size
theorem oV.of_rd(h:Rd w b s (cC s (next s k)) (bT s (next s k)) d)(A:k<=s.size):oV w b s (next s k) d:=⟨h,mj s k A⟩
theorem oV.below(h:oV w b s k d)(A:Below w.heap.size w w'):oV w' b s k d:=⟨h.rd.below A,h.le⟩
theorem oV.alloc(h:oV w b s k d)(o):oV (w.alloc o) b s k d:=⟨h.rd.alloc o,h.le⟩
theorem oV.drew(h:oV w b s k d):oV w.drew b s k d:=⟨h.rd.drew,h.le⟩
theorem oV.setNew(h:oV w b s k d){a}(ha:a.block≠b)(u):oV (w.setCell a u) b s k d:=
 ⟨h.rd.of_block (dP _ _ _ _ (Ne.symm ha)),h.le⟩
theorem sq(b s k d w)(hs:s.size<=maxLen)(h:oV w b s k d):
  Calls prog 220 #[.pointer (some ⟨b,0,none⟩)] w fun e w'=>e=.returned (.tuple #[])/\oV w' b s (next s k) d/\But b w w':=by
 refine (IM b s _ _ d w hs h.rd (mj s k h.le)).mono ?_;rintro e w' ⟨rfl,h1,h2⟩;exact ⟨rfl,oV.of_rd h1 h.le,h2⟩
theorem QX(t):c9 t=(decide ((0:Int)<(jY (bW t):Nat))&& !(t.toList== [116,121,112,101])):=by
 rw [aO];unfold c9
 cases bW t with
 |nil=>rfl
 |cons c r=>
  simp only [jY]
  by_cases hc:letter c.toNat=true
  rotate_left
  ·simp [hc]
  simp only [hc,if_true];rw [show decide ((0:Int)<((1+(r.takeWhile dt).length:Nat):Int))=true from ml aj]
theorem kF(s k)(hs:s.size<=maxLen)(h:k<=s.size):(bT s k).size<=maxLen:=by
 have:=mj s k h;unfold maxLen at*;omega
theorem ij(p t w)(A:t.size<=maxLen):
  Calls prog 171 #[.agg #[.int .i64 p,.string t]] w fun e w'=>e=.returned (.bool (c9 t))/\Below w.heap.size w w':=by
 have C:=ai A;clear A;have h:=ai (QX t);generalize hn:jY (bW t)=n at h;have D:=ai hn;clear hn
 by_cases h0:(0:Int)<(n:Int)
 ·rw [ml h0] at h
  cases A:(t.toList== [116,121,112,101])
  all_goals
   rw [A] at h;go_enter func171,ntmps171;go_wp2_with (go_at_call 144;refine (mi _ _ C.u).mono ?_;rintro e w' ⟨rfl,rfl⟩;rw [D.u]);go_ret;exact ⟨by rw [ak h];rfl,ba.alloc az _⟩
 ·rw [k5 h0] at h;go_enter func171,ntmps171;go_wp2_with (go_at_call 144;refine (mi _ _ C.u).mono ?_;rintro e w' ⟨rfl,rfl⟩;rw [D.u]);go_ret;exact ⟨by rw [ak h];rfl,ba.alloc az _⟩
theorem Uk(b s k d g cap x w)(h:oV w b s k d)(A:w.cell? ⟨g,0,none⟩=some (.string x)):
  Calls prog 113 #[.pointer (some ⟨b,0,none⟩),.slice (some ⟨g,0,none⟩) 1 cap] w fun e w'=>e=.returned (.bool (eqs (bT s k) x))/\w'=w:=
 (wU b s _ _ d g cap [x] w h.rd (by simp [maxLen]) (fun i hi=>by
  have e:i=0:=by simp at hi;exact hi
  subst e;exact A)).mono fun e w' ⟨h1,h2⟩=>⟨by rw [h1];simp [gz],h2⟩
theorem IP(b s k d x w)(hs:s.size<=maxLen)(C:oV w b s k d)(O:eqs (bT s k) x=true):
  Calls prog 169 #[.pointer (some ⟨b,0,none⟩),.string x] w fun e w'=>e=.returned .nilIface/\oV w' b s (next s k) d/\But b w w':=by
 have H:=ai C;have J:=ai hs;clear C hs;go_enter func169,ntmps169;go_wp2_with fail;refine (Uk b s k d _ _ x _ (H.u.alloc _) an).mono ?_;rintro e w' ⟨rfl,rfl⟩;rw [O];go_wp2_with fail;refine (sq b s k d _ J.u (H.u.alloc _)).mono ?_;rintro e w' ⟨rfl,h1,h2⟩;have D:=ai h1;have I:=ai (((But.refl b w).alloc _).trans h2);clear h1 h2;go_wp2;go_ret;exact ⟨rfl,D.u,I.u⟩
theorem NG(b s k d x w)(C:oV w b s k d)(D:eqs (bT s k) x=false):
  Calls prog 169 #[.pointer (some ⟨b,0,none⟩),.string x] w fun e w'=>e=.returned (bY 2)/\oV w' b s k d/\Below w.heap.size w w':=by
 have H:=ai C;clear C;go_enter func169,ntmps169;go_wp2_with fail;refine (Uk b s k d _ _ x _ (H.u.alloc _) an).mono ?_;rintro e w' ⟨rfl,rfl⟩;rw [D];go_wp2;go_ret;exact ⟨rfl,H.u.alloc _,ba.alloc az _⟩
def rH(s:ae)(k:Nat):ag:=.agg #[.int .i64 (cC s k),.string (bT s k)]
def Et:ag:=.agg #[.int .i64 0,.string ⟨#[]⟩]
theorem FY(b s k d w)(hs:s.size<=maxLen)(C:oV w b s k d)(O:c9 (bT s k)=false):
  Calls prog 221 #[.pointer (some ⟨b,0,none⟩)] w fun e w'=>e=.returned (.tuple #[Et,bY 2])/\oV w' b s k d/\Below w.heap.size w w':=by
 have H:=ai C;have J:=ai (kF s k hs C.le);have h1:=C.rd.c1;have h2:=C.rd.c2;have R:=C.rd.lt;clear C hs;go_enter func221,ntmps221;go_wp2_with (go_at_call 171;refine (ij _ _ _ J.u).mono ?_;rintro e w' ⟨rfl,I⟩;rw [O];obtain ⟨hcb,Q⟩:=IL I);have D:Below w.heap.size w w':=(ba.alloc az _).trans (I.mono an);exact bc (v:=.tuple #[Et,bY 2]) Px rfl ⟨rfl,((H.u.below D).setNew aM _).setNew aM _,(D.setCell an _).setCell an _⟩
theorem FZ(b s k d w)(hs:s.size<=maxLen)(C:oV w b s k d)(O:c9 (bT s k)=true)(V:8<(bT s k).size):
  Calls prog 221 #[.pointer (some ⟨b,0,none⟩)] w fun e w'=>e=.returned (.tuple #[Et,bY 3])/\oV w' b s k d/\Below w.heap.size w w':=by
 have H:=ai C;have J:=ai (kF s k hs C.le);have h1:=C.rd.c1;have h2:=C.rd.c2;have Y:=C.rd.lt;have Q:(8:Int)<((bT s k).size:Int):=aj;have R:decide ((8:Int)<((bT s k).size:Int))=true:=by simpa using Q
 clear C hs;go_enter func221,ntmps221;go_wp2_with (go_at_call 171;refine (ij _ _ _ J.u).mono ?_;rintro e w' ⟨rfl,I⟩;rw [O];obtain ⟨hcb,U⟩:=IL I);have D:Below w.heap.size w w':=(ba.alloc az _).trans (I.mono an);exact bc (v:=.tuple #[Et,bY 3]) Px rfl ⟨rfl,((H.u.below D).setNew aM _).setNew aM _,(D.setCell an _).setCell an _⟩
theorem NH(b s k d w)(hs:s.size<=maxLen)(C:oV w b s k d)(ag:c9 (bT s k)=true)(ap:(bT s k).size<=8):
  Calls prog 221 #[.pointer (some ⟨b,0,none⟩)] w fun e w'=>e=.returned (.tuple #[rH s k,.nilIface])/\oV w' b s (next s k) d/\But b w w':=by
 have H:=ai C;have Z:=ai (kF s k hs C.le);have ab:=ai hs;clear hs;have h1:=C.rd.c1;have h2:=C.rd.c2;have R:=C.rd.lt;have ar:((bT s k).size:Int)<=(8:Int):=aj;clear C;go_enter func221,ntmps221;go_wp2_with (go_at_call 171;refine (ij _ _ _ Z.u).mono ?_;rintro e w' ⟨rfl,I⟩;rw [ag];obtain ⟨af,ah⟩:=IL I);have D:Below w.heap.size w w':=(ba.alloc az _).trans (I.mono an);have au:w.heap.size<w'.heap.size:=by have:=I.size;simp at this;omega
 have k1:w'.cell? ⟨b,1,none⟩=some (.int .i64 (cC s k)):=(D.cell R).trans h1;have U:w'.cell? ⟨b,2,none⟩=some (.string (bT s k)):=(D.cell R).trans h2;have Y:=ai D;have ac:=ai (H.u.below D);have ae:=ai ((aB.new w #[.int .i64 0,.string ⟨#[]⟩] 107).below I);clear af ah I D h1 h2;have n1:=bj w' _ k1;have n2:=bj w' _ U
 go_region_held3 (fun w'=>w'.cell? ⟨b,1,none⟩=some (.int .i64 (cC s k))/\w'.cell? ⟨b,2,none⟩=some (.string (bT s k))) (go_keep) (fail)
 rename_i ak;clear ak;go_wp2_with fail;refine (sq b s k d _ ab.u (ac.u.alloc _).drew).mono ?_;rintro e ax ⟨rfl,p2,O⟩;have ad:=ai p2;have V:=ai ((But.of_below (b:=b) Y.u).trans (((But.refl b w').alloc _).drew.trans O));have Q:=(aB.new w' #[.int .i64 (cC s k),.string (bT s k)] 107).drew.but O aj;have J:=(ae.u.alloc _).drew.but O aj;have av:=Q.cell (o:=0) rfl;have aw:=Q.cell (o:=1) rfl;have al:=J.cell (o:=0) rfl;have am:=J.cell (o:=1) rfl;have ay:=J.fz;clear p2 O k1 U n1 n2 Q J;go_wp2;exact bc (v:=.tuple #[rH s k,.nilIface]) (by simp [results,results221,go_sem,rH,al,am]) rfl ⟨rfl,(ad.u.setNew aM _).setNew aM _,(V.u.setNew an _).setNew an _⟩
abbrev dL:=@beq_iff_eq
abbrev aP:=@if_false
def IQ (h:aF:=by
 rintro e w' ⟨rfl,h1,h2⟩;exact ⟨But.of_below h2,Et,d,rfl,rfl,h1,h.good⟩):aF:=h
structure Gr where
 ty:ae
 tp:Nat
 reach:Nat
 rel:ae
 rp:Nat
structure Nd where
 kind:Nat
 place:Nat
 n1:ae
 p1:Nat
 n2:ae
 p2:Nat
 gs:List Gr
structure Ex where
 nd:Nd
 l:Option Ex
 r:Option Ex
structure Rl where
 name:ae
 place:Nat
 body:Ex
structure Ty where
 name:ae
 place:Nat
 rels:List Rl
abbrev eC(α:Type):=Except (Nat×Nat) (α×Nat)
def em:ae:=⟨#[]⟩
def sg(c:UInt8):ae:=⟨#[c]⟩
def jf:ae:=⟨#[116,121,112,101]⟩
section
variable (T:Nat->ae)(P:Nat->Nat)
def cE(i:Nat):eC Unit:=if c9 (T i) then (if 8<(T i).size then .error (3,i) else .ok ((),i+1)) else .error (2,i)
def b5(x:ae)(i:Nat):eC Unit:=match cE T i with
 | .error e=> .error e
 | .ok (_,j)=>if eqs (T j) x then .ok ((),j+1) else .error (2,j)
def cW(i:Nat):eC Gr:=match cE T i with
 | .error e=> .error e
 | .ok (_,j)=>if eqs (T j) (sg 42) then .ok (⟨T i,P i,1,em,0⟩,j+1)
  else if eqs (T j) (sg 35) then (match cE T (j+1) with
   | .error e=> .error e
   | .ok (_,m)=> .ok (⟨T i,P i,2,T (j+1),P (j+1)⟩,m))
  else .ok (⟨T i,P i,0,em,0⟩,j)
def dW:Nat->List Gr->Nat->eC (List Gr)
 |0,_,i=> .error (0,i)
 |f+1,acc,i=>match cW T P (i+1) with
  | .error e=> .error e
  | .ok (g,j)=>if eqs (T j) (sg 44) then dW f (acc++[g]) j
   else if eqs (T j) (sg 93) then .ok (acc++[g],j+1) else .error (2,j)
def Eu(i:Nat)(gs:List Gr):Ex:=⟨⟨0,P i,em,0,em,0,gs⟩,none,none⟩
def kG(i:Nat):eC Ex:=match dW T P 512 [] i with
 | .error e=> .error e
 | .ok (gs,j)=> .ok (Eu P i gs,j)
def iX(i:Nat):eC Ex:=match cE T i with
 | .error e=> .error e
 | .ok (_,j)=>if eqs (T j) (sg 46) then (match cE T (j+1) with
   | .error e=> .error e
   | .ok (_,m)=> .ok (⟨⟨2,P i,T i,P i,T (j+1),P (j+1),[]⟩,none,none⟩,m))
  else .ok (⟨⟨1,P i,T i,P i,em,0,[]⟩,none,none⟩,j)
def eQ(A:Bool)(h:Nat->eC Ex)(i:Nat):eC Ex:=
 if eqs (T i) (sg 91) then kG T P i
 else if eqs (T i) (sg 40) then
  (if A then (match h (i+1) with
   | .error e=> .error e
   | .ok (x,j)=>if eqs (T j) (sg 41) then .ok (x,j+1) else .error (2,j))
  else .error (3,i))
 else iX T P i
def kindOf(t:ae):Nat:=if eqs t (sg 124) then 3 else if eqs t (sg 38) then 4 else 5
def fV(t:ae)(p:Nat)(x y:Ex):Ex:=⟨⟨kindOf t,p,em,0,em,0,[]⟩,some x,some y⟩
def joinL(signs:List ae)(part:Nat->eC Ex):Nat->Ex->Nat->eC Ex
 |0,_,i=> .error (0,i)
 |f+1,x,i=>if gz (T i) signs then (match part (i+1) with
   | .error e=> .error e
   | .ok (y,j)=>joinL signs part f (fV (T i) (P i) x y) j)
  else .ok (x,i)
def eG(signs:List ae)(part:Nat->eC Ex)(i:Nat):eC Ex:=match part i with
 | .error e=> .error e
 | .ok (x,j)=>joinL T P signs part 512 x j
def gY(A:Bool)(h:Nat->eC Ex)(i:Nat):eC Ex:=eG T P [sg 38,sg 45] (eQ T P A h) i
def fb:Nat->Nat->eC Ex
 |0,i=>eG T P [sg 124] (gY T P false (fun _=> .error (0,0))) i
 |n+1,i=>eG T P [sg 124] (gY T P true (fb n)) i
def kH(i:Nat):eC Rl:=match b5 T (sg 58) i with
 | .error e=> .error e
 | .ok (_,j)=>match fb T P 4 j with
  | .error e=> .error e
  | .ok (x,m)=>if eqs (T m) (sg 59) then .ok (⟨T i,P i,x⟩,m+1) else .error (2,m)
def dg:Nat->List Rl->Nat->eC (List Rl)
 |0,_,i=> .error (0,i)
 |f+1,acc,i=>if eqs (T i) (sg 125) then .ok (acc,i+1)
  else if c9 (T i)&&acc.length==6 then .error (3,i)
  else match kH T P i with
   | .error e=> .error e
   | .ok (r,j)=>dg f (acc++[r]) j
def lX(i:Nat):eC Ty:=if eqs (T i) jf then (match b5 T (sg 123) (i+1) with
  | .error e=> .error e
  | .ok (_,j)=>match dg T P 512 [] j with
   | .error e=> .error e
   | .ok (rs,m)=> .ok (⟨T (i+1),P (i+1),rs⟩,m))
 else .error (2,i)
def db:Nat->List Ty->Nat->eC (List Ty)
 |0,_,i=> .error (0,i)
 |f+1,acc,i=>if eqs (T i) em then .ok (acc,i)
  else if eqs (T i) jf&&acc.length==5 then .error (3,i)
  else match lX T P i with
   | .error e=> .error e
   | .ok (t,j)=>db f (acc++[t]) j
def ej:eC (List Ty):=db T P 512 [] 0
end
def K(s:ae):Nat->Nat
 |0=>0
 |i+1=>next s (K s i)
def TT(s:ae)(i:Nat):ae:=bT s (K s i)
def PP(s:ae)(i:Nat):Nat:=cC s (K s i)
structure At(w:af)(b:Nat)(s:ae)(i d:Nat):Prop where
 pos:oV w b s (K s i) d
 good:i<=K s i
variable {w:af} {s:ae}
theorem At.le(h:At w b s i d):i<=s.size:=aL h.good h.pos.le
variable {w':af}
theorem At.below(h:At w b s i d)(k:Below w.heap.size w w'):At w' b s i d:=⟨h.pos.below k,h.good⟩
theorem At.alloc(h:At w b s i d)(o):At (w.alloc o) b s i d:=⟨h.pos.alloc o,h.good⟩
theorem At.drew(h:At w b s i d):At w.drew b s i d:=⟨h.pos.drew,h.good⟩
theorem At.setNew(h:At w b s i d){a}(ha:a.block≠b)(u):At (w.setCell a u) b s i d:=⟨h.pos.setNew ha u,h.good⟩
theorem At.lt(h:At w b s i d):b<w.heap.size:=h.pos.rd.lt
theorem At.grown(h:At w b s i d)(k:w.grownBy w' row)(A:some b≠row):At w' b s i d:=⟨⟨h.pos.rd.of_block (k.block b h.lt A),h.pos.le⟩,h.good⟩
theorem Ev(l k):k<=skip l k:=by unfold skip;omega
theorem F0(A:i<=K s i)(h:0<(TT s i).size):i+1<=K s (i+1):=by
 show i+1<=cC s (K s i)+(bT s (K s i)).size
 have:=Ev (bW s) (K s i);unfold TT at h;unfold cC;omega
theorem At.next(h:oV w b s (next s (K s i)) d)(A:i<=K s i)(C:0<(TT s i).size):At w b s (i+1) d:=⟨h,F0 A C⟩
theorem yR{t}(h:c9 t=true):0<t.size:=by
 rw [<-bf];unfold c9 at h;generalize bW t=l at*
 cases l with
 |nil=>simp at h
 |cons c r=>simp
theorem cG{t x}(h:eqs t x=true)(A:0<(bW x).length):0<t.size:=by
 rw [<-bf];unfold eqs at h;rw [dL] at h;rw [h];exact A
def SO(v:ag):Prop:=v=.nilIface\/∃t x,v=.iface t x
def Post{α:Type}(b:Nat)(s:ae)(d:Nat)(w:af)(r:eC α)(rep:af->α->ag->Prop)(bad:ag->Prop)(e:Ending)(w':af):Prop:=
 But b w w'/\match r with
  | .ok (x,j)=>∃v,e=.returned (.tuple #[v,.nilIface])/\rep w' x v/\At w' b s j d
  | .error (c,j)=>∃v d',e=.returned (.tuple #[v,bY c])/\bad v/\At w' b s j d'
theorem cT(b s i d w)(hs:s.size<=maxLen)(h:At w b s i d):
  Calls prog 221 #[.pointer (some ⟨b,0,none⟩)] w (Post b s d w (cE (TT s) i) (fun _ _ v=>v=rH s (K s i)) (fun v=>v=Et)):=by
 unfold cE
 cases hn:c9 (TT s i)
 ·refine (FY b s (K s i) d w hs h.pos hn).mono ?_;exact IQ
 ·by_cases hl:8<(TT s i).size
  ·simp only [hl,if_true];refine (FZ b s (K s i) d w hs h.pos hn hl).mono ?_;exact IQ
  simp only [hl,if_true,aP];refine (NH b s (K s i) d w hs h.pos hn (by unfold TT at hl;omega)).mono ?_;rintro e w' ⟨rfl,h1,h2⟩;exact ⟨h2,_,rfl,rfl,At.next h1 h.good (yR hn)⟩
abbrev sr:=@Below.setCell
def jZ (A:aF:=by
 first|omega|(simp;omega)|simp):aF:=A
theorem bB{a b c:af}(C:Hid (Below B a b))(k:Below B a b->Below B a c:=by intro C;with_reducible repeat (first|exact C|refine Below.drew ?_|(refine sr ?_ ?_ _;rotate_left;exact jZ)|(refine Below.alloc ?_ ?_ _;rotate_left;exact jZ))):Below B a c:=k (ak C)
variable {cs:Array ag}
theorem b4{a b:af}{ds:Array ag}(C:Hid (aB a g cs T))(k:aB a g cs T->aB b g ds T:=by intro C;with_reducible repeat (first|exact C|apply aB.alloc|apply aB.drew|apply aB.set|(apply aB.other;case ha=>exact jZ))):aB b g ds T:=k (ak C)
theorem cL{a b c:af}(C:Hid (But B a b))(k:But B a b->But B a c:=by intro C;with_reducible repeat (first|exact C|refine But.alloc ?_ _|refine But.drew ?_|(refine But.setNew ?_ ?_ _;rotate_left;exact jZ))):But B a c:=k (ak C)
theorem nM{a b c:af}(C:Hid (But B a b))(k:But B a b->But B a c:=by intro C;with_reducible repeat (first|exact C|refine But.alloc ?_ _|refine But.drew ?_|refine But.setCell ?_ _ _|(refine But.setNew ?_ ?_ _;rotate_left;exact jZ))):But B a c:=k (ak C)
theorem eH{a b:af}(C:Hid (At a g s i d))(k:At a g s i d->At b g s i d:=by intro C;with_reducible repeat (first|exact C|refine At.alloc ?_ _|refine At.drew ?_|(refine At.setNew ?_ ?_ _;rotate_left;exact jZ))):At b g s i d:=k (ak C)
abbrev BP:Obj:=.cells #[.int .i64 0,.string ⟨#[]⟩] 107
def au (A:aF:=by
 kernel_rfl):aF:=A
def NJ(v:ag):Prop:=∃(p:Nat)(t:ae),v=.agg #[.int .i64 p,.string t]
theorem aB.two{x y}(h:aB w g #[x,y] T):w.cell? ⟨g,0,none⟩=some x/\w.cell? ⟨g,1,none⟩=some y:=⟨h.cell rfl,h.cell rfl⟩
theorem aB.three{x y z}(h:aB w g #[x,y,z] T):w.cell? ⟨g,0,none⟩=some x/\w.cell? ⟨g,1,none⟩=some y/\w.cell? ⟨g,2,none⟩=some z:=⟨h.cell rfl,h.cell rfl,h.cell rfl⟩
variable {v:ag}
theorem aB.five{x y z u}(h:aB w g #[x,y,z,u,v] T):w.cell? ⟨g,0,none⟩=some x/\w.cell? ⟨g,1,none⟩=some y/\w.cell? ⟨g,2,none⟩=some z/\w.cell? ⟨g,3,none⟩=some u/\w.cell? ⟨g,4,none⟩=some v:=⟨h.cell rfl,h.cell rfl,h.cell rfl,h.cell rfl,h.cell rfl⟩
theorem wW{P fn p u ty}(h:fn.results=#[.cell p ty,.tmp u])(tmps w g cs t e d)(D:tmps.getD p undef=.pointer (some ⟨g,0,none⟩))(I:tmps.getD u undef=e)(A:aB w g cs t)(J:P.underlying ty=some d)(C:(match d with| .struct _| .array _ _=>true|_=>false)=true)(hi:(P.info? ty).map (·.size)=some cs.size):
  (results fn tmps).run P w=.ok (.tuple #[.agg cs,e]) w:=by
 rw [results_cell_tmp h,D,I];simp [asAddr,run_loadVar_row w g t ty cs (0,0) d A J C hi]
theorem ik(b s i d x w)(hs:s.size<=maxLen)(h:At w b s i d)(A:eqs (TT s i) x=true)(C:0<(bW x).length):
  Calls prog 169 #[.pointer (some ⟨b,0,none⟩),.string x] w fun e w'=>e=.returned .nilIface/\At w' b s (i+1) d/\But b w w':=by
 refine (IP b s (K s i) d x w hs h.pos A).mono ?_;rintro e w' ⟨rfl,h1,h2⟩;exact ⟨rfl,At.next h1 h.good (cG A C),h2⟩
theorem mr(b s i d x w)(h:At w b s i d)(A:eqs (TT s i) x=false):
  Calls prog 169 #[.pointer (some ⟨b,0,none⟩),.string x] w fun e w'=>e=.returned (bY 2)/\At w' b s i d/\But b w w':=by
 refine (NG b s (K s i) d x w h.pos A).mono ?_;rintro e w' ⟨rfl,h1,h2⟩;exact ⟨rfl,⟨h1,h.good⟩,But.of_below h2⟩
theorem steps(b s i d w)(hs:s.size<=maxLen)(h:At w b s i d)(A:0<(TT s i).size):
  Calls prog 220 #[.pointer (some ⟨b,0,none⟩)] w fun e w'=>e=.returned (.tuple #[])/\At w' b s (i+1) d/\But b w w':=by
 refine (sq b s (K s i) d w hs h.pos).mono ?_;rintro e w' ⟨rfl,h1,h2⟩;exact ⟨rfl,At.next h1 h.good A,h2⟩
theorem ats(b s i d g cap x w)(h:At w b s i d)(A:w.cell? ⟨g,0,none⟩=some (.string x)):
  Calls prog 113 #[.pointer (some ⟨b,0,none⟩),.slice (some ⟨g,0,none⟩) 1 cap] w fun e w'=>e=.returned (.bool (eqs (TT s i) x))/\w'=w:=
 Uk b s (K s i) d g cap x w h.pos A
theorem wX(b s i d x w)(hs:s.size<=maxLen)(I:At w b s i d)(c j)(O:cE (TT s) i=.error (c,j)):
  Calls prog 170 #[.pointer (some ⟨b,0,none⟩),.string x] w (Post b s d w (.error (c,j):eC Unit) (fun _ _ v=>v=rH s (K s i)) NJ):=by
 have V:=I.lt;have C:=ai (cT b s i d (w.alloc BP) hs (I.alloc _));rw [O] at C;clear O;go_enter func170,ntmps170;go_wp2_with fail;refine (ak C).mono ?_;rintro e w1 ⟨b1,v,d',rfl,rfl,J⟩;have Q:=ai J;have R:=ai (((But.refl b w).alloc _).trans b1);have D:=(aB.new w #[.int .i64 0,.string ⟨#[]⟩] 107).but b1 aj;obtain ⟨Z,ab⟩:=D.two;have z:=D.fz;have Y:=D.lt;have U:=ai D;clear J b1 C I hs D;unfold bY Et;go_wp2;exact bc (v:=.tuple #[Et,bY c]) (wW results170 _ _ w.heap.size #[.int .i64 0,.string ⟨#[]⟩] 107 _ _ rfl rfl (((U.u.set 0 _).set 1 _).alloc _) underlying107 rfl au) rfl
  ⟨((R.u.setNew an _).setNew an _).alloc _,Et,d',rfl,⟨0,_,rfl⟩,((Q.u.setNew aM _).setNew aM _).alloc _⟩
theorem wY(b s i d x w)(hs:s.size<=maxLen)(O:At w b s i d)(j)(Y:cE (TT s) i=.ok ((),j))(V:eqs (TT s j) x=true)(al:0<(bW x).length):
  Calls prog 170 #[.pointer (some ⟨b,0,none⟩),.string x] w (Post b s d w (.ok ((),j+1):eC Unit) (fun _ _ v=>v=rH s (K s i)) NJ):=by
 have am:=O.lt;have ah:=ai hs;have ag:=ai V;have C:=ai (cT b s i d (w.alloc BP) hs (O.alloc _));rw [Y] at C;clear Y V;go_enter func170,ntmps170;go_wp2_with fail;refine (ak C).mono ?_;rintro e w1 ⟨b1,v,rfl,rfl,R⟩;have Z:=ai R;have ac:=ai (((But.refl b w).alloc _).trans b1);have D:=(aB.new w #[.int .i64 0,.string ⟨#[]⟩] 107).but b1 aj;have ae:=ai D;obtain ⟨ax,az⟩:=D.two;have z:=D.fz;have av:=D.lt;have ap:¬(w1.heap.size=w.heap.size):=aj;have ar:¬(w.heap.size=w1.heap.size):=aj;clear R b1 C O hs D;unfold rH;go_wp2
 go_region_held3 (fun w'=>w'.cell? ⟨w1.heap.size,0,none⟩=some (.int .i64 (cC s (K s i)))/\w'.cell? ⟨w1.heap.size,1,none⟩=some (.string (bT s (K s i))))
  (go_keep) ((go_at_call 169;refine (ik b s j d x _ ah.u ?_ ag.u al).mono ?_;(exact (Z.u.alloc _).drew);rintro e aC ⟨rfl,U,J⟩;have Q:=(aB.new w1 #[.int .i64 (cC s (K s i)),.string (bT s (K s i))] 107).drew.but J aj;obtain ⟨aw,n1⟩:=Q.two;have I:=(ae.u.alloc (.cells #[.int .i64 (cC s (K s i)),.string (bT s (K s i))] 107)).drew.but J aj;obtain ⟨ay,aA⟩:=I.two;have aD:=I.fz;have af:=ai I;have ab:=ai U;have ad:=ai J;clear Q I U J))
 go_wp2;exact bc (v:=.tuple #[rH s (K s i),.nilIface]) (wW results170 _ _ w.heap.size #[.int .i64 (cC s (K s i)),.string (bT s (K s i))] 107 _ _ rfl rfl ((af.u.set 0 _).set 1 _) underlying107 rfl au) rfl
  ⟨(((ac.u.alloc _).drew.trans ad.u).setNew an _).setNew an _,_,rfl,rfl,(ab.u.setNew aM _).setNew aM _⟩
theorem yU(b s i d x w)(hs:s.size<=maxLen)(O:At w b s i d)(j)(Y:cE (TT s) i=.ok ((),j))(V:eqs (TT s j) x=false):
  Calls prog 170 #[.pointer (some ⟨b,0,none⟩),.string x] w (Post b s d w (.error (2,j):eC Unit) (fun _ _ v=>v=rH s (K s i)) NJ):=by
 have al:=O.lt;have ah:=ai hs;have ag:=ai V;have C:=ai (cT b s i d (w.alloc BP) hs (O.alloc _));rw [Y] at C;clear Y V;go_enter func170,ntmps170;go_wp2_with fail;refine (ak C).mono ?_;rintro e w1 ⟨b1,v,rfl,rfl,R⟩;have Z:=ai R;have ac:=ai (((But.refl b w).alloc _).trans b1);have D:=(aB.new w #[.int .i64 0,.string ⟨#[]⟩] 107).but b1 aj;have ae:=ai D;obtain ⟨aw,ay⟩:=D.two;have z:=D.fz;have ar:=D.lt;have am:¬(w1.heap.size=w.heap.size):=aj;have ap:¬(w.heap.size=w1.heap.size):=aj;clear R b1 C O hs D;unfold rH;go_wp2
 go_region_held3 (fun w'=>w'.cell? ⟨w1.heap.size,0,none⟩=some (.int .i64 (cC s (K s i)))/\w'.cell? ⟨w1.heap.size,1,none⟩=some (.string (bT s (K s i))))
  (go_keep) ((go_at_call 169;refine (mr b s j d x _ ?_ ag.u).mono ?_;(exact (Z.u.alloc _).drew);rintro e aA ⟨rfl,U,J⟩;have Q:=(aB.new w1 #[.int .i64 (cC s (K s i)),.string (bT s (K s i))] 107).drew.but J aj;obtain ⟨av,n1⟩:=Q.two;have I:=(ae.u.alloc (.cells #[.int .i64 (cC s (K s i)),.string (bT s (K s i))] 107)).drew.but J aj;obtain ⟨ax,az⟩:=I.two;have aC:=I.fz;have af:=ai I;have ab:=ai U;have ad:=ai J;clear Q I U J))
 go_wp2;exact bc (v:=.tuple #[rH s (K s i),bY 2]) (wW results170 _ _ w.heap.size #[.int .i64 (cC s (K s i)),.string (bT s (K s i))] 107 _ _ rfl rfl ((af.u.set 0 _).set 1 _) underlying107 rfl au) rfl
  ⟨(((ac.u.alloc _).drew.trans ad.u).setNew an _).setNew an _,_,d,rfl,⟨_,_,rfl⟩,(ab.u.setNew aM _).setNew aM _⟩
theorem fj(b s i d x w)(hs:s.size<=maxLen)(A:At w b s i d)(D:0<(bW x).length):
  Calls prog 170 #[.pointer (some ⟨b,0,none⟩),.string x] w (Post b s d w (b5 (TT s) x i) (fun _ _ v=>v=rH s (K s i)) NJ):=by
 unfold b5
 cases C:cE (TT s) i with
 |error e=>exact wX b s i d x w hs A e.1 e.2 C
 |ok y=>
  obtain ⟨⟨⟩,j⟩:=y
  cases h:eqs (TT s j) x
  ·simp only [h];exact yU b s i d x w hs A j C h
  simp only [h];exact wY b s i d x w hs A j C h D
abbrev eJ:Obj:=.cells #[.int .i64 0,.string ⟨#[]⟩,.int .i64 0,.int .i64 0,.string ⟨#[]⟩] 207
def ar (A:aF:=by
 decide):aF:=A
def aS (A:aF:=by
 rfl):aF:=A
def cu(g:Gr):Array ag:=#[.int .i64 g.tp,.string g.ty,.int .i64 g.reach,.int .i64 g.rp,.string g.rel]
def wZ(g:Gr):ag:=.agg (cu g)
def F5(v:ag):Prop:=∃g,v=wZ g
theorem bF(h:af)(x:ag)(T n:Nat)(A:n=h.heap.size):(h.alloc (.cells #[x] T)).cell? ⟨n,0,none⟩=some x:=by
 subst A;exact (aB.new h #[x] T).cell rfl
theorem bC{P fn p u ty}(A:fn.results=#[.cell p ty,.tmp u])(tmps w g cs' t e d)(D:tmps.getD p undef=.pointer (some ⟨g,0,none⟩))(I:tmps.getD u undef=e)(h:∃cs,aB w g cs t/\cs=cs')(J:P.underlying ty=some d)(C:(match d with| .struct _| .array _ _=>true|_=>false)=true)(hi:(P.info? ty).map (·.size)=some cs'.size):
  (results fn tmps).run P w=.ok (.tuple #[.agg cs',e]) w:=by
 obtain ⟨cs,h,rfl⟩:=h;exact wW A tmps w g cs t e d D I h J C hi
theorem F6(b s i d w)(hs:s.size<=maxLen)(I:At w b s i d)(c j)(O:cE (TT s) i=.error (c,j)):
  Calls prog 277 #[.pointer (some ⟨b,0,none⟩)] w (Post b s d w (.error (c,j):eC Gr) (fun _ g v=>v=wZ g) F5):=by
 have ad:=I.lt;have C:=ai (cT b s i d _ hs ((I.alloc eJ).alloc eJ));rw [O] at C;clear O;go_enter func277,ntmps277;go_wp2_with fail;refine (ak C).mono ?_;rintro e w1 ⟨b1,v,d',rfl,rfl,J⟩;have Q:=ai J;have R:=ai (((But.refl b w).alloc _).alloc _ |>.trans b1);have D:=((aB.new w #[.int .i64 0,.string ⟨#[]⟩,.int .i64 0,.int .i64 0,.string ⟨#[]⟩] 207).alloc _).but b1 aj;have G:=(aB.new (w.alloc eJ) #[.int .i64 0,.string ⟨#[]⟩,.int .i64 0,.int .i64 0,.string ⟨#[]⟩] 207).but b1 aM;rw [show (w.alloc eJ).heap.size=w.heap.size+1 by simp] at G;have U:=ai D;have V:=ai G;obtain ⟨ag,ah,al,r3,am⟩:=D.five;obtain ⟨g0,Y,Z,ab,ac⟩:=G.five;have ap:=D.fz;have an:=G.fz;have ae:=G.lt;have af:w.heap.size<w1.heap.size:=aj;clear J b1 C I hs D G;unfold bY Et;go_wp2;refine bc (v:=.tuple #[.agg #[.int .i64 0,.string ⟨#[]⟩,.int .i64 0,.int .i64 0,.string ⟨#[]⟩],bY c]) (bC results277 _ _ w.heap.size _ 207 _ _ rfl rfl ?hB underlying207 rfl au) rfl ?post
 case hB=>exact ⟨_,(b4 U),aS⟩
 case post=>exact ⟨(cL R),_,d',rfl,⟨⟨⟨#[]⟩,0,0,⟨#[]⟩,0⟩,rfl⟩,(eH Q)⟩
theorem yV(b s i d w)(hs:s.size<=maxLen)(J:At w b s i d)(j)(Q:cE (TT s) i=.ok ((),j))(h1:eqs (TT s j) (sg 42)=false)(h2:eqs (TT s j) (sg 35)=false):
  Calls prog 277 #[.pointer (some ⟨b,0,none⟩)] w (Post b s d w (.ok (⟨TT s i,PP s i,0,em,0⟩,j):eC Gr) (fun _ g v=>v=wZ g) F5):=by
 have af:=J.lt;have Z:=ai hs;have C:=ai (cT b s i d _ hs ((J.alloc eJ).alloc eJ));rw [Q] at C;clear Q;go_enter func277,ntmps277;go_wp2_with fail;refine (ak C).mono ?_;rintro e w1 ⟨b1,v,rfl,rfl,O⟩;have I:=ai O;have R:=ai (((But.refl b w).alloc _).alloc _ |>.trans b1);have D:=((aB.new w #[.int .i64 0,.string ⟨#[]⟩,.int .i64 0,.int .i64 0,.string ⟨#[]⟩] 207).alloc _).but b1 aj;have G:=(aB.new (w.alloc eJ) #[.int .i64 0,.string ⟨#[]⟩,.int .i64 0,.int .i64 0,.string ⟨#[]⟩] 207).but b1 aM;rw [show (w.alloc eJ).heap.size=w.heap.size+1 by simp] at G;have U:=ai D;have Y:=ai G;obtain ⟨ap,ar,av,r3,aw⟩:=D.five;obtain ⟨g0,ab,ac,ad,ae⟩:=G.five;have ay:=D.fz;have ax:=G.fz;have al:=G.lt;have am:w.heap.size<w1.heap.size:=aj;have ag:¬(w1.heap.size=w.heap.size):=aj;have ah:¬(w1.heap.size=w.heap.size+1):=aj;clear O b1 C J hs D G;unfold rH;go_wp2_with fail;refine (ats b s j d _ _ (sg 42) _ ?_ ?_).mono ?_
 ·exact (eH I)
 ·exact bF _ _ _ _ an
 rintro e V ⟨rfl,rfl⟩;rw [h1];go_wp2_with fail;refine (ats b s j d _ _ (sg 35) _ ?_ ?_).mono ?_
 ·exact (eH I)
 ·exact bF _ _ _ _ an
 rintro e V ⟨rfl,rfl⟩;rw [h2];go_wp2;refine bc (v:=.tuple #[wZ ⟨TT s i,PP s i,0,em,0⟩,.nilIface]) (bC results277 _ _ w.heap.size _ 207 _ _ rfl rfl ?hB underlying207 rfl au) rfl ?post
 case hB=>exact ⟨_,(b4 U),aS⟩
 case post=>exact ⟨(cL R),_,rfl,rfl,(eH I)⟩
theorem F7(b s i d w)(hs:s.size<=maxLen)(R:At w b s i d)(j)(ac:cE (TT s) i=.ok ((),j))(h1:eqs (TT s j) (sg 42)=true):
  Calls prog 277 #[.pointer (some ⟨b,0,none⟩)] w (Post b s d w (.ok (⟨TT s i,PP s i,1,em,0⟩,j+1):eC Gr) (fun _ g v=>v=wZ g) F5):=by
 have aL:=R.lt;have am:=ai hs;have C:=ai (cT b s i d _ hs ((R.alloc eJ).alloc eJ));rw [ac] at C;clear ac;go_enter func277,ntmps277;go_wp2_with fail;refine (ak C).mono ?_;rintro e w1 ⟨b1,v,rfl,rfl,Z⟩;have U:=ai Z;have ae:=ai (((But.refl b w).alloc _).alloc _ |>.trans b1);have I:=((aB.new w #[.int .i64 0,.string ⟨#[]⟩,.int .i64 0,.int .i64 0,.string ⟨#[]⟩] 207).alloc _).but b1 aj;have G:=(aB.new (w.alloc eJ) #[.int .i64 0,.string ⟨#[]⟩,.int .i64 0,.int .i64 0,.string ⟨#[]⟩] 207).but b1 aM;rw [show (w.alloc eJ).heap.size=w.heap.size+1 by simp] at G;have al:=ai I;have ah:=ai G;obtain ⟨aD,aE,aG,r3,aH⟩:=I.five;obtain ⟨g0,ap,av,aw,ax⟩:=G.five;have aJ:=I.fz;have aI:=G.fz;have aA:=G.lt;have aC:w.heap.size<w1.heap.size:=aj;have ay:¬(w1.heap.size=w.heap.size):=aj;have az:¬(w1.heap.size=w.heap.size+1):=aj;clear Z b1 C R hs I G;unfold rH;have ag:=ai h1;go_wp2_with fail;refine (ats b s j d _ _ (sg 42) _ ?_ ?_).mono ?_
 ·exact (eH U)
 ·exact bF _ _ _ _ an
 rintro e O ⟨rfl,rfl⟩;rw [h1];go_wp2_with fail;refine (steps b s j d _ am.u ?_ ?_).mono ?_
 ·exact (eH U)
 ·exact cG ag.u ar
 rintro e O ⟨rfl,ab,J⟩;have Y:=ai (aB.but (g:=w.heap.size) (T:=207) (b4 al) J aj);have V:=aB.but (g:=w.heap.size+1) (T:=207) (b4 ah) J aj;have D:aB O (w.heap.size+1) #[.int .i64 (cC s (K s i)),.string (bT s (K s i)),.int .i64 1,.int .i64 0,.string ⟨#[]⟩] 207:=V;have Q:aB O w.heap.size #[.int .i64 0,.string ⟨#[]⟩,.int .i64 0,.int .i64 0,.string ⟨#[]⟩] 207:=Y.u;obtain ⟨aN,p1,p2,aO,aP⟩:=Q.five;obtain ⟨aQ,aR,aT,aU,aW⟩:=D.five;have aZ:=Q.fz;have zq:=D.fz;have aX:=D.lt;have aY:w.heap.size<O.heap.size:=aj;have aK:=ai D;have ad:=ai ab;have af:=ai (But.trans (x:=w) (cL ae) J);clear ab J Q D V aD aE aG r3 aH g0 ap av aw ax aJ aI aA aC ay az;go_wp2;refine bc (v:=.tuple #[wZ ⟨TT s i,PP s i,1,em,0⟩,.nilIface]) (bC results277 _ _ w.heap.size _ 207 _ _ rfl rfl ?hB underlying207 rfl au) rfl ?post
 case hB=>exact ⟨_,(b4 Y),aS⟩
 case post=>exact ⟨(cL af),_,rfl,rfl,(eH ad)⟩
theorem F8(b s i d w)(hs:s.size<=maxLen)(Y:At w b s i d)(j m)(ah:cE (TT s) i=.ok ((),j))(h1:eqs (TT s j) (sg 42)=false)(h2:eqs (TT s j) (sg 35)=true)(aD:Hid (cE (TT s) (j+1)=.ok ((),m))):
  Calls prog 277 #[.pointer (some ⟨b,0,none⟩)] w (Post b s d w (.ok (⟨TT s i,PP s i,2,TT s (j+1),PP s (j+1)⟩,m):eC Gr) (fun _ g v=>v=wZ g) F5):=by
 have a7:=Y.lt;have ad:=ai hs;have C:=ai (cT b s i d _ hs ((Y.alloc eJ).alloc eJ));rw [ah] at C;clear ah;go_enter func277,ntmps277;go_wp2_with fail;refine (ak C).mono ?_;rintro e w1 ⟨b1,v,rfl,rfl,ae⟩;have U:=ai ae;have av:=ai (((But.refl b w).alloc _).alloc _ |>.trans b1);have O:=((aB.new w #[.int .i64 0,.string ⟨#[]⟩,.int .i64 0,.int .i64 0,.string ⟨#[]⟩] 207).alloc _).but b1 aj;have G:=(aB.new (w.alloc eJ) #[.int .i64 0,.string ⟨#[]⟩,.int .i64 0,.int .i64 0,.string ⟨#[]⟩] 207).but b1 aM;rw [show (w.alloc eJ).heap.size=w.heap.size+1 by simp] at G;have aC:=ai O;have az:=ai G;obtain ⟨aY,aZ,a0,r3,a1⟩:=O.five;obtain ⟨g0,aE,aG,aH,aI⟩:=G.five;have a6:=O.fz;have a4:=G.fz;have aL:=G.lt;have aN:w.heap.size<w1.heap.size:=aj;have aJ:¬(w1.heap.size=w.heap.size):=aj;have aK:¬(w1.heap.size=w.heap.size+1):=aj;clear ae b1 C Y hs O G;unfold rH;have ay:=ai h2;go_wp2_with fail;refine (ats b s j d _ _ (sg 42) _ ?_ ?_).mono ?_
 ·exact (eH U)
 ·exact bF _ _ _ _ an
 rintro e D ⟨rfl,rfl⟩;rw [h1];go_wp2_with fail;refine (ats b s j d _ _ (sg 35) _ ?_ ?_).mono ?_
 ·exact (eH U)
 ·exact bF _ _ _ _ an
 rintro e D ⟨rfl,rfl⟩;rw [h2];clear h1 h2;go_wp2_with fail;refine (steps b s j d _ ad.u ?_ ?_).mono ?_
 ·exact (eH U)
 ·exact cG ay.u ar
 rintro e D ⟨rfl,af,Q⟩;have ab:=ai (aB.but (g:=w.heap.size) (T:=207) (b4 aC) Q aj);have Z:=aB.but (g:=w.heap.size+1) (T:=207) (b4 az) Q aj;have I:aB D (w.heap.size+1) #[.int .i64 (cC s (K s i)),.string (bT s (K s i)),.int .i64 2,.int .i64 0,.string ⟨#[]⟩] 207:=Z;have V:aB D w.heap.size #[.int .i64 0,.string ⟨#[]⟩,.int .i64 0,.int .i64 0,.string ⟨#[]⟩] 207:=ab.u;obtain ⟨aO,p1,p2,aP,aQ⟩:=V.five;obtain ⟨aR,aT,aU,aW,aX⟩:=I.five;have a5:=V.fz;have zq:=I.fz;have a2:=I.lt;have a3:w.heap.size<D.heap.size:=aj;have aA:=ai I;have am:=ai af;have aw:=ai (But.trans (x:=w) (cL av) Q);clear af Q V I Z aY aZ a0 r3 a1 g0 aE aG aH aI a6 a4 aL aN aJ aK;go_wp2_with fail;have C:=ai (cT b s (j+1) d D ad.u am.u);rw [ak aD] at C;refine (ak C).mono ?_;rintro e al ⟨R,v,rfl,rfl,ag⟩;have ac:=ai (aB.but ab.u R aj);have J:=aB.but aA.u R aj;have R3:aB al w.heap.size #[.int .i64 0,.string ⟨#[]⟩,.int .i64 0,.int .i64 0,.string ⟨#[]⟩] 207:=ac.u;obtain ⟨aO,p1,p2,aP,aQ⟩:=R3.five;obtain ⟨aR,aT,aU,aW,aX⟩:=J.five;have a5:=R3.fz;have zq:=J.fz;have a2:=J.lt;have a3:w.heap.size<al.heap.size:=aj;have ap:=ai ag;have ax:=ai (But.trans aw.u R);clear ag R R3 J;unfold rH;go_wp2;refine bc (v:=.tuple #[wZ ⟨TT s i,PP s i,2,TT s (j+1),PP s (j+1)⟩,.nilIface]) (bC results277 _ _ w.heap.size _ 207 _ _ rfl rfl ?hB underlying207 rfl au) rfl ?post
 case hB=>exact ⟨_,(b4 ac),aS⟩
 case post=>exact ⟨(cL ax),_,rfl,rfl,(eH ap)⟩
theorem BQ(b s i d w)(hs:s.size<=maxLen)(Y:At w b s i d)(j c m)(ah:cE (TT s) i=.ok ((),j))(h1:eqs (TT s j) (sg 42)=false)(h2:eqs (TT s j) (sg 35)=true)(aD:Hid (cE (TT s) (j+1)=.error (c,m))):
  Calls prog 277 #[.pointer (some ⟨b,0,none⟩)] w (Post b s d w (.error (c,m):eC Gr) (fun _ g v=>v=wZ g) F5):=by
 have a7:=Y.lt;have ad:=ai hs;have C:=ai (cT b s i d _ hs ((Y.alloc eJ).alloc eJ));rw [ah] at C;clear ah;go_enter func277,ntmps277;go_wp2_with fail;refine (ak C).mono ?_;rintro e w1 ⟨b1,v,rfl,rfl,ae⟩;have U:=ai ae;have av:=ai (((But.refl b w).alloc _).alloc _ |>.trans b1);have O:=((aB.new w #[.int .i64 0,.string ⟨#[]⟩,.int .i64 0,.int .i64 0,.string ⟨#[]⟩] 207).alloc _).but b1 aj;have G:=(aB.new (w.alloc eJ) #[.int .i64 0,.string ⟨#[]⟩,.int .i64 0,.int .i64 0,.string ⟨#[]⟩] 207).but b1 aM;rw [show (w.alloc eJ).heap.size=w.heap.size+1 by simp] at G;have aC:=ai O;have az:=ai G;obtain ⟨aY,aZ,a0,r3,a1⟩:=O.five;obtain ⟨g0,aE,aG,aH,aI⟩:=G.five;have a6:=O.fz;have a4:=G.fz;have aL:=G.lt;have aN:w.heap.size<w1.heap.size:=aj;have aJ:¬(w1.heap.size=w.heap.size):=aj;have aK:¬(w1.heap.size=w.heap.size+1):=aj;clear ae b1 C Y hs O G;unfold rH;have ay:=ai h2;go_wp2_with fail;refine (ats b s j d _ _ (sg 42) _ ?_ ?_).mono ?_
 ·exact (eH U)
 ·exact bF _ _ _ _ an
 rintro e D ⟨rfl,rfl⟩;rw [h1];go_wp2_with fail;refine (ats b s j d _ _ (sg 35) _ ?_ ?_).mono ?_
 ·exact (eH U)
 ·exact bF _ _ _ _ an
 rintro e D ⟨rfl,rfl⟩;rw [h2];clear h1 h2;go_wp2_with fail;refine (steps b s j d _ ad.u ?_ ?_).mono ?_
 ·exact (eH U)
 ·exact cG ay.u ar
 rintro e D ⟨rfl,af,Q⟩;have ab:=ai (aB.but (g:=w.heap.size) (T:=207) (b4 aC) Q aj);have Z:=aB.but (g:=w.heap.size+1) (T:=207) (b4 az) Q aj;have I:aB D (w.heap.size+1) #[.int .i64 (cC s (K s i)),.string (bT s (K s i)),.int .i64 2,.int .i64 0,.string ⟨#[]⟩] 207:=Z;have V:aB D w.heap.size #[.int .i64 0,.string ⟨#[]⟩,.int .i64 0,.int .i64 0,.string ⟨#[]⟩] 207:=ab.u;obtain ⟨aO,p1,p2,aP,aQ⟩:=V.five;obtain ⟨aR,aT,aU,aW,aX⟩:=I.five;have a5:=V.fz;have zq:=I.fz;have a2:=I.lt;have a3:w.heap.size<D.heap.size:=aj;have aA:=ai I;have am:=ai af;have aw:=ai (But.trans (x:=w) (cL av) Q);clear af Q V I Z aY aZ a0 r3 a1 g0 aE aG aH aI a6 a4 aL aN aJ aK;go_wp2_with fail;have C:=ai (cT b s (j+1) d D ad.u am.u);rw [ak aD] at C;refine (ak C).mono ?_;rintro e al ⟨R,v,d',rfl,rfl,ag⟩;have ac:=ai (aB.but ab.u R aj);have J:=aB.but aA.u R aj;have R3:aB al w.heap.size #[.int .i64 0,.string ⟨#[]⟩,.int .i64 0,.int .i64 0,.string ⟨#[]⟩] 207:=ac.u;obtain ⟨aO,p1,p2,aP,aQ⟩:=R3.five;obtain ⟨aR,aT,aU,aW,aX⟩:=J.five;have a5:=R3.fz;have zq:=J.fz;have a2:=J.lt;have a3:w.heap.size<al.heap.size:=aj;have ap:=ai ag;have ax:=ai (But.trans aw.u R);clear ag R R3 J;unfold Et bY;go_wp2;refine bc (v:=.tuple #[wZ ⟨TT s i,PP s i,2,em,0⟩,bY c]) (bC results277 _ _ w.heap.size _ 207 _ _ rfl rfl ?hB underlying207 rfl au) rfl ?post
 case hB=>exact ⟨_,(b4 ac),aS⟩
 case post=>exact ⟨(cL ax),_,d',rfl,⟨_,rfl⟩,(eH ap)⟩
theorem n4(b s i d w)(hs:s.size<=maxLen)(h:At w b s i d):
  Calls prog 277 #[.pointer (some ⟨b,0,none⟩)] w (Post b s d w (cW (TT s) (PP s) i) (fun _ g v=>v=wZ g) F5):=by
 unfold cW
 cases A:cE (TT s) i with
 |error e=>exact F6 b s i d w hs h e.1 e.2 A
 |ok y=>
  obtain ⟨⟨⟩,j⟩:=y
  cases h1:eqs (TT s j) (sg 42)
  ·cases h2:eqs (TT s j) (sg 35)
   ·simp only [h1,h2];exact yV b s i d w hs h j A h1 h2
   cases C:cE (TT s) (j+1) with
   |error e=>simp only [h1,h2,C];exact BQ b s i d w hs h j e.1 e.2 A h1 h2 (ai C)
   |ok y=>
    obtain ⟨⟨⟩,m⟩:=y;simp only [h1,h2,C];exact F8 b s i d w hs h j m A h1 h2 (ai C)
  simp only [h1];exact F7 b s i d w hs h j A h1
theorem Ex.ind(Q:Ex->Prop)(h0:∀n r,Q ⟨n,none,r⟩)(h1:∀n a,Q ⟨n,some a,none⟩)(h2:∀n a b,Q a->Q b->Q ⟨n,some a,some b⟩):∀e,Q e
 |⟨n,none,r⟩=>h0 n r
 |⟨n,some a,none⟩=>h1 n a
 |⟨n,some a,some b⟩=>h2 n a b (Ex.ind Q h0 h1 h2 a) (Ex.ind Q h0 h1 h2 b)
def gA(k:Nat):TypeId:=if k=3 then 244 else if k=4 then 245 else 246
def b6(l:List Gr):List ag:=l.flatMap fun g=>(cu g).toList
def NL(b:Nat)(w:af)(n:Nd)(v:ag):Prop:=
 (n.kind=0/\∃sv,v=.iface 236 (.agg #[.int .i64 n.place,sv])/\w.ownsRow (b+1) 207 5 sv n.gs.length (b6 n.gs))\/
 (n.kind=1/\v=.iface 238 (.agg #[.int .i64 n.place,.string n.n1]))\/
 (n.kind=2/\v=.iface 240 (.agg #[.int .i64 n.place,.int .i64 n.p1,.string n.n1,.int .i64 n.p2,.string n.n2]))
def bg(b:Nat)(w:af):Ex->ag->Prop
 |⟨n,some x,some y⟩,v=>∃h A,v=.iface (gA n.kind) (.agg #[.int .i64 n.place,h,A])/\bg b w x h/\bg b w y A
 |⟨n,none,_⟩,v=>NL b w n v
 |⟨_,some _,none⟩,_=>False
variable {xs:List ag}
theorem ax(D:w.ownsRow base e size v n xs)
  (k:∀g cs f,base<=g->w.heap[g]? =some (.cells cs e f)->w'.heap[g]? =w.heap[g]?):w'.ownsRow base e size v n xs:=by
 obtain ⟨h1,h2⟩:=D;refine ⟨h1,?_⟩
 rcases h2 with h2|⟨g,cap,h,hv,A,C,r⟩
 ·exact Or.inl h2
 ·exact Or.inr ⟨g,cap,h,hv,A,(k g h (0,0) A C).trans C,r⟩
def nN(b:Nat)(w w':af):Prop:=∀g cs f,b+1<=g->w.heap[g]? =some (.cells cs 207 f)->w'.heap[g]? =w.heap[g]?
theorem lt_of_some(h:w.heap[g]? =some o):g<w.heap.size:=by
 rcases ii g w.heap.size with k|k
 ·exact k
 rw [Array.getElem?_eq_none k] at h;cases h
theorem nN.of_but(C:But b w w'):nN b w w':=fun g cs f I D=>C.block g (lt_of_some D) aj
theorem bg.frame(k:nN b w w'):∀e v,bg b w e v->bg b w' e v:=by
 intro e
 induction e using Ex.ind with
 |h0 n r=>
  intro v h
  rcases h with ⟨h1,sv,h2,A⟩|h|h
  ·exact Or.inl ⟨h1,sv,h2,ax A k⟩
  ·exact Or.inr (Or.inl h)
  exact Or.inr (Or.inr h)
 |h1 n a=>intro v h;exact h
 |h2 n a c iha Py=>
  rintro v ⟨C,D,h1,h2,A⟩;exact ⟨C,D,h1,iha _ h2,Py _ A⟩
theorem bg.but{e}(h:bg b w e v)(k:But b w w'):bg b w' e v:=bg.frame (nN.of_but k) e v h
theorem bg.isI{e}(h:bg b w e v):∃t x,v=.iface t x:=by
 match e,h with
 |⟨n,some x,some y⟩,⟨vx,vy,h1,_⟩=>exact ⟨_,_,h1⟩
 |⟨n,none,_⟩,h=>
  rcases h with ⟨h1,sv,h2,A⟩|⟨_,h⟩|⟨_,h⟩
  ·exact ⟨_,_,h2⟩
  ·exact ⟨_,_,h⟩
  exact ⟨_,_,h⟩
abbrev dX(b:Nat)(s:ae)(d:Nat)(w:af)(r:eC Ex):Ending->af->Prop:=Post b s d w r (bg b) SO
theorem NM(b s i d w)(hs:s.size<=maxLen)(h:At w b s i d)(c j)(D:cE (TT s) i=.error (c,j)):
  Calls prog 273 #[.pointer (some ⟨b,0,none⟩)] w (dX b s d w (.error (c,j))):=by
 have Q:=h.lt;have O:=ai hs;have C:=ai (cT b s i d w hs h);rw [D] at C;clear D;go_enter func273,ntmps273;go_wp2_with fail;refine (ak C).mono ?_;rintro e w1 ⟨b1,v,d',rfl,rfl,A⟩;have I:=ai A;have J:=ai b1;clear A b1 C h hs;unfold Et bY;go_wp2;go_ret2;exact ⟨(cL J),_,d',rfl,.inl rfl,(eH I)⟩
theorem NN(b s i d w)(hs:s.size<=maxLen)(D:At w b s i d)(j)(O:cE (TT s) i=.ok ((),j))(h1:eqs (TT s j) (sg 46)=false):
  Calls prog 273 #[.pointer (some ⟨b,0,none⟩)] w (dX b s d w (.ok (⟨⟨1,PP s i,TT s i,PP s i,em,0,[]⟩,none,none⟩,j))):=by
 have R:=D.lt;have U:=ai hs;have C:=ai (cT b s i d w hs D);rw [O] at C;clear O;go_enter func273,ntmps273;go_wp2_with fail;refine (ak C).mono ?_;rintro e w1 ⟨b1,v,rfl,rfl,J⟩;have I:=ai J;have Q:=ai b1;have V:b<w1.heap.size:=cg R b1.size;clear J b1 C D hs;unfold rH;go_wp2_with fail;refine (ats b s j d _ _ (sg 46) _ ?_ ?_).mono ?_
 ·exact (eH I)
 ·exact bF _ _ _ _ an
 rintro e Y ⟨rfl,rfl⟩;rw [h1];go_wp2;go_ret2;exact ⟨(cL Q),_,rfl,.inr (.inl ⟨rfl,rfl⟩),(eH I)⟩
theorem NO(b s i d w)(hs:s.size<=maxLen)(O:At w b s i d)(j m)(ab:cE (TT s) i=.ok ((),j))(h1:eqs (TT s j) (sg 46)=true)(ap:Hid (cE (TT s) (j+1)=.ok ((),m))):
  Calls prog 273 #[.pointer (some ⟨b,0,none⟩)] w (dX b s d w (.ok (⟨⟨2,PP s i,TT s i,PP s i,TT s (j+1),PP s (j+1),[]⟩,none,none⟩,m))):=by
 have au:=O.lt;have R:=ai hs;have C:=ai (cT b s i d w hs O);rw [ab] at C;clear ab;go_enter func273,ntmps273;go_wp2_with fail;refine (ak C).mono ?_;have al:=ai h1;rintro e w1 ⟨b1,v,rfl,rfl,V⟩;have Q:=ai V;have af:=ai b1;have av:b<w1.heap.size:=cg au b1.size;clear V b1 C O hs;unfold rH;go_wp2_with fail;refine (ats b s j d _ _ (sg 46) _ ?_ ?_).mono ?_
 ·exact (eH Q)
 ·exact bF _ _ _ _ an
 rintro e ac ⟨rfl,rfl⟩;rw [h1];clear h1;go_wp2_with fail;refine (steps b s j d _ R.u ?_ ?_).mono ?_
 ·exact (eH Q)
 ·exact cG al.u ar
 rintro e ac ⟨rfl,Y,I⟩;have U:=aB.but (g:=w1.heap.size) (T:=107) (aB.alloc (aB.new w1 #[.int .i64 (cC s (K s i)),.string (bT s (K s i))] 107) _) I aj;have am:=ai U;have ad:=ai Y;have ag:=ai (But.trans (x:=w) (cL af) I);clear Y I U;go_wp2_with fail;have C:=ai (cT b s (j+1) d ac R.u ad.u);rw [ak ap] at C;refine (ak C).mono ?_;rintro e ax ⟨J,v,rfl,rfl,Z⟩;have D:=aB.but am.u J aj;obtain ⟨aw,n1⟩:=D.two;have hn:=D.lt;have ae:=ai Z;have ah:=ai (But.trans ag.u J);clear Z J D;unfold rH;go_wp2;go_ret2;exact ⟨(cL ah),_,rfl,.inr (.inr ⟨rfl,rfl⟩),(eH ae)⟩
theorem IR(b s i d w)(hs:s.size<=maxLen)(O:At w b s i d)(j c m)(ab:cE (TT s) i=.ok ((),j))(h1:eqs (TT s j) (sg 46)=true)(ap:Hid (cE (TT s) (j+1)=.error (c,m))):
  Calls prog 273 #[.pointer (some ⟨b,0,none⟩)] w (dX b s d w (.error (c,m))):=by
 have au:=O.lt;have R:=ai hs;have C:=ai (cT b s i d w hs O);rw [ab] at C;clear ab;go_enter func273,ntmps273;go_wp2_with fail;refine (ak C).mono ?_;have al:=ai h1;rintro e w1 ⟨b1,v,rfl,rfl,V⟩;have Q:=ai V;have af:=ai b1;have av:b<w1.heap.size:=cg au b1.size;clear V b1 C O hs;unfold rH;go_wp2_with fail;refine (ats b s j d _ _ (sg 46) _ ?_ ?_).mono ?_
 ·exact (eH Q)
 ·exact bF _ _ _ _ an
 rintro e ac ⟨rfl,rfl⟩;rw [h1];clear h1;go_wp2_with fail;refine (steps b s j d _ R.u ?_ ?_).mono ?_
 ·exact (eH Q)
 ·exact cG al.u ar
 rintro e ac ⟨rfl,Y,I⟩;have U:=aB.but (g:=w1.heap.size) (T:=107) (aB.alloc (aB.new w1 #[.int .i64 (cC s (K s i)),.string (bT s (K s i))] 107) _) I aj;have am:=ai U;have ad:=ai Y;have ag:=ai (But.trans (x:=w) (cL af) I);clear Y I U;go_wp2_with fail;have C:=ai (cT b s (j+1) d ac R.u ad.u);rw [ak ap] at C;refine (ak C).mono ?_;rintro e ax ⟨J,v,d',rfl,rfl,Z⟩;have D:=aB.but am.u J aj;obtain ⟨aw,n1⟩:=D.two;have hn:=D.lt;have ae:=ai Z;have ah:=ai (But.trans ag.u J);clear Z J D;unfold Et bY;go_wp2;go_ret2;exact ⟨(cL ah),_,d',rfl,.inr ⟨_,_,rfl⟩,(eH ae)⟩
theorem IU(b s i d w)(hs:s.size<=maxLen)(h:At w b s i d):
  Calls prog 273 #[.pointer (some ⟨b,0,none⟩)] w (dX b s d w (iX (TT s) (PP s) i)):=by
 unfold iX
 cases C:cE (TT s) i with
 |error e=>exact NM b s i d w hs h e.1 e.2 C
 |ok y=>
  obtain ⟨⟨⟩,j⟩:=y
  cases h1:eqs (TT s j) (sg 46)
  ·simp only [h1];exact NN b s i d w hs h j C h1
  cases A:cE (TT s) (j+1) with
  |error e=>simp only [h1,A];exact IR b s i d w hs h j e.1 e.2 C h1 (ai A)
  |ok y=>
   obtain ⟨⟨⟩,m⟩:=y;simp only [h1,A];exact NO b s i d w hs h j m C h1 (ai A)
theorem yW(p t x y)(D:SO x)(I:SO y)(w):
  Calls prog 263 #[.agg #[.int .i64 p,.string t],x,y] w fun e w'=>e=.returned (.iface (gA (kindOf t)) (.agg #[.int .i64 p,x,y]))/\Below w.heap.size w w':=by
 have C:∀a b,(t.toList== [124])=a->(t.toList== [38])=b->kindOf t=if a then 3 else if b then 4 else 5:=by
  intro a b h1 h2;unfold kindOf eqs;rw [<-aO,show bW (sg 124)=[124] from rfl,show bW (sg 38)=[38] from rfl,h1,h2]
 cases h1:(t.toList== [124])
 ·cases h2:(t.toList== [38])
  all_goals
   rw [C _ _ h1 h2];clear C
   rcases D with rfl|⟨J,O,rfl⟩<;>rcases I with rfl|⟨ty,Q,rfl⟩
   all_goals
    go_enter func263,ntmps263;go_wp2;go_ret;exact ⟨rfl,(ba.alloc az _).alloc an _⟩
 ·rw [C _ _ h1 rfl];clear C
  rcases D with rfl|⟨J,O,rfl⟩<;>rcases I with rfl|⟨ty,Q,rfl⟩
  all_goals
   go_enter func263,ntmps263;go_wp2;go_ret;exact ⟨rfl,(ba.alloc az _).alloc an _⟩
