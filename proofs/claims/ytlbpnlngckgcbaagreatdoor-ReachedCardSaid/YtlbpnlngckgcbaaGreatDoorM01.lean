import Derived.Test.YtlbpnlngckgcbaaGreatDoorProg
import Derived.WalkKit
import Derived.WalkLawsBesides
import Derived.WalkSpells
import Derived.BigQuiet
import Derived.PlainAid
import Derived.Lib.Strings
import Derived.Deep.RegionHeld3
import Derived.Deep.RegionWith
import Derived.Deep.DrawnRows
import Derived.Deep.AppendLies
set_option linter.all false
set_option maxHeartbeats 4000000
set_option maxRecDepth 100000
namespace Go.Proofs.YtlbpnlngckgcbaaGreatDoor
open Go.RowKit Go.PlainAid
abbrev RJ:=ByteArray
theorem RH {n:Nat}:n≤n:=Nat.le_refl n
theorem RI {α:Type} {l:List α} {i:Nat} (h:i<l.length):l[i]? =some l[i]:=List.getElem?_eq_getElem h
theorem ae {p:Prop} (h:p):Hid p:=h
theorem aa {p:Prop} (h:Hid p):p:=h
def blank (c:Int):Bool:=c==32||c==9||c==10
def letter (c:Int):Bool:=decide (97≤c)&&decide (c≤122)
def digit (c:Int):Bool:=decide (48≤c)&&decide (c≤57)
theorem eB (c:Int) (w:World):Calls Tryz.prog 203 #[.int .u8 c] w fun e w'=>e=.returned (.bool (letter c))∧w'=w:=by
 by_cases h1:97≤c
 ·go_enter Tryz.func203,Tryz.ntmps203;go_wp2;go_ret;exact ⟨by simp [letter,h1],rfl⟩
 ·go_enter Tryz.func203,Tryz.ntmps203;go_wp2;go_ret;exact ⟨by simp [letter];omega,rfl⟩
theorem iN (c:Int) (w:World):Calls Tryz.prog 204 #[.int .u8 c] w fun e w'=>e=.returned (.bool (digit c))∧w'=w:=by
 by_cases h1:48≤c
 ·go_enter Tryz.func204,Tryz.ntmps204;go_wp2;go_ret;exact ⟨by simp [digit,h1],rfl⟩
 ·go_enter Tryz.func204,Tryz.ntmps204;go_wp2;go_ret;exact ⟨by simp [digit];omega,rfl⟩
theorem j6 (c:Int) (w:World):Calls Tryz.prog 111 #[.int .u8 c] w fun e w'=>e=.returned (.bool (blank c))∧w'=w:=by
 go_enter Tryz.func111,Tryz.ntmps111;go_wp2
 all_goals
  go_ret;exact ⟨by simp_all [blank],rfl⟩
def qm (c:UInt8):Bool:=letter c.toNat||digit c.toNat
def qo (c:UInt8):Bool:=blank c.toNat
def gy:List UInt8→Nat
 | []=>0
 |c::r=>if letter c.toNat then 1+(r.takeWhile qm).length else 1
def iO:List UInt8→Nat
 | []=>0
 |c::r=>if letter c.toNat then 1+(r.takeWhile qm).length else 0
theorem Cb (l:List UInt8) (h:l≠ []):((gy l:Nat):Int)=if (1:Int)<(iO l:Nat) then ((iO l:Nat):Int) else 1:=by
 cases l with
 |nil=>exact absurd rfl h
 |cons c r=>
  simp only [gy,iO]
  by_cases hc:letter c.toNat=true
  ·simp only [hc,if_true]
   split<;>omega
  ·simp [hc]
theorem je {α:Type} (p:α→Bool):∀(l:List α) (k:Nat),(∀j,(h:j<k)→(h':j<l.length)→p l[j]=true)→k≤l.length→((h:k<l.length)→p l[k]=false)→(l.takeWhile p).length=k
 | [],k,_,h2,_=>by simp at h2;simp [h2]
 |a::r,0,_,_,h3=>by
  have:=h3 (by simp);simp at this;simp [List.takeWhile_cons,this]
 |a::r,k+1,h1,h2,h3=>by
  have ha:=h1 0 (by omega) (by simp);simp at ha;simp [List.takeWhile_cons,ha];exact je p r k (fun j h h'=>by have:=h1 (j+1) (by omega) (by simp;omega);simpa using this) (by simpa using h2) (fun h=>by have:=h3 (by simp;omega);simpa using this)
def cO (s:RJ):List UInt8:=s.data.toList
def mk (l:List UInt8):RJ:=⟨l.toArray⟩
theorem lQ (s:RJ):mk (cO s)=s:=rfl
theorem aN (s:RJ):(cO s).length=s.size:=by show s.data.toList.length=s.data.size;exact Array.length_toList
theorem yZ (s:RJ) (k:Nat) (h:k<(cO s).length):bt s k=((cO s)[k].toNat:Int):=by
 rw [aN] at h;unfold bt;rw [dif_pos h];rfl
theorem aC (s:RJ):s.toList=cO s:=ByteArray.toList_eq s
theorem wB (s:RJ) (k:Nat) (h0:0<s.size) (hl:letter (bt s 0)=true) (h1:1≤k) (hk:k≤s.size)
  (hall:∀j,1≤j→j<k→(letter (bt s j)||digit (bt s j))=true) (hend:k<s.size→(letter (bt s k)||digit (bt s k))=false):iO (cO s)=k:=by
 have hb:=yZ s;rw [←aN] at h0 hk hend;generalize cO s=l at*
 cases l with
 |nil=>simp at h0
 |cons c r=>
  have hl':=hb 0 (by simp);simp only [List.getElem_cons_zero] at hl';rw [hl'] at hl;simp only [iO,hl,if_true];simp only [List.length_cons] at hk hend;have:=je qm r (k-1) (fun j h h'=>by
   have:=hall (j+1) (by omega) (by omega);rw [hb (j+1) (by simp;omega)] at this
   simpa [qm] using this) (by omega) (fun h=>by
   obtain ⟨q,rfl⟩:∃q,k=q+1:=⟨k-1,by omega⟩;have:=hend (by omega);rw [hb (q+1) (by simp;omega)] at this
   simpa [qm] using this)
  omega
theorem ze (s:RJ) (h0:0<s.size) (hl:letter (bt s 0)=false):iO (cO s)=0:=by
 have hb:=yZ s;rw [←aN] at h0;generalize cO s=l at*
 cases l with
 |nil=>simp at h0
 |cons c r=>
  have hl':=hb 0 (by simp);simp only [List.getElem_cons_zero] at hl';rw [hl'] at hl;simp [iO,hl]
theorem wC (s:RJ) (h:cO s≠ []):0<s.size:=by
 rw [←aN];exact List.length_pos_iff.2 h
theorem kg (s:RJ) (w:World) (hs:s.size≤maxLen):
  Calls Tryz.prog 144 #[.string s] w fun e w'=>e=.returned (.int .i64 (iO (cO s)))∧w'=w:=by
 unfold maxLen at hs
 by_cases hz:cO s=[]
 ·have hz':s.toList=[]:=by rw [aC];exact hz
  have Hz:=ae hz;clear hz;go_enter Tryz.func144,Tryz.ntmps144;go_wp2;go_ret;exact ⟨by rw [aa Hz];rfl,rfl⟩
 ·have h0:0<s.size:=wC s hz;have hz':s.toList.isEmpty=false:=by rw [aC];simpa using hz
  clear hz;have gb:=get_bt s
  cases hl:letter (bt s 0)
  ·have dN:=ae (ze s h0 hl);go_enter Tryz.func144,Tryz.ntmps144;go_wp2_with (go_at_call 203;refine (eB _ _).mono ?_;rintro e w' ⟨rfl,rfl⟩);go_ret;exact ⟨by rw [aa dN];rfl,rfl⟩
  ·have Hl:=ae hl;go_enter Tryz.func144,Tryz.ntmps144;go_wp2_with (go_at_call 203;refine (eB _ _).mono ?_;rintro e w' ⟨rfl,rfl⟩)
   go_loop [3] (fun i=>∃k:Nat,1≤k∧k≤s.size∧i=.int .i64 k∧Hid (∀j,1≤j→j<k→(letter (bt s j)||digit (bt s j))=true)) (fun i=>s.size-(intOf i).toNat)
   case atStart=>exact ⟨1,by omega,by omega,rfl,ae (fun j h h'=>by omega)⟩
   case round=>
    obtain ⟨k,hk1,hk2,rfl,eH⟩:=hrel
    by_cases hlt:k<s.size
    ·cases hlk:letter (bt s k)
     ·cases hdk:digit (bt s k)
      ·have dN:=ae (wB s k h0 hl hk1 hk2 (aa eH) (fun _=>by simp [hlk,hdk]));go_wp2_with (first|(go_at_call 203;refine (eB _ _).mono ?_;rintro e w' ⟨rfl,rfl⟩)|(go_at_call 204;refine (iN _ _).mono ?_;rintro e w' ⟨rfl,rfl⟩));go_ret;exact ⟨by rw [aa dN];rfl,rfl⟩
      ·have Hn:=ae (show ∀j,1≤j→j<k+1→(letter (bt s j)||digit (bt s j))=true from fun j h h'=>by
        by_cases e:j=k
        ·rw [e,hdk];simp
        ·exact aa eH j h (by omega))
       go_wp2_with (first|(go_at_call 203;refine (eB _ _).mono ?_;rintro e w' ⟨rfl,rfl⟩)|(go_at_call 204;refine (iN _ _).mono ?_;rintro e w' ⟨rfl,rfl⟩))
       go_round
       case rel=>exact ⟨k+1,by omega,by omega,by go_num,Hn⟩
       case measure=>simp [intOf];omega
     ·have Hn:=ae (show ∀j,1≤j→j<k+1→(letter (bt s j)||digit (bt s j))=true from fun j h h'=>by
       by_cases e:j=k
       ·rw [e,hlk];simp
       ·exact aa eH j h (by omega))
      go_wp2_with (first|(go_at_call 203;refine (eB _ _).mono ?_;rintro e w' ⟨rfl,rfl⟩)|(go_at_call 204;refine (iN _ _).mono ?_;rintro e w' ⟨rfl,rfl⟩))
      go_round
      case rel=>exact ⟨k+1,by omega,by omega,by go_num,Hn⟩
      case measure=>simp [intOf];omega
    ·have dN:=ae (wB s k h0 hl hk1 hk2 (aa eH) (fun h=>absurd h hlt));go_wp2_with (first|(go_at_call 203;refine (eB _ _).mono ?_;rintro e w' ⟨rfl,rfl⟩)|(go_at_call 204;refine (iN _ _).mono ?_;rintro e w' ⟨rfl,rfl⟩));go_ret;exact ⟨by rw [aa dN];rfl,rfl⟩
theorem lI (s:RJ) (w:World) (hs:s.size≤maxLen):
  Calls Tryz.prog 112 #[.string s] w fun e w'=>e=.returned (.int .i64 (gy (cO s)))∧w'=w:=by
 have HS:=ae hs
 by_cases hz:cO s=[]
 ·have hz':s.toList=[]:=by rw [aC];exact hz
  have Hz:=ae hz;clear hz;go_enter Tryz.func112,Tryz.ntmps112;go_wp2;go_ret;exact ⟨by rw [aa Hz];rfl,rfl⟩
 ·have hz':s.toList.isEmpty=false:=by rw [aC];simpa using hz
  have Hw:=ae (Cb (cO s) hz);clear hz;generalize hn:iO (cO s)=n at Hw;have Hn:=ae hn;clear hn
  by_cases h1:(1:Int)<(n:Int)
  ·go_enter Tryz.func112,Tryz.ntmps112;go_wp2_with (go_at_call 144;refine (kg _ _ (aa HS)).mono ?_;rintro e w' ⟨rfl,rfl⟩;rw [aa Hn]);go_ret;exact ⟨by rw [aa Hw,if_pos h1];rfl,rfl⟩
  ·go_enter Tryz.func112,Tryz.ntmps112;go_wp2_with (go_at_call 144;refine (kg _ _ (aa HS)).mono ?_;rintro e w' ⟨rfl,rfl⟩;rw [aa Hn]);go_ret;exact ⟨by rw [aa Hw,if_neg (by omega)];rfl,rfl⟩
def skip (l:List UInt8) (k:Nat):Nat:=k+((l.drop k).takeWhile qo).length
def kP (l:List UInt8) (p:Nat):List UInt8:=(l.drop p).take (gy (l.drop p))
theorem Ip (s:RJ) (a k:Nat) (h1:a≤k) (hk:k≤s.size)
  (hall:∀j,a≤j→j<k→blank (bt s j)=true) (hend:k<s.size→blank (bt s k)=false):skip (cO s) a=k:=by
 have hb:=yZ s;rw [←aN] at hk hend;generalize cO s=l at*;unfold skip;have:=je qo (l.drop a) (k-a) (fun j h h'=>by
  simp at h';have:=hall (a+j) (by omega) (by omega);rw [hb (a+j) (by omega)] at this
  simpa [qo] using this) (by simp;omega) (fun h=>by
  simp at h;have:=hend (by omega);rw [hb k (by omega)] at this
  simpa [qo,show a+(k-a)=k by omega] using this)
 omega
theorem qp (l:List UInt8):gy l≤l.length:=by
 cases l with
 |nil=>simp [gy]
 |cons c r=>
  simp only [gy];have:=(List.takeWhile_sublist qm (l:=r)).length_le
  split<;>simp<;>omega
theorem wD (s:RJ) (a b:Nat):cO (s.extract a b)=((cO s).drop a).take (b-a):=Lib.extract_data s a b
theorem extract_mk (s:RJ) (a b:Nat):s.extract a b=mk (((cO s).drop a).take (b-a)):=Lib.extract_eq s a b
theorem jU (s:RJ) (a:Nat):cO (s.extract a s.size)=(cO s).drop a:=by
 rw [wD,List.take_of_length_le];rw [List.length_drop,aN];omega
theorem rZ (s:RJ) (a:Nat) (w:World) (hs:s.size≤maxLen) (ha:a≤s.size):
  Calls Tryz.prog 71 #[.string s,.int .i64 a] w fun e w'=>e=.returned (.agg #[.int .i64 (skip (cO s) a),.string (mk (kP (cO s) (skip (cO s) a)))])∧Below w.heap.size w w':=by
 have Hs:=ae hs;unfold maxLen at hs;have gb:=get_bt s;go_enter Tryz.func71,Tryz.ntmps71;go_wp2
 go_loop [1] (fun i=>∃k:Nat,a≤k∧k≤s.size∧i=.int .i64 k∧Hid (∀j,a≤j→j<k→blank (bt s j)=true)) (fun i=>s.size-(intOf i).toNat)
 case atStart=>exact ⟨a,by omega,by omega,rfl,ae (fun j h h'=>by omega)⟩
 case round=>
  obtain ⟨k,hk1,hk2,rfl,eH⟩:=hrel
  by_cases hc:k<s.size∧blank (bt s k)=true
  ·obtain ⟨hlt,hbk⟩:=hc;have Hn:=ae (show ∀j,a≤j→j<k+1→blank (bt s j)=true from fun j h h'=>by
    by_cases e:j=k
    ·rw [e,hbk]
    ·exact aa eH j h (by omega))
   go_wp2_with (first|(go_at_call 111;refine (j6 _ _).mono ?_;rintro e w' ⟨rfl,rfl⟩))
   go_round
   case rel=>exact ⟨k+1,by omega,by omega,by go_num,Hn⟩
   case measure=>simp [intOf];omega
  ·have Hp:=ae (Ip s a k hk1 hk2 (aa eH) (fun h=>by
    cases hb:blank (bt s k)
    ·rfl
    ·exact absurd ⟨h,hb⟩ hc))
   have Ht:=qp ((cO s).drop k);rw [List.length_drop,aN] at Ht;have Hx:=ae (show ∀n,gy ((cO s).drop k)=n→s.extract k (k+n)=mk (kP (cO s) k) from fun n hn=>by
    rw [extract_mk,kP,hn,show k+n-k=n by omega])
   have hsz:(s.extract k s.size).size≤maxLen:=by rw [ByteArray.size_extract];unfold maxLen;omega
   have Hsz:=ae hsz;clear hsz
   by_cases hlt:k<s.size
   ·have hbk:blank (bt s k)=false:=by
     cases hb:blank (bt s k)
     ·rfl
     ·exact absurd ⟨hlt,hb⟩ hc
    clear hc;go_wp2_with (first|(go_at_call 111;refine (j6 _ _).mono ?_;rintro e w' ⟨rfl,rfl⟩));refine (lI _ _ (aa Hsz)).mono ?_;rintro e w' ⟨rfl,rfl⟩;rw [jU];generalize hn:gy ((cO s).drop k)=n at*;have Hn:=ae hn;clear hn;go_wp2;exact bodyPost_ret (v:=.agg #[.int .i64 k,.string (s.extract k (k+n))]) (by simp [results,Tryz.results71,go_sem]) rfl ⟨by rw [aa Hp,aa Hx n rfl],(Below.refl _ _).alloc RH _⟩
   ·clear hc;go_wp2_with (first|(go_at_call 111;refine (j6 _ _).mono ?_;rintro e w' ⟨rfl,rfl⟩));refine (lI _ _ (aa Hsz)).mono ?_;rintro e w' ⟨rfl,rfl⟩;rw [jU];generalize hn:gy ((cO s).drop k)=n at*;have Hn:=ae hn;clear hn;go_wp2;exact bodyPost_ret (v:=.agg #[.int .i64 k,.string (s.extract k (k+n))]) (by simp [results,Tryz.results71,go_sem]) rfl ⟨by rw [aa Hp,aa Hx n rfl],(Below.refl _ _).alloc RH _⟩
theorem EQ {W w1:World} (hb:Below W.heap.size W w1):(∀b o,b<W.heap.size→w1.cell? ⟨b,o,none⟩=W.cell? ⟨b,o,none⟩)∧(∀b o,b<W.heap.size→w1.frozen? ⟨b,o,none⟩=W.frozen? ⟨b,o,none⟩):=
 ⟨fun b o h=>hb.cell (p:=⟨b,o,none⟩) h,fun b o h=>hb.frozen (p:=⟨b,o,none⟩) h⟩
structure But (b:Nat) (w w':World):Prop where
 os:w'.os=w.os
 tape:w'.tape=w.tape
 output:w'.output=w.output
 size:w.heap.size≤w'.heap.size
 block:∀k,k<w.heap.size→k≠b→w'.heap[k]? =w.heap[k]?
theorem But.refl (b:Nat) (w:World):But b w w:=⟨rfl,rfl,rfl,Nat.le_refl _,fun _ _ _=>rfl⟩
theorem But.trans {b:Nat} {x y z:World} (h:But b x y) (k:But b y z):But b x z:=
 ⟨k.os.trans h.os,k.tape.trans h.tape,k.output.trans h.output,Nat.le_trans h.size k.size,fun i hi hb=>(k.block i (Nat.lt_of_lt_of_le hi h.size) hb).trans (h.block i hi hb)⟩
theorem But.of_below {b:Nat} {x y:World} (h:Below x.heap.size x y):But b x y:=⟨h.os,h.tape,h.output,h.size,fun k hk _=>h.block k hk⟩
theorem But.below {b B:Nat} {x y:World} (h:But b x y) (hB:B≤b) (hx:B≤x.heap.size):Below B x y:=⟨h.os,h.tape,h.output,h.size,fun k hk=>h.block k (by omega) (by omega)⟩
theorem But.drew {b:Nat} {x y:World} (h:But b x y):But b x y.drew:=⟨h.os,h.tape,h.output,h.size,h.block⟩
theorem But.alloc {b:Nat} {x y:World} (h:But b x y) (o:Obj):But b x (y.alloc o):=
 h.trans (But.of_below ((Below.refl _ _).alloc RH o))
theorem But.setCell {b:Nat} {x y:World} (h:But b x y) (o:Nat) (u:Value):But b x (y.setCell ⟨b,o,none⟩ u):=
 h.trans ⟨rfl,rfl,rfl,by simp [World.setCell],fun k hk hb=>Below.heap_setCell _ _ _ _ (by simpa using hb)⟩
theorem But.setNew {b:Nat} {x y:World} (h:But b x y) {a:Addr} (ha:x.heap.size≤a.block) (u:Value):But b x (y.setCell a u):=
 ⟨h.os,h.tape,h.output,Nat.le_trans h.size (by simp [World.setCell]),fun k hk hb=>(Below.heap_setCell _ _ _ _ (by omega)).trans (h.block k hk hb)⟩
theorem But.cell {b:Nat} {x y:World} (h:But b x y) {a:Addr} (ha:a.block<x.heap.size) (hb:a.block≠b):y.cell? a=x.cell? a:=World.cell?_of_block (w:=x) (h.block a.block ha hb)
structure Rd (w:World) (b:Nat) (s:RJ) (p:Nat) (t:RJ) (d:Nat):Prop where
 blk:w.heap[b]? =some (.cells #[.string s,.int .i64 p,.string t,.int .i64 d] 140)
theorem Rd.lt {w:World} {b:Nat} {s:RJ} {p:Nat} {t:RJ} {d:Nat} (h:Rd w b s p t d):b<w.heap.size:=by
 rcases Nat.lt_or_ge b w.heap.size with k|k
 ·exact k
 ·have:=h.blk;rw [Array.getElem?_eq_none k] at this;cases this
theorem Rd.c0 {w:World} {b:Nat} {s:RJ} {p:Nat} {t:RJ} {d:Nat} (h:Rd w b s p t d):w.cell? ⟨b,0,none⟩=some (.string s):=by simp [World.cell?,h.blk]
theorem Rd.c1 {w:World} {b:Nat} {s:RJ} {p:Nat} {t:RJ} {d:Nat} (h:Rd w b s p t d):w.cell? ⟨b,1,none⟩=some (.int .i64 p):=by simp [World.cell?,h.blk]
theorem Rd.c2 {w:World} {b:Nat} {s:RJ} {p:Nat} {t:RJ} {d:Nat} (h:Rd w b s p t d):w.cell? ⟨b,2,none⟩=some (.string t):=by simp [World.cell?,h.blk]
theorem Rd.c3 {w:World} {b:Nat} {s:RJ} {p:Nat} {t:RJ} {d:Nat} (h:Rd w b s p t d):w.cell? ⟨b,3,none⟩=some (.int .i64 d):=by simp [World.cell?,h.blk]
theorem Rd.fz {w:World} {b:Nat} {s:RJ} {p:Nat} {t:RJ} {d:Nat} (h:Rd w b s p t d) (o:Nat):w.frozen? ⟨b,o,none⟩=false:=by simp [World.frozen?,h.blk]
theorem Rd.of_block {w w':World} {b:Nat} {s:RJ} {p:Nat} {t:RJ} {d:Nat} (h:Rd w b s p t d) (e:w'.heap[b]? =w.heap[b]?):Rd w' b s p t d:=⟨e.trans h.blk⟩
theorem Rd.below {w w':World} {b:Nat} {s:RJ} {p:Nat} {t:RJ} {d:Nat} (h:Rd w b s p t d) (k:Below w.heap.size w w'):Rd w' b s p t d:=h.of_block (k.block b h.lt)
theorem Rd.drew {w:World} {b:Nat} {s:RJ} {p:Nat} {t:RJ} {d:Nat} (h:Rd w b s p t d):Rd w.drew b s p t d:=⟨h.blk⟩
theorem Rd.alloc {w:World} {b:Nat} {s:RJ} {p:Nat} {t:RJ} {d:Nat} (h:Rd w b s p t d) (o:Obj):Rd (w.alloc o) b s p t d:=h.below ((Below.refl _ _).alloc RH o)
theorem eD {w:World} {b o:Nat} {c:Array Value} {T:TypeId} {f:Nat×Nat} (u:Value) (h:w.heap[b]? =some (.cells c T f)):
  (w.setCell ⟨b,o,none⟩ u).heap[b]? =some (.cells (c.setIfInBounds o u) T f):=by
 simp [World.setCell,Array.getElem?_modify,h]
theorem Rd.now {w:World} {b:Nat} {s:RJ} {p:Nat} {t:RJ} {d:Nat} (h:Rd w b s p t d) (p':Nat) (t':RJ):
  Rd ((w.setCell ⟨b,1,none⟩ (.int .i64 p')).setCell ⟨b,2,none⟩ (.string t')) b s p' t' d:=by
 refine ⟨?_⟩;rw [eD _ (eD _ h.blk)]
 rfl
def ag (w:World) (g:Nat) (cs:Array Value) (T:TypeId):Prop:=w.heap[g]? =some (.cells cs T)
theorem ag.new (w:World) (cs:Array Value) (T:TypeId):ag (w.alloc (.cells cs T)) w.heap.size cs T:=by
 show (w.heap.push _)[w.heap.size]? =_
 simp
theorem ag.lt {w:World} {g:Nat} {cs:Array Value} {T:TypeId} (h:ag w g cs T):g<w.heap.size:=by
 rcases Nat.lt_or_ge g w.heap.size with k|k
 ·exact k
 ·unfold ag at h;rw [Array.getElem?_eq_none k] at h;cases h
theorem ag.below {w w':World} {g:Nat} {cs:Array Value} {T:TypeId} (h:ag w g cs T) (k:Below w.heap.size w w'):ag w' g cs T:=(k.block g h.lt).trans h
theorem ag.but {w w':World} {b g:Nat} {cs:Array Value} {T:TypeId} (h:ag w g cs T) (k:But b w w') (hg:g≠b):ag w' g cs T:=(k.block g h.lt hg).trans h
theorem ag.alloc {w:World} {g:Nat} {cs:Array Value} {T:TypeId} (h:ag w g cs T) (o:Obj):ag (w.alloc o) g cs T:=h.below ((Below.refl _ _).alloc RH o)
theorem ag.drew {w:World} {g:Nat} {cs:Array Value} {T:TypeId} (h:ag w g cs T):ag w.drew g cs T:=h
theorem ag.other {w:World} {g:Nat} {cs:Array Value} {T:TypeId} (h:ag w g cs T) {a:Addr} (ha:g≠a.block) (u:Value):ag (w.setCell a u) g cs T:=(Below.heap_setCell _ _ _ _ ha).trans h
theorem ag.set {w:World} {g:Nat} {cs:Array Value} {T:TypeId} (h:ag w g cs T) (o:Nat) (u:Value):ag (w.setCell ⟨g,o,none⟩ u) g (cs.setIfInBounds o u) T:=eD u h
theorem ag.cell {w:World} {g:Nat} {cs:Array Value} {T:TypeId} (h:ag w g cs T) {o:Nat} {v:Value} (hv:cs[o]? =some v):w.cell? ⟨g,o,none⟩=some v:=by unfold ag at h;simp [World.cell?,h,hv]
theorem ag.fz {w:World} {g:Nat} {cs:Array Value} {T:TypeId} (h:ag w g cs T) (o:Nat):w.frozen? ⟨g,o,none⟩=false:=by unfold ag at h;simp [World.frozen?,h]
def aV (s:RJ) (k:Nat):Nat:=skip (cO s) k
def aP (s:RJ) (k:Nat):RJ:=mk (kP (cO s) (skip (cO s) k))
theorem Iq (l:List UInt8) (k:Nat) (h:k≤l.length):skip l k≤l.length:=by
 unfold skip;have:=(List.takeWhile_sublist qo (l:=l.drop k)).length_le;rw [List.length_drop] at this;omega
theorem qw (l:List UInt8) (p:Nat) (h:p≤l.length):p+(kP l p).length≤l.length:=by
 unfold kP;have:=qp (l.drop p);rw [List.length_take,List.length_drop] at*;omega
theorem A7 (l:List UInt8):(mk l).size=l.length:=by simp [mk,ByteArray.size]
theorem qx (s:RJ) (k:Nat) (h:k≤s.size):aV s k+(aP s k).size≤s.size:=by
 unfold aV aP;rw [A7,←aN];rw [←aN] at h;exact qw _ _ (Iq _ _ h)
theorem KS (n:Int) (w:World):Calls Tryz.prog 76 #[.int .i64 n] w fun e w'=>e=.returned (.int .i64 n)∧w'=w:=by
 go_enter Tryz.func76,Tryz.ntmps76;go_wp2;go_ret;exact ⟨rfl,rfl⟩
theorem gz (s:RJ) (k:Nat) (a:Int) (w:World) (hs:s.size≤maxLen) (ha:k≤s.size) (hk:a=(k:Int)):
  Calls Tryz.prog 71 #[.string s,.int .i64 a] w fun e w'=>e=.returned (.agg #[.int .i64 (aV s k),.string (aP s k)])∧Below w.heap.size w w':=by
 subst hk;exact rZ s k w hs ha
attribute [local go_sem ↓] Go.wp_at_zero Go.wp_at_succ
theorem ER (b:Nat) (s:RJ) (p:Nat) (t:RJ) (d:Nat) (w:World) (hs:s.size≤maxLen) (h:Rd w b s p t d) (hf:p+t.size≤s.size):
  Calls Tryz.prog 220 #[.pointer (some ⟨b,0,none⟩)] w fun e w'=>e=.returned (.tuple #[])∧Rd w' b s (aV s (p+t.size)) (aP s (p+t.size)) d∧But b w w':=by
 have Hs:=ae hs;unfold maxLen at hs;have H:=ae h;have h0:=h.c0;have h1:=h.c1;have h2:=h.c2;have hz:=h.fz;have hlt:=h.lt;clear h;have hwr:IntKind.i64.wrap ((p:Int)+(t.size:Int))=(p:Int)+(t.size:Int):=IntWalk.i64_in _ ⟨by omega,by omega⟩;go_enter Tryz.func220,Tryz.ntmps220;go_wp2
 go_region_with
  (first|(go_at_call 76;refine (KS _ _).mono ?_;rintro e w' ⟨rfl,rfl⟩)|(go_at_call 71;refine (gz s (p+t.size) _ _ (aa Hs) hf ?_).mono ?_;(omega);rintro e w' ⟨rfl,hb⟩;have R':=(aa H).drew.below hb;have k0:=R'.c0;have k1:=R'.c1;have k2:=R'.c2;have kz:=R'.fz;have HR:=ae R';clear R'))
 all_goals (go_end0;exact ⟨rfl,(aa HR).now _ _,(((But.refl b w).drew.trans (But.of_below hb)).setCell 1 _).setCell 2 _⟩)
def eqs (a b:RJ):Bool:=cO a==cO b
def gJ (t:RJ) (l:List RJ):Bool:=l.any fun x=>eqs t x
theorem wE (t:RJ) (l:List RJ) (h:∀j,j<l.length→eqs t (l.getD j ByteArray.empty)=false):gJ t l=false:=by
 unfold gJ;rw [List.any_eq_false];intro x hx;obtain ⟨j,hj,rfl⟩:=List.getElem_of_mem hx;have:=h j hj;simp [List.getD_eq_getElem?_getD,RI hj] at this;simp [this]
theorem zf (t:RJ) (l:List RJ) (j:Nat) (hj:j<l.length) (h:eqs t (l.getD j ByteArray.empty)=true):gJ t l=true:=by
 unfold gJ;rw [List.any_eq_true];refine ⟨l[j],List.getElem_mem _,?_⟩
 simpa [List.getD_eq_getElem?_getD,RI hj] using h
theorem Cc (g cap:Nat) (l:List RJ) (t:RJ) (w:World) (hn:l.length≤maxLen)
  (hc:∀i,i<l.length→w.cell? ⟨g,i,none⟩=some (.string (l.getD i ByteArray.empty))):
  Calls Tryz.prog 219 #[.slice (some ⟨g,0,none⟩) l.length cap,.string t] w fun e w'=>(∃n:Int,e=.returned (.int .i64 n)∧decide (0≤n)=gJ t l)∧w'=w:=by
 unfold maxLen at hn;generalize hN:l.length=N at*;have HN:=ae hN;clear hN;generalize hL:(fun i=>l.getD i ByteArray.empty)=L at*;have HL:=ae hL;have hc':∀i,i<N→w.cell? ⟨g,i,none⟩=some (.string (L i)):=fun i hi=>by rw [hc i hi,←hL]
 clear hc hL;go_enter Tryz.func219,Tryz.ntmps219;go_wp2
 go_loop [5,8] (fun u i=>∃k:Nat,k≤N∧i=.int .i64 k∧Hid (∀j,j<k→eqs t (L j)=false)) (fun _ i=>N-(intOf i).toNat)
 case atStart=>exact ⟨0,by omega,rfl,ae (fun j h=>by omega)⟩
 case round=>
  obtain ⟨k,hk,rfl,eH⟩:=hrel
  by_cases hlt:k<N
  ·have yQ:=hc' k hlt
   cases he:eqs t (L k)
   ·have he':(t.toList==(L k).toList)=false:=by rw [aC,aC];exact he
    have Hn:=ae (show ∀j,j<k+1→eqs t (L j)=false from fun j h=>by
     by_cases e:j=k
     ·rw [e,he]
     ·exact aa eH j (by omega))
    clear he;go_wp2
    go_round
    case rel=>exact ⟨k+1,by omega,by go_num,Hn⟩
    case measure=>simp [intOf];omega
   ·have he':(t.toList==(L k).toList)=true:=by rw [aC,aC];exact he
    have dN:=ae (zf t l k (by rw [aa HN];exact hlt) (by have this:l.getD k ByteArray.empty=L k:=congrFun (aa HL) k;rw [this];exact he));clear he;go_wp2;go_ret;exact ⟨⟨k,rfl,by rw [aa dN];simp⟩,rfl⟩
  ·have dN:=ae (wE t l (fun j hj=>by have this:l.getD j ByteArray.empty=L j:=congrFun (aa HL) j;rw [this];exact aa eH j (by rw [aa HN] at hj;omega)));go_wp2;go_ret;exact ⟨⟨-1,rfl,by rw [aa dN];decide⟩,rfl⟩
theorem uC (g cap:Nat) (l:List RJ) (t:RJ) (w:World) (hn:l.length≤maxLen)
  (hc:∀i,i<l.length→w.cell? ⟨g,i,none⟩=some (.string (l.getD i ByteArray.empty))):
  Calls Tryz.prog 168 #[.slice (some ⟨g,0,none⟩) l.length cap,.string t] w fun e w'=>e=.returned (.bool (gJ t l))∧w'=w:=by
 have h:=Cc g cap l t w hn hc;have H:=ae h;clear h hc;go_enter Tryz.func168,Tryz.ntmps168;go_wp2_with fail;refine (aa H).mono ?_;rintro e w' ⟨⟨n,rfl,hn⟩,rfl⟩;have HN:=ae hn;clear hn;go_wp2;go_ret;exact ⟨by rw [←aa HN];rfl,rfl⟩
theorem ni (b:Nat) (s:RJ) (p:Nat) (t:RJ) (d:Nat) (g cap:Nat) (l:List RJ) (w:World) (h:Rd w b s p t d) (hn:l.length≤maxLen)
  (hc:∀i,i<l.length→w.cell? ⟨g,i,none⟩=some (.string (l.getD i ByteArray.empty))):
  Calls Tryz.prog 113 #[.pointer (some ⟨b,0,none⟩),.slice (some ⟨g,0,none⟩) l.length cap] w fun e w'=>e=.returned (.bool (gJ t l))∧w'=w:=by
 have H:=ae (uC g cap l t w hn hc);clear hc;have h2:=h.c2;clear h;go_enter Tryz.func113,Tryz.ntmps113;go_wp2_with fail;refine (aa H).mono ?_;rintro e w' ⟨rfl,rfl⟩;go_wp2;go_ret;exact ⟨rfl,rfl⟩
def lS (t:RJ):Bool:=match cO t with
 | []=>false
 |c::r=>letter c.toNat&& !(c::r== [116,121,112,101])
def next (s:RJ) (k:Nat):Nat:=aV s k+(aP s k).size
def aM (c:Nat):Value:=.iface 134 (.int .i64 c)
structure mZ (w:World) (b:Nat) (s:RJ) (k d:Nat):Prop where
 rd:Rd w b s (aV s k) (aP s k) d
 le:k≤s.size
theorem mZ.of_rd {w:World} {b:Nat} {s:RJ} {k d:Nat} (h:Rd w b s (aV s (next s k)) (aP s (next s k)) d) (hk:k≤s.size):mZ w b s (next s k) d:=⟨h,qx s k hk⟩
theorem mZ.below {w w':World} {b:Nat} {s:RJ} {k d:Nat} (h:mZ w b s k d) (hb:Below w.heap.size w w'):mZ w' b s k d:=⟨h.rd.below hb,h.le⟩
theorem mZ.alloc {w:World} {b:Nat} {s:RJ} {k d:Nat} (h:mZ w b s k d) (o:Obj):mZ (w.alloc o) b s k d:=⟨h.rd.alloc o,h.le⟩
theorem mZ.drew {w:World} {b:Nat} {s:RJ} {k d:Nat} (h:mZ w b s k d):mZ w.drew b s k d:=⟨h.rd.drew,h.le⟩
theorem mZ.setNew {w:World} {b:Nat} {s:RJ} {k d:Nat} (h:mZ w b s k d) {a:Addr} (ha:a.block≠b) (u:Value):mZ (w.setCell a u) b s k d:=
 ⟨h.rd.of_block (Below.heap_setCell _ _ _ _ (Ne.symm ha)),h.le⟩
theorem qy (b:Nat) (s:RJ) (k d:Nat) (w:World) (hs:s.size≤maxLen) (h:mZ w b s k d):
  Calls Tryz.prog 220 #[.pointer (some ⟨b,0,none⟩)] w fun e w'=>e=.returned (.tuple #[])∧mZ w' b s (next s k) d∧But b w w':=by
 refine (ER b s _ _ d w hs h.rd (qx s k h.le)).mono ?_;rintro e w' ⟨rfl,h1,h2⟩;exact ⟨rfl,mZ.of_rd h1 h.le,h2⟩
theorem KU (t:RJ):lS t=(decide ((0:Int)<(iO (cO t):Nat))&& !(t.toList== [116,121,112,101])):=by
 rw [aC];unfold lS
 cases cO t with
 |nil=>rfl
 |cons c r=>
  simp only [iO]
  by_cases hc:letter c.toNat=true
  rotate_left
  ·simp [hc]
  ·simp only [hc,if_true];rw [show decide ((0:Int)<((1+(r.takeWhile qm).length:Nat):Int))=true from decide_eq_true (by omega)]
theorem jv (s:RJ) (k:Nat) (hs:s.size≤maxLen) (hk:k≤s.size):(aP s k).size≤maxLen:=by
 have:=qx s k hk;unfold maxLen at*;omega
theorem fO (p:Int) (t:RJ) (w:World) (ht:t.size≤maxLen):
  Calls Tryz.prog 171 #[.agg #[.int .i64 p,.string t]] w fun e w'=>e=.returned (.bool (lS t))∧Below w.heap.size w w':=by
 have HT:=ae ht;clear ht;have dN:=ae (KU t);generalize hn:iO (cO t)=n at dN;have Hn:=ae hn;clear hn
 by_cases h0:(0:Int)<(n:Int)
 ·rw [decide_eq_true h0] at dN
  cases ht:(t.toList== [116,121,112,101])
  all_goals
   rw [ht] at dN;go_enter Tryz.func171,Tryz.ntmps171;go_wp2_with (go_at_call 144;refine (kg _ _ (aa HT)).mono ?_;rintro e w' ⟨rfl,rfl⟩;rw [aa Hn]);go_ret;exact ⟨by rw [aa dN];rfl,(Below.refl _ _).alloc RH _⟩
 ·rw [decide_eq_false h0] at dN;go_enter Tryz.func171,Tryz.ntmps171;go_wp2_with (go_at_call 144;refine (kg _ _ (aa HT)).mono ?_;rintro e w' ⟨rfl,rfl⟩;rw [aa Hn]);go_ret;exact ⟨by rw [aa dN];rfl,(Below.refl _ _).alloc RH _⟩
theorem Qq (b:Nat) (s:RJ) (k d g cap:Nat) (x:RJ) (w:World) (h:mZ w b s k d) (hc:w.cell? ⟨g,0,none⟩=some (.string x)):
  Calls Tryz.prog 113 #[.pointer (some ⟨b,0,none⟩),.slice (some ⟨g,0,none⟩) 1 cap] w fun e w'=>e=.returned (.bool (eqs (aP s k) x))∧w'=w:=
 (ni b s _ _ d g cap [x] w h.rd (by simp [maxLen]) (fun i hi=>by
  have e:i=0:=by simp at hi;exact hi
  subst e;exact hc)).mono fun e w' ⟨h1,h2⟩=>⟨by rw [h1];simp [gJ],h2⟩
theorem ES (b:Nat) (s:RJ) (k d:Nat) (x:RJ) (w:World) (hs:s.size≤maxLen) (h:mZ w b s k d) (he:eqs (aP s k) x=true):
  Calls Tryz.prog 169 #[.pointer (some ⟨b,0,none⟩),.string x] w fun e w'=>e=.returned .nilIface∧mZ w' b s (next s k) d∧But b w w':=by
 have H:=ae h;have Hs:=ae hs;clear h hs;go_enter Tryz.func169,Tryz.ntmps169;go_wp2_with fail;refine (Qq b s k d _ _ x _ ((aa H).alloc _) (by simp)).mono ?_;rintro e w' ⟨rfl,rfl⟩;rw [he];go_wp2_with fail;refine (qy b s k d _ (aa Hs) ((aa H).alloc _)).mono ?_;rintro e w' ⟨rfl,h1,h2⟩;have H1:=ae h1;have H2:=ae (((But.refl b w).alloc _).trans h2);clear h1 h2;go_wp2;go_ret;exact ⟨rfl,aa H1,aa H2⟩
theorem Ir (b:Nat) (s:RJ) (k d:Nat) (x:RJ) (w:World) (h:mZ w b s k d) (he:eqs (aP s k) x=false):
  Calls Tryz.prog 169 #[.pointer (some ⟨b,0,none⟩),.string x] w fun e w'=>e=.returned (aM 2)∧mZ w' b s k d∧Below w.heap.size w w':=by
 have H:=ae h;clear h;go_enter Tryz.func169,Tryz.ntmps169;go_wp2_with fail;refine (Qq b s k d _ _ x _ ((aa H).alloc _) (by simp)).mono ?_;rintro e w' ⟨rfl,rfl⟩;rw [he];go_wp2;go_ret;exact ⟨rfl,(aa H).alloc _,(Below.refl _ _).alloc RH _⟩
def pU (s:RJ) (k:Nat):Value:=.agg #[.int .i64 (aV s k),.string (aP s k)]
def yR:Value:=.agg #[.int .i64 0,.string ⟨#[]⟩]
theorem Ce (b:Nat) (s:RJ) (k d:Nat) (w:World) (hs:s.size≤maxLen) (h:mZ w b s k d) (he:lS (aP s k)=false):
  Calls Tryz.prog 221 #[.pointer (some ⟨b,0,none⟩)] w fun e w'=>e=.returned (.tuple #[yR,aM 2])∧mZ w' b s k d∧Below w.heap.size w w':=by
 have H:=ae h;have HT:=ae (jv s k hs h.le);have h1:=h.rd.c1;have h2:=h.rd.c2;have hlt:=h.rd.lt;clear h hs;go_enter Tryz.func221,Tryz.ntmps221;go_wp2_with (go_at_call 171;refine (fO _ _ _ (aa HT)).mono ?_;rintro e w' ⟨rfl,hb⟩;rw [he];obtain ⟨hcb,Qr⟩:=EQ hb);have hB:Below w.heap.size w w':=((Below.refl _ _).alloc RH _).trans (hb.mono (by simp));exact bodyPost_ret (v:=.tuple #[yR,aM 2]) (by simp [results,Tryz.results221,go_sem,yR,aM,hcb]) rfl ⟨rfl,(((aa H).below hB).setNew (by simp;omega) _).setNew (by simp;omega) _,(hB.setCell (by simp) _).setCell (by simp) _⟩
theorem Cf (b:Nat) (s:RJ) (k d:Nat) (w:World) (hs:s.size≤maxLen) (h:mZ w b s k d) (he:lS (aP s k)=true) (hl:8<(aP s k).size):
  Calls Tryz.prog 221 #[.pointer (some ⟨b,0,none⟩)] w fun e w'=>e=.returned (.tuple #[yR,aM 3])∧mZ w' b s k d∧Below w.heap.size w w':=by
 have H:=ae h;have HT:=ae (jv s k hs h.le);have h1:=h.rd.c1;have h2:=h.rd.c2;have hlt:=h.rd.lt;have hl':(8:Int)<((aP s k).size:Int):=by omega
 have hdl:decide ((8:Int)<((aP s k).size:Int))=true:=by simpa using hl'
 clear h hs;go_enter Tryz.func221,Tryz.ntmps221;go_wp2_with (go_at_call 171;refine (fO _ _ _ (aa HT)).mono ?_;rintro e w' ⟨rfl,hb⟩;rw [he];obtain ⟨hcb,Qr⟩:=EQ hb);have hB:Below w.heap.size w w':=((Below.refl _ _).alloc RH _).trans (hb.mono (by simp));exact bodyPost_ret (v:=.tuple #[yR,aM 3]) (by simp [results,Tryz.results221,go_sem,yR,aM,hcb]) rfl ⟨rfl,(((aa H).below hB).setNew (by simp;omega) _).setNew (by simp;omega) _,(hB.setCell (by simp) _).setCell (by simp) _⟩
theorem Iu (b:Nat) (s:RJ) (k d:Nat) (w:World) (hs:s.size≤maxLen) (h:mZ w b s k d) (he:lS (aP s k)=true) (hl:(aP s k).size≤8):
  Calls Tryz.prog 221 #[.pointer (some ⟨b,0,none⟩)] w fun e w'=>e=.returned (.tuple #[pU s k,.nilIface])∧mZ w' b s (next s k) d∧But b w w':=by
 have H:=ae h;have HT:=ae (jv s k hs h.le);have Hs:=ae hs;clear hs;have h1:=h.rd.c1;have h2:=h.rd.c2;have hlt:=h.rd.lt;have hl':((aP s k).size:Int)≤(8:Int):=by omega
 clear h;go_enter Tryz.func221,Tryz.ntmps221;go_wp2_with (go_at_call 171;refine (fO _ _ _ (aa HT)).mono ?_;rintro e w' ⟨rfl,hb⟩;rw [he];obtain ⟨hcb,Qr⟩:=EQ hb);have hB:Below w.heap.size w w':=((Below.refl _ _).alloc RH _).trans (hb.mono (by simp));have hsz:w.heap.size<w'.heap.size:=by have:=hb.size;simp at this;omega
 have k1:w'.cell? ⟨b,1,none⟩=some (.int .i64 (aV s k)):=(hB.cell hlt).trans h1;have k2:w'.cell? ⟨b,2,none⟩=some (.string (aP s k)):=(hB.cell hlt).trans h2;have HB:=ae hB;have P1:=ae ((aa H).below hB);have R1:=ae ((ag.new w #[.int .i64 0,.string ⟨#[]⟩] 107).below hb);clear hcb Qr hb hB h1 h2;have n1:=World.new_ne w' _ k1;have n2:=World.new_ne w' _ k2
 go_region_held3 (fun w'=>w'.cell? ⟨b,1,none⟩=some (.int .i64 (aV s k))∧w'.cell? ⟨b,2,none⟩=some (.string (aP s k))) (go_keep) (fail)
 rename_i hh;clear hh;go_wp2_with fail;refine (qy b s k d _ (aa Hs) ((aa P1).alloc _).drew).mono ?_;rintro e w2 ⟨rfl,p2,b2⟩;have P2:=ae p2;have B2:=ae ((But.of_below (b:=b) (aa HB)).trans (((But.refl b w').alloc _).drew.trans b2));have N2:=(ag.new w' #[.int .i64 (aV s k),.string (aP s k)] 107).drew.but b2 (by omega);have R2:=((aa R1).alloc _).drew.but b2 (by omega);have q0:=N2.cell (o:=0) rfl;have q1:=N2.cell (o:=1) rfl;have r0:=R2.cell (o:=0) rfl;have r1:=R2.cell (o:=1) rfl;have z1:=R2.fz;clear p2 b2 k1 k2 n1 n2 N2 R2;go_wp2;exact bodyPost_ret (v:=.tuple #[pU s k,.nilIface]) (by simp [results,Tryz.results221,go_sem,pU,r0,r1]) rfl ⟨rfl,((aa P2).setNew (by simp;omega) _).setNew (by simp;omega) _,((aa B2).setNew (by simp) _).setNew (by simp) _⟩
structure Gr where
 ty:RJ
 tp:Nat
 reach:Nat
 rel:RJ
 rp:Nat
structure Nd where
 kind:Nat
 place:Nat
 n1:RJ
 p1:Nat
 n2:RJ
 p2:Nat
 gs:List Gr
structure Ex where
 nd:Nd
 l:Option Ex
 r:Option Ex
structure Rl where
 name:RJ
 place:Nat
 body:Ex
structure Ty where
 name:RJ
 place:Nat
 rels:List Rl
abbrev fw (α:Type):=Except (Nat×Nat) (α×Nat)
def em:RJ:=⟨#[]⟩
def sg (c:UInt8):RJ:=⟨#[c]⟩
def jw:RJ:=⟨#[116,121,112,101]⟩
section
variable (T:Nat→RJ) (P:Nat→Nat)
def cB (i:Nat):fw Unit:=if lS (T i) then (if 8<(T i).size then .error (3,i) else .ok ((),i+1)) else .error (2,i)
def bB (x:RJ) (i:Nat):fw Unit:=match cB T i with
 | .error e=> .error e
 | .ok (_,j)=>if eqs (T j) x then .ok ((),j+1) else .error (2,j)
def lT (i:Nat):fw Gr:=match cB T i with
 | .error e=> .error e
 | .ok (_,j)=>if eqs (T j) (sg 42) then .ok (⟨T i,P i,1,em,0⟩,j+1)
  else if eqs (T j) (sg 35) then (match cB T (j+1) with
   | .error e=> .error e
   | .ok (_,m)=> .ok (⟨T i,P i,2,T (j+1),P (j+1)⟩,m))
  else .ok (⟨T i,P i,0,em,0⟩,j)
def iP:Nat→List Gr→Nat→fw (List Gr)
 |0,_,i=> .error (0,i)
 |f+1,acc,i=>match lT T P (i+1) with
  | .error e=> .error e
  | .ok (g,j)=>if eqs (T j) (sg 44) then iP f (acc++[g]) j
   else if eqs (T j) (sg 93) then .ok (acc++[g],j+1) else .error (2,j)
def Ka (i:Nat) (gs:List Gr):Ex:=⟨⟨0,P i,em,0,em,0,gs⟩,none,none⟩
def sP (i:Nat):fw Ex:=match iP T P 512 [] i with
 | .error e=> .error e
 | .ok (gs,j)=> .ok (Ka P i gs,j)
def lU (i:Nat):fw Ex:=match cB T i with
 | .error e=> .error e
 | .ok (_,j)=>if eqs (T j) (sg 46) then (match cB T (j+1) with
   | .error e=> .error e
   | .ok (_,m)=> .ok (⟨⟨2,P i,T i,P i,T (j+1),P (j+1),[]⟩,none,none⟩,m))
  else .ok (⟨⟨1,P i,T i,P i,em,0,[]⟩,none,none⟩,j)
def nu (room:Bool) (inner:Nat→fw Ex) (i:Nat):fw Ex:=
 if eqs (T i) (sg 91) then sP T P i
 else if eqs (T i) (sg 40) then
  (if room then (match inner (i+1) with
   | .error e=> .error e
   | .ok (x,j)=>if eqs (T j) (sg 41) then .ok (x,j+1) else .error (2,j))
  else .error (3,i))
 else lU T P i
def kindOf (t:RJ):Nat:=if eqs t (sg 124) then 3 else if eqs t (sg 38) then 4 else 5
def qA (t:RJ) (p:Nat) (x y:Ex):Ex:=⟨⟨kindOf t,p,em,0,em,0,[]⟩,some x,some y⟩
def joinL (signs:List RJ) (part:Nat→fw Ex):Nat→Ex→Nat→fw Ex
 |0,_,i=> .error (0,i)
 |f+1,x,i=>if gJ (T i) signs then (match part (i+1) with
   | .error e=> .error e
   | .ok (y,j)=>joinL signs part f (qA (T i) (P i) x y) j)
  else .ok (x,i)
def iq (signs:List RJ) (part:Nat→fw Ex) (i:Nat):fw Ex:=match part i with
 | .error e=> .error e
 | .ok (x,j)=>joinL T P signs part 512 x j
def zh (room:Bool) (inner:Nat→fw Ex) (i:Nat):fw Ex:=iq T P [sg 38,sg 45] (nu T P room inner) i
def ny:Nat→Nat→fw Ex
 |0,i=>iq T P [sg 124] (zh T P false (fun _=> .error (0,0))) i
 |n+1,i=>iq T P [sg 124] (zh T P true (ny n)) i
def uD (i:Nat):fw Rl:=match bB T (sg 58) i with
 | .error e=> .error e
 | .ok (_,j)=>match ny T P 4 j with
  | .error e=> .error e
  | .ok (x,m)=>if eqs (T m) (sg 59) then .ok (⟨T i,P i,x⟩,m+1) else .error (2,m)
def jV:Nat→List Rl→Nat→fw (List Rl)
 |0,_,i=> .error (0,i)
 |f+1,acc,i=>if eqs (T i) (sg 125) then .ok (acc,i+1)
  else if lS (T i)&&acc.length==6 then .error (3,i)
  else match uD T P i with
   | .error e=> .error e
   | .ok (r,j)=>jV f (acc++[r]) j
def nz (i:Nat):fw Ty:=if eqs (T i) jw then (match bB T (sg 123) (i+1) with
  | .error e=> .error e
  | .ok (_,j)=>match jV T P 512 [] j with
   | .error e=> .error e
   | .ok (rs,m)=> .ok (⟨T (i+1),P (i+1),rs⟩,m))
 else .error (2,i)
def ko:Nat→List Ty→Nat→fw (List Ty)
 |0,_,i=> .error (0,i)
 |f+1,acc,i=>if eqs (T i) em then .ok (acc,i)
  else if eqs (T i) jw&&acc.length==5 then .error (3,i)
  else match nz T P i with
   | .error e=> .error e
   | .ok (t,j)=>ko f (acc++[t]) j
def lV:fw (List Ty):=ko T P 512 [] 0
end
def K (s:RJ):Nat→Nat
 |0=>0
 |i+1=>next s (K s i)
def TT (s:RJ) (i:Nat):RJ:=aP s (K s i)
def PP (s:RJ) (i:Nat):Nat:=aV s (K s i)
structure At (w:World) (b:Nat) (s:RJ) (i d:Nat):Prop where
 pos:mZ w b s (K s i) d
 good:i≤K s i
theorem At.le {w:World} {b:Nat} {s:RJ} {i d:Nat} (h:At w b s i d):i≤s.size:=Nat.le_trans h.good h.pos.le
theorem At.below {w w':World} {b:Nat} {s:RJ} {i d:Nat} (h:At w b s i d) (k:Below w.heap.size w w'):At w' b s i d:=⟨h.pos.below k,h.good⟩
theorem At.alloc {w:World} {b:Nat} {s:RJ} {i d:Nat} (h:At w b s i d) (o:Obj):At (w.alloc o) b s i d:=⟨h.pos.alloc o,h.good⟩
theorem At.drew {w:World} {b:Nat} {s:RJ} {i d:Nat} (h:At w b s i d):At w.drew b s i d:=⟨h.pos.drew,h.good⟩
theorem At.setNew {w:World} {b:Nat} {s:RJ} {i d:Nat} (h:At w b s i d) {a:Addr} (ha:a.block≠b) (u:Value):At (w.setCell a u) b s i d:=⟨h.pos.setNew ha u,h.good⟩
theorem At.lt {w:World} {b:Nat} {s:RJ} {i d:Nat} (h:At w b s i d):b<w.heap.size:=h.pos.rd.lt
theorem At.grown {w w':World} {b:Nat} {s:RJ} {i d:Nat} {row:Option Nat} (h:At w b s i d) (k:w.grownBy w' row) (hb:some b≠row):At w' b s i d:=⟨⟨h.pos.rd.of_block (k.block b h.lt hb),h.pos.le⟩,h.good⟩
theorem Iw (l:List UInt8) (k:Nat):k≤skip l k:=by unfold skip;omega
theorem Cg {s:RJ} {i:Nat} (h:i≤K s i) (ht:0<(TT s i).size):i+1≤K s (i+1):=by
 show i+1≤aV s (K s i)+(aP s (K s i)).size
 have:=Iw (cO s) (K s i);unfold TT at ht;unfold aV;omega
theorem At.next {w:World} {b:Nat} {s:RJ} {i d:Nat} (h:mZ w b s (next s (K s i)) d) (hg:i≤K s i) (ht:0<(TT s i).size):At w b s (i+1) d:=⟨h,Cg hg ht⟩
theorem ET {t:RJ} (h:lS t=true):0<t.size:=by
 rw [←aN];unfold lS at h;generalize cO t=l at*
 cases l with
 |nil=>simp at h
 |cons c r=>simp
theorem eQ {t x:RJ} (h:eqs t x=true) (hx:0<(cO x).length):0<t.size:=by
 rw [←aN];unfold eqs at h;rw [beq_iff_eq] at h;rw [h];exact hx
def Kb (v:Value):Prop:=v=.nilIface∨∃t x,v=.iface t x
def Post {α:Type} (b:Nat) (s:RJ) (d:Nat) (w:World) (r:fw α) (rep:World→α→Value→Prop) (bad:Value→Prop) (e:Ending) (w':World):Prop:=
 But b w w'∧match r with
  | .ok (x,j)=>∃v,e=.returned (.tuple #[v,.nilIface])∧rep w' x v∧At w' b s j d
  | .error (c,j)=>∃v d',e=.returned (.tuple #[v,aM c])∧bad v∧At w' b s j d'
theorem bf (b:Nat) (s:RJ) (i d:Nat) (w:World) (hs:s.size≤maxLen) (h:At w b s i d):
  Calls Tryz.prog 221 #[.pointer (some ⟨b,0,none⟩)] w (Post b s d w (cB (TT s) i) (fun _ _ v=>v=pU s (K s i)) (fun v=>v=yR)):=by
 unfold cB
 cases hn:lS (TT s i)
 ·refine (Ce b s (K s i) d w hs h.pos hn).mono ?_;rintro e w' ⟨rfl,h1,h2⟩;exact ⟨But.of_below h2,yR,d,rfl,rfl,h1,h.good⟩
 ·by_cases hl:8<(TT s i).size
  ·simp only [hl,if_true];refine (Cf b s (K s i) d w hs h.pos hn hl).mono ?_;rintro e w' ⟨rfl,h1,h2⟩;exact ⟨But.of_below h2,yR,d,rfl,rfl,h1,h.good⟩
  ·simp only [hl,if_true,if_false];refine (Iu b s (K s i) d w hs h.pos hn (by unfold TT at hl;omega)).mono ?_;rintro e w' ⟨rfl,h1,h2⟩;exact ⟨h2,_,rfl,rfl,At.next h1 h.good (ET hn)⟩
