import Derived.Test.YtlbpnlngckgcbaaGreatDoorProg
import Derived.WalkKit
import Derived.WalkLawsBesides
import Derived.WalkSpells
import Derived.BigQuiet
import Derived.PlainAid
import Derived.Lib.Strings
import Derived.Deep.RegionHeld3
import Derived.Deep.RegionWith
import Derived.Deep.DrawnRows
import Derived.Deep.AppendLies
import Derived.Laws.ResultCell
import Derived.Laws.Rows
set_option linter.all false
set_option maxHeartbeats 4000000
set_option maxRecDepth 100000
namespace Go.Proofs.YtlbpnlngckgcbaaGreatDoor
open Go.RowKit Go.PlainAid
abbrev aei:=ByteArray
theorem aeg {n:Nat}:n≤n:=Nat.le_refl n
theorem aeh {α:Type} {l:List α} {i:Nat} (h:i<l.length):l[i]? =some l[i]:=List.getElem?_eq_getElem h
theorem af {p:Prop} (h:p):Hid p:=h
theorem ae {p:Prop} (h:Hid p):p:=h
def blank (c:Int):Bool:=c==32||c==9||c==10
def letter (c:Int):Bool:=decide (97≤c)&&decide (c≤122)
def digit (c:Int):Bool:=decide (48≤c)&&decide (c≤57)
theorem iM (c:Int) (w:World):Calls Tryz.prog 203 #[.int .u8 c] w fun e w'=>e=.returned (.bool (letter c))∧w'=w:=by
 by_cases h1:97≤c
 ·go_enter Tryz.func203,Tryz.ntmps203;go_wp2;go_ret;exact ⟨by simp [letter,h1],rfl⟩
 ·go_enter Tryz.func203,Tryz.ntmps203;go_wp2;go_ret;exact ⟨by simp [letter];omega,rfl⟩
theorem mQ (c:Int) (w:World):Calls Tryz.prog 204 #[.int .u8 c] w fun e w'=>e=.returned (.bool (digit c))∧w'=w:=by
 by_cases h1:48≤c
 ·go_enter Tryz.func204,Tryz.ntmps204;go_wp2;go_ret;exact ⟨by simp [digit,h1],rfl⟩
 ·go_enter Tryz.func204,Tryz.ntmps204;go_wp2;go_ret;exact ⟨by simp [digit];omega,rfl⟩
theorem pM (c:Int) (w:World):Calls Tryz.prog 111 #[.int .u8 c] w fun e w'=>e=.returned (.bool (blank c))∧w'=w:=by
 go_enter Tryz.func111,Tryz.ntmps111;go_wp2
 all_goals
  go_ret;exact ⟨by simp_all [blank],rfl⟩
def dO (c:UInt8):Bool:=letter c.toNat||digit c.toNat
def eB (c:UInt8):Bool:=blank c.toNat
def eT:List UInt8→Nat
 | []=>0
 |c::r=>if letter c.toNat then 1+(r.takeWhile dO).length else 1
def mR:List UInt8→Nat
 | []=>0
 |c::r=>if letter c.toNat then 1+(r.takeWhile dO).length else 0
theorem LY (l:List UInt8) (h:l≠ []):((eT l:Nat):Int)=if (1:Int)<(mR l:Nat) then ((mR l:Nat):Int) else 1:=by
 cases l with
 |nil=>exact absurd rfl h
 |cons c r=>
  simp only [eT,mR]
  by_cases hc:letter c.toNat=true
  ·simp only [hc,if_true]
   split<;>omega
  ·simp [hc]
theorem gP {α:Type} (p:α→Bool):∀(l:List α) (k:Nat),(∀j,(h:j<k)→(h':j<l.length)→p l[j]=true)→k≤l.length→((h:k<l.length)→p l[k]=false)→(l.takeWhile p).length=k
 | [],k,_,h2,_=>by simp at h2;simp [h2]
 |a::r,0,_,_,h3=>by
  have:=h3 (by simp);simp at this;simp [List.takeWhile_cons,this]
 |a::r,k+1,h1,h2,h3=>by
  have ha:=h1 0 (by omega) (by simp);simp at ha;simp [List.takeWhile_cons,ha];exact gP p r k (fun j h h'=>by have:=h1 (j+1) (by omega) (by simp;omega);simpa using this) (by simpa using h2) (fun h=>by have:=h3 (by simp;omega);simpa using this)
def bi (s:aei):List UInt8:=s.data.toList
def mk (l:List UInt8):aei:=⟨l.toArray⟩
theorem sD (l:List UInt8):bi (mk l)=l:=rfl
theorem gV (s:aei):mk (bi s)=s:=rfl
theorem aG (s:aei):(bi s).length=s.size:=by show s.data.toList.length=s.data.size;exact Array.length_toList
theorem xZ (s:aei) (k:Nat) (h:k<(bi s).length):bt s k=((bi s)[k].toNat:Int):=by
 rw [aG] at h;unfold bt;rw [dif_pos h];rfl
theorem aF (s:aei):s.toList=bi s:=ByteArray.toList_eq s
theorem uu (s:aei) (k:Nat) (h0:0<s.size) (hl:letter (bt s 0)=true) (h1:1≤k) (hk:k≤s.size)
  (hall:∀j,1≤j→j<k→(letter (bt s j)||digit (bt s j))=true) (hend:k<s.size→(letter (bt s k)||digit (bt s k))=false):mR (bi s)=k:=by
 have hb:=xZ s;rw [←aG] at h0 hk hend;generalize bi s=l at*
 cases l with
 |nil=>simp at h0
 |cons c r=>
  have hl':=hb 0 (by simp);simp only [List.getElem_cons_zero] at hl';rw [hl'] at hl;simp only [mR,hl,if_true];simp only [List.length_cons] at hk hend;have:=gP dO r (k-1) (fun j h h'=>by
   have:=hall (j+1) (by omega) (by omega);rw [hb (j+1) (by simp;omega)] at this
   simpa [dO] using this) (by omega) (fun h=>by
   obtain ⟨q,rfl⟩:∃q,k=q+1:=⟨k-1,by omega⟩;have:=hend (by omega);rw [hb (q+1) (by simp;omega)] at this
   simpa [dO] using this)
  omega
theorem x8 (s:aei) (h0:0<s.size) (hl:letter (bt s 0)=false):mR (bi s)=0:=by
 have hb:=xZ s;rw [←aG] at h0;generalize bi s=l at*
 cases l with
 |nil=>simp at h0
 |cons c r=>
  have hl':=hb 0 (by simp);simp only [List.getElem_cons_zero] at hl';rw [hl'] at hl;simp [mR,hl]
theorem EH (s:aei) (h:bi s≠ []):0<s.size:=by
 rw [←aG];exact List.length_pos_iff.2 h
theorem pO (s:aei) (w:World) (hs:s.size≤maxLen):
  Calls Tryz.prog 144 #[.string s] w fun e w'=>e=.returned (.int .i64 (mR (bi s)))∧w'=w:=by
 unfold maxLen at hs
 by_cases hz:bi s=[]
 ·have hz':s.toList=[]:=by rw [aF];exact hz
  have Hz:=af hz;clear hz;go_enter Tryz.func144,Tryz.ntmps144;go_wp2;go_ret;exact ⟨by rw [ae Hz];rfl,rfl⟩
 ·have h0:0<s.size:=EH s hz;have hz':s.toList.isEmpty=false:=by rw [aF];simpa using hz
  clear hz;have gb:=get_bt s
  cases hl:letter (bt s 0)
  ·have iW:=af (x8 s h0 hl);go_enter Tryz.func144,Tryz.ntmps144;go_wp2_with (go_at_call 203;refine (iM _ _).mono ?_;rintro e w' ⟨rfl,rfl⟩);go_ret;exact ⟨by rw [ae iW];rfl,rfl⟩
  ·have Hl:=af hl;go_enter Tryz.func144,Tryz.ntmps144;go_wp2_with (go_at_call 203;refine (iM _ _).mono ?_;rintro e w' ⟨rfl,rfl⟩)
   go_loop [3] (fun i=>∃k:Nat,1≤k∧k≤s.size∧i=.int .i64 k∧Hid (∀j,1≤j→j<k→(letter (bt s j)||digit (bt s j))=true)) (fun i=>s.size-(intOf i).toNat)
   case atStart=>exact ⟨1,by omega,by omega,rfl,af (fun j h h'=>by omega)⟩
   case round=>
    obtain ⟨k,hk1,hk2,rfl,jX⟩:=hrel
    by_cases hlt:k<s.size
    ·cases hlk:letter (bt s k)
     ·cases hdk:digit (bt s k)
      ·have iW:=af (uu s k h0 hl hk1 hk2 (ae jX) (fun _=>by simp [hlk,hdk]));go_wp2_with (first|(go_at_call 203;refine (iM _ _).mono ?_;rintro e w' ⟨rfl,rfl⟩)|(go_at_call 204;refine (mQ _ _).mono ?_;rintro e w' ⟨rfl,rfl⟩));go_ret;exact ⟨by rw [ae iW];rfl,rfl⟩
      ·have Hn:=af (show ∀j,1≤j→j<k+1→(letter (bt s j)||digit (bt s j))=true from fun j h h'=>by
        by_cases e:j=k
        ·rw [e,hdk];simp
        ·exact ae jX j h (by omega))
       go_wp2_with (first|(go_at_call 203;refine (iM _ _).mono ?_;rintro e w' ⟨rfl,rfl⟩)|(go_at_call 204;refine (mQ _ _).mono ?_;rintro e w' ⟨rfl,rfl⟩))
       go_round
       case rel=>exact ⟨k+1,by omega,by omega,by go_num,Hn⟩
       case measure=>simp [intOf];omega
     ·have Hn:=af (show ∀j,1≤j→j<k+1→(letter (bt s j)||digit (bt s j))=true from fun j h h'=>by
       by_cases e:j=k
       ·rw [e,hlk];simp
       ·exact ae jX j h (by omega))
      go_wp2_with (first|(go_at_call 203;refine (iM _ _).mono ?_;rintro e w' ⟨rfl,rfl⟩)|(go_at_call 204;refine (mQ _ _).mono ?_;rintro e w' ⟨rfl,rfl⟩))
      go_round
      case rel=>exact ⟨k+1,by omega,by omega,by go_num,Hn⟩
      case measure=>simp [intOf];omega
    ·have iW:=af (uu s k h0 hl hk1 hk2 (ae jX) (fun h=>absurd h hlt));go_wp2_with (first|(go_at_call 203;refine (iM _ _).mono ?_;rintro e w' ⟨rfl,rfl⟩)|(go_at_call 204;refine (mQ _ _).mono ?_;rintro e w' ⟨rfl,rfl⟩));go_ret;exact ⟨by rw [ae iW];rfl,rfl⟩
theorem rP (s:aei) (w:World) (hs:s.size≤maxLen):
  Calls Tryz.prog 112 #[.string s] w fun e w'=>e=.returned (.int .i64 (eT (bi s)))∧w'=w:=by
 have HS:=af hs
 by_cases hz:bi s=[]
 ·have hz':s.toList=[]:=by rw [aF];exact hz
  have Hz:=af hz;clear hz;go_enter Tryz.func112,Tryz.ntmps112;go_wp2;go_ret;exact ⟨by rw [ae Hz];rfl,rfl⟩
 ·have hz':s.toList.isEmpty=false:=by rw [aF];simpa using hz
  have Hw:=af (LY (bi s) hz);clear hz;generalize hn:mR (bi s)=n at Hw;have Hn:=af hn;clear hn
  by_cases h1:(1:Int)<(n:Int)
  ·go_enter Tryz.func112,Tryz.ntmps112;go_wp2_with (go_at_call 144;refine (pO _ _ (ae HS)).mono ?_;rintro e w' ⟨rfl,rfl⟩;rw [ae Hn]);go_ret;exact ⟨by rw [ae Hw,if_pos h1];rfl,rfl⟩
  ·go_enter Tryz.func112,Tryz.ntmps112;go_wp2_with (go_at_call 144;refine (pO _ _ (ae HS)).mono ?_;rintro e w' ⟨rfl,rfl⟩;rw [ae Hn]);go_ret;exact ⟨by rw [ae Hw,if_neg (by omega)];rfl,rfl⟩
def skip (l:List UInt8) (k:Nat):Nat:=k+((l.drop k).takeWhile eB).length
def lL (l:List UInt8) (p:Nat):List UInt8:=(l.drop p).take (eT (l.drop p))
theorem Sn (s:aei) (a k:Nat) (h1:a≤k) (hk:k≤s.size)
  (hall:∀j,a≤j→j<k→blank (bt s j)=true) (hend:k<s.size→blank (bt s k)=false):skip (bi s) a=k:=by
 have hb:=xZ s;rw [←aG] at hk hend;generalize bi s=l at*;unfold skip;have:=gP eB (l.drop a) (k-a) (fun j h h'=>by
  simp at h';have:=hall (a+j) (by omega) (by omega);rw [hb (a+j) (by omega)] at this
  simpa [eB] using this) (by simp;omega) (fun h=>by
  simp at h;have:=hend (by omega);rw [hb k (by omega)] at this
  simpa [eB,show a+(k-a)=k by omega] using this)
 omega
theorem x9 (l:List UInt8):eT l≤l.length:=by
 cases l with
 |nil=>simp [eT]
 |cons c r=>
  simp only [eT];have:=(List.takeWhile_sublist dO (l:=r)).length_le
  split<;>simp<;>omega
theorem EI (s:aei) (a b:Nat):bi (s.extract a b)=((bi s).drop a).take (b-a):=Lib.extract_data s a b
theorem extract_mk (s:aei) (a b:Nat):s.extract a b=mk (((bi s).drop a).take (b-a)):=Lib.extract_eq s a b
theorem oW (s:aei) (a:Nat):bi (s.extract a s.size)=(bi s).drop a:=by
 rw [EI,List.take_of_length_le];rw [List.length_drop,aG];omega
theorem Av (s:aei) (a:Nat) (w:World) (hs:s.size≤maxLen) (ha:a≤s.size):
  Calls Tryz.prog 71 #[.string s,.int .i64 a] w fun e w'=>e=.returned (.agg #[.int .i64 (skip (bi s) a),.string (mk (lL (bi s) (skip (bi s) a)))])∧Below w.heap.size w w':=by
 have Hs:=af hs;unfold maxLen at hs;have gb:=get_bt s;go_enter Tryz.func71,Tryz.ntmps71;go_wp2
 go_loop [1] (fun i=>∃k:Nat,a≤k∧k≤s.size∧i=.int .i64 k∧Hid (∀j,a≤j→j<k→blank (bt s j)=true)) (fun i=>s.size-(intOf i).toNat)
 case atStart=>exact ⟨a,by omega,by omega,rfl,af (fun j h h'=>by omega)⟩
 case round=>
  obtain ⟨k,hk1,hk2,rfl,jX⟩:=hrel
  by_cases hc:k<s.size∧blank (bt s k)=true
  ·obtain ⟨hlt,hbk⟩:=hc;have Hn:=af (show ∀j,a≤j→j<k+1→blank (bt s j)=true from fun j h h'=>by
    by_cases e:j=k
    ·rw [e,hbk]
    ·exact ae jX j h (by omega))
   go_wp2_with (first|(go_at_call 111;refine (pM _ _).mono ?_;rintro e w' ⟨rfl,rfl⟩))
   go_round
   case rel=>exact ⟨k+1,by omega,by omega,by go_num,Hn⟩
   case measure=>simp [intOf];omega
  ·have Hp:=af (Sn s a k hk1 hk2 (ae jX) (fun h=>by
    cases hb:blank (bt s k)
    ·rfl
    ·exact absurd ⟨h,hb⟩ hc))
   have Ht:=x9 ((bi s).drop k);rw [List.length_drop,aG] at Ht;have Hx:=af (show ∀n,eT ((bi s).drop k)=n→s.extract k (k+n)=mk (lL (bi s) k) from fun n hn=>by
    rw [extract_mk,lL,hn,show k+n-k=n by omega])
   have hsz:(s.extract k s.size).size≤maxLen:=by rw [ByteArray.size_extract];unfold maxLen;omega
   have Hsz:=af hsz;clear hsz
   by_cases hlt:k<s.size
   ·have hbk:blank (bt s k)=false:=by
     cases hb:blank (bt s k)
     ·rfl
     ·exact absurd ⟨hlt,hb⟩ hc
    clear hc;go_wp2_with (first|(go_at_call 111;refine (pM _ _).mono ?_;rintro e w' ⟨rfl,rfl⟩));refine (rP _ _ (ae Hsz)).mono ?_;rintro e w' ⟨rfl,rfl⟩;rw [oW];generalize hn:eT ((bi s).drop k)=n at*;have Hn:=af hn;clear hn;go_wp2;exact bodyPost_ret (v:=.agg #[.int .i64 k,.string (s.extract k (k+n))]) (by simp [results,Tryz.results71,go_sem]) rfl ⟨by rw [ae Hp,ae Hx n rfl],(Below.refl _ _).alloc aeg _⟩
   ·clear hc;go_wp2_with (first|(go_at_call 111;refine (pM _ _).mono ?_;rintro e w' ⟨rfl,rfl⟩));refine (rP _ _ (ae Hsz)).mono ?_;rintro e w' ⟨rfl,rfl⟩;rw [oW];generalize hn:eT ((bi s).drop k)=n at*;have Hn:=af hn;clear hn;go_wp2;exact bodyPost_ret (v:=.agg #[.int .i64 k,.string (s.extract k (k+n))]) (by simp [results,Tryz.results71,go_sem]) rfl ⟨by rw [ae Hp,ae Hx n rfl],(Below.refl _ _).alloc aeg _⟩
theorem OJ {W w1:World} (hb:Below W.heap.size W w1):(∀b o,b<W.heap.size→w1.cell? ⟨b,o,none⟩=W.cell? ⟨b,o,none⟩)∧(∀b o,b<W.heap.size→w1.frozen? ⟨b,o,none⟩=W.frozen? ⟨b,o,none⟩):=
 ⟨fun b o h=>hb.cell (p:=⟨b,o,none⟩) h,fun b o h=>hb.frozen (p:=⟨b,o,none⟩) h⟩
structure But (b:Nat) (w w':World):Prop where
 os:w'.os=w.os
 tape:w'.tape=w.tape
 output:w'.output=w.output
 size:w.heap.size≤w'.heap.size
 block:∀k,k<w.heap.size→k≠b→w'.heap[k]? =w.heap[k]?
theorem But.refl (b:Nat) (w:World):But b w w:=⟨rfl,rfl,rfl,Nat.le_refl _,fun _ _ _=>rfl⟩
theorem But.trans {b:Nat} {x y z:World} (h:But b x y) (k:But b y z):But b x z:=
 ⟨k.os.trans h.os,k.tape.trans h.tape,k.output.trans h.output,Nat.le_trans h.size k.size,fun i hi hb=>(k.block i (Nat.lt_of_lt_of_le hi h.size) hb).trans (h.block i hi hb)⟩
theorem But.of_below {b:Nat} {x y:World} (h:Below x.heap.size x y):But b x y:=⟨h.os,h.tape,h.output,h.size,fun k hk _=>h.block k hk⟩
theorem But.below {b B:Nat} {x y:World} (h:But b x y) (hB:B≤b) (hx:B≤x.heap.size):Below B x y:=⟨h.os,h.tape,h.output,h.size,fun k hk=>h.block k (by omega) (by omega)⟩
theorem But.drew {b:Nat} {x y:World} (h:But b x y):But b x y.drew:=⟨h.os,h.tape,h.output,h.size,h.block⟩
theorem But.alloc {b:Nat} {x y:World} (h:But b x y) (o:Obj):But b x (y.alloc o):=
 h.trans (But.of_below ((Below.refl _ _).alloc aeg o))
theorem But.setCell {b:Nat} {x y:World} (h:But b x y) (o:Nat) (u:Value):But b x (y.setCell ⟨b,o,none⟩ u):=
 h.trans ⟨rfl,rfl,rfl,by simp [World.setCell],fun k hk hb=>Below.heap_setCell _ _ _ _ (by simpa using hb)⟩
theorem But.setNew {b:Nat} {x y:World} (h:But b x y) {a:Addr} (ha:x.heap.size≤a.block) (u:Value):But b x (y.setCell a u):=
 ⟨h.os,h.tape,h.output,Nat.le_trans h.size (by simp [World.setCell]),fun k hk hb=>(Below.heap_setCell _ _ _ _ (by omega)).trans (h.block k hk hb)⟩
theorem But.cell {b:Nat} {x y:World} (h:But b x y) {a:Addr} (ha:a.block<x.heap.size) (hb:a.block≠b):y.cell? a=x.cell? a:=World.cell?_of_block (w:=x) (h.block a.block ha hb)
structure Rd (w:World) (b:Nat) (s:aei) (p:Nat) (t:aei) (d:Nat):Prop where
 blk:w.heap[b]? =some (.cells #[.string s,.int .i64 p,.string t,.int .i64 d] 140)
theorem Rd.lt {w:World} {b:Nat} {s:aei} {p:Nat} {t:aei} {d:Nat} (h:Rd w b s p t d):b<w.heap.size:=by
 rcases Nat.lt_or_ge b w.heap.size with k|k
 ·exact k
 ·have:=h.blk;rw [Array.getElem?_eq_none k] at this;cases this
theorem Rd.c0 {w:World} {b:Nat} {s:aei} {p:Nat} {t:aei} {d:Nat} (h:Rd w b s p t d):w.cell? ⟨b,0,none⟩=some (.string s):=by simp [World.cell?,h.blk]
theorem Rd.c1 {w:World} {b:Nat} {s:aei} {p:Nat} {t:aei} {d:Nat} (h:Rd w b s p t d):w.cell? ⟨b,1,none⟩=some (.int .i64 p):=by simp [World.cell?,h.blk]
theorem Rd.c2 {w:World} {b:Nat} {s:aei} {p:Nat} {t:aei} {d:Nat} (h:Rd w b s p t d):w.cell? ⟨b,2,none⟩=some (.string t):=by simp [World.cell?,h.blk]
theorem Rd.c3 {w:World} {b:Nat} {s:aei} {p:Nat} {t:aei} {d:Nat} (h:Rd w b s p t d):w.cell? ⟨b,3,none⟩=some (.int .i64 d):=by simp [World.cell?,h.blk]
theorem Rd.fz {w:World} {b:Nat} {s:aei} {p:Nat} {t:aei} {d:Nat} (h:Rd w b s p t d) (o:Nat):w.frozen? ⟨b,o,none⟩=false:=by simp [World.frozen?,h.blk]
theorem Rd.of_block {w w':World} {b:Nat} {s:aei} {p:Nat} {t:aei} {d:Nat} (h:Rd w b s p t d) (e:w'.heap[b]? =w.heap[b]?):Rd w' b s p t d:=⟨e.trans h.blk⟩
theorem Rd.below {w w':World} {b:Nat} {s:aei} {p:Nat} {t:aei} {d:Nat} (h:Rd w b s p t d) (k:Below w.heap.size w w'):Rd w' b s p t d:=h.of_block (k.block b h.lt)
theorem Rd.drew {w:World} {b:Nat} {s:aei} {p:Nat} {t:aei} {d:Nat} (h:Rd w b s p t d):Rd w.drew b s p t d:=⟨h.blk⟩
theorem Rd.alloc {w:World} {b:Nat} {s:aei} {p:Nat} {t:aei} {d:Nat} (h:Rd w b s p t d) (o:Obj):Rd (w.alloc o) b s p t d:=h.below ((Below.refl _ _).alloc aeg o)
theorem iN {w:World} {b o:Nat} {c:Array Value} {T:TypeId} {f:Nat×Nat} (u:Value) (h:w.heap[b]? =some (.cells c T f)):
  (w.setCell ⟨b,o,none⟩ u).heap[b]? =some (.cells (c.setIfInBounds o u) T f):=by
 simp [World.setCell,Array.getElem?_modify,h]
theorem Rd.now {w:World} {b:Nat} {s:aei} {p:Nat} {t:aei} {d:Nat} (h:Rd w b s p t d) (p':Nat) (t':aei):
  Rd ((w.setCell ⟨b,1,none⟩ (.int .i64 p')).setCell ⟨b,2,none⟩ (.string t')) b s p' t' d:=by
 refine ⟨?_⟩;rw [iN _ (iN _ h.blk)]
 rfl
def ai (w:World) (g:Nat) (cs:Array Value) (T:TypeId):Prop:=w.heap[g]? =some (.cells cs T)
theorem ai.new (w:World) (cs:Array Value) (T:TypeId):ai (w.alloc (.cells cs T)) w.heap.size cs T:=by
 show (w.heap.push _)[w.heap.size]? =_
 simp
theorem ai.lt {w:World} {g:Nat} {cs:Array Value} {T:TypeId} (h:ai w g cs T):g<w.heap.size:=by
 rcases Nat.lt_or_ge g w.heap.size with k|k
 ·exact k
 ·unfold ai at h;rw [Array.getElem?_eq_none k] at h;cases h
theorem ai.below {w w':World} {g:Nat} {cs:Array Value} {T:TypeId} (h:ai w g cs T) (k:Below w.heap.size w w'):ai w' g cs T:=(k.block g h.lt).trans h
theorem ai.but {w w':World} {b g:Nat} {cs:Array Value} {T:TypeId} (h:ai w g cs T) (k:But b w w') (hg:g≠b):ai w' g cs T:=(k.block g h.lt hg).trans h
theorem ai.alloc {w:World} {g:Nat} {cs:Array Value} {T:TypeId} (h:ai w g cs T) (o:Obj):ai (w.alloc o) g cs T:=h.below ((Below.refl _ _).alloc aeg o)
theorem ai.drew {w:World} {g:Nat} {cs:Array Value} {T:TypeId} (h:ai w g cs T):ai w.drew g cs T:=h
theorem ai.other {w:World} {g:Nat} {cs:Array Value} {T:TypeId} (h:ai w g cs T) {a:Addr} (ha:g≠a.block) (u:Value):ai (w.setCell a u) g cs T:=(Below.heap_setCell _ _ _ _ ha).trans h
theorem ai.set {w:World} {g:Nat} {cs:Array Value} {T:TypeId} (h:ai w g cs T) (o:Nat) (u:Value):ai (w.setCell ⟨g,o,none⟩ u) g (cs.setIfInBounds o u) T:=iN u h
theorem ai.cell {w:World} {g:Nat} {cs:Array Value} {T:TypeId} (h:ai w g cs T) {o:Nat} {v:Value} (hv:cs[o]? =some v):w.cell? ⟨g,o,none⟩=some v:=by unfold ai at h;simp [World.cell?,h,hv]
theorem ai.fz {w:World} {g:Nat} {cs:Array Value} {T:TypeId} (h:ai w g cs T) (o:Nat):w.frozen? ⟨g,o,none⟩=false:=by unfold ai at h;simp [World.frozen?,h]
def bY (s:aei) (k:Nat):Nat:=skip (bi s) k
def bf (s:aei) (k:Nat):aei:=mk (lL (bi s) (skip (bi s) k))
theorem Sq (l:List UInt8) (k:Nat) (h:k≤l.length):skip l k≤l.length:=by
 unfold skip;have:=(List.takeWhile_sublist eB (l:=l.drop k)).length_le;rw [List.length_drop] at this;omega
theorem yc (l:List UInt8) (p:Nat) (h:p≤l.length):p+(lL l p).length≤l.length:=by
 unfold lL;have:=x9 (l.drop p);rw [List.length_take,List.length_drop] at*;omega
theorem KO (l:List UInt8):(mk l).size=l.length:=by simp [mk,ByteArray.size]
theorem pQ (s:aei) (k:Nat) (h:k≤s.size):bY s k+(bf s k).size≤s.size:=by
 unfold bY bf;rw [KO,←aG];rw [←aG] at h;exact yc _ _ (Sq _ _ h)
theorem IV (n:Int) (w:World):Calls Tryz.prog 76 #[.int .i64 n] w fun e w'=>e=.returned (.int .i64 n)∧w'=w:=by
 go_enter Tryz.func76,Tryz.ntmps76;go_wp2;go_ret;exact ⟨rfl,rfl⟩
theorem kP (s:aei) (k:Nat) (a:Int) (w:World) (hs:s.size≤maxLen) (ha:k≤s.size) (hk:a=(k:Int)):
  Calls Tryz.prog 71 #[.string s,.int .i64 a] w fun e w'=>e=.returned (.agg #[.int .i64 (bY s k),.string (bf s k)])∧Below w.heap.size w w':=by
 subst hk;exact Av s k w hs ha
attribute [local go_sem ↓] Go.wp_at_zero Go.wp_at_succ
theorem OL (b:Nat) (s:aei) (p:Nat) (t:aei) (d:Nat) (w:World) (hs:s.size≤maxLen) (h:Rd w b s p t d) (hf:p+t.size≤s.size):
  Calls Tryz.prog 220 #[.pointer (some ⟨b,0,none⟩)] w fun e w'=>e=.returned (.tuple #[])∧Rd w' b s (bY s (p+t.size)) (bf s (p+t.size)) d∧But b w w':=by
 have Hs:=af hs;unfold maxLen at hs;have H:=af h;have h0:=h.c0;have h1:=h.c1;have h2:=h.c2;have hz:=h.fz;have hlt:=h.lt;clear h;have hwr:IntKind.i64.wrap ((p:Int)+(t.size:Int))=(p:Int)+(t.size:Int):=IntWalk.i64_in _ ⟨by omega,by omega⟩;go_enter Tryz.func220,Tryz.ntmps220;go_wp2
 go_region_with
  (first|(go_at_call 76;refine (IV _ _).mono ?_;rintro e w' ⟨rfl,rfl⟩)|(go_at_call 71;refine (kP s (p+t.size) _ _ (ae Hs) hf ?_).mono ?_;(omega);rintro e w' ⟨rfl,hb⟩;have R':=(ae H).drew.below hb;have k0:=R'.c0;have k1:=R'.c1;have k2:=R'.c2;have kz:=R'.fz;have HR:=af R';clear R'))
 all_goals (go_end0;exact ⟨rfl,(ae HR).now _ _,(((But.refl b w).drew.trans (But.of_below hb)).setCell 1 _).setCell 2 _⟩)
def eqs (a b:aei):Bool:=bi a==bi b
def gX (t:aei) (l:List aei):Bool:=l.any fun x=>eqs t x
theorem EJ (t:aei) (l:List aei) (h:∀j,j<l.length→eqs t (l.getD j ByteArray.empty)=false):gX t l=false:=by
 unfold gX;rw [List.any_eq_false];intro x hx;obtain ⟨j,hj,rfl⟩:=List.getElem_of_mem hx;have:=h j hj;simp [List.getD_eq_getElem?_getD,aeh hj] at this;simp [this]
theorem IW (t:aei) (l:List aei) (j:Nat) (hj:j<l.length) (h:eqs t (l.getD j ByteArray.empty)=true):gX t l=true:=by
 unfold gX;rw [List.any_eq_true];refine ⟨l[j],List.getElem_mem _,?_⟩
 simpa [List.getD_eq_getElem?_getD,aeh hj] using h
theorem L6 (g cap:Nat) (l:List aei) (t:aei) (w:World) (hn:l.length≤maxLen)
  (hc:∀i,i<l.length→w.cell? ⟨g,i,none⟩=some (.string (l.getD i ByteArray.empty))):
  Calls Tryz.prog 219 #[.slice (some ⟨g,0,none⟩) l.length cap,.string t] w fun e w'=>(∃n:Int,e=.returned (.int .i64 n)∧decide (0≤n)=gX t l)∧w'=w:=by
 unfold maxLen at hn;generalize hN:l.length=N at*;have HN:=af hN;clear hN;generalize hL:(fun i=>l.getD i ByteArray.empty)=L at*;have HL:=af hL;have hc':∀i,i<N→w.cell? ⟨g,i,none⟩=some (.string (L i)):=fun i hi=>by rw [hc i hi,←hL]
 clear hc hL;go_enter Tryz.func219,Tryz.ntmps219;go_wp2
 go_loop [5,8] (fun u i=>∃k:Nat,k≤N∧i=.int .i64 k∧Hid (∀j,j<k→eqs t (L j)=false)) (fun _ i=>N-(intOf i).toNat)
 case atStart=>exact ⟨0,by omega,rfl,af (fun j h=>by omega)⟩
 case round=>
  obtain ⟨k,hk,rfl,jX⟩:=hrel
  by_cases hlt:k<N
  ·have KP:=hc' k hlt
   cases he:eqs t (L k)
   ·have he':(t.toList==(L k).toList)=false:=by rw [aF,aF];exact he
    have Hn:=af (show ∀j,j<k+1→eqs t (L j)=false from fun j h=>by
     by_cases e:j=k
     ·rw [e,he]
     ·exact ae jX j (by omega))
    clear he;go_wp2
    go_round
    case rel=>exact ⟨k+1,by omega,by go_num,Hn⟩
    case measure=>simp [intOf];omega
   ·have he':(t.toList==(L k).toList)=true:=by rw [aF,aF];exact he
    have iW:=af (IW t l k (by rw [ae HN];exact hlt) (by have this:l.getD k ByteArray.empty=L k:=congrFun (ae HL) k;rw [this];exact he));clear he;go_wp2;go_ret;exact ⟨⟨k,rfl,by rw [ae iW];simp⟩,rfl⟩
  ·have iW:=af (EJ t l (fun j hj=>by have this:l.getD j ByteArray.empty=L j:=congrFun (ae HL) j;rw [this];exact ae jX j (by rw [ae HN] at hj;omega)));go_wp2;go_ret;exact ⟨⟨-1,rfl,by rw [ae iW];decide⟩,rfl⟩
theorem CV (g cap:Nat) (l:List aei) (t:aei) (w:World) (hn:l.length≤maxLen)
  (hc:∀i,i<l.length→w.cell? ⟨g,i,none⟩=some (.string (l.getD i ByteArray.empty))):
  Calls Tryz.prog 168 #[.slice (some ⟨g,0,none⟩) l.length cap,.string t] w fun e w'=>e=.returned (.bool (gX t l))∧w'=w:=by
 have h:=L6 g cap l t w hn hc;have H:=af h;clear h hc;go_enter Tryz.func168,Tryz.ntmps168;go_wp2_with fail;refine (ae H).mono ?_;rintro e w' ⟨⟨n,rfl,hn⟩,rfl⟩;have HN:=af hn;clear hn;go_wp2;go_ret;exact ⟨by rw [←ae HN];rfl,rfl⟩
theorem uw (b:Nat) (s:aei) (p:Nat) (t:aei) (d:Nat) (g cap:Nat) (l:List aei) (w:World) (h:Rd w b s p t d) (hn:l.length≤maxLen)
  (hc:∀i,i<l.length→w.cell? ⟨g,i,none⟩=some (.string (l.getD i ByteArray.empty))):
  Calls Tryz.prog 113 #[.pointer (some ⟨b,0,none⟩),.slice (some ⟨g,0,none⟩) l.length cap] w fun e w'=>e=.returned (.bool (gX t l))∧w'=w:=by
 have H:=af (CV g cap l t w hn hc);clear hc;have h2:=h.c2;clear h;go_enter Tryz.func113,Tryz.ntmps113;go_wp2_with fail;refine (ae H).mono ?_;rintro e w' ⟨rfl,rfl⟩;go_wp2;go_ret;exact ⟨rfl,rfl⟩
def dh (t:aei):Bool:=match bi t with
 | []=>false
 |c::r=>letter c.toNat&& !(c::r== [116,121,112,101])
def next (s:aei) (k:Nat):Nat:=bY s k+(bf s k).size
def bn (c:Nat):Value:=.iface 134 (.int .i64 c)
structure uk (w:World) (b:Nat) (s:aei) (k d:Nat):Prop where
 rd:Rd w b s (bY s k) (bf s k) d
 le:k≤s.size
theorem uk.of_rd {w:World} {b:Nat} {s:aei} {k d:Nat} (h:Rd w b s (bY s (next s k)) (bf s (next s k)) d) (hk:k≤s.size):uk w b s (next s k) d:=⟨h,pQ s k hk⟩
theorem uk.below {w w':World} {b:Nat} {s:aei} {k d:Nat} (h:uk w b s k d) (hb:Below w.heap.size w w'):uk w' b s k d:=⟨h.rd.below hb,h.le⟩
theorem uk.alloc {w:World} {b:Nat} {s:aei} {k d:Nat} (h:uk w b s k d) (o:Obj):uk (w.alloc o) b s k d:=⟨h.rd.alloc o,h.le⟩
theorem uk.drew {w:World} {b:Nat} {s:aei} {k d:Nat} (h:uk w b s k d):uk w.drew b s k d:=⟨h.rd.drew,h.le⟩
theorem uk.setNew {w:World} {b:Nat} {s:aei} {k d:Nat} (h:uk w b s k d) {a:Addr} (ha:a.block≠b) (u:Value):uk (w.setCell a u) b s k d:=
 ⟨h.rd.of_block (Below.heap_setCell _ _ _ _ (Ne.symm ha)),h.le⟩
theorem yf (b:Nat) (s:aei) (k d:Nat) (w:World) (hs:s.size≤maxLen) (h:uk w b s k d):
  Calls Tryz.prog 220 #[.pointer (some ⟨b,0,none⟩)] w fun e w'=>e=.returned (.tuple #[])∧uk w' b s (next s k) d∧But b w w':=by
 refine (OL b s _ _ d w hs h.rd (pQ s k h.le)).mono ?_;rintro e w' ⟨rfl,h1,h2⟩;exact ⟨rfl,uk.of_rd h1 h.le,h2⟩
theorem Wv (t:aei):dh t=(decide ((0:Int)<(mR (bi t):Nat))&& !(t.toList== [116,121,112,101])):=by
 rw [aF];unfold dh
 cases bi t with
 |nil=>rfl
 |cons c r=>
  simp only [mR]
  by_cases hc:letter c.toNat=true
  rotate_left
  ·simp [hc]
  ·simp only [hc,if_true];rw [show decide ((0:Int)<((1+(r.takeWhile dO).length:Nat):Int))=true from decide_eq_true (by omega)]
theorem nO (s:aei) (k:Nat) (hs:s.size≤maxLen) (hk:k≤s.size):(bf s k).size≤maxLen:=by
 have:=pQ s k hk;unfold maxLen at*;omega
theorem kr (p:Int) (t:aei) (w:World) (ht:t.size≤maxLen):
  Calls Tryz.prog 171 #[.agg #[.int .i64 p,.string t]] w fun e w'=>e=.returned (.bool (dh t))∧Below w.heap.size w w':=by
 have HT:=af ht;clear ht;have iW:=af (Wv t);generalize hn:mR (bi t)=n at iW;have Hn:=af hn;clear hn
 by_cases h0:(0:Int)<(n:Int)
 ·rw [decide_eq_true h0] at iW
  cases ht:(t.toList== [116,121,112,101])
  all_goals
   rw [ht] at iW;go_enter Tryz.func171,Tryz.ntmps171;go_wp2_with (go_at_call 144;refine (pO _ _ (ae HT)).mono ?_;rintro e w' ⟨rfl,rfl⟩;rw [ae Hn]);go_ret;exact ⟨by rw [ae iW];rfl,(Below.refl _ _).alloc aeg _⟩
 ·rw [decide_eq_false h0] at iW;go_enter Tryz.func171,Tryz.ntmps171;go_wp2_with (go_at_call 144;refine (pO _ _ (ae HT)).mono ?_;rintro e w' ⟨rfl,rfl⟩;rw [ae Hn]);go_ret;exact ⟨by rw [ae iW];rfl,(Below.refl _ _).alloc aeg _⟩
theorem at1 (b:Nat) (s:aei) (k d g cap:Nat) (x:aei) (w:World) (h:uk w b s k d) (hc:w.cell? ⟨g,0,none⟩=some (.string x)):
  Calls Tryz.prog 113 #[.pointer (some ⟨b,0,none⟩),.slice (some ⟨g,0,none⟩) 1 cap] w fun e w'=>e=.returned (.bool (eqs (bf s k) x))∧w'=w:=
 (uw b s _ _ d g cap [x] w h.rd (by simp [maxLen]) (fun i hi=>by
  have e:i=0:=by simp at hi;exact hi
  subst e;exact hc)).mono fun e w' ⟨h1,h2⟩=>⟨by rw [h1];simp [gX],h2⟩
theorem OM (b:Nat) (s:aei) (k d:Nat) (x:aei) (w:World) (hs:s.size≤maxLen) (h:uk w b s k d) (he:eqs (bf s k) x=true):
  Calls Tryz.prog 169 #[.pointer (some ⟨b,0,none⟩),.string x] w fun e w'=>e=.returned .nilIface∧uk w' b s (next s k) d∧But b w w':=by
 have H:=af h;have Hs:=af hs;clear h hs;go_enter Tryz.func169,Tryz.ntmps169;go_wp2_with fail;refine (at1 b s k d _ _ x _ ((ae H).alloc _) (by simp)).mono ?_;rintro e w' ⟨rfl,rfl⟩;rw [he];go_wp2_with fail;refine (yf b s k d _ (ae Hs) ((ae H).alloc _)).mono ?_;rintro e w' ⟨rfl,h1,h2⟩;have H1:=af h1;have H2:=af (((But.refl b w).alloc _).trans h2);clear h1 h2;go_wp2;go_ret;exact ⟨rfl,ae H1,ae H2⟩
theorem Sr (b:Nat) (s:aei) (k d:Nat) (x:aei) (w:World) (h:uk w b s k d) (he:eqs (bf s k) x=false):
  Calls Tryz.prog 169 #[.pointer (some ⟨b,0,none⟩),.string x] w fun e w'=>e=.returned (bn 2)∧uk w' b s k d∧Below w.heap.size w w':=by
 have H:=af h;clear h;go_enter Tryz.func169,Tryz.ntmps169;go_wp2_with fail;refine (at1 b s k d _ _ x _ ((ae H).alloc _) (by simp)).mono ?_;rintro e w' ⟨rfl,rfl⟩;rw [he];go_wp2;go_ret;exact ⟨rfl,(ae H).alloc _,(Below.refl _ _).alloc aeg _⟩
def wX (s:aei) (k:Nat):Value:=.agg #[.int .i64 (bY s k),.string (bf s k)]
def IC:Value:=.agg #[.int .i64 0,.string ⟨#[]⟩]
theorem L9 (b:Nat) (s:aei) (k d:Nat) (w:World) (hs:s.size≤maxLen) (h:uk w b s k d) (he:dh (bf s k)=false):
  Calls Tryz.prog 221 #[.pointer (some ⟨b,0,none⟩)] w fun e w'=>e=.returned (.tuple #[IC,bn 2])∧uk w' b s k d∧Below w.heap.size w w':=by
 have H:=af h;have HT:=af (nO s k hs h.le);have h1:=h.rd.c1;have h2:=h.rd.c2;have hlt:=h.rd.lt;clear h hs;go_enter Tryz.func221,Tryz.ntmps221;go_wp2_with (go_at_call 171;refine (kr _ _ _ (ae HT)).mono ?_;rintro e w' ⟨rfl,hb⟩;rw [he];obtain ⟨hcb,hfb⟩:=OJ hb);have hB:Below w.heap.size w w':=((Below.refl _ _).alloc aeg _).trans (hb.mono (by simp));exact bodyPost_ret (v:=.tuple #[IC,bn 2]) (by simp [results,Tryz.results221,go_sem,IC,bn,hcb]) rfl ⟨rfl,(((ae H).below hB).setNew (by simp;omega) _).setNew (by simp;omega) _,(hB.setCell (by simp) _).setCell (by simp) _⟩
theorem Ma (b:Nat) (s:aei) (k d:Nat) (w:World) (hs:s.size≤maxLen) (h:uk w b s k d) (he:dh (bf s k)=true) (hl:8<(bf s k).size):
  Calls Tryz.prog 221 #[.pointer (some ⟨b,0,none⟩)] w fun e w'=>e=.returned (.tuple #[IC,bn 3])∧uk w' b s k d∧Below w.heap.size w w':=by
 have H:=af h;have HT:=af (nO s k hs h.le);have h1:=h.rd.c1;have h2:=h.rd.c2;have hlt:=h.rd.lt;have hl':(8:Int)<((bf s k).size:Int):=by omega
 have hdl:decide ((8:Int)<((bf s k).size:Int))=true:=by simpa using hl'
 clear h hs;go_enter Tryz.func221,Tryz.ntmps221;go_wp2_with (go_at_call 171;refine (kr _ _ _ (ae HT)).mono ?_;rintro e w' ⟨rfl,hb⟩;rw [he];obtain ⟨hcb,hfb⟩:=OJ hb);have hB:Below w.heap.size w w':=((Below.refl _ _).alloc aeg _).trans (hb.mono (by simp));exact bodyPost_ret (v:=.tuple #[IC,bn 3]) (by simp [results,Tryz.results221,go_sem,IC,bn,hcb]) rfl ⟨rfl,(((ae H).below hB).setNew (by simp;omega) _).setNew (by simp;omega) _,(hB.setCell (by simp) _).setCell (by simp) _⟩
theorem Su (b:Nat) (s:aei) (k d:Nat) (w:World) (hs:s.size≤maxLen) (h:uk w b s k d) (he:dh (bf s k)=true) (hl:(bf s k).size≤8):
  Calls Tryz.prog 221 #[.pointer (some ⟨b,0,none⟩)] w fun e w'=>e=.returned (.tuple #[wX s k,.nilIface])∧uk w' b s (next s k) d∧But b w w':=by
 have H:=af h;have HT:=af (nO s k hs h.le);have Hs:=af hs;clear hs;have h1:=h.rd.c1;have h2:=h.rd.c2;have hlt:=h.rd.lt;have hl':((bf s k).size:Int)≤(8:Int):=by omega
 clear h;go_enter Tryz.func221,Tryz.ntmps221;go_wp2_with (go_at_call 171;refine (kr _ _ _ (ae HT)).mono ?_;rintro e w' ⟨rfl,hb⟩;rw [he];obtain ⟨hcb,hfb⟩:=OJ hb);have hB:Below w.heap.size w w':=((Below.refl _ _).alloc aeg _).trans (hb.mono (by simp));have hsz:w.heap.size<w'.heap.size:=by have:=hb.size;simp at this;omega
 have k1:w'.cell? ⟨b,1,none⟩=some (.int .i64 (bY s k)):=(hB.cell hlt).trans h1;have k2:w'.cell? ⟨b,2,none⟩=some (.string (bf s k)):=(hB.cell hlt).trans h2;have HB:=af hB;have P1:=af ((ae H).below hB);have R1:=af ((ai.new w #[.int .i64 0,.string ⟨#[]⟩] 107).below hb);clear hcb hfb hb hB h1 h2;have n1:=World.new_ne w' _ k1;have n2:=World.new_ne w' _ k2
 go_region_held3 (fun w'=>w'.cell? ⟨b,1,none⟩=some (.int .i64 (bY s k))∧w'.cell? ⟨b,2,none⟩=some (.string (bf s k))) (go_keep) (fail)
 rename_i hh;clear hh;go_wp2_with fail;refine (yf b s k d _ (ae Hs) ((ae P1).alloc _).drew).mono ?_;rintro e w2 ⟨rfl,p2,b2⟩;have P2:=af p2;have B2:=af ((But.of_below (b:=b) (ae HB)).trans (((But.refl b w').alloc _).drew.trans b2));have N2:=(ai.new w' #[.int .i64 (bY s k),.string (bf s k)] 107).drew.but b2 (by omega);have R2:=((ae R1).alloc _).drew.but b2 (by omega);have q0:=N2.cell (o:=0) rfl;have q1:=N2.cell (o:=1) rfl;have r0:=R2.cell (o:=0) rfl;have r1:=R2.cell (o:=1) rfl;have z1:=R2.fz;clear p2 b2 k1 k2 n1 n2 N2 R2;go_wp2;exact bodyPost_ret (v:=.tuple #[wX s k,.nilIface]) (by simp [results,Tryz.results221,go_sem,wX,r0,r1]) rfl ⟨rfl,((ae P2).setNew (by simp;omega) _).setNew (by simp;omega) _,((ae B2).setNew (by simp) _).setNew (by simp) _⟩
structure Gr where
 ty:aei
 tp:Nat
 reach:Nat
 rel:aei
 rp:Nat
structure Nd where
 kind:Nat
 place:Nat
 n1:aei
 p1:Nat
 n2:aei
 p2:Nat
 gs:List Gr
structure Ex where
 nd:Nd
 l:Option Ex
 r:Option Ex
structure Rl where
 name:aei
 place:Nat
 body:Ex
structure Ty where
 name:aei
 place:Nat
 rels:List Rl
abbrev dM (α:Type):=Except (Nat×Nat) (α×Nat)
def em:aei:=⟨#[]⟩
def sg (c:UInt8):aei:=⟨#[c]⟩
def lG:aei:=⟨#[116,121,112,101]⟩
section
variable (T:Nat→aei) (P:Nat→Nat)
def bN (i:Nat):dM Unit:=if dh (T i) then (if 8<(T i).size then .error (3,i) else .ok ((),i+1)) else .error (2,i)
def bO (x:aei) (i:Nat):dM Unit:=match bN T i with
 | .error e=> .error e
 | .ok (_,j)=>if eqs (T j) x then .ok ((),j+1) else .error (2,j)
def bD (i:Nat):dM Gr:=match bN T i with
 | .error e=> .error e
 | .ok (_,j)=>if eqs (T j) (sg 42) then .ok (⟨T i,P i,1,em,0⟩,j+1)
  else if eqs (T j) (sg 35) then (match bN T (j+1) with
   | .error e=> .error e
   | .ok (_,m)=> .ok (⟨T i,P i,2,T (j+1),P (j+1)⟩,m))
  else .ok (⟨T i,P i,0,em,0⟩,j)
def eY:Nat→List Gr→Nat→dM (List Gr)
 |0,_,i=> .error (0,i)
 |f+1,acc,i=>match bD T P (i+1) with
  | .error e=> .error e
  | .ok (g,j)=>if eqs (T j) (sg 44) then eY f (acc++[g]) j
   else if eqs (T j) (sg 93) then .ok (acc++[g],j+1) else .error (2,j)
def KQ (i:Nat) (gs:List Gr):Ex:=⟨⟨0,P i,em,0,em,0,gs⟩,none,none⟩
def pR (i:Nat):dM Ex:=match eY T P 512 [] i with
 | .error e=> .error e
 | .ok (gs,j)=> .ok (KQ P i gs,j)
def lW (i:Nat):dM Ex:=match bN T i with
 | .error e=> .error e
 | .ok (_,j)=>if eqs (T j) (sg 46) then (match bN T (j+1) with
   | .error e=> .error e
   | .ok (_,m)=> .ok (⟨⟨2,P i,T i,P i,T (j+1),P (j+1),[]⟩,none,none⟩,m))
  else .ok (⟨⟨1,P i,T i,P i,em,0,[]⟩,none,none⟩,j)
def gY (room:Bool) (inner:Nat→dM Ex) (i:Nat):dM Ex:=
 if eqs (T i) (sg 91) then pR T P i
 else if eqs (T i) (sg 40) then
  (if room then (match inner (i+1) with
   | .error e=> .error e
   | .ok (x,j)=>if eqs (T j) (sg 41) then .ok (x,j+1) else .error (2,j))
  else .error (3,i))
 else lW T P i
def kindOf (t:aei):Nat:=if eqs t (sg 124) then 3 else if eqs t (sg 38) then 4 else 5
def jZ (t:aei) (p:Nat) (x y:Ex):Ex:=⟨⟨kindOf t,p,em,0,em,0,[]⟩,some x,some y⟩
def joinL (signs:List aei) (part:Nat→dM Ex):Nat→Ex→Nat→dM Ex
 |0,_,i=> .error (0,i)
 |f+1,x,i=>if gX (T i) signs then (match part (i+1) with
   | .error e=> .error e
   | .ok (y,j)=>joinL signs part f (jZ (T i) (P i) x y) j)
  else .ok (x,i)
def gJ (signs:List aei) (part:Nat→dM Ex) (i:Nat):dM Ex:=match part i with
 | .error e=> .error e
 | .ok (x,j)=>joinL T P signs part 512 x j
def jL (room:Bool) (inner:Nat→dM Ex) (i:Nat):dM Ex:=gJ T P [sg 38,sg 45] (gY T P room inner) i
def gZ:Nat→Nat→dM Ex
 |0,i=>gJ T P [sg 124] (jL T P false (fun _=> .error (0,0))) i
 |n+1,i=>gJ T P [sg 124] (jL T P true (gZ n)) i
def pJ (i:Nat):dM Rl:=match bO T (sg 58) i with
 | .error e=> .error e
 | .ok (_,j)=>match gZ T P 4 j with
  | .error e=> .error e
  | .ok (x,m)=>if eqs (T m) (sg 59) then .ok (⟨T i,P i,x⟩,m+1) else .error (2,m)
def dP:Nat→List Rl→Nat→dM (List Rl)
 |0,_,i=> .error (0,i)
 |f+1,acc,i=>if eqs (T i) (sg 125) then .ok (acc,i+1)
  else if dh (T i)&&acc.length==6 then .error (3,i)
  else match pJ T P i with
   | .error e=> .error e
   | .ok (r,j)=>dP f (acc++[r]) j
def rQ (i:Nat):dM Ty:=if eqs (T i) lG then (match bO T (sg 123) (i+1) with
  | .error e=> .error e
  | .ok (_,j)=>match dP T P 512 [] j with
   | .error e=> .error e
   | .ok (rs,m)=> .ok (⟨T (i+1),P (i+1),rs⟩,m))
 else .error (2,i)
def dR:Nat→List Ty→Nat→dM (List Ty)
 |0,_,i=> .error (0,i)
 |f+1,acc,i=>if eqs (T i) em then .ok (acc,i)
  else if eqs (T i) lG&&acc.length==5 then .error (3,i)
  else match rQ T P i with
   | .error e=> .error e
   | .ok (t,j)=>dR f (acc++[t]) j
def gF:dM (List Ty):=dR T P 512 [] 0
end
def K (s:aei):Nat→Nat
 |0=>0
 |i+1=>next s (K s i)
def TT (s:aei) (i:Nat):aei:=bf s (K s i)
def PP (s:aei) (i:Nat):Nat:=bY s (K s i)
structure At (w:World) (b:Nat) (s:aei) (i d:Nat):Prop where
 pos:uk w b s (K s i) d
 good:i≤K s i
theorem At.le {w:World} {b:Nat} {s:aei} {i d:Nat} (h:At w b s i d):i≤s.size:=Nat.le_trans h.good h.pos.le
theorem At.below {w w':World} {b:Nat} {s:aei} {i d:Nat} (h:At w b s i d) (k:Below w.heap.size w w'):At w' b s i d:=⟨h.pos.below k,h.good⟩
theorem At.alloc {w:World} {b:Nat} {s:aei} {i d:Nat} (h:At w b s i d) (o:Obj):At (w.alloc o) b s i d:=⟨h.pos.alloc o,h.good⟩
theorem At.drew {w:World} {b:Nat} {s:aei} {i d:Nat} (h:At w b s i d):At w.drew b s i d:=⟨h.pos.drew,h.good⟩
theorem At.setNew {w:World} {b:Nat} {s:aei} {i d:Nat} (h:At w b s i d) {a:Addr} (ha:a.block≠b) (u:Value):At (w.setCell a u) b s i d:=⟨h.pos.setNew ha u,h.good⟩
theorem At.lt {w:World} {b:Nat} {s:aei} {i d:Nat} (h:At w b s i d):b<w.heap.size:=h.pos.rd.lt
theorem At.grown {w w':World} {b:Nat} {s:aei} {i d:Nat} {row:Option Nat} (h:At w b s i d) (k:w.grownBy w' row) (hb:some b≠row):At w' b s i d:=⟨⟨h.pos.rd.of_block (k.block b h.lt hb),h.pos.le⟩,h.good⟩
theorem KR (l:List UInt8) (k:Nat):k≤skip l k:=by unfold skip;omega
theorem Mc {s:aei} {i:Nat} (h:i≤K s i) (ht:0<(TT s i).size):i+1≤K s (i+1):=by
 show i+1≤bY s (K s i)+(bf s (K s i)).size
 have:=KR (bi s) (K s i);unfold TT at ht;unfold bY;omega
theorem At.next {w:World} {b:Nat} {s:aei} {i d:Nat} (h:uk w b s (next s (K s i)) d) (hg:i≤K s i) (ht:0<(TT s i).size):At w b s (i+1) d:=⟨h,Mc hg ht⟩
theorem EK {t:aei} (h:dh t=true):0<t.size:=by
 rw [←aG];unfold dh at h;generalize bi t=l at*
 cases l with
 |nil=>simp at h
 |cons c r=>simp
theorem bZ {t x:aei} (h:eqs t x=true) (hx:0<(bi x).length):0<t.size:=by
 rw [←aG];unfold eqs at h;rw [beq_iff_eq] at h;rw [h];exact hx
def Vx (v:Value):Prop:=v=.nilIface∨∃t x,v=.iface t x
def Post {α:Type} (b:Nat) (s:aei) (d:Nat) (w:World) (r:dM α) (rep:World→α→Value→Prop) (bad:Value→Prop) (e:Ending) (w':World):Prop:=
 But b w w'∧match r with
  | .ok (x,j)=>∃v,e=.returned (.tuple #[v,.nilIface])∧rep w' x v∧At w' b s j d
  | .error (c,j)=>∃v d',e=.returned (.tuple #[v,bn c])∧bad v∧At w' b s j d'
theorem df (b:Nat) (s:aei) (i d:Nat) (w:World) (hs:s.size≤maxLen) (h:At w b s i d):
  Calls Tryz.prog 221 #[.pointer (some ⟨b,0,none⟩)] w (Post b s d w (bN (TT s) i) (fun _ _ v=>v=wX s (K s i)) (fun v=>v=IC)):=by
 unfold bN
 cases hn:dh (TT s i)
 ·refine (L9 b s (K s i) d w hs h.pos hn).mono ?_;rintro e w' ⟨rfl,h1,h2⟩;exact ⟨But.of_below h2,IC,d,rfl,rfl,h1,h.good⟩
 ·by_cases hl:8<(TT s i).size
  ·simp only [hl,if_true];refine (Ma b s (K s i) d w hs h.pos hn hl).mono ?_;rintro e w' ⟨rfl,h1,h2⟩;exact ⟨But.of_below h2,IC,d,rfl,rfl,h1,h.good⟩
  ·simp only [hl,if_true,if_false];refine (Su b s (K s i) d w hs h.pos hn (by unfold TT at hl;omega)).mono ?_;rintro e w' ⟨rfl,h1,h2⟩;exact ⟨h2,_,rfl,rfl,At.next h1 h.good (EK hn)⟩
structure Tk where
 text:List UInt8
 place:Nat
 word:Bool
def gG (t:Tk):List Value:=[.string (mk t.text),.int .i64 t.place,.bool t.word]
def aL (l:List Tk):List Value:=l.flatMap gG
def Sv (l:List Tk) (c:UInt8):List Tk:=match l.getLast? with
 |none=>l
 |some t=>l.dropLast++[⟨t.text++[c],t.place,t.word⟩]
def stepT (i:Nat) (c:UInt8) (x:List Tk×Bool):List Tk×Bool:=
 if eB c then (x.1,false) else if x.2&&dO c then (Sv x.1 c,x.2) else (x.1++[⟨[c],i,letter c.toNat⟩],letter c.toNat)
def gK:Nat→List UInt8→List Tk×Bool→List Tk×Bool
 |_,[],x=>x
 |i,c::r,x=>gK (i+1) r (stepT i c x)
def Md (n:Nat):Tk:=⟨[],n,false⟩
def uy (s:aei) (k:Nat):List Tk:=(gK k ((bi s).drop k) ([],false)).1++[Md s.size]
theorem qM (l:List Tk) (t:Tk) (c:UInt8):Sv (l++[t]) c=l++[⟨t.text++[c],t.place,t.word⟩]:=by
 simp [Sv]
theorem Ba:∀(r:List UInt8) (i:Nat) (l m:List Tk) (o:Bool),(o=true→m≠ [])→(gK i r (l++m,o)).1=l++(gK i r (m,o)).1:=by
 intro r
 induction r with
 |nil=>intro i l m o _;rfl
 |cons c r ih=>
  intro i l m o ho;simp only [gK,stepT]
  split
  ·exact ih _ _ _ _ (by simp)
  ·split
   ·rename_i h;rw [Bool.and_eq_true] at h;have hm:=ho h.1;obtain ⟨m0,t,rfl⟩:∃m0 t,m=m0++[t]:=⟨m.dropLast,m.getLast hm,(List.dropLast_concat_getLast hm).symm⟩;rw [←List.append_assoc,qM,qM,List.append_assoc];exact ih _ _ _ _ (by simp)
   ·rw [List.append_assoc];exact ih _ _ _ _ (by simp)
theorem wF:∀(r:List UInt8) (i:Nat) (l:List Tk),gK i r (l,false)=gK (i+(r.takeWhile eB).length) (r.drop (r.takeWhile eB).length) (l,false):=by
 intro r
 induction r with
 |nil=>intro i l;rfl
 |cons c r ih=>
  intro i l
  cases h:eB c
  ·simp [List.takeWhile_cons,h]
  ·simp only [List.takeWhile_cons,h,if_true,List.length_cons,List.drop_succ_cons]
   conv=>lhs;simp only [gK,stepT,h,if_true]
   rw [ih,show i+1+(r.takeWhile eB).length=i+((r.takeWhile eB).length+1) by omega]
theorem EL (c:UInt8) (h:dO c=true):eB c=false:=by
 unfold dO letter digit at h;unfold eB blank;simp at h ⊢;omega
theorem IX:∀(r:List UInt8) (i:Nat) (l:List Tk) (t:Tk),(gK i r (l++[t],true)).1=l++⟨t.text++r.takeWhile dO,t.place,t.word⟩::(gK (i+(r.takeWhile dO).length) (r.drop (r.takeWhile dO).length) ([],false)).1:=by
 intro r
 induction r with
 |nil=>intro i l t;simp [gK]
 |cons c r ih=>
  intro i l t
  cases h:dO c
  ·simp only [List.takeWhile_cons,h,Bool.false_eq_true,if_false,List.length_nil,List.drop_zero,Nat.add_zero,List.append_nil];have e:gK i (c::r) (l++[t],true)=gK i (c::r) (l++[t],false):=by
    simp only [gK,stepT,h,Bool.and_false,Bool.false_eq_true,if_false]
   rw [e];have:=Ba (c::r) i (l++[t]) [] false (by simp);rw [List.append_nil] at this;rw [this];simp
  ·have hb:=EL c h;simp only [List.takeWhile_cons,h,if_true,List.length_cons,List.drop_succ_cons]
   conv=>lhs;simp only [gK,stepT,h,hb,Bool.false_eq_true,if_false,Bool.and_self,if_true,qM]
   rw [ih];simp only [List.append_assoc,List.cons_append,List.nil_append];rw [show i+1+(r.takeWhile dO).length=i+((r.takeWhile dO).length+1) by omega]
def aT (t:aei):Bool:=match bi t with
 | []=>false
 |c::_=>letter c.toNat
def ZN (s:aei) (k:Nat):Tk:=⟨bi (bf s k),bY s k,aT (bf s k)⟩
theorem Me (l:List UInt8) (k:Nat) (c:UInt8) (r:List UInt8) (h:l.drop (skip l k)=c::r):eB c=false:=by
 have:(l.drop k).drop ((l.drop k).takeWhile eB).length=c::r:=by
  rw [List.drop_drop];exact h
 generalize l.drop k=m at this;clear h
 induction m with
 |nil=>simp at this
 |cons a m ih=>
  cases ha:eB a
  ·simp only [List.takeWhile_cons,ha,Bool.false_eq_true,if_false,List.length_nil,List.drop_zero,List.cons.injEq] at this;rw [←this.1];exact ha
  ·simp only [List.takeWhile_cons,ha,if_true,List.length_cons,List.drop_succ_cons] at this;exact ih this
theorem Mf (s:aei) (k:Nat) (hk:k≤s.size) (h:(bf s k).size=0):uy s k=[ZN s k]:=by
 have hd:(bi s).drop (skip (bi s) k)=[]:=by
  cases hc:(bi s).drop (skip (bi s) k) with
  |nil=>rfl
  |cons c r=>
   exfalso;rw [←aG] at h;unfold bf lL at h;rw [sD,List.length_take] at h;rw [hc] at h;simp only [eT,List.length_cons] at h
   split at h<;>omega
 have hp:bY s k=s.size:=by
  have h1:s.size≤skip (bi s) k:=by rw [←aG];exact List.drop_eq_nil_iff.1 hd
  have h2:=pQ s k hk;unfold next bY at*
  omega
 unfold uy ZN;rw [wF];have:((bi s).drop k).drop (((bi s).drop k).takeWhile eB).length=[]:=by rw [List.drop_drop];exact hd
 rw [this,hp];have ht:bi (bf s k)=[]:=List.eq_nil_of_length_eq_zero (by rw [aG];exact h);simp only [gK,List.nil_append,Md,ht];unfold aT;rw [ht]
theorem yg (s:aei) (k:Nat) (h:0<(bf s k).size):uy s k=ZN s k::uy s (next s k):=by
 cases hc:(bi s).drop (skip (bi s) k) with
 |nil=>
  exfalso;rw [←aG] at h;unfold bf lL at h;rw [sD,hc] at h;simp at h
 |cons c r=>
  have hb:=Me _ _ _ _ hc;have ht:bi (bf s k)=(c::r).take (eT (c::r)):=by
   unfold bf lL;rw [sD,hc]
  have hn:next s k=skip (bi s) k+(bi (bf s k)).length:=by unfold next bY;rw [aG]
  unfold uy;rw [wF];have e1:((bi s).drop k).drop (((bi s).drop k).takeWhile eB).length=c::r:=by rw [List.drop_drop];exact hc
  have e2:k+(((bi s).drop k).takeWhile eB).length=skip (bi s) k:=rfl;rw [e1,e2];have hw:aT (bf s k)=letter c.toNat:=by
   obtain ⟨m,hm⟩:∃m,eT (c::r)=m+1:=by
    simp only [eT]
    split
    ·exact ⟨_,Nat.add_comm 1 _⟩
    ·exact ⟨0,rfl⟩
   unfold aT;rw [ht,hm]
   rfl
  have hd:∀n,(bi s).drop (skip (bi s) k+n)=(c::r).drop n:=fun n=>by rw [←List.drop_drop,hc]
  cases hl:letter c.toNat
  ·have hwc:dO c=true∨dO c=false:=by cases dO c<;>simp
   have hz:eT (c::r)=1:=by simp [eT,hl]
   have hlen:(bi (bf s k)).length=1:=by rw [ht,hz];simp
   rw [hn,hlen,hd 1]
   conv=>lhs;simp only [gK,stepT,hb,hl,Bool.false_eq_true,if_false,Bool.false_and]
   have:=Ba r (skip (bi s) k+1) [⟨[c],skip (bi s) k,false⟩] [] false (by simp);rw [List.append_nil] at this;simp only [List.nil_append,this,List.cons_append];unfold ZN;rw [hw,hl,ht,hz]
   rfl
  ·have hz:eT (c::r)=1+(r.takeWhile dO).length:=by simp [eT,hl]
   have hlen:(bi (bf s k)).length=1+(r.takeWhile dO).length:=by
    rw [ht,hz,List.length_take];have:=(List.takeWhile_sublist dO (l:=r)).length_le;simp;omega
   rw [hn,hlen,hd]
   conv=>lhs;simp only [gK,stepT,hb,hl,Bool.false_eq_true,if_false,Bool.false_and]
   have:=IX r (skip (bi s) k+1) [] ⟨[c],skip (bi s) k,true⟩;simp only [List.nil_append] at this ⊢;rw [this];unfold ZN;rw [hw,hl,ht,hz];have hp:List.take (r.takeWhile dO).length r=r.takeWhile dO:=(List.prefix_iff_eq_take.1 (List.takeWhile_prefix dO)).symm;rw [show skip (bi s) k+1+(r.takeWhile dO).length=skip (bi s) k+(1+(r.takeWhile dO).length) by omega,show (c::r).drop (1+(r.takeWhile dO).length)=r.drop (r.takeWhile dO).length by rw [Nat.add_comm];rfl,show (c::r).take (1+(r.takeWhile dO).length)=c::r.takeWhile dO by rw [Nat.add_comm,List.take_succ_cons,hp]]
   rfl
def jM (s:aei):List Tk:=uy s 0
def Gd (s:aei) (i:Nat):Prop:=∀j,j<i→0<(TT s j).size
theorem ZO (s:aei):∀i,K s i≤s.size
 |0=>Nat.zero_le _
 |i+1=>pQ s (K s i) (ZO s i)
theorem Bb (s:aei):∀i,Gd s i→(jM s).drop i=uy s (K s i)
 |0,_=>rfl
 |i+1,h=>by
  have ih:=Bb s i (fun j hj=>h j (by omega));rw [←List.drop_drop,ih,yg s (K s i) (h i (by omega))]
  rfl
theorem KS (s:aei) (i:Nat) (h:Gd s i):(jM s)[i]? =some ⟨bi (TT s i),PP s i,aT (TT s i)⟩:=by
 have e:(jM s)[i]? =((jM s).drop i)[0]? :=by rw [List.getElem?_drop];rfl
 rw [e,Bb s i h]
 by_cases hz:(bf s (K s i)).size=0
 ·rw [Mf s (K s i) (ZO s i) hz];rfl
 ·rw [yg s (K s i) (by omega)];rfl
theorem Mg:∀(r:List UInt8) (i:Nat) (x:List Tk×Bool),(gK i r x).1.length≤x.1.length+r.length:=by
 intro r
 induction r with
 |nil=>intro i x;simp [gK]
 |cons c r ih=>
  intro i x;have:=ih (i+1) (stepT i c x);simp only [gK];have h2:(stepT i c x).1.length≤x.1.length+1:=by
   unfold stepT
   split
   ·simp
   ·split
    ·unfold Sv
     split
     ·simp
     ·simp
      try omega
    ·simp
  simp only [List.length_cons];omega
theorem yh (s:aei):(jM s).length≤s.size+1:=by
 unfold jM uy;have:=Mg ((bi s).drop 0) 0 ([],false);simp only [List.drop_zero,List.length_nil,aG] at this;simp only [List.drop_zero,List.length_append,List.length_cons,List.length_nil];omega
def Sw (v:Value):Prop:=∃(p:Nat) (t:aei),v=.agg #[.int .i64 p,.string t]
theorem ai.two {w:World} {g:Nat} {x y:Value} {T:TypeId} (h:ai w g #[x,y] T):w.cell? ⟨g,0,none⟩=some x∧w.cell? ⟨g,1,none⟩=some y:=⟨h.cell rfl,h.cell rfl⟩
theorem ai.three {w:World} {g:Nat} {x y z:Value} {T:TypeId} (h:ai w g #[x,y,z] T):w.cell? ⟨g,0,none⟩=some x∧w.cell? ⟨g,1,none⟩=some y∧w.cell? ⟨g,2,none⟩=some z:=⟨h.cell rfl,h.cell rfl,h.cell rfl⟩
theorem ai.five {w:World} {g:Nat} {x y z u v:Value} {T:TypeId} (h:ai w g #[x,y,z,u,v] T):w.cell? ⟨g,0,none⟩=some x∧w.cell? ⟨g,1,none⟩=some y∧w.cell? ⟨g,2,none⟩=some z∧w.cell? ⟨g,3,none⟩=some u∧w.cell? ⟨g,4,none⟩=some v:=⟨h.cell rfl,h.cell rfl,h.cell rfl,h.cell rfl,h.cell rfl⟩
theorem CW {P:Program} {fn:Func} {p u:Tmp} {ty:TypeId} (h:fn.results=#[.cell p ty,.tmp u]) (tmps:Array Value) (w:World) (g:Nat) (cs:Array Value) (t:TypeId) (e:Value) (d:TypeDesc)
  (hp:tmps.getD p undef=.pointer (some ⟨g,0,none⟩)) (hq:tmps.getD u undef=e) (hb:ai w g cs t)
  (hu:P.underlying ty=some d) (hd:(match d with| .struct _| .array _ _=>true|_=>false)=true) (hi:(P.info? ty).map (·.size)=some cs.size):
  (results fn tmps).run P w=.ok (.tuple #[.agg cs,e]) w:=by
 rw [results_cell_tmp h,hp,hq];simp [asAddr,run_loadVar_row w g t ty cs (0,0) d hb hu hd hi]
theorem ku (b:Nat) (s:aei) (i d:Nat) (x:aei) (w:World) (hs:s.size≤maxLen) (h:At w b s i d) (he:eqs (TT s i) x=true) (hx:0<(bi x).length):
  Calls Tryz.prog 169 #[.pointer (some ⟨b,0,none⟩),.string x] w fun e w'=>e=.returned .nilIface∧At w' b s (i+1) d∧But b w w':=by
 refine (OM b s (K s i) d x w hs h.pos he).mono ?_;rintro e w' ⟨rfl,h1,h2⟩;exact ⟨rfl,At.next h1 h.good (bZ he hx),h2⟩
theorem pU (b:Nat) (s:aei) (i d:Nat) (x:aei) (w:World) (h:At w b s i d) (he:eqs (TT s i) x=false):
  Calls Tryz.prog 169 #[.pointer (some ⟨b,0,none⟩),.string x] w fun e w'=>e=.returned (bn 2)∧At w' b s i d∧But b w w':=by
 refine (Sr b s (K s i) d x w h.pos he).mono ?_;rintro e w' ⟨rfl,h1,h2⟩;exact ⟨rfl,⟨h1,h.good⟩,But.of_below h2⟩
theorem steps (b:Nat) (s:aei) (i d:Nat) (w:World) (hs:s.size≤maxLen) (h:At w b s i d) (ht:0<(TT s i).size):
  Calls Tryz.prog 220 #[.pointer (some ⟨b,0,none⟩)] w fun e w'=>e=.returned (.tuple #[])∧At w' b s (i+1) d∧But b w w':=by
 refine (yf b s (K s i) d w hs h.pos).mono ?_;rintro e w' ⟨rfl,h1,h2⟩;exact ⟨rfl,At.next h1 h.good ht,h2⟩
theorem ats (b:Nat) (s:aei) (i d g cap:Nat) (x:aei) (w:World) (h:At w b s i d) (hc:w.cell? ⟨g,0,none⟩=some (.string x)):
  Calls Tryz.prog 113 #[.pointer (some ⟨b,0,none⟩),.slice (some ⟨g,0,none⟩) 1 cap] w fun e w'=>e=.returned (.bool (eqs (TT s i) x))∧w'=w:=
 at1 b s (K s i) d g cap x w h.pos hc
theorem CX (b:Nat) (s:aei) (i d:Nat) (x:aei) (w:World) (hs:s.size≤maxLen) (h:At w b s i d) (c j:Nat) (hr:bN (TT s) i=.error (c,j)):
  Calls Tryz.prog 170 #[.pointer (some ⟨b,0,none⟩),.string x] w (Post b s d w (.error (c,j):dM Unit) (fun _ _ v=>v=wX s (K s i)) Sw):=by
 have hlt:=h.lt;have C:=af (df b s i d (w.alloc (.cells #[.int .i64 0,.string ⟨#[]⟩] 107)) hs (h.alloc _));rw [hr] at C;clear hr;go_enter Tryz.func170,Tryz.ntmps170;go_wp2_with fail;refine (ae C).mono ?_;rintro e w1 ⟨b1,v,d',rfl,rfl,a1⟩;have A1:=af a1;have B1:=af (((But.refl b w).alloc _).trans b1);have R:=(ai.new w #[.int .i64 0,.string ⟨#[]⟩] 107).but b1 (by omega);obtain ⟨r0,r1⟩:=R.two;have z:=R.fz;have hsz:=R.lt;have HR:=af R;clear a1 b1 C h hs R;unfold bn IC;go_wp2;exact bodyPost_ret (v:=.tuple #[IC,bn c]) (CW Tryz.results170 _ _ w.heap.size #[.int .i64 0,.string ⟨#[]⟩] 107 _ _ rfl rfl ((((ae HR).set 0 _).set 1 _).alloc _) Tryz.underlying107 rfl (by kernel_rfl)) rfl
  ⟨(((ae B1).setNew (by simp) _).setNew (by simp) _).alloc _,IC,d',rfl,⟨0,_,rfl⟩,(((ae A1).setNew (by simp;omega) _).setNew (by simp;omega) _).alloc _⟩
theorem CY (b:Nat) (s:aei) (i d:Nat) (x:aei) (w:World) (hs:s.size≤maxLen) (h:At w b s i d) (j:Nat) (hr:bN (TT s) i=.ok ((),j)) (he:eqs (TT s j) x=true) (hx:0<(bi x).length):
  Calls Tryz.prog 170 #[.pointer (some ⟨b,0,none⟩),.string x] w (Post b s d w (.ok ((),j+1):dM Unit) (fun _ _ v=>v=wX s (K s i)) Sw):=by
 have hlt:=h.lt;have Hs:=af hs;have He:=af he;have C:=af (df b s i d (w.alloc (.cells #[.int .i64 0,.string ⟨#[]⟩] 107)) hs (h.alloc _));rw [hr] at C;clear hr he;go_enter Tryz.func170,Tryz.ntmps170;go_wp2_with fail;refine (ae C).mono ?_;rintro e w1 ⟨b1,v,rfl,rfl,a1⟩;have A1:=af a1;have B1:=af (((But.refl b w).alloc _).trans b1);have R:=(ai.new w #[.int .i64 0,.string ⟨#[]⟩] 107).but b1 (by omega);have HR:=af R;obtain ⟨r0,r1⟩:=R.two;have z:=R.fz;have hsz:=R.lt;have hne:¬(w1.heap.size=w.heap.size):=by omega
 have fT:¬(w.heap.size=w1.heap.size):=by omega
 clear a1 b1 C h hs R;unfold wX;go_wp2
 go_region_held3 (fun w'=>w'.cell? ⟨w1.heap.size,0,none⟩=some (.int .i64 (bY s (K s i)))∧w'.cell? ⟨w1.heap.size,1,none⟩=some (.string (bf s (K s i))))
  (go_keep) ((go_at_call 169;refine (ku b s j d x _ (ae Hs) ?_ (ae He) hx).mono ?_;(exact ((ae A1).alloc _).drew);rintro e w2 ⟨rfl,a2,b2⟩;have N2:=(ai.new w1 #[.int .i64 (bY s (K s i)),.string (bf s (K s i))] 107).drew.but b2 (by omega);obtain ⟨n0,n1⟩:=N2.two;have R2:=((ae HR).alloc (.cells #[.int .i64 (bY s (K s i)),.string (bf s (K s i))] 107)).drew.but b2 (by omega);obtain ⟨r0',r1'⟩:=R2.two;have z':=R2.fz;have dS:=af R2;have A2:=af a2;have B2:=af b2;clear N2 R2 a2 b2))
 go_wp2;exact bodyPost_ret (v:=.tuple #[wX s (K s i),.nilIface]) (CW Tryz.results170 _ _ w.heap.size #[.int .i64 (bY s (K s i)),.string (bf s (K s i))] 107 _ _ rfl rfl (((ae dS).set 0 _).set 1 _) Tryz.underlying107 rfl (by kernel_rfl)) rfl
  ⟨((((ae B1).alloc _).drew.trans (ae B2)).setNew (by simp) _).setNew (by simp) _,_,rfl,rfl,((ae A2).setNew (by simp;omega) _).setNew (by simp;omega) _⟩
theorem EM (b:Nat) (s:aei) (i d:Nat) (x:aei) (w:World) (hs:s.size≤maxLen) (h:At w b s i d) (j:Nat) (hr:bN (TT s) i=.ok ((),j)) (he:eqs (TT s j) x=false):
  Calls Tryz.prog 170 #[.pointer (some ⟨b,0,none⟩),.string x] w (Post b s d w (.error (2,j):dM Unit) (fun _ _ v=>v=wX s (K s i)) Sw):=by
 have hlt:=h.lt;have Hs:=af hs;have He:=af he;have C:=af (df b s i d (w.alloc (.cells #[.int .i64 0,.string ⟨#[]⟩] 107)) hs (h.alloc _));rw [hr] at C;clear hr he;go_enter Tryz.func170,Tryz.ntmps170;go_wp2_with fail;refine (ae C).mono ?_;rintro e w1 ⟨b1,v,rfl,rfl,a1⟩;have A1:=af a1;have B1:=af (((But.refl b w).alloc _).trans b1);have R:=(ai.new w #[.int .i64 0,.string ⟨#[]⟩] 107).but b1 (by omega);have HR:=af R;obtain ⟨r0,r1⟩:=R.two;have z:=R.fz;have hsz:=R.lt;have hne:¬(w1.heap.size=w.heap.size):=by omega
 have fT:¬(w.heap.size=w1.heap.size):=by omega
 clear a1 b1 C h hs R;unfold wX;go_wp2
 go_region_held3 (fun w'=>w'.cell? ⟨w1.heap.size,0,none⟩=some (.int .i64 (bY s (K s i)))∧w'.cell? ⟨w1.heap.size,1,none⟩=some (.string (bf s (K s i))))
  (go_keep) ((go_at_call 169;refine (pU b s j d x _ ?_ (ae He)).mono ?_;(exact ((ae A1).alloc _).drew);rintro e w2 ⟨rfl,a2,b2⟩;have N2:=(ai.new w1 #[.int .i64 (bY s (K s i)),.string (bf s (K s i))] 107).drew.but b2 (by omega);obtain ⟨n0,n1⟩:=N2.two;have R2:=((ae HR).alloc (.cells #[.int .i64 (bY s (K s i)),.string (bf s (K s i))] 107)).drew.but b2 (by omega);obtain ⟨r0',r1'⟩:=R2.two;have z':=R2.fz;have dS:=af R2;have A2:=af a2;have B2:=af b2;clear N2 R2 a2 b2))
 go_wp2;exact bodyPost_ret (v:=.tuple #[wX s (K s i),bn 2]) (CW Tryz.results170 _ _ w.heap.size #[.int .i64 (bY s (K s i)),.string (bf s (K s i))] 107 _ _ rfl rfl (((ae dS).set 0 _).set 1 _) Tryz.underlying107 rfl (by kernel_rfl)) rfl
  ⟨((((ae B1).alloc _).drew.trans (ae B2)).setNew (by simp) _).setNew (by simp) _,_,d,rfl,⟨_,_,rfl⟩,((ae A2).setNew (by simp;omega) _).setNew (by simp;omega) _⟩
theorem gQ (b:Nat) (s:aei) (i d:Nat) (x:aei) (w:World) (hs:s.size≤maxLen) (h:At w b s i d) (hx:0<(bi x).length):
  Calls Tryz.prog 170 #[.pointer (some ⟨b,0,none⟩),.string x] w (Post b s d w (bO (TT s) x i) (fun _ _ v=>v=wX s (K s i)) Sw):=by
 unfold bO
 cases hr:bN (TT s) i with
 |error e=>exact CX b s i d x w hs h e.1 e.2 hr
 |ok y=>
  obtain ⟨⟨⟩,j⟩:=y
  cases he:eqs (TT s j) x
  ·simp only [he];exact EM b s i d x w hs h j hr he
  ·simp only [he];exact CY b s i d x w hs h j hr he hx
