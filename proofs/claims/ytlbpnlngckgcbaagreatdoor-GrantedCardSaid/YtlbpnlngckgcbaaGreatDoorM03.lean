import Derived.Test.YtlbpnlngckgcbaaGreatDoorM02
set_option linter.all false
set_option maxHeartbeats 4000000
set_option maxRecDepth 100000
namespace Go.Proofs.YtlbpnlngckgcbaaGreatDoor
open Go.RowKit Go.PlainAid
theorem Tryz.info207:(Tryz.prog.info? 207).map (fun i=>(i.zero,i.size,i.bytes))=some (some (.agg #[.int .i64 0,.string ⟨#[]⟩,.int .i64 0,.int .i64 0,.string ⟨#[]⟩]),5,56):=by kernel_rfl
def Vz (T:Nat→aei) (P:Nat→Nat) (k:Nat) (acc:List Gr) (j:Nat):dM (List Gr):=
 if eqs (T j) (sg 44) then eY T P k acc j else if eqs (T j) (sg 93) then .ok (acc,j+1) else .error (2,j)
theorem own_ne {w:World} {base:Nat} {e:TypeId} {size:Nat} {v:Value} {n:Nat} {xs:List Value} {g:Nat} {cs:Array Value} {T:TypeId} (h:w.ownsRow base e size v n xs) (hb:ai w g cs T) (ht:T≠e):some g≠v.ownBlock:=by
 rcases h.2 with ⟨rfl,_⟩|⟨g',cap,cur,rfl,hg,hh,r⟩
 ·simp [Value.ownBlock]
 ·intro he;simp only [Value.ownBlock,Option.some.injEq] at he;subst he;unfold ai at hb;rw [hb] at hh;simp at hh;exact ht hh.2
theorem aX {w:World} {base:Nat} {e:TypeId} {size:Nat} {v:Value} {n:Nat} {xs:List Value} {g:Nat} {cs:Array Value} {T:TypeId} (h:w.ownsRow base e size v n xs) (hb:ai w g cs T) (ht:T≠e) (o:Nat) (u:Value):(w.setCell ⟨g,o,none⟩ u).ownsRow base e size v n xs:=
 ak h fun g' cs' f hg hh=>Below.heap_setCell _ _ _ _ (fun (e':g'=g)=>by
  subst e';unfold ai at hb;rw [hb] at hh;simp at hh;exact ht hh.2.1)
theorem aO {w:World} {base base':Nat} {e:TypeId} {size:Nat} {v:Value} {n:Nat} {xs:List Value} (h:w.ownsRow base e size v n xs) (hb:base'≤base):w.ownsRow base' e size v n xs:=by
 obtain ⟨h1,h2⟩:=h;refine ⟨h1,?_⟩
 rcases h2 with h2|⟨g,cap,cur,hv,hg,r⟩
 ·exact Or.inl h2
 ·exact Or.inr ⟨g,cap,cur,hv,Nat.le_trans hb hg,r⟩
theorem uB (l:List Gr) (g:Gr):bG (l++[g])=bG l++(bg g).toList:=by simp [bG]
theorem But.grown {b:Nat} {x y z:World} {row:Option Nat} (h:But b x y) (hg:y.grownBy z row) (hr:∀k,row=some k→x.heap.size≤k):But b x z:=
 ⟨hg.os.trans h.os,hg.tape.trans h.tape,hg.output.trans h.output,Nat.le_trans h.size hg.size,fun k hk hb=>(hg.block k (Nat.lt_of_lt_of_le hk h.size) (fun e=>by have:=hr k e.symm;omega)).trans (h.block k hk hb)⟩
theorem ai.new' (w:World) (cs:Array Value) (T n:Nat) (h:n=w.heap.size):ai (w.alloc (.cells cs T)) n cs T:=by subst h;exact ai.new w cs T
theorem I1 (g:Gr):∀u∈(bg g).toList,u.oneCell'=true:=by
 intro u hu;simp [bg] at hu
 rcases hu with rfl|rfl|rfl|rfl|rfl<;>rfl
def listM (P:Nat→Nat) (i:Nat) (R:dM (List Gr)):dM Ex:=match R with
 | .error e=> .error e
 | .ok (gs,j)=> .ok (KQ P i gs,j)
theorem Ml (b:Nat) (s:aei) (i d:Nat) (w:World) (hs:s.size≤500) (h:At w b s i d) (he:eqs (TT s i) (sg 91)=true):
  Calls Tryz.prog 271 #[.pointer (some ⟨b,0,none⟩)] w (eZ b s d w (pR (TT s) (PP s) i)):=by
 have hlt:=h.lt;have Hs:Hid (s.size≤maxLen):=af (by unfold maxLen;omega);have He:=af (bZ he (by decide));have A0:=af h;have c1:=h.pos.rd.c1;clear h he;obtain ⟨i0,hi,hz0,hz1,hz2⟩:=info_parts Tryz.info207;have HI:=af hi;have fG:=af hz0;have fH:=af hz1;have fI:=af hz2;clear hi hz0 hz1 hz2;change Calls _ _ _ _ (eZ b s d w (listM (PP s) i (eY (TT s) (PP s) 512 [] i)));generalize hR:eY (TT s) (PP s) 512 [] i=R;have HR:=af hR;clear hR;go_enter Tryz.func271,Tryz.ntmps271;go_wp2_with fail
 go_loopg [5] 512 (fun k u5 wr=>∃(f:Bool) (acc:List Gr) (j:Nat) (sv:Value),u5=.bool f∧But b w wr∧At wr b s j d∧512≤k+j∧acc.length≤j∧
  ai wr w.heap.size #[.int .i64 (bY s (K s i)),sv] 236∧wr.ownsRow w.heap.size 207 5 sv acc.length (bG acc)∧
  Hid ((f=true→j=i∧eY (TT s) (PP s) k acc j=R)∧(f=false→Vz (TT s) (PP s) k acc j=R)))
 case atStart=>exact ⟨true,[],i,_,rfl,(But.refl b w).alloc _,(ae A0).alloc _,by omega,by simp,ai.new _ _ _,World.ownsRow_nil _ _ _ _,af ⟨fun _=>⟨rfl,ae HR⟩,fun h=>by cases h⟩⟩
 case round=>
  obtain ⟨f,acc,j,sv,rfl,hb,ha,hk,hac,hl,ho,HQ⟩:=hrel;have hf:12≤gk:=by have:=ha.le;omega
  obtain ⟨fu,rfl⟩:∃f,gk=f+1:=⟨gk-1,by omega⟩;have HA:=af ha;have HB:=af hb;have HL:=af hl;have HO:=af ho;obtain ⟨l0,l1⟩:=hl.two;have zl:=hl.fz;have hll:=hl.lt;have hlr:=ha.lt;clear ha hb hl ho
  cases f with
  |true=>
   obtain ⟨e1,e2⟩:=(ae HQ).1 rfl;have HF:=af e2;have Hj:Hid (0<(TT s j).size):=af (by rw [e1];exact ae He);clear e1 e2 HQ;go_wp2_with fail;refine (steps b s j d _ (ae Hs) ?_ (ae Hj)).mono ?_
   ·exact (by with_reducible repeat (first|exact ae HA|refine At.alloc ?_ _|refine At.drew ?_|(refine At.setNew ?_ ?_ _;rotate_left;exact (by first|omega|(simp;omega)|simp))))
   rintro e w2 ⟨rfl,a2,b2⟩;have L2:=af (ai.but (g:=w.heap.size) (T:=236) (by with_reducible repeat (first|exact ae HL|apply ai.alloc|apply ai.drew|apply ai.set|(apply ai.other;case ha=>exact (by first|omega|(simp;omega)|simp)))) b2 (by omega));have O2:=af (ak (w':=w2) (ae HO) (fun g cs f hg hh=>(b2.block g (by first|exact lt_of_some hh|(have:=lt_of_some hh;simp;omega)) (by omega)).trans (by first|rfl|exact Below.heap_alloc _ _ _ (lt_of_some hh))));have B2:=af (But.trans (x:=w) (by with_reducible repeat (first|exact ae HB|refine But.alloc ?_ _|refine But.drew ?_|(refine But.setNew ?_ ?_ _;rotate_left;exact (by first|omega|(simp;omega)|simp)))) b2);have A2:=af a2;clear a2 b2;have I5:=ae HF;unfold eY at I5
   cases hq:bD (TT s) (PP s) (j+1) with
   |error e=>
    obtain ⟨c3,j3⟩:=e;rw [hq] at I5;have rR:=af I5;have C:=af (ow b s (j+1) d w2 (ae Hs) (ae A2));rw [hq] at C;clear hq I5;go_wp2_with fail;refine (ae C).mono ?_;rintro e w3 ⟨b3,v3,d3,rfl,⟨g3,rfl⟩,a3⟩;have L3:=(ae L2).but b3 (by omega);have lt3:=L3.lt;obtain ⟨l0,l1⟩:=L3.two;have B3:=af (But.trans (ae B2) b3);have A3:=af a3;clear a3 b3 L3;unfold bn Bc bg;go_wp2;go_ret2;rw [←ae rR];exact ⟨(by with_reducible repeat (first|exact ae B3|refine But.alloc ?_ _|refine But.drew ?_|(refine But.setNew ?_ ?_ _;rotate_left;exact (by first|omega|(simp;omega)|simp)))),_,d3,rfl,.inr ⟨_,_,rfl⟩,(by with_reducible repeat (first|exact ae A3|refine At.alloc ?_ _|refine At.drew ?_|(refine At.setNew ?_ ?_ _;rotate_left;exact (by first|omega|(simp;omega)|simp))))⟩
   |ok y=>
    obtain ⟨g3,j3⟩:=y;have hj3:=mU _ _ _ _ _ hq;rw [hq] at I5;have rR:=af I5;have C:=af (ow b s (j+1) d w2 (ae Hs) (ae A2));rw [hq] at C;clear hq I5;go_wp2_with fail;refine (ae C).mono ?_;rintro e w3 ⟨b3,v3,rfl,rfl,a3⟩;have L3:=(ae L2).but b3 (by omega);have lt3:=L3.lt;obtain ⟨l0,l1⟩:=L3.two;have zl:=L3.fz;have IG:=af L3;have O3:=af (ak (w':=w3) (ae O2) (fun g cs f hg hh=>b3.block g (lt_of_some hh) (by omega)));have B3:=af (But.trans (ae B2) b3);have A3:=af a3;have le3:=a3.le;clear a3 b3 L3;unfold Bc bg;go_wp2_with (at_builtin;go_must (refine wpList_append_lies _ rfl _ _ 211 rfl w.heap.size 207 i0 _ 5 56 Tryz.underlying211 (ae HI) (ae fG) (ae fH) (ae fI) rfl (by decide) sv acc.length (bG acc) rfl ?hown ⟨w3.heap.size+1,0,none⟩ 1 1 (bg g3).toList rfl rfl ?hnews ?hone (by decide) ?h63 ?hbytes ?hbase (w3.heap.size+2) ?hH ?hrest))
    case hown=>exact ((ae O3).alloc _).alloc _
    case hnews=>exact World.news_of_block (B:=w3.heap.size+1) (cs:=bg g3) (t:=207) (fr:=(0,0)) (ai.new' (w3.alloc _) _ _ _ (by simp))
    case hone=>exact I1 g3
    case h63=>unfold maxLen;omega
    case hbytes=>omega
    case hbase=>simp;omega
    case hH=>simp
    case hrest=>
     intro g4 cap4 w4 EQ oz Wy hgl4;have SF:=((ae IG).alloc (.cells (bg g3) 207)).alloc (.cells (bg g3) 207);have SG:=((ae O3).alloc (.cells (bg g3) 207)).alloc (.cells (bg g3) 207);have Wz:=((ae A3).alloc (.cells (bg g3) 207)).alloc (.cells (bg g3) 207);have L4:ai w4 w.heap.size #[.int .i64 (bY s (K s i)),sv] 236:=(oz.block _ SF.lt (own_ne SG SF (by decide))).trans SF;have A4:=af (Wz.grown oz (own_ne SG Wz.pos.rd.blk (by decide)));have B4:=af (But.grown (((ae B3).alloc (.cells (bg g3) 207)).alloc (.cells (bg g3) 207)) oz (fun k hk=>(SG.lt k hk).1));have O4:=af EQ;have ZQ:=af L4;obtain ⟨m0,m1⟩:=L4.two;have zm:=L4.fz;have ml:=L4.lt;clear SF SG Wz EQ oz Wy L4 l0 l1 zl;go_wp2
     go_roundg fu
     case measure=>omega
     case rel=>exact ⟨false,acc++[g3],j3,_,rfl,(by with_reducible repeat (first|exact ae B4|refine But.alloc ?_ _|refine But.drew ?_|(refine But.setNew ?_ ?_ _;rotate_left;exact (by first|omega|(simp;omega)|simp)))),(by with_reducible repeat (first|exact ae A4|refine At.alloc ?_ _|refine At.drew ?_|(refine At.setNew ?_ ?_ _;rotate_left;exact (by first|omega|(simp;omega)|simp)))),by omega,by simp;omega,(ae ZQ).set 1 _,by rw [List.length_append,uB];exact aX (ae O4) (ae ZQ) (by decide) 1 _,af ⟨fun h=>(by cases h),fun _=>ae rR⟩⟩
  |false=>
   have hq:=(ae HQ).2 rfl;unfold Vz at hq
   cases ht:eqs (TT s j) (sg 44)
   ·simp only [ht] at hq;go_wp2_with fail;refine (ats b s j d _ _ (sg 44) _ ?_ ?_).mono ?_
    ·exact (by with_reducible repeat (first|exact ae HA|refine At.alloc ?_ _|refine At.drew ?_|(refine At.setNew ?_ ?_ _;rotate_left;exact (by first|omega|(simp;omega)|simp))))
    ·exact aU _ _ _ _ (by simp)
    rintro e w1 ⟨rfl,rfl⟩;rw [ht];clear ht HQ;have qN:=af hq;clear hq;go_wp2_with fail
    cases hc:eqs (TT s j) (sg 93)
    ·have HC:=af hc;clear hc
     go_region_held3 (fun w'=>w'.cell? ⟨w.heap.size,0,none⟩=some (.int .i64 (bY s (K s i)))∧w'.cell? ⟨w.heap.size,1,none⟩=some sv)
      (go_keep) ((go_at_call 169;refine (pU b s j d (sg 93) _ ?_ (ae HC)).mono ?_;(exact ((ae HA).alloc _).drew);rintro e w2 ⟨rfl,a2,b2⟩;have L2:=((ae HL).alloc (.cells #[.string ⟨#[44]⟩] 9)).drew.but b2 (by omega);obtain ⟨m0,m1⟩:=L2.two;have A2:=af a2;have O2:=af (ak (w':=w2) (ae HO) (fun g cs f hg hh=>(b2.block g (by have:=lt_of_some hh;simp;omega) (by omega)).trans (Below.heap_alloc _ _ _ (lt_of_some hh))));have B2:=af (But.trans (x:=w) ((ae HB).alloc (.cells #[.string ⟨#[44]⟩] 9)).drew b2);clear L2 a2 b2))
     all_goals
      go_wp2;go_ret2;have hQ:=ae qN;rw [ae HC] at hQ;simp only [if_true,Bool.false_eq_true,if_false] at hQ;rw [←hQ];exact ⟨ae B2,_,d,rfl,.inr ⟨_,_,rfl⟩,ae A2⟩
    ·have HC:=af hc;clear hc
     go_region_held3 (fun w'=>w'.cell? ⟨w.heap.size,0,none⟩=some (.int .i64 (bY s (K s i)))∧w'.cell? ⟨w.heap.size,1,none⟩=some sv)
      (go_keep) ((go_at_call 169;refine (ku b s j d (sg 93) _ (ae Hs) ?_ (ae HC) (by decide)).mono ?_;(exact ((ae HA).alloc _).drew);rintro e w2 ⟨rfl,a2,b2⟩;have L2:=((ae HL).alloc (.cells #[.string ⟨#[44]⟩] 9)).drew.but b2 (by omega);obtain ⟨m0,m1⟩:=L2.two;have A2:=af a2;have O2:=af (ak (w':=w2) (ae HO) (fun g cs f hg hh=>(b2.block g (by have:=lt_of_some hh;simp;omega) (by omega)).trans (Below.heap_alloc _ _ _ (lt_of_some hh))));have B2:=af (But.trans (x:=w) ((ae HB).alloc (.cells #[.string ⟨#[44]⟩] 9)).drew b2);clear L2 a2 b2))
     all_goals
      go_wp2;go_ret2;have hQ:=ae qN;rw [ae HC] at hQ;simp only [if_true,Bool.false_eq_true,if_false] at hQ;rw [←hQ];exact ⟨ae B2,_,rfl,.inl ⟨rfl,_,rfl,aO (ae O2) (by omega)⟩,ae A2⟩
   ·simp only [ht,if_true] at hq;have HF:=af hq;have Hj:Hid (0<(TT s j).size):=af (bZ ht (by decide));clear hq HQ;go_wp2_with fail;refine (ats b s j d _ _ (sg 44) _ ?_ ?_).mono ?_
    ·exact (by with_reducible repeat (first|exact ae HA|refine At.alloc ?_ _|refine At.drew ?_|(refine At.setNew ?_ ?_ _;rotate_left;exact (by first|omega|(simp;omega)|simp))))
    ·exact aU _ _ _ _ (by simp)
    rintro e w1 ⟨rfl,rfl⟩;rw [ht];clear ht;go_wp2_with fail;refine (steps b s j d _ (ae Hs) ?_ (ae Hj)).mono ?_
    ·exact (by with_reducible repeat (first|exact ae HA|refine At.alloc ?_ _|refine At.drew ?_|(refine At.setNew ?_ ?_ _;rotate_left;exact (by first|omega|(simp;omega)|simp))))
    rintro e w2 ⟨rfl,a2,b2⟩;have L2:=af (ai.but (g:=w.heap.size) (T:=236) (by with_reducible repeat (first|exact ae HL|apply ai.alloc|apply ai.drew|apply ai.set|(apply ai.other;case ha=>exact (by first|omega|(simp;omega)|simp)))) b2 (by omega));have O2:=af (ak (w':=w2) (ae HO) (fun g cs f hg hh=>(b2.block g (by first|exact lt_of_some hh|(have:=lt_of_some hh;simp;omega)) (by omega)).trans (by first|rfl|exact Below.heap_alloc _ _ _ (lt_of_some hh))));have B2:=af (But.trans (x:=w) (by with_reducible repeat (first|exact ae HB|refine But.alloc ?_ _|refine But.drew ?_|(refine But.setNew ?_ ?_ _;rotate_left;exact (by first|omega|(simp;omega)|simp)))) b2);have A2:=af a2;clear a2 b2;have I5:=ae HF;unfold eY at I5
    cases hq:bD (TT s) (PP s) (j+1) with
    |error e=>
     obtain ⟨c3,j3⟩:=e;rw [hq] at I5;have rR:=af I5;have C:=af (ow b s (j+1) d w2 (ae Hs) (ae A2));rw [hq] at C;clear hq I5;go_wp2_with fail;refine (ae C).mono ?_;rintro e w3 ⟨b3,v3,d3,rfl,⟨g3,rfl⟩,a3⟩;have L3:=(ae L2).but b3 (by omega);have lt3:=L3.lt;obtain ⟨l0,l1⟩:=L3.two;have B3:=af (But.trans (ae B2) b3);have A3:=af a3;clear a3 b3 L3;unfold bn Bc bg;go_wp2;go_ret2;rw [←ae rR];exact ⟨(by with_reducible repeat (first|exact ae B3|refine But.alloc ?_ _|refine But.drew ?_|(refine But.setNew ?_ ?_ _;rotate_left;exact (by first|omega|(simp;omega)|simp)))),_,d3,rfl,.inr ⟨_,_,rfl⟩,(by with_reducible repeat (first|exact ae A3|refine At.alloc ?_ _|refine At.drew ?_|(refine At.setNew ?_ ?_ _;rotate_left;exact (by first|omega|(simp;omega)|simp))))⟩
    |ok y=>
     obtain ⟨g3,j3⟩:=y;have hj3:=mU _ _ _ _ _ hq;rw [hq] at I5;have rR:=af I5;have C:=af (ow b s (j+1) d w2 (ae Hs) (ae A2));rw [hq] at C;clear hq I5;go_wp2_with fail;refine (ae C).mono ?_;rintro e w3 ⟨b3,v3,rfl,rfl,a3⟩;have L3:=(ae L2).but b3 (by omega);have lt3:=L3.lt;obtain ⟨l0,l1⟩:=L3.two;have zl:=L3.fz;have IG:=af L3;have O3:=af (ak (w':=w3) (ae O2) (fun g cs f hg hh=>b3.block g (lt_of_some hh) (by omega)));have B3:=af (But.trans (ae B2) b3);have A3:=af a3;have le3:=a3.le;clear a3 b3 L3;unfold Bc bg;go_wp2_with (at_builtin;go_must (refine wpList_append_lies _ rfl _ _ 211 rfl w.heap.size 207 i0 _ 5 56 Tryz.underlying211 (ae HI) (ae fG) (ae fH) (ae fI) rfl (by decide) sv acc.length (bG acc) rfl ?hown ⟨w3.heap.size+1,0,none⟩ 1 1 (bg g3).toList rfl rfl ?hnews ?hone (by decide) ?h63 ?hbytes ?hbase (w3.heap.size+2) ?hH ?hrest))
     case hown=>exact ((ae O3).alloc _).alloc _
     case hnews=>exact World.news_of_block (B:=w3.heap.size+1) (cs:=bg g3) (t:=207) (fr:=(0,0)) (ai.new' (w3.alloc _) _ _ _ (by simp))
     case hone=>exact I1 g3
     case h63=>unfold maxLen;omega
     case hbytes=>omega
     case hbase=>simp;omega
     case hH=>simp
     case hrest=>
      intro g4 cap4 w4 EQ oz Wy hgl4;have SF:=((ae IG).alloc (.cells (bg g3) 207)).alloc (.cells (bg g3) 207);have SG:=((ae O3).alloc (.cells (bg g3) 207)).alloc (.cells (bg g3) 207);have Wz:=((ae A3).alloc (.cells (bg g3) 207)).alloc (.cells (bg g3) 207);have L4:ai w4 w.heap.size #[.int .i64 (bY s (K s i)),sv] 236:=(oz.block _ SF.lt (own_ne SG SF (by decide))).trans SF;have A4:=af (Wz.grown oz (own_ne SG Wz.pos.rd.blk (by decide)));have B4:=af (But.grown (((ae B3).alloc (.cells (bg g3) 207)).alloc (.cells (bg g3) 207)) oz (fun k hk=>(SG.lt k hk).1));have O4:=af EQ;have ZQ:=af L4;obtain ⟨m0,m1⟩:=L4.two;have zm:=L4.fz;have ml:=L4.lt;clear SF SG Wz EQ oz Wy L4 l0 l1 zl;go_wp2
      go_roundg fu
      case measure=>omega
      case rel=>exact ⟨false,acc++[g3],j3,_,rfl,(by with_reducible repeat (first|exact ae B4|refine But.alloc ?_ _|refine But.drew ?_|(refine But.setNew ?_ ?_ _;rotate_left;exact (by first|omega|(simp;omega)|simp)))),(by with_reducible repeat (first|exact ae A4|refine At.alloc ?_ _|refine At.drew ?_|(refine At.setNew ?_ ?_ _;rotate_left;exact (by first|omega|(simp;omega)|simp)))),by omega,by simp;omega,(ae ZQ).set 1 _,by rw [List.length_append,uB];exact aX (ae O4) (ae ZQ) (by decide) 1 _,af ⟨fun h=>(by cases h),fun _=>ae rR⟩⟩
theorem Post.form {α:Type} {b:Nat} {s:aei} {d:Nat} {w w':World} {r:dM α} {rep:World→α→Value→Prop} {bad:Value→Prop} {e:Ending} (h:Post b s d w r rep bad e w'):∃v er,e=.returned (.tuple #[v,er]):=by
 obtain ⟨_,h⟩:=h
 cases r with
 |error y=>obtain ⟨c,j⟩:=y;obtain ⟨v,d',h,_⟩:=h;exact ⟨_,_,h⟩
 |ok y=>obtain ⟨c,j⟩:=y;obtain ⟨v,h,_⟩:=h;exact ⟨_,_,h⟩
theorem Post.from {α:Type} {b:Nat} {s:aei} {d:Nat} {w w1 w':World} {r:dM α} {rep:World→α→Value→Prop} {bad:Value→Prop} {e:Ending} (k:But b w w1) (h:Post b s d w1 r rep bad e w'):Post b s d w r rep bad e w':=⟨k.trans h.1,h.2⟩
theorem At.open {w:World} {b:Nat} {s:aei} {i d:Nat} (h:At w b s i d) (d':Nat):At (w.setCell ⟨b,3,none⟩ (.int .i64 d')) b s i d':=
 ⟨⟨⟨by rw [iN _ h.pos.rd.blk];rfl⟩,h.pos.le⟩,h.good⟩
theorem Aw (b:Nat) (s:aei) (i:Nat) (w:World) (h:At w b s i 4):
  Calls Tryz.prog 272 #[.pointer (some ⟨b,0,none⟩)] w (eZ b s 4 w (.error (3,i))):=by
 have c3:=h.pos.rd.c3;have A0:=af h;clear h;go_enter Tryz.func272,Tryz.ntmps272;go_wp2;go_ret2;exact ⟨But.refl _ _,_,4,rfl,.inl rfl,ae A0⟩
theorem Da (b:Nat) (s:aei) (i d:Nat) (w:World) (hs:s.size≤500) (h:At w b s i d) (hd:d<4) (he:eqs (TT s i) (sg 40)=true) (inner:Nat→dM Ex)
  (hx:∀i w,At w b s i (d+1)→Calls Tryz.prog 222 #[.pointer (some ⟨b,0,none⟩)] w (eZ b s (d+1) w (inner i))) (c j:Nat) (Hi:Hid (inner (i+1)=.error (c,j))):
  Calls Tryz.prog 272 #[.pointer (some ⟨b,0,none⟩)] w (eZ b s d w (.error (c,j))):=by
 have hlt:=h.lt;have Hs:Hid (s.size≤maxLen):=af (by unfold maxLen;omega);have He:=af (bZ he (by decide));have c3:=h.pos.rd.c3;have zb:=h.pos.rd.fz;have A0:=af (At.open h (d+1));have hd':((d:Int)==4)=false:=by rw [beq_eq_false_iff_ne];omega
 have Hx:=af hx;clear h he hx;go_enter Tryz.func272,Tryz.ntmps272;go_wp2_with fail;rw [show ((d:Int)+1)=((d+1:Nat):Int) by omega];refine (steps b s i (d+1) _ (ae Hs) (ae A0) (ae He)).mono ?_;rintro e w2 ⟨rfl,a2,b2⟩;have B2:=af (But.trans (x:=w) ((But.refl b w).setCell 3 _) b2);have A2:=af a2;have lt2:=a2.lt;clear a2 b2;have C:=af (ae Hx (i+1) w2 (ae A2));rw [ae Hi] at C;go_wp2_with fail;refine (ae C).mono ?_;rintro e w3 ⟨b3,v3,d3,rfl,hv3,a3⟩;have B3:=af (But.trans (ae B2) b3);have A3:=af a3;clear a3 b3 hv3 c3 zb;unfold bn;go_wp2;go_ret2;exact ⟨ae B3,_,d3,rfl,.inl rfl,ae A3⟩
theorem ER (b:Nat) (s:aei) (i d:Nat) (w:World) (hs:s.size≤500) (h:At w b s i d) (hd:d<4) (he:eqs (TT s i) (sg 40)=true) (inner:Nat→dM Ex)
  (hx:∀i w,At w b s i (d+1)→Calls Tryz.prog 222 #[.pointer (some ⟨b,0,none⟩)] w (eZ b s (d+1) w (inner i))) (x:Ex) (j:Nat) (Hi:Hid (inner (i+1)=.ok (x,j))) (Hc:Hid (eqs (TT s j) (sg 41)=false)):
  Calls Tryz.prog 272 #[.pointer (some ⟨b,0,none⟩)] w (eZ b s d w (.error (2,j))):=by
 have hlt:=h.lt;have Hs:Hid (s.size≤maxLen):=af (by unfold maxLen;omega);have He:=af (bZ he (by decide));have c3:=h.pos.rd.c3;have zb:=h.pos.rd.fz;have A0:=af (At.open h (d+1));have hd':((d:Int)==4)=false:=by rw [beq_eq_false_iff_ne];omega
 have Hx:=af hx;clear h he hx;go_enter Tryz.func272,Tryz.ntmps272;go_wp2_with fail;rw [show ((d:Int)+1)=((d+1:Nat):Int) by omega];refine (steps b s i (d+1) _ (ae Hs) (ae A0) (ae He)).mono ?_;rintro e w2 ⟨rfl,a2,b2⟩;have B2:=af (But.trans (x:=w) ((But.refl b w).setCell 3 _) b2);have A2:=af a2;have lt2:=a2.lt;clear a2 b2;have C:=af (ae Hx (i+1) w2 (ae A2));rw [ae Hi] at C;go_wp2_with fail;refine (ae C).mono ?_;rintro e w3 ⟨b3,v3,rfl,hv3,a3⟩;have B3:=af (But.trans (ae B2) b3);have A3:=af (At.open a3 d);have k3:=a3.pos.rd.c3;have zk:=a3.pos.rd.fz;have V3:=af hv3;clear a3 b3 hv3 c3 zb;go_wp2_with fail;refine (pU b s j d (sg 41) _ (ae A3) (ae Hc)).mono ?_;rintro e w4 ⟨rfl,a4,b4⟩;have B4:=af (But.trans ((ae B3).setCell 3 _) b4);have A4:=af a4;clear a4 b4;go_wp2;go_ret2;exact ⟨ae B4,_,d,rfl,.inr (ae V3).isI,ae A4⟩
theorem Db (b:Nat) (s:aei) (i d:Nat) (w:World) (hs:s.size≤500) (h:At w b s i d) (hd:d<4) (he:eqs (TT s i) (sg 40)=true) (inner:Nat→dM Ex)
  (hx:∀i w,At w b s i (d+1)→Calls Tryz.prog 222 #[.pointer (some ⟨b,0,none⟩)] w (eZ b s (d+1) w (inner i))) (x:Ex) (j:Nat) (Hi:Hid (inner (i+1)=.ok (x,j))) (Hc:Hid (eqs (TT s j) (sg 41)=true)):
  Calls Tryz.prog 272 #[.pointer (some ⟨b,0,none⟩)] w (eZ b s d w (.ok (x,j+1))):=by
 have hlt:=h.lt;have Hs:Hid (s.size≤maxLen):=af (by unfold maxLen;omega);have He:=af (bZ he (by decide));have c3:=h.pos.rd.c3;have zb:=h.pos.rd.fz;have A0:=af (At.open h (d+1));have hd':((d:Int)==4)=false:=by rw [beq_eq_false_iff_ne];omega
 have Hx:=af hx;clear h he hx;go_enter Tryz.func272,Tryz.ntmps272;go_wp2_with fail;rw [show ((d:Int)+1)=((d+1:Nat):Int) by omega];refine (steps b s i (d+1) _ (ae Hs) (ae A0) (ae He)).mono ?_;rintro e w2 ⟨rfl,a2,b2⟩;have B2:=af (But.trans (x:=w) ((But.refl b w).setCell 3 _) b2);have A2:=af a2;have lt2:=a2.lt;clear a2 b2;have C:=af (ae Hx (i+1) w2 (ae A2));rw [ae Hi] at C;go_wp2_with fail;refine (ae C).mono ?_;rintro e w3 ⟨b3,v3,rfl,hv3,a3⟩;have B3:=af (But.trans (ae B2) b3);have A3:=af (At.open a3 d);have k3:=a3.pos.rd.c3;have zk:=a3.pos.rd.fz;have V3:=af hv3;clear a3 b3 hv3 c3 zb;go_wp2_with fail;refine (ku b s j d (sg 41) _ (ae Hs) (ae A3) (ae Hc) (by decide)).mono ?_;rintro e w4 ⟨rfl,a4,b4⟩;have B4:=af (But.trans ((ae B3).setCell 3 _) b4);have V4:=af (aH.but (ae V3) (But.trans ((But.refl b w3).setCell 3 _) b4));have A4:=af a4;clear a4 b4;go_wp2;go_ret2;exact ⟨ae B4,_,rfl,ae V4,ae A4⟩
theorem OQ (b:Nat) (s:aei) (i d:Nat) (w:World) (hs:s.size≤500) (h:At w b s i d) (r:dM Ex)
  (hl:eqs (TT s i) (sg 91)=true→∀w,At w b s i d→Calls Tryz.prog 271 #[.pointer (some ⟨b,0,none⟩)] w (eZ b s d w r))
  (hb:eqs (TT s i) (sg 91)=false→eqs (TT s i) (sg 40)=true→∀w,At w b s i d→Calls Tryz.prog 272 #[.pointer (some ⟨b,0,none⟩)] w (eZ b s d w r))
  (ho:eqs (TT s i) (sg 91)=false→eqs (TT s i) (sg 40)=false→∀w,At w b s i d→Calls Tryz.prog 273 #[.pointer (some ⟨b,0,none⟩)] w (eZ b s d w r)):
  Calls Tryz.prog 264 #[.pointer (some ⟨b,0,none⟩)] w (eZ b s d w r):=by
 have A0:=af h;have HL:=af hl;have HB:=af hb;have HO:=af ho;have hlt:=h.lt;clear h hl hb ho
 cases h1:eqs (TT s i) (sg 91)
 ·cases h2:eqs (TT s i) (sg 40)
  ·go_enter Tryz.func264,Tryz.ntmps264;go_wp2_with fail;refine (ats b s i d _ _ (sg 91) _ ?_ ?_).mono ?_
   ·exact (by with_reducible repeat (first|exact ae A0|refine At.alloc ?_ _|refine At.drew ?_|(refine At.setNew ?_ ?_ _;rotate_left;exact (by first|omega|(simp;omega)|simp))))
   ·exact aU _ _ _ _ (by simp)
   rintro e w2 ⟨rfl,rfl⟩;rw [h1];go_wp2_with fail;refine (ats b s i d _ _ (sg 40) _ ?_ ?_).mono ?_
   ·exact (by with_reducible repeat (first|exact ae A0|refine At.alloc ?_ _|refine At.drew ?_|(refine At.setNew ?_ ?_ _;rotate_left;exact (by first|omega|(simp;omega)|simp))))
   ·exact aU _ _ _ _ (by simp)
   rintro e w2 ⟨rfl,rfl⟩;rw [h2];go_wp2_with fail;refine (ae HO h1 h2 _ (by with_reducible repeat (first|exact ae A0|refine At.alloc ?_ _|refine At.drew ?_|(refine At.setNew ?_ ?_ _;rotate_left;exact (by first|omega|(simp;omega)|simp))))).mono ?_;intro e w3 hp;obtain ⟨v,er,rfl⟩:=Post.form hp;have HP:=af hp;clear hp;go_wp2;go_ret2;have B0:=af (But.refl b w);exact Post.from (w:=w) (by with_reducible repeat (first|exact ae B0|refine But.alloc ?_ _|refine But.drew ?_|(refine But.setNew ?_ ?_ _;rotate_left;exact (by first|omega|(simp;omega)|simp)))) (ae HP)
  ·go_enter Tryz.func264,Tryz.ntmps264;go_wp2_with fail;refine (ats b s i d _ _ (sg 91) _ ?_ ?_).mono ?_
   ·exact (by with_reducible repeat (first|exact ae A0|refine At.alloc ?_ _|refine At.drew ?_|(refine At.setNew ?_ ?_ _;rotate_left;exact (by first|omega|(simp;omega)|simp))))
   ·exact aU _ _ _ _ (by simp)
   rintro e w2 ⟨rfl,rfl⟩;rw [h1];go_wp2_with fail;refine (ats b s i d _ _ (sg 40) _ ?_ ?_).mono ?_
   ·exact (by with_reducible repeat (first|exact ae A0|refine At.alloc ?_ _|refine At.drew ?_|(refine At.setNew ?_ ?_ _;rotate_left;exact (by first|omega|(simp;omega)|simp))))
   ·exact aU _ _ _ _ (by simp)
   rintro e w2 ⟨rfl,rfl⟩;rw [h2];go_wp2_with fail;refine (ae HB h1 h2 _ (by with_reducible repeat (first|exact ae A0|refine At.alloc ?_ _|refine At.drew ?_|(refine At.setNew ?_ ?_ _;rotate_left;exact (by first|omega|(simp;omega)|simp))))).mono ?_;intro e w3 hp;obtain ⟨v,er,rfl⟩:=Post.form hp;have HP:=af hp;clear hp;go_wp2;go_ret2;have B0:=af (But.refl b w);exact Post.from (w:=w) (by with_reducible repeat (first|exact ae B0|refine But.alloc ?_ _|refine But.drew ?_|(refine But.setNew ?_ ?_ _;rotate_left;exact (by first|omega|(simp;omega)|simp)))) (ae HP)
 ·go_enter Tryz.func264,Tryz.ntmps264;go_wp2_with fail;refine (ats b s i d _ _ (sg 91) _ ?_ ?_).mono ?_
  ·exact (by with_reducible repeat (first|exact ae A0|refine At.alloc ?_ _|refine At.drew ?_|(refine At.setNew ?_ ?_ _;rotate_left;exact (by first|omega|(simp;omega)|simp))))
  ·exact aU _ _ _ _ (by simp)
  rintro e w2 ⟨rfl,rfl⟩;rw [h1];go_wp2_with fail;refine (ae HL h1 _ (by with_reducible repeat (first|exact ae A0|refine At.alloc ?_ _|refine At.drew ?_|(refine At.setNew ?_ ?_ _;rotate_left;exact (by first|omega|(simp;omega)|simp))))).mono ?_;intro e w3 hp;obtain ⟨v,er,rfl⟩:=Post.form hp;have HP:=af hp;clear hp;go_wp2;go_ret2;have B0:=af (But.refl b w);exact Post.from (w:=w) (by with_reducible repeat (first|exact ae B0|refine But.alloc ?_ _|refine But.drew ?_|(refine But.setNew ?_ ?_ _;rotate_left;exact (by first|omega|(simp;omega)|simp)))) (ae HP)
theorem Be (b:Nat) (s:aei) (i d:Nat) (w:World) (hs:s.size≤500) (h:At w b s i d) (room:Bool) (inner:Nat→dM Ex) (hd:d≤4) (hr:room=true↔d<4)
  (hx:room=true→∀i w,At w b s i (d+1)→Calls Tryz.prog 222 #[.pointer (some ⟨b,0,none⟩)] w (eZ b s (d+1) w (inner i))):
  Calls Tryz.prog 264 #[.pointer (some ⟨b,0,none⟩)] w (eZ b s d w (gY (TT s) (PP s) room inner i)):=by
 have hs':s.size≤maxLen:=by unfold maxLen;omega
 refine OQ b s i d w hs h _ ?_ ?_ ?_
 ·intro h1 w h;simp only [gY,h1,if_true];exact Ml b s i d w hs h h1
 ·intro h1 h2 w h;simp only [gY,h1,h2,if_true,Bool.false_eq_true,if_false]
  cases room with
  |false=>
   have:d=4:=by
    have:¬d<4:=fun k=>by have:=hr.2 k;cases this
    omega
   subst this;exact Aw b s i w h
  |true=>
   have hd4:=hr.1 rfl;simp only [if_true]
   cases hi:inner (i+1) with
   |error e=>exact Da b s i d w hs h hd4 h2 inner (hx rfl) e.1 e.2 (af hi)
   |ok y=>
    obtain ⟨x,j⟩:=y
    cases hc:eqs (TT s j) (sg 41)
    ·simp only [hc];exact ER b s i d w hs h hd4 h2 inner (hx rfl) x j (af hi) (af hc)
    ·simp only [hc];exact Db b s i d w hs h hd4 h2 inner (hx rfl) x j (af hi) (af hc)
 ·intro h1 h2 w h;simp only [gY,h1,h2,Bool.false_eq_true,if_false];exact OP b s i d w hs' h
theorem yw (b:Nat) (s:aei) (i d:Nat) (w:World) (hs:s.size≤500) (h:At w b s i d) (part:Nat→dM Ex) (hm:lM part)
  (hp:∀i w,At w b s i d→Calls Tryz.prog 264 #[.pointer (some ⟨b,0,none⟩)] w (eZ b s d w (part i))):
  Calls Tryz.prog 249 #[.pointer (some ⟨b,0,none⟩)] w (eZ b s d w (gJ (TT s) (PP s) [sg 38,sg 45] part i)):=by
 have A0:=af h;have hlt:=h.lt;have C:=af (EP b s i d (w.alloc (.cells #[.string ⟨#[38]⟩,.string ⟨#[45]⟩] 9)) hs (h.alloc _) w.heap.size 2 [sg 38,sg 45] part hm hp (by simp [maxLen]) (by decide) (by omega) (by simp) (fun i hi=>by
  match i,hi with
  |0,_=>exact (ai.new w _ _).cell rfl
  |1,_=>exact (ai.new w _ _).cell rfl
  |n+2,hi=>simp at hi;omega))
 generalize gJ (TT s) (PP s) [sg 38,sg 45] part i=r at*;clear h hp hm;go_enter Tryz.func249,Tryz.ntmps249;go_wp2_with fail;refine (ae C).mono ?_;intro e w3 hp;obtain ⟨v,er,rfl⟩:=Post.form hp;have HP:=af hp;clear hp;go_wp2;go_ret2;have B0:=af (But.refl b w);exact Post.from (w:=w) (by with_reducible repeat (first|exact ae B0|refine But.alloc ?_ _|refine But.drew ?_|(refine But.setNew ?_ ?_ _;rotate_left;exact (by first|omega|(simp;omega)|simp)))) (ae HP)
theorem KU (b:Nat) (s:aei) (i d:Nat) (w:World) (hs:s.size≤500) (h:At w b s i d) (part:Nat→dM Ex) (hm:lM part)
  (hp:∀i w,At w b s i d→Calls Tryz.prog 249 #[.pointer (some ⟨b,0,none⟩)] w (eZ b s d w (part i))):
  Calls Tryz.prog 222 #[.pointer (some ⟨b,0,none⟩)] w (eZ b s d w (gJ (TT s) (PP s) [sg 124] part i)):=by
 have A0:=af h;have hlt:=h.lt;have C:=af (CZ b s i d (w.alloc (.cells #[.string ⟨#[124]⟩] 9)) hs (h.alloc _) w.heap.size 1 [sg 124] part hm hp (by simp [maxLen]) (by decide) (by omega) (by simp) (fun i hi=>by
  match i,hi with
  |0,_=>exact (ai.new w _ _).cell rfl
  |n+1,hi=>simp at hi))
 generalize gJ (TT s) (PP s) [sg 124] part i=r at*;clear h hp hm;go_enter Tryz.func222,Tryz.ntmps222;go_wp2_with fail;refine (ae C).mono ?_;intro e w3 hp;obtain ⟨v,er,rfl⟩:=Post.form hp;have HP:=af hp;clear hp;go_wp2;go_ret2;have B0:=af (But.refl b w);exact Post.from (w:=w) (by with_reducible repeat (first|exact ae B0|refine But.alloc ?_ _|refine But.drew ?_|(refine But.setNew ?_ ?_ _;rotate_left;exact (by first|omega|(simp;omega)|simp)))) (ae HP)
theorem qO (b:Nat) (s:aei) (hs:s.size≤500):∀n i d w,d+n=4→At w b s i d→
  Calls Tryz.prog 222 #[.pointer (some ⟨b,0,none⟩)] w (eZ b s d w (gZ (TT s) (PP s) n i))
 |0,i,d,w,hd,h=>KU b s i d w hs h _ (jA _ _ false _ (fun i x j h=>by simp at h)) (fun i w h=>
   yw b s i d w hs h _ (lZ _ _ false _ (fun i x j h=>by simp at h)) (fun i w h=>
    Be b s i d w hs h false _ (by omega) (by simp;omega) (fun h=>by cases h)))
 |n+1,i,d,w,hd,h=>KU b s i d w hs h _ (jA _ _ true _ (jm _ _ n)) (fun i w h=>
   yw b s i d w hs h _ (lZ _ _ true _ (jm _ _ n)) (fun i w h=>
    Be b s i d w hs h true _ (by omega) (by simp;omega) (fun _ i w h=>qO b s hs n i (d+1) w (by omega) h)))
theorem aH.set {b:Nat} {w:World} {e:Ex} {v:Value} {g:Nat} {cs:Array Value} {T:TypeId} (h:aH b w e v) (hb:ai w g cs T) (ht:T≠207) (o:Nat) (u:Value):aH b (w.setCell ⟨g,o,none⟩ u) e v:=
 aH.frame (fun g' cs' f hg hh=>Below.heap_setCell _ _ _ _ (fun (e':g'=g)=>by
  subst e';unfold ai at hb;rw [hb] at hh;simp at hh;exact ht hh.2.1)) e v h
def ES (b:Nat) (w:World) (r:Rl) (v:Value):Prop:=∃bv,v=.agg #[.int .i64 r.place,.string r.name,bv]∧aH b w r.body bv
def OT (v:Value):Prop:=∃(p:Nat) (t:aei) (bv:Value),v=.agg #[.int .i64 p,.string t,bv]∧Vx bv
theorem SH (b:Nat) (s:aei) (i d:Nat) (w:World) (hs:s.size≤500) (h:At w b s i d) (c j:Nat) (Hr:Hid (bO (TT s) (sg 58) i=.error (c,j))):
  Calls Tryz.prog 172 #[.pointer (some ⟨b,0,none⟩)] w (Post b s d w (.error (c,j):dM Rl) (ES b) OT):=by
 have hlt:=h.lt;have Hs:Hid (s.size≤maxLen):=af (by unfold maxLen;omega);have C:=af (gQ b s i d (sg 58) _ (ae Hs) ((h.alloc (.cells #[.int .i64 0,.string ⟨#[]⟩,.nilIface] 159)).alloc (.cells #[.int .i64 0,.string ⟨#[]⟩,.nilIface] 159)) (by decide));rw [ae Hr] at C;clear h;go_enter Tryz.func172,Tryz.ntmps172;go_wp2_with fail;refine (ae C).mono ?_;rintro e w1 ⟨b1,v,d1,rfl,⟨p,t,rfl⟩,a1⟩;have B1:=af (((But.refl b w).alloc _).alloc _ |>.trans b1);have R:=((ai.new w #[.int .i64 0,.string ⟨#[]⟩,.nilIface] 159).alloc (.cells #[.int .i64 0,.string ⟨#[]⟩,.nilIface] 159)).but b1 (by omega);have G:=(ai.new' (w.alloc (.cells #[.int .i64 0,.string ⟨#[]⟩,.nilIface] 159)) #[.int .i64 0,.string ⟨#[]⟩,.nilIface] 159 (w.heap.size+1) (by simp)).but b1 (by omega);have HR:=af R;have HG:=af G;obtain ⟨r0,r1,r2⟩:=R.three;obtain ⟨g0,g1,g2⟩:=G.three;have zr:=R.fz;have zg:=G.fz;have hsz:=G.lt;have hsz':w.heap.size<w1.heap.size:=by omega
 have A1:=af a1;clear a1 b1 R G C;unfold bn;go_wp2;refine bodyPost_ret (v:=.tuple #[.agg #[.int .i64 p,.string t,.nilIface],bn c]) (aS Tryz.results172 _ _ w.heap.size _ 159 _ _ rfl rfl ?hB Tryz.underlying159 rfl (by kernel_rfl)) rfl ?post
 case hB=>exact ⟨_,(by with_reducible repeat (first|exact ae HR|apply ai.alloc|apply ai.drew|apply ai.set|(apply ai.other;case ha=>exact (by first|omega|(simp;omega)|simp)))),by rfl⟩
 case post=>exact ⟨(by with_reducible repeat (first|exact ae B1|refine But.alloc ?_ _|refine But.drew ?_|(refine But.setNew ?_ ?_ _;rotate_left;exact (by first|omega|(simp;omega)|simp)))),_,d1,rfl,⟨p,t,_,rfl,.inl rfl⟩,(by with_reducible repeat (first|exact ae A1|refine At.alloc ?_ _|refine At.drew ?_|(refine At.setNew ?_ ?_ _;rotate_left;exact (by first|omega|(simp;omega)|simp))))⟩
theorem OU (b:Nat) (s:aei) (i d:Nat) (w:World) (hs:s.size≤500) (h:At w b s i d) (hd:d+4=4) (c j m:Nat) (Hr:Hid (bO (TT s) (sg 58) i=.ok ((),j))) (Hx:Hid (gZ (TT s) (PP s) 4 j=.error (c,m))):
  Calls Tryz.prog 172 #[.pointer (some ⟨b,0,none⟩)] w (Post b s d w (.error (c,m):dM Rl) (ES b) OT):=by
 have hlt:=h.lt;have Hs:Hid (s.size≤maxLen):=af (by unfold maxLen;omega);have C:=af (gQ b s i d (sg 58) _ (ae Hs) ((h.alloc (.cells #[.int .i64 0,.string ⟨#[]⟩,.nilIface] 159)).alloc (.cells #[.int .i64 0,.string ⟨#[]⟩,.nilIface] 159)) (by decide));rw [ae Hr] at C;clear h;go_enter Tryz.func172,Tryz.ntmps172;go_wp2_with fail;refine (ae C).mono ?_;rintro e w1 ⟨b1,v,rfl,rfl,a1⟩;have B1:=af (((But.refl b w).alloc _).alloc _ |>.trans b1);have R:=((ai.new w #[.int .i64 0,.string ⟨#[]⟩,.nilIface] 159).alloc (.cells #[.int .i64 0,.string ⟨#[]⟩,.nilIface] 159)).but b1 (by omega);have G:=(ai.new' (w.alloc (.cells #[.int .i64 0,.string ⟨#[]⟩,.nilIface] 159)) #[.int .i64 0,.string ⟨#[]⟩,.nilIface] 159 (w.heap.size+1) (by simp)).but b1 (by omega);have HR:=af R;have HG:=af G;obtain ⟨r0,r1,r2⟩:=R.three;obtain ⟨g0,g1,g2⟩:=G.three;have zr:=R.fz;have zg:=G.fz;have hsz:=G.lt;have hsz':w.heap.size<w1.heap.size:=by omega
 have A1:=af a1;clear a1 b1 R G C;unfold wX;go_wp2_with fail;have C:=af (qO b s hs 4 j d _ hd (show At ((w1.setCell ⟨w.heap.size+1,0,none⟩ (.int .i64 (bY s (K s i)))).setCell ⟨w.heap.size+1,1,none⟩ (.string (bf s (K s i)))) b s j d from (by with_reducible repeat (first|exact ae A1|refine At.alloc ?_ _|refine At.drew ?_|(refine At.setNew ?_ ?_ _;rotate_left;exact (by first|omega|(simp;omega)|simp))))));rw [ae Hx] at C;refine (ae C).mono ?_;rintro e w2 ⟨b2,v2,d2,rfl,hv2,a2⟩;have B2:=af (But.trans (x:=w) (by with_reducible repeat (first|exact ae B1|refine But.alloc ?_ _|refine But.drew ?_|(refine But.setNew ?_ ?_ _;rotate_left;exact (by first|omega|(simp;omega)|simp)))) b2);have VA:=ai.but (g:=w.heap.size) (T:=159) (by with_reducible repeat (first|exact ae HR|apply ai.alloc|apply ai.drew|apply ai.set|(apply ai.other;case ha=>exact (by first|omega|(simp;omega)|simp)))) b2 (by omega);have R2:ai w2 w.heap.size #[.int .i64 0,.string ⟨#[]⟩,.nilIface] 159:=VA;have EO:=ai.but (g:=w.heap.size+1) (T:=159) (by with_reducible repeat (first|exact ae HG|apply ai.alloc|apply ai.drew|apply ai.set|(apply ai.other;case ha=>exact (by first|omega|(simp;omega)|simp)))) b2 (by omega);have G2:ai w2 (w.heap.size+1) #[.int .i64 (bY s (K s i)),.string (bf s (K s i)),.nilIface] 159:=EO;have dS:=af R2;have HG2:=af G2;obtain ⟨p0,p1,p2⟩:=R2.three;obtain ⟨q0,q1,q2⟩:=G2.three;have zp:=R2.fz;have zq:=G2.fz;have tz:=G2.lt;have Ww:w.heap.size<w2.heap.size:=by omega
 have A2:=af a2;clear a2 b2 R2 G2 VA EO r0 r1 r2 g0 g1 g2 zr zg hsz hsz';unfold bn
 rcases hv2 with rfl|⟨tx,vx,rfl⟩
 ·go_wp2;refine bodyPost_ret (v:=.tuple #[.agg #[.int .i64 (bY s (K s i)),.string (bf s (K s i)),.nilIface],bn c]) (aS Tryz.results172 _ _ w.heap.size _ 159 _ _ rfl rfl ?hB Tryz.underlying159 rfl (by kernel_rfl)) rfl ?post
  case hB=>exact ⟨_,(by with_reducible repeat (first|exact ae dS|apply ai.alloc|apply ai.drew|apply ai.set|(apply ai.other;case ha=>exact (by first|omega|(simp;omega)|simp)))),by rfl⟩
  case post=>exact ⟨(by with_reducible repeat (first|exact ae B2|refine But.alloc ?_ _|refine But.drew ?_|(refine But.setNew ?_ ?_ _;rotate_left;exact (by first|omega|(simp;omega)|simp)))),_,d2,rfl,⟨_,_,_,rfl,.inl rfl⟩,(by with_reducible repeat (first|exact ae A2|refine At.alloc ?_ _|refine At.drew ?_|(refine At.setNew ?_ ?_ _;rotate_left;exact (by first|omega|(simp;omega)|simp))))⟩
 ·go_wp2;refine bodyPost_ret (v:=.tuple #[.agg #[.int .i64 (bY s (K s i)),.string (bf s (K s i)),.iface tx vx],bn c]) (aS Tryz.results172 _ _ w.heap.size _ 159 _ _ rfl rfl ?hB Tryz.underlying159 rfl (by kernel_rfl)) rfl ?post
  case hB=>exact ⟨_,(by with_reducible repeat (first|exact ae dS|apply ai.alloc|apply ai.drew|apply ai.set|(apply ai.other;case ha=>exact (by first|omega|(simp;omega)|simp)))),by rfl⟩
  case post=>exact ⟨(by with_reducible repeat (first|exact ae B2|refine But.alloc ?_ _|refine But.drew ?_|(refine But.setNew ?_ ?_ _;rotate_left;exact (by first|omega|(simp;omega)|simp)))),_,d2,rfl,⟨_,_,_,rfl,.inr ⟨_,_,rfl⟩⟩,(by with_reducible repeat (first|exact ae A2|refine At.alloc ?_ _|refine At.drew ?_|(refine At.setNew ?_ ?_ _;rotate_left;exact (by first|omega|(simp;omega)|simp))))⟩
theorem SK (b:Nat) (s:aei) (i d:Nat) (w:World) (hs:s.size≤500) (h:At w b s i d) (hd:d+4=4) (x:Ex) (j m:Nat) (Hr:Hid (bO (TT s) (sg 58) i=.ok ((),j))) (Hx:Hid (gZ (TT s) (PP s) 4 j=.ok (x,m))) (He:Hid (eqs (TT s m) (sg 59)=true)):
  Calls Tryz.prog 172 #[.pointer (some ⟨b,0,none⟩)] w (Post b s d w (.ok (⟨TT s i,PP s i,x⟩,m+1):dM Rl) (ES b) OT):=by
 have hlt:=h.lt;have Hs:Hid (s.size≤maxLen):=af (by unfold maxLen;omega);have C:=af (gQ b s i d (sg 58) _ (ae Hs) ((h.alloc (.cells #[.int .i64 0,.string ⟨#[]⟩,.nilIface] 159)).alloc (.cells #[.int .i64 0,.string ⟨#[]⟩,.nilIface] 159)) (by decide));rw [ae Hr] at C;clear h;go_enter Tryz.func172,Tryz.ntmps172;go_wp2_with fail;refine (ae C).mono ?_;rintro e w1 ⟨b1,v,rfl,rfl,a1⟩;have B1:=af (((But.refl b w).alloc _).alloc _ |>.trans b1);have R:=((ai.new w #[.int .i64 0,.string ⟨#[]⟩,.nilIface] 159).alloc (.cells #[.int .i64 0,.string ⟨#[]⟩,.nilIface] 159)).but b1 (by omega);have G:=(ai.new' (w.alloc (.cells #[.int .i64 0,.string ⟨#[]⟩,.nilIface] 159)) #[.int .i64 0,.string ⟨#[]⟩,.nilIface] 159 (w.heap.size+1) (by simp)).but b1 (by omega);have HR:=af R;have HG:=af G;obtain ⟨r0,r1,r2⟩:=R.three;obtain ⟨g0,g1,g2⟩:=G.three;have zr:=R.fz;have zg:=G.fz;have hsz:=G.lt;have hsz':w.heap.size<w1.heap.size:=by omega
 have A1:=af a1;clear a1 b1 R G C;unfold wX;go_wp2_with fail;have C:=af (qO b s hs 4 j d _ hd (show At ((w1.setCell ⟨w.heap.size+1,0,none⟩ (.int .i64 (bY s (K s i)))).setCell ⟨w.heap.size+1,1,none⟩ (.string (bf s (K s i)))) b s j d from (by with_reducible repeat (first|exact ae A1|refine At.alloc ?_ _|refine At.drew ?_|(refine At.setNew ?_ ?_ _;rotate_left;exact (by first|omega|(simp;omega)|simp))))));rw [ae Hx] at C;refine (ae C).mono ?_;rintro e w2 ⟨b2,v2,rfl,hv2,a2⟩;have B2:=af (But.trans (x:=w) (by with_reducible repeat (first|exact ae B1|refine But.alloc ?_ _|refine But.drew ?_|(refine But.setNew ?_ ?_ _;rotate_left;exact (by first|omega|(simp;omega)|simp)))) b2);have VA:=ai.but (g:=w.heap.size) (T:=159) (by with_reducible repeat (first|exact ae HR|apply ai.alloc|apply ai.drew|apply ai.set|(apply ai.other;case ha=>exact (by first|omega|(simp;omega)|simp)))) b2 (by omega);have R2:ai w2 w.heap.size #[.int .i64 0,.string ⟨#[]⟩,.nilIface] 159:=VA;have EO:=ai.but (g:=w.heap.size+1) (T:=159) (by with_reducible repeat (first|exact ae HG|apply ai.alloc|apply ai.drew|apply ai.set|(apply ai.other;case ha=>exact (by first|omega|(simp;omega)|simp)))) b2 (by omega);have G2:ai w2 (w.heap.size+1) #[.int .i64 (bY s (K s i)),.string (bf s (K s i)),.nilIface] 159:=EO;have dS:=af R2;have HG2:=af G2;obtain ⟨p0,p1,p2⟩:=R2.three;obtain ⟨q0,q1,q2⟩:=G2.three;have zp:=R2.fz;have zq:=G2.fz;have tz:=G2.lt;have Ww:w.heap.size<w2.heap.size:=by omega
 have A2:=af a2;clear a2 b2 R2 G2 VA EO r0 r1 r2 g0 g1 g2 zr zg hsz hsz';obtain ⟨tx,vx,rfl⟩:=hv2.isI;have V2:=af hv2;clear hv2;have hne:¬(w.heap.size+1=w.heap.size):=by omega
 go_wp2_with fail;have ZR:=af (show At (w2.setCell ⟨w.heap.size+1,2,none⟩ (.iface tx vx)) b s m d from (by with_reducible repeat (first|exact ae A2|refine At.alloc ?_ _|refine At.drew ?_|(refine At.setNew ?_ ?_ _;rotate_left;exact (by first|omega|(simp;omega)|simp)))));have ZT:=af (show But b w (w2.setCell ⟨w.heap.size+1,2,none⟩ (.iface tx vx)) from (by with_reducible repeat (first|exact ae B2|refine But.alloc ?_ _|refine But.drew ?_|(refine But.setNew ?_ ?_ _;rotate_left;exact (by first|omega|(simp;omega)|simp)))));have V2':=af (aH.set (ae V2) (ae HG2) (by decide) 2 (.iface tx vx));have G3:ai (w2.setCell ⟨w.heap.size+1,2,none⟩ (.iface tx vx)) (w.heap.size+1) #[.int .i64 (bY s (K s i)),.string (bf s (K s i)),.iface tx vx] 159:=(ae HG2).set 2 _;have R3:ai (w2.setCell ⟨w.heap.size+1,2,none⟩ (.iface tx vx)) w.heap.size #[.int .i64 0,.string ⟨#[]⟩,.nilIface] 159:=(ae dS).other (by simp) _;generalize w2.setCell ⟨w.heap.size+1,2,none⟩ (.iface tx vx)=W at*;clear p0 p1 p2 q0 q1 q2 zp zq A2 B2 V2 HG2 dS;have uC:=af G3;have oZ:=af R3;obtain ⟨q0,q1,q2⟩:=G3.three;have zq:=G3.fz;have hW:=G3.lt;have hW':=R3.lt;clear G3 R3
 go_region_held3 (fun w'=>w'.cell? ⟨w.heap.size+1,0,none⟩=some (.int .i64 (bY s (K s i)))∧w'.cell? ⟨w.heap.size+1,1,none⟩=some (.string (bf s (K s i)))∧w'.cell? ⟨w.heap.size+1,2,none⟩=some (.iface tx vx)) (go_keep)
  ((go_at_call 169;refine (ku b s m d (sg 59) _ (ae Hs) ?_ (ae He) (by decide)).mono ?_;(exact (ae ZR).drew);rintro e w3 ⟨rfl,a3,b3⟩;have G4:=(ae uC).drew.but b3 (by omega);obtain ⟨n0,n1,n2⟩:=G4.three;have R4:=(ae oZ).drew.but b3 (by omega);obtain ⟨k0,k1,k2⟩:=R4.three;have zk:=ai.fz R4;have vM:=af R4;have A4:=af a3;have V4:=af (aH.but (ae V2') (But.trans ((But.refl b W).drew) b3));have B4:=af (But.trans (ae ZT).drew b3);clear G4 R4 a3 b3))
 go_wp2;refine bodyPost_ret (v:=.tuple #[.agg #[.int .i64 (bY s (K s i)),.string (bf s (K s i)),.iface tx vx],.nilIface]) (aS Tryz.results172 _ _ w.heap.size _ 159 _ _ rfl rfl ?hB Tryz.underlying159 rfl (by kernel_rfl)) rfl ?post
 case hB=>exact ⟨_,(by with_reducible repeat (first|exact ae vM|apply ai.alloc|apply ai.drew|apply ai.set|(apply ai.other;case ha=>exact (by first|omega|(simp;omega)|simp)))),by rfl⟩
 case post=>exact ⟨(by with_reducible repeat (first|exact ae B4|refine But.alloc ?_ _|refine But.drew ?_|(refine But.setNew ?_ ?_ _;rotate_left;exact (by first|omega|(simp;omega)|simp)))),_,rfl,⟨_,rfl,aH.set (aH.set (aH.set (ae V4) (ae vM) (by decide) 0 _) ((ae vM).set 0 _) (by decide) 1 _) (((ae vM).set 0 _).set 1 _) (by decide) 2 _⟩,(by with_reducible repeat (first|exact ae A4|refine At.alloc ?_ _|refine At.drew ?_|(refine At.setNew ?_ ?_ _;rotate_left;exact (by first|omega|(simp;omega)|simp))))⟩
theorem WA (b:Nat) (s:aei) (i d:Nat) (w:World) (hs:s.size≤500) (h:At w b s i d) (hd:d+4=4) (x:Ex) (j m:Nat) (Hr:Hid (bO (TT s) (sg 58) i=.ok ((),j))) (Hx:Hid (gZ (TT s) (PP s) 4 j=.ok (x,m))) (He:Hid (eqs (TT s m) (sg 59)=false)):
  Calls Tryz.prog 172 #[.pointer (some ⟨b,0,none⟩)] w (Post b s d w (.error (2,m):dM Rl) (ES b) OT):=by
 have hlt:=h.lt;have Hs:Hid (s.size≤maxLen):=af (by unfold maxLen;omega);have C:=af (gQ b s i d (sg 58) _ (ae Hs) ((h.alloc (.cells #[.int .i64 0,.string ⟨#[]⟩,.nilIface] 159)).alloc (.cells #[.int .i64 0,.string ⟨#[]⟩,.nilIface] 159)) (by decide));rw [ae Hr] at C;clear h;go_enter Tryz.func172,Tryz.ntmps172;go_wp2_with fail;refine (ae C).mono ?_;rintro e w1 ⟨b1,v,rfl,rfl,a1⟩;have B1:=af (((But.refl b w).alloc _).alloc _ |>.trans b1);have R:=((ai.new w #[.int .i64 0,.string ⟨#[]⟩,.nilIface] 159).alloc (.cells #[.int .i64 0,.string ⟨#[]⟩,.nilIface] 159)).but b1 (by omega);have G:=(ai.new' (w.alloc (.cells #[.int .i64 0,.string ⟨#[]⟩,.nilIface] 159)) #[.int .i64 0,.string ⟨#[]⟩,.nilIface] 159 (w.heap.size+1) (by simp)).but b1 (by omega);have HR:=af R;have HG:=af G;obtain ⟨r0,r1,r2⟩:=R.three;obtain ⟨g0,g1,g2⟩:=G.three;have zr:=R.fz;have zg:=G.fz;have hsz:=G.lt;have hsz':w.heap.size<w1.heap.size:=by omega
 have A1:=af a1;clear a1 b1 R G C;unfold wX;go_wp2_with fail;have C:=af (qO b s hs 4 j d _ hd (show At ((w1.setCell ⟨w.heap.size+1,0,none⟩ (.int .i64 (bY s (K s i)))).setCell ⟨w.heap.size+1,1,none⟩ (.string (bf s (K s i)))) b s j d from (by with_reducible repeat (first|exact ae A1|refine At.alloc ?_ _|refine At.drew ?_|(refine At.setNew ?_ ?_ _;rotate_left;exact (by first|omega|(simp;omega)|simp))))));rw [ae Hx] at C;refine (ae C).mono ?_;rintro e w2 ⟨b2,v2,rfl,hv2,a2⟩;have B2:=af (But.trans (x:=w) (by with_reducible repeat (first|exact ae B1|refine But.alloc ?_ _|refine But.drew ?_|(refine But.setNew ?_ ?_ _;rotate_left;exact (by first|omega|(simp;omega)|simp)))) b2);have VA:=ai.but (g:=w.heap.size) (T:=159) (by with_reducible repeat (first|exact ae HR|apply ai.alloc|apply ai.drew|apply ai.set|(apply ai.other;case ha=>exact (by first|omega|(simp;omega)|simp)))) b2 (by omega);have R2:ai w2 w.heap.size #[.int .i64 0,.string ⟨#[]⟩,.nilIface] 159:=VA;have EO:=ai.but (g:=w.heap.size+1) (T:=159) (by with_reducible repeat (first|exact ae HG|apply ai.alloc|apply ai.drew|apply ai.set|(apply ai.other;case ha=>exact (by first|omega|(simp;omega)|simp)))) b2 (by omega);have G2:ai w2 (w.heap.size+1) #[.int .i64 (bY s (K s i)),.string (bf s (K s i)),.nilIface] 159:=EO;have dS:=af R2;have HG2:=af G2;obtain ⟨p0,p1,p2⟩:=R2.three;obtain ⟨q0,q1,q2⟩:=G2.three;have zp:=R2.fz;have zq:=G2.fz;have tz:=G2.lt;have Ww:w.heap.size<w2.heap.size:=by omega
 have A2:=af a2;clear a2 b2 R2 G2 VA EO r0 r1 r2 g0 g1 g2 zr zg hsz hsz';obtain ⟨tx,vx,rfl⟩:=hv2.isI;have V2:=af hv2;clear hv2;have hne:¬(w.heap.size+1=w.heap.size):=by omega
 go_wp2_with fail;have ZR:=af (show At (w2.setCell ⟨w.heap.size+1,2,none⟩ (.iface tx vx)) b s m d from (by with_reducible repeat (first|exact ae A2|refine At.alloc ?_ _|refine At.drew ?_|(refine At.setNew ?_ ?_ _;rotate_left;exact (by first|omega|(simp;omega)|simp)))));have ZT:=af (show But b w (w2.setCell ⟨w.heap.size+1,2,none⟩ (.iface tx vx)) from (by with_reducible repeat (first|exact ae B2|refine But.alloc ?_ _|refine But.drew ?_|(refine But.setNew ?_ ?_ _;rotate_left;exact (by first|omega|(simp;omega)|simp)))));have V2':=af (aH.set (ae V2) (ae HG2) (by decide) 2 (.iface tx vx));have G3:ai (w2.setCell ⟨w.heap.size+1,2,none⟩ (.iface tx vx)) (w.heap.size+1) #[.int .i64 (bY s (K s i)),.string (bf s (K s i)),.iface tx vx] 159:=(ae HG2).set 2 _;have R3:ai (w2.setCell ⟨w.heap.size+1,2,none⟩ (.iface tx vx)) w.heap.size #[.int .i64 0,.string ⟨#[]⟩,.nilIface] 159:=(ae dS).other (by simp) _;generalize w2.setCell ⟨w.heap.size+1,2,none⟩ (.iface tx vx)=W at*;clear p0 p1 p2 q0 q1 q2 zp zq A2 B2 V2 HG2 dS;have uC:=af G3;have oZ:=af R3;obtain ⟨q0,q1,q2⟩:=G3.three;have zq:=G3.fz;have hW:=G3.lt;have hW':=R3.lt;clear G3 R3
 go_region_held3 (fun w'=>w'.cell? ⟨w.heap.size+1,0,none⟩=some (.int .i64 (bY s (K s i)))∧w'.cell? ⟨w.heap.size+1,1,none⟩=some (.string (bf s (K s i)))∧w'.cell? ⟨w.heap.size+1,2,none⟩=some (.iface tx vx)) (go_keep)
  ((go_at_call 169;refine (pU b s m d (sg 59) _ ?_ (ae He)).mono ?_;(exact (ae ZR).drew);rintro e w3 ⟨rfl,a3,b3⟩;have G4:=(ae uC).drew.but b3 (by omega);obtain ⟨n0,n1,n2⟩:=G4.three;have R4:=(ae oZ).drew.but b3 (by omega);obtain ⟨k0,k1,k2⟩:=R4.three;have zk:=ai.fz R4;have vM:=af R4;have A4:=af a3;have V4:=af (aH.but (ae V2') (But.trans ((But.refl b W).drew) b3));have B4:=af (But.trans (ae ZT).drew b3);clear G4 R4 a3 b3))
 go_wp2;refine bodyPost_ret (v:=.tuple #[.agg #[.int .i64 (bY s (K s i)),.string (bf s (K s i)),.iface tx vx],bn 2]) (aS Tryz.results172 _ _ w.heap.size _ 159 _ _ rfl rfl ?hB Tryz.underlying159 rfl (by kernel_rfl)) rfl ?post
 case hB=>exact ⟨_,(by with_reducible repeat (first|exact ae vM|apply ai.alloc|apply ai.drew|apply ai.set|(apply ai.other;case ha=>exact (by first|omega|(simp;omega)|simp)))),by rfl⟩
 case post=>exact ⟨(by with_reducible repeat (first|exact ae B4|refine But.alloc ?_ _|refine But.drew ?_|(refine But.setNew ?_ ?_ _;rotate_left;exact (by first|omega|(simp;omega)|simp)))),_,d,rfl,⟨_,_,_,rfl,.inr ⟨_,_,rfl⟩⟩,(by with_reducible repeat (first|exact ae A4|refine At.alloc ?_ _|refine At.drew ?_|(refine At.setNew ?_ ?_ _;rotate_left;exact (by first|omega|(simp;omega)|simp))))⟩
theorem uD (b:Nat) (s:aei) (i d:Nat) (w:World) (hs:s.size≤500) (h:At w b s i d) (hd:d+4=4):
  Calls Tryz.prog 172 #[.pointer (some ⟨b,0,none⟩)] w (Post b s d w (pJ (TT s) (PP s) i) (ES b) OT):=by
 unfold pJ
 cases hr:bO (TT s) (sg 58) i with
 |error e=>exact SH b s i d w hs h e.1 e.2 (af hr)
 |ok y=>
  obtain ⟨⟨⟩,j⟩:=y
  cases hx:gZ (TT s) (PP s) 4 j with
  |error e=>simp only [hx];exact OU b s i d w hs h hd e.1 j e.2 (af hr) (af hx)
  |ok y=>
   obtain ⟨x,m⟩:=y
   cases he:eqs (TT s m) (sg 59)
   ·simp only [hx,he];exact WA b s i d w hs h hd x j m (af hr) (af hx) (af he)
   ·simp only [hx,he];exact SK b s i d w hs h hd x j m (af hr) (af hx) (af he)
