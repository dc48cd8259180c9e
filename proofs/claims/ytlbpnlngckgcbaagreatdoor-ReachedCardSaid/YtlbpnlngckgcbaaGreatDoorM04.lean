import Derived.Test.YtlbpnlngckgcbaaGreatDoorM03
set_option linter.all false
set_option maxHeartbeats 4000000
set_option maxRecDepth 100000
namespace Go.Proofs.YtlbpnlngckgcbaaGreatDoor
open Go.RowKit Go.PlainAid
theorem Tryz.info207:(Tryz.prog.info? 207).map (fun i=>(i.zero,i.size,i.bytes))=some (some (.agg #[.int .i64 0,.string ⟨#[]⟩,.int .i64 0,.int .i64 0,.string ⟨#[]⟩]),5,56):=by kernel_rfl
def Ke (T:Nat→RJ) (P:Nat→Nat) (k:Nat) (acc:List Gr) (j:Nat):fw (List Gr):=
 if eqs (T j) (sg 44) then iP T P k acc j else if eqs (T j) (sg 93) then .ok (acc,j+1) else .error (2,j)
theorem own_ne {w:World} {base:Nat} {e:TypeId} {size:Nat} {v:Value} {n:Nat} {xs:List Value} {g:Nat} {cs:Array Value} {T:TypeId} (h:w.ownsRow base e size v n xs) (hb:ag w g cs T) (ht:T≠e):some g≠v.ownBlock:=by
 rcases h.2 with ⟨rfl,_⟩|⟨g',cap,cur,rfl,hg,hh,r⟩
 ·simp [Value.ownBlock]
 ·intro he;simp only [Value.ownBlock,Option.some.injEq] at he;subst he;unfold ag at hb;rw [hb] at hh;simp at hh;exact ht hh.2
theorem bD {w:World} {base:Nat} {e:TypeId} {size:Nat} {v:Value} {n:Nat} {xs:List Value} {g:Nat} {cs:Array Value} {T:TypeId} (h:w.ownsRow base e size v n xs) (hb:ag w g cs T) (ht:T≠e) (o:Nat) (u:Value):(w.setCell ⟨g,o,none⟩ u).ownsRow base e size v n xs:=
 ai h fun g' cs' f hg hh=>Below.heap_setCell _ _ _ _ (fun (e':g'=g)=>by
  subst e';unfold ag at hb;rw [hb] at hh;simp at hh;exact ht hh.2.1)
theorem aA {w:World} {base base':Nat} {e:TypeId} {size:Nat} {v:Value} {n:Nat} {xs:List Value} (h:w.ownsRow base e size v n xs) (hb:base'≤base):w.ownsRow base' e size v n xs:=by
 obtain ⟨h1,h2⟩:=h;refine ⟨h1,?_⟩
 rcases h2 with h2|⟨g,cap,cur,hv,hg,r⟩
 ·exact Or.inl h2
 ·exact Or.inr ⟨g,cap,cur,hv,Nat.le_trans hb hg,r⟩
theorem nC (l:List Gr) (g:Gr):aO (l++[g])=aO l++(aL g).toList:=by simp [aO]
theorem But.grown {b:Nat} {x y z:World} {row:Option Nat} (h:But b x y) (hg:y.grownBy z row) (hr:∀k,row=some k→x.heap.size≤k):But b x z:=
 ⟨hg.os.trans h.os,hg.tape.trans h.tape,hg.output.trans h.output,Nat.le_trans h.size hg.size,fun k hk hb=>(hg.block k (Nat.lt_of_lt_of_le hk h.size) (fun e=>by have:=hr k e.symm;omega)).trans (h.block k hk hb)⟩
theorem ag.new' (w:World) (cs:Array Value) (T n:Nat) (h:n=w.heap.size):ag (w.alloc (.cells cs T)) n cs T:=by subst h;exact ag.new w cs T
theorem zu (g:Gr):∀u∈(aL g).toList,u.oneCell'=true:=by
 intro u hu;simp [aL] at hu
 rcases hu with rfl|rfl|rfl|rfl|rfl<;>rfl
def listM (P:Nat→Nat) (i:Nat) (R:fw (List Gr)):fw Ex:=match R with
 | .error e=> .error e
 | .ok (gs,j)=> .ok (Ka P i gs,j)
theorem Cm (b:Nat) (s:RJ) (i d:Nat) (w:World) (hs:s.size≤500) (h:At w b s i d) (he:eqs (TT s i) (sg 91)=true):
  Calls Tryz.prog 271 #[.pointer (some ⟨b,0,none⟩)] w (cZ b s d w (sP (TT s) (PP s) i)):=by
 have hlt:=h.lt;have Hs:Hid (s.size≤maxLen):=ae (by unfold maxLen;omega);have He:=ae (eQ he (by decide));have A0:=ae h;have c1:=h.pos.rd.c1;clear h he;obtain ⟨i0,hi,hz0,hz1,hz2⟩:=info_parts Tryz.info207;have HI:=ae hi;have jg:=ae hz0;have jh:=ae hz1;have ji:=ae hz2;clear hi hz0 hz1 hz2;change Calls _ _ _ _ (cZ b s d w (listM (PP s) i (iP (TT s) (PP s) 512 [] i)));generalize hR:iP (TT s) (PP s) 512 [] i=R;have HR:=ae hR;clear hR;go_enter Tryz.func271,Tryz.ntmps271;go_wp2_with fail
 go_loopg [5] 512 (fun k u5 wr=>∃(f:Bool) (acc:List Gr) (j:Nat) (sv:Value),u5=.bool f∧But b w wr∧At wr b s j d∧512≤k+j∧acc.length≤j∧
  ag wr w.heap.size #[.int .i64 (aV s (K s i)),sv] 236∧wr.ownsRow w.heap.size 207 5 sv acc.length (aO acc)∧
  Hid ((f=true→j=i∧iP (TT s) (PP s) k acc j=R)∧(f=false→Ke (TT s) (PP s) k acc j=R)))
 case atStart=>exact ⟨true,[],i,_,rfl,(But.refl b w).alloc _,(aa A0).alloc _,by omega,by simp,ag.new _ _ _,World.ownsRow_nil _ _ _ _,ae ⟨fun _=>⟨rfl,aa HR⟩,fun h=>by cases h⟩⟩
 case round=>
  obtain ⟨f,acc,j,sv,rfl,hb,ha,hk,hac,hl,ho,HQ⟩:=hrel;have hf:12≤gk:=by have:=ha.le;omega
  obtain ⟨fu,rfl⟩:∃f,gk=f+1:=⟨gk-1,by omega⟩;have HA:=ae ha;have HB:=ae hb;have HL:=ae hl;have HO:=ae ho;obtain ⟨l0,l1⟩:=hl.two;have zl:=hl.fz;have hll:=hl.lt;have hlr:=ha.lt;clear ha hb hl ho
  cases f with
  |true=>
   obtain ⟨e1,e2⟩:=(aa HQ).1 rfl;have HF:=ae e2;have Hj:Hid (0<(TT s j).size):=ae (by rw [e1];exact aa He);clear e1 e2 HQ;go_wp2_with fail;refine (steps b s j d _ (aa Hs) ?_ (aa Hj)).mono ?_
   ·exact (by with_reducible repeat (first|exact aa HA|refine At.alloc ?_ _|refine At.drew ?_|(refine At.setNew ?_ ?_ _;rotate_left;exact (by first|omega|(simp;omega)|simp))))
   rintro e w2 ⟨rfl,a2,b2⟩;have L2:=ae (ag.but (g:=w.heap.size) (T:=236) (by with_reducible repeat (first|exact aa HL|apply ag.alloc|apply ag.drew|apply ag.set|(apply ag.other;case ha=>exact (by first|omega|(simp;omega)|simp)))) b2 (by omega));have O2:=ae (ai (w':=w2) (aa HO) (fun g cs f hg hh=>(b2.block g (by first|exact lt_of_some hh|(have:=lt_of_some hh;simp;omega)) (by omega)).trans (by first|rfl|exact Below.heap_alloc _ _ _ (lt_of_some hh))));have B2:=ae (But.trans (x:=w) (by with_reducible repeat (first|exact aa HB|refine But.alloc ?_ _|refine But.drew ?_|(refine But.setNew ?_ ?_ _;rotate_left;exact (by first|omega|(simp;omega)|simp)))) b2);have A2:=ae a2;clear a2 b2;have zw:=aa HF;unfold iP at zw
   cases hq:lT (TT s) (PP s) (j+1) with
   |error e=>
    obtain ⟨c3,j3⟩:=e;rw [hq] at zw;have KX:=ae zw;have C:=ae (jL b s (j+1) d w2 (aa Hs) (aa A2));rw [hq] at C;clear hq zw;go_wp2_with fail;refine (aa C).mono ?_;rintro e w3 ⟨b3,v3,d3,rfl,⟨g3,rfl⟩,a3⟩;have L3:=(aa L2).but b3 (by omega);have Qs:=L3.lt;obtain ⟨l0,l1⟩:=L3.two;have B3:=ae (But.trans (aa B2) b3);have A3:=ae a3;clear a3 b3 L3;unfold aM sQ aL;go_wp2;go_ret2;rw [←aa KX];exact ⟨(by with_reducible repeat (first|exact aa B3|refine But.alloc ?_ _|refine But.drew ?_|(refine But.setNew ?_ ?_ _;rotate_left;exact (by first|omega|(simp;omega)|simp)))),_,d3,rfl,.inr ⟨_,_,rfl⟩,(by with_reducible repeat (first|exact aa A3|refine At.alloc ?_ _|refine At.drew ?_|(refine At.setNew ?_ ?_ _;rotate_left;exact (by first|omega|(simp;omega)|simp))))⟩
   |ok y=>
    obtain ⟨g3,j3⟩:=y;have hj3:=iQ _ _ _ _ _ hq;rw [hq] at zw;have KX:=ae zw;have C:=ae (jL b s (j+1) d w2 (aa Hs) (aa A2));rw [hq] at C;clear hq zw;go_wp2_with fail;refine (aa C).mono ?_;rintro e w3 ⟨b3,v3,rfl,rfl,a3⟩;have L3:=(aa L2).but b3 (by omega);have Qs:=L3.lt;obtain ⟨l0,l1⟩:=L3.two;have zl:=L3.fz;have yT:=ae L3;have O3:=ae (ai (w':=w3) (aa O2) (fun g cs f hg hh=>b3.block g (lt_of_some hh) (by omega)));have B3:=ae (But.trans (aa B2) b3);have A3:=ae a3;have le3:=a3.le;clear a3 b3 L3;unfold sQ aL;go_wp2_with (at_builtin;go_must (refine wpList_append_lies _ rfl _ _ 211 rfl w.heap.size 207 i0 _ 5 56 Tryz.underlying211 (aa HI) (aa jg) (aa jh) (aa ji) rfl (by decide) sv acc.length (aO acc) rfl ?hown ⟨w3.heap.size+1,0,none⟩ 1 1 (aL g3).toList rfl rfl ?hnews ?hone (by decide) ?h63 ?hbytes ?hbase (w3.heap.size+2) ?hH ?hrest))
    case hown=>exact ((aa O3).alloc _).alloc _
    case hnews=>exact World.news_of_block (B:=w3.heap.size+1) (cs:=aL g3) (t:=207) (fr:=(0,0)) (ag.new' (w3.alloc _) _ _ _ (by simp))
    case hone=>exact zu g3
    case h63=>unfold maxLen;omega
    case hbytes=>omega
    case hbase=>simp;omega
    case hH=>simp
    case hrest=>
     intro g4 cap4 w4 wJ jN KY hgl4;have IG:=((aa yT).alloc (.cells (aL g3) 207)).alloc (.cells (aL g3) 207);have II:=((aa O3).alloc (.cells (aL g3) 207)).alloc (.cells (aL g3) 207);have KZ:=((aa A3).alloc (.cells (aL g3) 207)).alloc (.cells (aL g3) 207);have L4:ag w4 w.heap.size #[.int .i64 (aV s (K s i)),sv] 236:=(jN.block _ IG.lt (own_ne II IG (by decide))).trans IG;have A4:=ae (KZ.grown jN (own_ne II KZ.pos.rd.blk (by decide)));have B4:=ae (But.grown (((aa B3).alloc (.cells (aL g3) 207)).alloc (.cells (aL g3) 207)) jN (fun k hk=>(II.lt k hk).1));have O4:=ae wJ;have yU:=ae L4;obtain ⟨m0,m1⟩:=L4.two;have zm:=L4.fz;have ml:=L4.lt;clear IG II KZ wJ jN KY L4 l0 l1 zl;go_wp2
     go_roundg fu
     case measure=>omega
     case rel=>exact ⟨false,acc++[g3],j3,_,rfl,(by with_reducible repeat (first|exact aa B4|refine But.alloc ?_ _|refine But.drew ?_|(refine But.setNew ?_ ?_ _;rotate_left;exact (by first|omega|(simp;omega)|simp)))),(by with_reducible repeat (first|exact aa A4|refine At.alloc ?_ _|refine At.drew ?_|(refine At.setNew ?_ ?_ _;rotate_left;exact (by first|omega|(simp;omega)|simp)))),by omega,by simp;omega,(aa yU).set 1 _,by rw [List.length_append,nC];exact bD (aa O4) (aa yU) (by decide) 1 _,ae ⟨fun h=>(by cases h),fun _=>aa KX⟩⟩
  |false=>
   have hq:=(aa HQ).2 rfl;unfold Ke at hq
   cases ht:eqs (TT s j) (sg 44)
   ·simp only [ht] at hq;go_wp2_with fail;refine (ats b s j d _ _ (sg 44) _ ?_ ?_).mono ?_
    ·exact (by with_reducible repeat (first|exact aa HA|refine At.alloc ?_ _|refine At.drew ?_|(refine At.setNew ?_ ?_ _;rotate_left;exact (by first|omega|(simp;omega)|simp))))
    ·exact aI _ _ _ _ (by simp)
    rintro e w1 ⟨rfl,rfl⟩;rw [ht];clear ht HQ;have Kg:=ae hq;clear hq;go_wp2_with fail
    cases hc:eqs (TT s j) (sg 93)
    ·have HC:=ae hc;clear hc
     go_region_held3 (fun w'=>w'.cell? ⟨w.heap.size,0,none⟩=some (.int .i64 (aV s (K s i)))∧w'.cell? ⟨w.heap.size,1,none⟩=some sv)
      (go_keep) ((go_at_call 169;refine (kr b s j d (sg 93) _ ?_ (aa HC)).mono ?_;(exact ((aa HA).alloc _).drew);rintro e w2 ⟨rfl,a2,b2⟩;have L2:=((aa HL).alloc (.cells #[.string ⟨#[44]⟩] 9)).drew.but b2 (by omega);obtain ⟨m0,m1⟩:=L2.two;have A2:=ae a2;have O2:=ae (ai (w':=w2) (aa HO) (fun g cs f hg hh=>(b2.block g (by have:=lt_of_some hh;simp;omega) (by omega)).trans (Below.heap_alloc _ _ _ (lt_of_some hh))));have B2:=ae (But.trans (x:=w) ((aa HB).alloc (.cells #[.string ⟨#[44]⟩] 9)).drew b2);clear L2 a2 b2))
     all_goals
      go_wp2;go_ret2;have hQ:=aa Kg;rw [aa HC] at hQ;simp only [if_true,Bool.false_eq_true,if_false] at hQ;rw [←hQ];exact ⟨aa B2,_,d,rfl,.inr ⟨_,_,rfl⟩,aa A2⟩
    ·have HC:=ae hc;clear hc
     go_region_held3 (fun w'=>w'.cell? ⟨w.heap.size,0,none⟩=some (.int .i64 (aV s (K s i)))∧w'.cell? ⟨w.heap.size,1,none⟩=some sv)
      (go_keep) ((go_at_call 169;refine (fP b s j d (sg 93) _ (aa Hs) ?_ (aa HC) (by decide)).mono ?_;(exact ((aa HA).alloc _).drew);rintro e w2 ⟨rfl,a2,b2⟩;have L2:=((aa HL).alloc (.cells #[.string ⟨#[44]⟩] 9)).drew.but b2 (by omega);obtain ⟨m0,m1⟩:=L2.two;have A2:=ae a2;have O2:=ae (ai (w':=w2) (aa HO) (fun g cs f hg hh=>(b2.block g (by have:=lt_of_some hh;simp;omega) (by omega)).trans (Below.heap_alloc _ _ _ (lt_of_some hh))));have B2:=ae (But.trans (x:=w) ((aa HB).alloc (.cells #[.string ⟨#[44]⟩] 9)).drew b2);clear L2 a2 b2))
     all_goals
      go_wp2;go_ret2;have hQ:=aa Kg;rw [aa HC] at hQ;simp only [if_true,Bool.false_eq_true,if_false] at hQ;rw [←hQ];exact ⟨aa B2,_,rfl,.inl ⟨rfl,_,rfl,aA (aa O2) (by omega)⟩,aa A2⟩
   ·simp only [ht,if_true] at hq;have HF:=ae hq;have Hj:Hid (0<(TT s j).size):=ae (eQ ht (by decide));clear hq HQ;go_wp2_with fail;refine (ats b s j d _ _ (sg 44) _ ?_ ?_).mono ?_
    ·exact (by with_reducible repeat (first|exact aa HA|refine At.alloc ?_ _|refine At.drew ?_|(refine At.setNew ?_ ?_ _;rotate_left;exact (by first|omega|(simp;omega)|simp))))
    ·exact aI _ _ _ _ (by simp)
    rintro e w1 ⟨rfl,rfl⟩;rw [ht];clear ht;go_wp2_with fail;refine (steps b s j d _ (aa Hs) ?_ (aa Hj)).mono ?_
    ·exact (by with_reducible repeat (first|exact aa HA|refine At.alloc ?_ _|refine At.drew ?_|(refine At.setNew ?_ ?_ _;rotate_left;exact (by first|omega|(simp;omega)|simp))))
    rintro e w2 ⟨rfl,a2,b2⟩;have L2:=ae (ag.but (g:=w.heap.size) (T:=236) (by with_reducible repeat (first|exact aa HL|apply ag.alloc|apply ag.drew|apply ag.set|(apply ag.other;case ha=>exact (by first|omega|(simp;omega)|simp)))) b2 (by omega));have O2:=ae (ai (w':=w2) (aa HO) (fun g cs f hg hh=>(b2.block g (by first|exact lt_of_some hh|(have:=lt_of_some hh;simp;omega)) (by omega)).trans (by first|rfl|exact Below.heap_alloc _ _ _ (lt_of_some hh))));have B2:=ae (But.trans (x:=w) (by with_reducible repeat (first|exact aa HB|refine But.alloc ?_ _|refine But.drew ?_|(refine But.setNew ?_ ?_ _;rotate_left;exact (by first|omega|(simp;omega)|simp)))) b2);have A2:=ae a2;clear a2 b2;have zw:=aa HF;unfold iP at zw
    cases hq:lT (TT s) (PP s) (j+1) with
    |error e=>
     obtain ⟨c3,j3⟩:=e;rw [hq] at zw;have KX:=ae zw;have C:=ae (jL b s (j+1) d w2 (aa Hs) (aa A2));rw [hq] at C;clear hq zw;go_wp2_with fail;refine (aa C).mono ?_;rintro e w3 ⟨b3,v3,d3,rfl,⟨g3,rfl⟩,a3⟩;have L3:=(aa L2).but b3 (by omega);have Qs:=L3.lt;obtain ⟨l0,l1⟩:=L3.two;have B3:=ae (But.trans (aa B2) b3);have A3:=ae a3;clear a3 b3 L3;unfold aM sQ aL;go_wp2;go_ret2;rw [←aa KX];exact ⟨(by with_reducible repeat (first|exact aa B3|refine But.alloc ?_ _|refine But.drew ?_|(refine But.setNew ?_ ?_ _;rotate_left;exact (by first|omega|(simp;omega)|simp)))),_,d3,rfl,.inr ⟨_,_,rfl⟩,(by with_reducible repeat (first|exact aa A3|refine At.alloc ?_ _|refine At.drew ?_|(refine At.setNew ?_ ?_ _;rotate_left;exact (by first|omega|(simp;omega)|simp))))⟩
    |ok y=>
     obtain ⟨g3,j3⟩:=y;have hj3:=iQ _ _ _ _ _ hq;rw [hq] at zw;have KX:=ae zw;have C:=ae (jL b s (j+1) d w2 (aa Hs) (aa A2));rw [hq] at C;clear hq zw;go_wp2_with fail;refine (aa C).mono ?_;rintro e w3 ⟨b3,v3,rfl,rfl,a3⟩;have L3:=(aa L2).but b3 (by omega);have Qs:=L3.lt;obtain ⟨l0,l1⟩:=L3.two;have zl:=L3.fz;have yT:=ae L3;have O3:=ae (ai (w':=w3) (aa O2) (fun g cs f hg hh=>b3.block g (lt_of_some hh) (by omega)));have B3:=ae (But.trans (aa B2) b3);have A3:=ae a3;have le3:=a3.le;clear a3 b3 L3;unfold sQ aL;go_wp2_with (at_builtin;go_must (refine wpList_append_lies _ rfl _ _ 211 rfl w.heap.size 207 i0 _ 5 56 Tryz.underlying211 (aa HI) (aa jg) (aa jh) (aa ji) rfl (by decide) sv acc.length (aO acc) rfl ?hown ⟨w3.heap.size+1,0,none⟩ 1 1 (aL g3).toList rfl rfl ?hnews ?hone (by decide) ?h63 ?hbytes ?hbase (w3.heap.size+2) ?hH ?hrest))
     case hown=>exact ((aa O3).alloc _).alloc _
     case hnews=>exact World.news_of_block (B:=w3.heap.size+1) (cs:=aL g3) (t:=207) (fr:=(0,0)) (ag.new' (w3.alloc _) _ _ _ (by simp))
     case hone=>exact zu g3
     case h63=>unfold maxLen;omega
     case hbytes=>omega
     case hbase=>simp;omega
     case hH=>simp
     case hrest=>
      intro g4 cap4 w4 wJ jN KY hgl4;have IG:=((aa yT).alloc (.cells (aL g3) 207)).alloc (.cells (aL g3) 207);have II:=((aa O3).alloc (.cells (aL g3) 207)).alloc (.cells (aL g3) 207);have KZ:=((aa A3).alloc (.cells (aL g3) 207)).alloc (.cells (aL g3) 207);have L4:ag w4 w.heap.size #[.int .i64 (aV s (K s i)),sv] 236:=(jN.block _ IG.lt (own_ne II IG (by decide))).trans IG;have A4:=ae (KZ.grown jN (own_ne II KZ.pos.rd.blk (by decide)));have B4:=ae (But.grown (((aa B3).alloc (.cells (aL g3) 207)).alloc (.cells (aL g3) 207)) jN (fun k hk=>(II.lt k hk).1));have O4:=ae wJ;have yU:=ae L4;obtain ⟨m0,m1⟩:=L4.two;have zm:=L4.fz;have ml:=L4.lt;clear IG II KZ wJ jN KY L4 l0 l1 zl;go_wp2
      go_roundg fu
      case measure=>omega
      case rel=>exact ⟨false,acc++[g3],j3,_,rfl,(by with_reducible repeat (first|exact aa B4|refine But.alloc ?_ _|refine But.drew ?_|(refine But.setNew ?_ ?_ _;rotate_left;exact (by first|omega|(simp;omega)|simp)))),(by with_reducible repeat (first|exact aa A4|refine At.alloc ?_ _|refine At.drew ?_|(refine At.setNew ?_ ?_ _;rotate_left;exact (by first|omega|(simp;omega)|simp)))),by omega,by simp;omega,(aa yU).set 1 _,by rw [List.length_append,nC];exact bD (aa O4) (aa yU) (by decide) 1 _,ae ⟨fun h=>(by cases h),fun _=>aa KX⟩⟩
theorem Post.form {α:Type} {b:Nat} {s:RJ} {d:Nat} {w w':World} {r:fw α} {rep:World→α→Value→Prop} {bad:Value→Prop} {e:Ending} (h:Post b s d w r rep bad e w'):∃v er,e=.returned (.tuple #[v,er]):=by
 obtain ⟨_,h⟩:=h
 cases r with
 |error y=>obtain ⟨c,j⟩:=y;obtain ⟨v,d',h,_⟩:=h;exact ⟨_,_,h⟩
 |ok y=>obtain ⟨c,j⟩:=y;obtain ⟨v,h,_⟩:=h;exact ⟨_,_,h⟩
theorem Post.from {α:Type} {b:Nat} {s:RJ} {d:Nat} {w w1 w':World} {r:fw α} {rep:World→α→Value→Prop} {bad:Value→Prop} {e:Ending} (k:But b w w1) (h:Post b s d w1 r rep bad e w'):Post b s d w r rep bad e w':=⟨k.trans h.1,h.2⟩
theorem At.open {w:World} {b:Nat} {s:RJ} {i d:Nat} (h:At w b s i d) (d':Nat):At (w.setCell ⟨b,3,none⟩ (.int .i64 d')) b s i d':=
 ⟨⟨⟨by rw [eD _ h.pos.rd.blk];rfl⟩,h.pos.le⟩,h.good⟩
theorem si (b:Nat) (s:RJ) (i:Nat) (w:World) (h:At w b s i 4):
  Calls Tryz.prog 272 #[.pointer (some ⟨b,0,none⟩)] w (cZ b s 4 w (.error (3,i))):=by
 have c3:=h.pos.rd.c3;have A0:=ae h;clear h;go_enter Tryz.func272,Tryz.ntmps272;go_wp2;go_ret2;exact ⟨But.refl _ _,_,4,rfl,.inl rfl,aa A0⟩
theorem uI (b:Nat) (s:RJ) (i d:Nat) (w:World) (hs:s.size≤500) (h:At w b s i d) (hd:d<4) (he:eqs (TT s i) (sg 40)=true) (inner:Nat→fw Ex)
  (hx:∀i w,At w b s i (d+1)→Calls Tryz.prog 222 #[.pointer (some ⟨b,0,none⟩)] w (cZ b s (d+1) w (inner i))) (c j:Nat) (Hi:Hid (inner (i+1)=.error (c,j))):
  Calls Tryz.prog 272 #[.pointer (some ⟨b,0,none⟩)] w (cZ b s d w (.error (c,j))):=by
 have hlt:=h.lt;have Hs:Hid (s.size≤maxLen):=ae (by unfold maxLen;omega);have He:=ae (eQ he (by decide));have c3:=h.pos.rd.c3;have zb:=h.pos.rd.fz;have A0:=ae (At.open h (d+1));have hd':((d:Int)==4)=false:=by rw [beq_eq_false_iff_ne];omega
 have Hx:=ae hx;clear h he hx;go_enter Tryz.func272,Tryz.ntmps272;go_wp2_with fail;rw [show ((d:Int)+1)=((d+1:Nat):Int) by omega];refine (steps b s i (d+1) _ (aa Hs) (aa A0) (aa He)).mono ?_;rintro e w2 ⟨rfl,a2,b2⟩;have B2:=ae (But.trans (x:=w) ((But.refl b w).setCell 3 _) b2);have A2:=ae a2;have lt2:=a2.lt;clear a2 b2;have C:=ae (aa Hx (i+1) w2 (aa A2));rw [aa Hi] at C;go_wp2_with fail;refine (aa C).mono ?_;rintro e w3 ⟨b3,v3,d3,rfl,hv3,a3⟩;have B3:=ae (But.trans (aa B2) b3);have A3:=ae a3;clear a3 b3 hv3 c3 zb;unfold aM;go_wp2;go_ret2;exact ⟨aa B3,_,d3,rfl,.inl rfl,aa A3⟩
theorem wK (b:Nat) (s:RJ) (i d:Nat) (w:World) (hs:s.size≤500) (h:At w b s i d) (hd:d<4) (he:eqs (TT s i) (sg 40)=true) (inner:Nat→fw Ex)
  (hx:∀i w,At w b s i (d+1)→Calls Tryz.prog 222 #[.pointer (some ⟨b,0,none⟩)] w (cZ b s (d+1) w (inner i))) (x:Ex) (j:Nat) (Hi:Hid (inner (i+1)=.ok (x,j))) (Hc:Hid (eqs (TT s j) (sg 41)=false)):
  Calls Tryz.prog 272 #[.pointer (some ⟨b,0,none⟩)] w (cZ b s d w (.error (2,j))):=by
 have hlt:=h.lt;have Hs:Hid (s.size≤maxLen):=ae (by unfold maxLen;omega);have He:=ae (eQ he (by decide));have c3:=h.pos.rd.c3;have zb:=h.pos.rd.fz;have A0:=ae (At.open h (d+1));have hd':((d:Int)==4)=false:=by rw [beq_eq_false_iff_ne];omega
 have Hx:=ae hx;clear h he hx;go_enter Tryz.func272,Tryz.ntmps272;go_wp2_with fail;rw [show ((d:Int)+1)=((d+1:Nat):Int) by omega];refine (steps b s i (d+1) _ (aa Hs) (aa A0) (aa He)).mono ?_;rintro e w2 ⟨rfl,a2,b2⟩;have B2:=ae (But.trans (x:=w) ((But.refl b w).setCell 3 _) b2);have A2:=ae a2;have lt2:=a2.lt;clear a2 b2;have C:=ae (aa Hx (i+1) w2 (aa A2));rw [aa Hi] at C;go_wp2_with fail;refine (aa C).mono ?_;rintro e w3 ⟨b3,v3,rfl,hv3,a3⟩;have B3:=ae (But.trans (aa B2) b3);have A3:=ae (At.open a3 d);have k3:=a3.pos.rd.c3;have zk:=a3.pos.rd.fz;have V3:=ae hv3;clear a3 b3 hv3 c3 zb;go_wp2_with fail;refine (kr b s j d (sg 41) _ (aa A3) (aa Hc)).mono ?_;rintro e w4 ⟨rfl,a4,b4⟩;have B4:=ae (But.trans ((aa B3).setCell 3 _) b4);have A4:=ae a4;clear a4 b4;go_wp2;go_ret2;exact ⟨aa B4,_,d,rfl,.inr (aa V3).isI,aa A4⟩
theorem uJ (b:Nat) (s:RJ) (i d:Nat) (w:World) (hs:s.size≤500) (h:At w b s i d) (hd:d<4) (he:eqs (TT s i) (sg 40)=true) (inner:Nat→fw Ex)
  (hx:∀i w,At w b s i (d+1)→Calls Tryz.prog 222 #[.pointer (some ⟨b,0,none⟩)] w (cZ b s (d+1) w (inner i))) (x:Ex) (j:Nat) (Hi:Hid (inner (i+1)=.ok (x,j))) (Hc:Hid (eqs (TT s j) (sg 41)=true)):
  Calls Tryz.prog 272 #[.pointer (some ⟨b,0,none⟩)] w (cZ b s d w (.ok (x,j+1))):=by
 have hlt:=h.lt;have Hs:Hid (s.size≤maxLen):=ae (by unfold maxLen;omega);have He:=ae (eQ he (by decide));have c3:=h.pos.rd.c3;have zb:=h.pos.rd.fz;have A0:=ae (At.open h (d+1));have hd':((d:Int)==4)=false:=by rw [beq_eq_false_iff_ne];omega
 have Hx:=ae hx;clear h he hx;go_enter Tryz.func272,Tryz.ntmps272;go_wp2_with fail;rw [show ((d:Int)+1)=((d+1:Nat):Int) by omega];refine (steps b s i (d+1) _ (aa Hs) (aa A0) (aa He)).mono ?_;rintro e w2 ⟨rfl,a2,b2⟩;have B2:=ae (But.trans (x:=w) ((But.refl b w).setCell 3 _) b2);have A2:=ae a2;have lt2:=a2.lt;clear a2 b2;have C:=ae (aa Hx (i+1) w2 (aa A2));rw [aa Hi] at C;go_wp2_with fail;refine (aa C).mono ?_;rintro e w3 ⟨b3,v3,rfl,hv3,a3⟩;have B3:=ae (But.trans (aa B2) b3);have A3:=ae (At.open a3 d);have k3:=a3.pos.rd.c3;have zk:=a3.pos.rd.fz;have V3:=ae hv3;clear a3 b3 hv3 c3 zb;go_wp2_with fail;refine (fP b s j d (sg 41) _ (aa Hs) (aa A3) (aa Hc) (by decide)).mono ?_;rintro e w4 ⟨rfl,a4,b4⟩;have B4:=ae (But.trans ((aa B3).setCell 3 _) b4);have V4:=ae (ay.but (aa V3) (But.trans ((But.refl b w3).setCell 3 _) b4));have A4:=ae a4;clear a4 b4;go_wp2;go_ret2;exact ⟨aa B4,_,rfl,aa V4,aa A4⟩
theorem EX (b:Nat) (s:RJ) (i d:Nat) (w:World) (hs:s.size≤500) (h:At w b s i d) (r:fw Ex)
  (hl:eqs (TT s i) (sg 91)=true→∀w,At w b s i d→Calls Tryz.prog 271 #[.pointer (some ⟨b,0,none⟩)] w (cZ b s d w r))
  (hb:eqs (TT s i) (sg 91)=false→eqs (TT s i) (sg 40)=true→∀w,At w b s i d→Calls Tryz.prog 272 #[.pointer (some ⟨b,0,none⟩)] w (cZ b s d w r))
  (ho:eqs (TT s i) (sg 91)=false→eqs (TT s i) (sg 40)=false→∀w,At w b s i d→Calls Tryz.prog 273 #[.pointer (some ⟨b,0,none⟩)] w (cZ b s d w r)):
  Calls Tryz.prog 264 #[.pointer (some ⟨b,0,none⟩)] w (cZ b s d w r):=by
 have A0:=ae h;have HL:=ae hl;have HB:=ae hb;have HO:=ae ho;have hlt:=h.lt;clear h hl hb ho
 cases h1:eqs (TT s i) (sg 91)
 ·cases h2:eqs (TT s i) (sg 40)
  ·go_enter Tryz.func264,Tryz.ntmps264;go_wp2_with fail;refine (ats b s i d _ _ (sg 91) _ ?_ ?_).mono ?_
   ·exact (by with_reducible repeat (first|exact aa A0|refine At.alloc ?_ _|refine At.drew ?_|(refine At.setNew ?_ ?_ _;rotate_left;exact (by first|omega|(simp;omega)|simp))))
   ·exact aI _ _ _ _ (by simp)
   rintro e w2 ⟨rfl,rfl⟩;rw [h1];go_wp2_with fail;refine (ats b s i d _ _ (sg 40) _ ?_ ?_).mono ?_
   ·exact (by with_reducible repeat (first|exact aa A0|refine At.alloc ?_ _|refine At.drew ?_|(refine At.setNew ?_ ?_ _;rotate_left;exact (by first|omega|(simp;omega)|simp))))
   ·exact aI _ _ _ _ (by simp)
   rintro e w2 ⟨rfl,rfl⟩;rw [h2];go_wp2_with fail;refine (aa HO h1 h2 _ (by with_reducible repeat (first|exact aa A0|refine At.alloc ?_ _|refine At.drew ?_|(refine At.setNew ?_ ?_ _;rotate_left;exact (by first|omega|(simp;omega)|simp))))).mono ?_;intro e w3 hp;obtain ⟨v,er,rfl⟩:=Post.form hp;have HP:=ae hp;clear hp;go_wp2;go_ret2;have B0:=ae (But.refl b w);exact Post.from (w:=w) (by with_reducible repeat (first|exact aa B0|refine But.alloc ?_ _|refine But.drew ?_|(refine But.setNew ?_ ?_ _;rotate_left;exact (by first|omega|(simp;omega)|simp)))) (aa HP)
  ·go_enter Tryz.func264,Tryz.ntmps264;go_wp2_with fail;refine (ats b s i d _ _ (sg 91) _ ?_ ?_).mono ?_
   ·exact (by with_reducible repeat (first|exact aa A0|refine At.alloc ?_ _|refine At.drew ?_|(refine At.setNew ?_ ?_ _;rotate_left;exact (by first|omega|(simp;omega)|simp))))
   ·exact aI _ _ _ _ (by simp)
   rintro e w2 ⟨rfl,rfl⟩;rw [h1];go_wp2_with fail;refine (ats b s i d _ _ (sg 40) _ ?_ ?_).mono ?_
   ·exact (by with_reducible repeat (first|exact aa A0|refine At.alloc ?_ _|refine At.drew ?_|(refine At.setNew ?_ ?_ _;rotate_left;exact (by first|omega|(simp;omega)|simp))))
   ·exact aI _ _ _ _ (by simp)
   rintro e w2 ⟨rfl,rfl⟩;rw [h2];go_wp2_with fail;refine (aa HB h1 h2 _ (by with_reducible repeat (first|exact aa A0|refine At.alloc ?_ _|refine At.drew ?_|(refine At.setNew ?_ ?_ _;rotate_left;exact (by first|omega|(simp;omega)|simp))))).mono ?_;intro e w3 hp;obtain ⟨v,er,rfl⟩:=Post.form hp;have HP:=ae hp;clear hp;go_wp2;go_ret2;have B0:=ae (But.refl b w);exact Post.from (w:=w) (by with_reducible repeat (first|exact aa B0|refine But.alloc ?_ _|refine But.drew ?_|(refine But.setNew ?_ ?_ _;rotate_left;exact (by first|omega|(simp;omega)|simp)))) (aa HP)
 ·go_enter Tryz.func264,Tryz.ntmps264;go_wp2_with fail;refine (ats b s i d _ _ (sg 91) _ ?_ ?_).mono ?_
  ·exact (by with_reducible repeat (first|exact aa A0|refine At.alloc ?_ _|refine At.drew ?_|(refine At.setNew ?_ ?_ _;rotate_left;exact (by first|omega|(simp;omega)|simp))))
  ·exact aI _ _ _ _ (by simp)
  rintro e w2 ⟨rfl,rfl⟩;rw [h1];go_wp2_with fail;refine (aa HL h1 _ (by with_reducible repeat (first|exact aa A0|refine At.alloc ?_ _|refine At.drew ?_|(refine At.setNew ?_ ?_ _;rotate_left;exact (by first|omega|(simp;omega)|simp))))).mono ?_;intro e w3 hp;obtain ⟨v,er,rfl⟩:=Post.form hp;have HP:=ae hp;clear hp;go_wp2;go_ret2;have B0:=ae (But.refl b w);exact Post.from (w:=w) (by with_reducible repeat (first|exact aa B0|refine But.alloc ?_ _|refine But.drew ?_|(refine But.setNew ?_ ?_ _;rotate_left;exact (by first|omega|(simp;omega)|simp)))) (aa HP)
theorem sU (b:Nat) (s:RJ) (i d:Nat) (w:World) (hs:s.size≤500) (h:At w b s i d) (room:Bool) (inner:Nat→fw Ex) (hd:d≤4) (hr:room=true↔d<4)
  (hx:room=true→∀i w,At w b s i (d+1)→Calls Tryz.prog 222 #[.pointer (some ⟨b,0,none⟩)] w (cZ b s (d+1) w (inner i))):
  Calls Tryz.prog 264 #[.pointer (some ⟨b,0,none⟩)] w (cZ b s d w (nu (TT s) (PP s) room inner i)):=by
 have hs':s.size≤maxLen:=by unfold maxLen;omega
 refine EX b s i d w hs h _ ?_ ?_ ?_
 ·intro h1 w h;simp only [nu,h1,if_true];exact Cm b s i d w hs h h1
 ·intro h1 h2 w h;simp only [nu,h1,h2,if_true,Bool.false_eq_true,if_false]
  cases room with
  |false=>
   have:d=4:=by
    have:¬d<4:=fun k=>by have:=hr.2 k;cases this
    omega
   subst this;exact si b s i w h
  |true=>
   have Qt:=hr.1 rfl;simp only [if_true]
   cases hi:inner (i+1) with
   |error e=>exact uI b s i d w hs h Qt h2 inner (hx rfl) e.1 e.2 (ae hi)
   |ok y=>
    obtain ⟨x,j⟩:=y
    cases hc:eqs (TT s j) (sg 41)
    ·simp only [hc];exact wK b s i d w hs h Qt h2 inner (hx rfl) x j (ae hi) (ae hc)
    ·simp only [hc];exact uJ b s i d w hs h Qt h2 inner (hx rfl) x j (ae hi) (ae hc)
 ·intro h1 h2 w h;simp only [nu,h1,h2,Bool.false_eq_true,if_false];exact EW b s i d w hs' h
theorem qF (b:Nat) (s:RJ) (i d:Nat) (w:World) (hs:s.size≤500) (h:At w b s i d) (part:Nat→fw Ex) (hm:jf part)
  (hp:∀i w,At w b s i d→Calls Tryz.prog 264 #[.pointer (some ⟨b,0,none⟩)] w (cZ b s d w (part i))):
  Calls Tryz.prog 249 #[.pointer (some ⟨b,0,none⟩)] w (cZ b s d w (iq (TT s) (PP s) [sg 38,sg 45] part i)):=by
 have A0:=ae h;have hlt:=h.lt;have C:=ae (wI b s i d (w.alloc (.cells #[.string ⟨#[38]⟩,.string ⟨#[45]⟩] 9)) hs (h.alloc _) w.heap.size 2 [sg 38,sg 45] part hm hp (by simp [maxLen]) (by decide) (by omega) (by simp) (fun i hi=>by
  match i,hi with
  |0,_=>exact (ag.new w _ _).cell rfl
  |1,_=>exact (ag.new w _ _).cell rfl
  |n+2,hi=>simp at hi;omega))
 generalize iq (TT s) (PP s) [sg 38,sg 45] part i=r at*;clear h hp hm;go_enter Tryz.func249,Tryz.ntmps249;go_wp2_with fail;refine (aa C).mono ?_;intro e w3 hp;obtain ⟨v,er,rfl⟩:=Post.form hp;have HP:=ae hp;clear hp;go_wp2;go_ret2;have B0:=ae (But.refl b w);exact Post.from (w:=w) (by with_reducible repeat (first|exact aa B0|refine But.alloc ?_ _|refine But.drew ?_|(refine But.setNew ?_ ?_ _;rotate_left;exact (by first|omega|(simp;omega)|simp)))) (aa HP)
theorem A8 (b:Nat) (s:RJ) (i d:Nat) (w:World) (hs:s.size≤500) (h:At w b s i d) (part:Nat→fw Ex) (hm:jf part)
  (hp:∀i w,At w b s i d→Calls Tryz.prog 249 #[.pointer (some ⟨b,0,none⟩)] w (cZ b s d w (part i))):
  Calls Tryz.prog 222 #[.pointer (some ⟨b,0,none⟩)] w (cZ b s d w (iq (TT s) (PP s) [sg 124] part i)):=by
 have A0:=ae h;have hlt:=h.lt;have C:=ae (uH b s i d (w.alloc (.cells #[.string ⟨#[124]⟩] 9)) hs (h.alloc _) w.heap.size 1 [sg 124] part hm hp (by simp [maxLen]) (by decide) (by omega) (by simp) (fun i hi=>by
  match i,hi with
  |0,_=>exact (ag.new w _ _).cell rfl
  |n+1,hi=>simp at hi))
 generalize iq (TT s) (PP s) [sg 124] part i=r at*;clear h hp hm;go_enter Tryz.func222,Tryz.ntmps222;go_wp2_with fail;refine (aa C).mono ?_;intro e w3 hp;obtain ⟨v,er,rfl⟩:=Post.form hp;have HP:=ae hp;clear hp;go_wp2;go_ret2;have B0:=ae (But.refl b w);exact Post.from (w:=w) (by with_reducible repeat (first|exact aa B0|refine But.alloc ?_ _|refine But.drew ?_|(refine But.setNew ?_ ?_ _;rotate_left;exact (by first|omega|(simp;omega)|simp)))) (aa HP)
theorem kR (b:Nat) (s:RJ) (hs:s.size≤500):∀n i d w,d+n=4→At w b s i d→
  Calls Tryz.prog 222 #[.pointer (some ⟨b,0,none⟩)] w (cZ b s d w (ny (TT s) (PP s) n i))
 |0,i,d,w,hd,h=>A8 b s i d w hs h _ (iR _ _ false _ (fun i x j h=>by simp at h)) (fun i w h=>
   qF b s i d w hs h _ (lY _ _ false _ (fun i x j h=>by simp at h)) (fun i w h=>
    sU b s i d w hs h false _ (by omega) (by simp;omega) (fun h=>by cases h)))
 |n+1,i,d,w,hd,h=>A8 b s i d w hs h _ (iR _ _ true _ (jM _ _ n)) (fun i w h=>
   qF b s i d w hs h _ (lY _ _ true _ (jM _ _ n)) (fun i w h=>
    sU b s i d w hs h true _ (by omega) (by simp;omega) (fun _ i w h=>kR b s hs n i (d+1) w (by omega) h)))
