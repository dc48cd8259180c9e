import Derived.Test.YtlbpnlngckgcbaaGreatDoorM05
set_option linter.all false
set_option maxHeartbeats 4000000
set_option maxRecDepth 100000
namespace Go.Proofs.YtlbpnlngckgcbaaGreatDoor
open Go.RowKit Go.PlainAid
def ax:Ex→List Ex
 |⟨n,some x,some y⟩=>ax x++[⟨n,some x,some y⟩]++ax y
 |⟨n,none,r⟩=>[⟨n,none,r⟩]
 |⟨_,some _,none⟩=>[]
theorem sM {b:Nat} {w:World}:∀(e:Ex) (v:Value),aH b w e v→0<(ax e).length
 |⟨n,some x,some y⟩,v,h=>by simp [ax];omega
 |⟨n,none,r⟩,v,h=>by simp [ax]
 |⟨_,some _,none⟩,v,h=>h.elim
def VB (base b:Nat) (w:World) (sv:Value) (es:List Ex):Prop:=
 ∃l:List (Ex×Value),l.map Prod.fst=es∧(∀p∈l,aH b w p.1 p.2)∧w.ownsRow base 157 1 sv es.length (l.map Prod.snd)
theorem Tryz.info157:(Tryz.prog.info? 157).map (fun i=>(i.zero,i.size,i.bytes))=some (some .nilIface,1,16):=by kernel_rfl
def sN (e:Ex):Prop:=∀(b:Nat) (v:Value) (w:World),b<w.heap.size→aH b w e v→(ax e).length≤1000→
 Calls Tryz.prog 156 #[v] w fun e' w'=>∃sv,e'=.returned sv∧Below w.heap.size w w'∧VB w.heap.size b w' sv (ax e)
theorem sO (W:World) (x:Value) (T n:Nat) (hn:n=W.heap.size):∀j u,[x][j]? =some u→(W.alloc (.cells #[x] T)).cell? ((⟨n,0,none⟩:Addr).add j)=some u:=
 World.news_of_block (cs:=#[x]) (fr:=(0,0)) (ai.new' W #[x] T n hn)
theorem pV {w:World} {base:Nat} {e:TypeId} {v:Value} {n:Nat} {xs:List Value} (h:w.ownsRow base e 1 v n xs) (hn:0<n):
  ∃g c,v=.slice (some ⟨g,0,none⟩) n c∧xs.length=n*1∧∀j u,xs[j]? =some u→w.cell? ((⟨g,0,none⟩:Addr).add j)=some u:=by
 obtain ⟨g,c,hv,_⟩:=h.form hn;refine ⟨g,c,hv,h.1,fun j u hu=> ?_⟩;obtain ⟨g',c',hv',hc⟩:=aK h j u hu;rw [hv] at hv';simp only [Value.slice.injEq,Option.some.injEq,Addr.mk.injEq] at hv';obtain ⟨⟨rfl,_⟩,_⟩:=hv';have hadd:(⟨g,0,none⟩:Addr).add j=⟨g,j,none⟩:=by unfold Addr.add;split<;>simp_all
 rw [hadd];exact hc
theorem Jc (x:Value) (w:World):
  Calls Tryz.prog 156 #[.iface 236 x] w fun e' w'=>∃sv,e'=.returned sv∧Below w.heap.size w w'∧w'.ownsRow w.heap.size 157 1 sv 1 [.iface 236 x]:=by
 go_enter Tryz.func156,Tryz.ntmps156;go_wp2_with fail;refine (Jb x w).mono ?_;rintro e w1 ⟨rfl,hb⟩;have B1:=af hb;have sz:=hb.size;clear hb;unfold SV;go_wp2;go_ret;refine ⟨_,rfl,(by with_reducible repeat (first|exact ae B1|refine Below.drew ?_|(refine Below.setCell ?_ ?_ _;rotate_left;exact (by first|omega|(simp;omega)|simp))|(refine Below.alloc ?_ ?_ _;rotate_left;exact (by first|omega|(simp;omega)|simp)))),rfl,.inr ⟨w1.heap.size+1,1,#[.iface 236 x],rfl,by omega,?_,by omega,by unfold maxLen;omega,rfl,rfl⟩⟩;exact ai.new' (w1.alloc _) _ _ _ (by simp)
theorem Ms (x:Value) (w:World):
  Calls Tryz.prog 156 #[.iface 238 x] w fun e' w'=>∃sv,e'=.returned sv∧Below w.heap.size w w'∧w'.ownsRow w.heap.size 157 1 sv 1 [.iface 238 x]:=by
 go_enter Tryz.func156,Tryz.ntmps156;go_wp2_with fail;refine (Mq x w).mono ?_;rintro e w1 ⟨rfl,hb⟩;have B1:=af hb;have sz:=hb.size;clear hb;unfold SV;go_wp2;go_ret;refine ⟨_,rfl,(by with_reducible repeat (first|exact ae B1|refine Below.drew ?_|(refine Below.setCell ?_ ?_ _;rotate_left;exact (by first|omega|(simp;omega)|simp))|(refine Below.alloc ?_ ?_ _;rotate_left;exact (by first|omega|(simp;omega)|simp)))),rfl,.inr ⟨w1.heap.size+1,1,#[.iface 238 x],rfl,by omega,?_,by omega,by unfold maxLen;omega,rfl,rfl⟩⟩;exact ai.new' (w1.alloc _) _ _ _ (by simp)
theorem Mt (x:Value) (w:World):
  Calls Tryz.prog 156 #[.iface 240 x] w fun e' w'=>∃sv,e'=.returned sv∧Below w.heap.size w w'∧w'.ownsRow w.heap.size 157 1 sv 1 [.iface 240 x]:=by
 go_enter Tryz.func156,Tryz.ntmps156;go_wp2_with fail;refine (Mr x w).mono ?_;rintro e w1 ⟨rfl,hb⟩;have B1:=af hb;have sz:=hb.size;clear hb;unfold SV;go_wp2;go_ret;refine ⟨_,rfl,(by with_reducible repeat (first|exact ae B1|refine Below.drew ?_|(refine Below.setCell ?_ ?_ _;rotate_left;exact (by first|omega|(simp;omega)|simp))|(refine Below.alloc ?_ ?_ _;rotate_left;exact (by first|omega|(simp;omega)|simp)))),rfl,.inr ⟨w1.heap.size+1,1,#[.iface 240 x],rfl,by omega,?_,by omega,by unfold maxLen;omega,rfl,rfl⟩⟩;exact ai.new' (w1.alloc _) _ _ _ (by simp)
theorem Dk (p:Nat) (x y:Ex) (hx:sN x) (hy:sN y) (b:Nat) (vx vy:Value) (w:World) (hb:b<w.heap.size) (rx:aH b w x vx) (ry:aH b w y vy) (hn:(ax x).length+1+(ax y).length≤1000):
  Calls Tryz.prog 156 #[.iface 244 (.agg #[.int .i64 p,vx,vy])] w fun e' w'=>∃sv,e'=.returned sv∧Below w.heap.size w w'∧
   ∃lx ly:List (Ex×Value),lx.map Prod.fst=ax x∧ly.map Prod.fst=ax y∧(∀p∈lx,aH b w' p.1 p.2)∧(∀p∈ly,aH b w' p.1 p.2)∧
    w'.ownsRow w.heap.size 157 1 sv ((ax x).length+1+(ax y).length) (lx.map Prod.snd++[.iface 244 (.agg #[.int .i64 p,vx,vy])]++ly.map Prod.snd):=by
 obtain ⟨i0,hi,hz0,hz1,hz2⟩:=info_parts Tryz.info157;have HI:=af hi;have fG:=af hz0;have fH:=af hz1;have fI:=af hz2;clear hi hz0 hz1 hz2;have py:=sM _ _ ry;obtain ⟨ta,va,rfl⟩:=rx.isI;obtain ⟨tb,vb,rfl⟩:=ry.isI;have Hx:=af hx;have Hy:=af hy;have RX:=af rx;have RY:=af ry;clear hx hy rx ry;go_enter Tryz.func156,Tryz.ntmps156;go_wp2_with fail;refine (Dj p ta va tb vb w).mono ?_;rintro e w1 ⟨rfl,hb1⟩;have b1:Below w.heap.size w (w1.alloc (.cells #[.int .i64 p,.iface ta va,.iface tb vb] 242)):=hb1.alloc hb1.size _;have B1:=af b1;have S1:=af (ai.new w1 #[.int .i64 p,.iface ta va,.iface tb vb] 242);have X1:=af ((ae RX).but (But.of_below b1));have Y1:=af ((ae RY).but (But.of_below b1));have Ap:=hb1.size;clear hb1 b1;go_wp2_with fail;refine (ae Hx b _ _ (by simp;omega) (ae X1) (by omega)).mono ?_;rintro e w2 ⟨IK,rfl,hb2,lx,VC,VD,VE⟩;have B2:=af ((ae B1).trans (hb2.mono (ae B1).size));have S2:=(ae S1).below hb2;have ZW:=af S2;obtain ⟨s0,s1,s2⟩:=S2.three;have sl:=S2.lt;have Y2:=af ((ae Y1).but (But.of_below hb2));have ZX:=af VC;have ZY:=af VD;have O2:=af (aO VE (show w.heap.size≤_ by simp;omega));have nQ:=(ae B2).size;clear hb2 S2 VC VD VE;go_wp2_with (at_builtin;go_must (refine wpList_append_lies _ rfl _ _ 301 rfl w.heap.size 157 i0 _ 1 16 Tryz.underlying301 (ae HI) (ae fG) (ae fH) (ae fI) rfl (by decide) IK (ax x).length (lx.map Prod.snd) rfl ?hown ⟨w2.heap.size,0,none⟩ 1 1 [.iface 244 (.agg #[.int .i64 p,.iface ta va,.iface tb vb])] rfl rfl ?hnews ?hone (by decide) ?h63 ?hbytes ?hbase (w2.heap.size+1) ?hH ?hrest))
 case hown=>exact (ae O2).alloc _
 case hnews=>exact sO w2 _ _ _ rfl
 case hone=>intro u hu;simp at hu;subst hu;rfl
 case h63=>unfold maxLen;omega
 case hbytes=>omega
 case hbase=>simp;omega
 case hH=>simp
 case hrest=>
  intro g3 ZZ w3 jC dz Jd Z7;have La:=(ae O2).alloc (.cells #[.iface 244 (.agg #[.int .i64 p,.iface ta va,.iface tb vb])] 157);have b2:Below w2.heap.size w2 (w2.alloc (.cells #[.iface 244 (.agg #[.int .i64 p,.iface ta va,.iface tb vb])] 157)):=(Below.refl _ _).alloc aeg _;have Pb:lX b w2 w3:=fun g cs f hg hh=>(dz.block g (Nat.lt_of_lt_of_le (lt_of_some hh) b2.size) (cO La ((b2.block g (lt_of_some hh)).trans hh) (by decide))).trans (b2.block g (lt_of_some hh))
  have B3:=af (Below.grown ((ae B2).trans (b2.mono nQ)) dz (by simp;omega) (fun k hk=>(La.lt k hk).1));have Lb:=(ae ZW).below b2;have S3:=(dz.block _ Lb.lt (own_ne La Lb (by decide))).trans Lb;have VF:=af (show ai w3 w1.heap.size #[.int .i64 p,.iface ta va,.iface tb vb] 242 from S3);obtain ⟨t0,t1,t2⟩:=(ae VF).three;have tl:=(ae VF).lt;have Y3:=af (aH.frame Pb _ _ (ae Y2));have Z8:=af (show ∀p∈lx,aH b w3 p.1 p.2 from fun p hp=>aH.frame Pb _ _ (ae ZY p hp));have O3:=af jC;have xH:=(ae B3).size;clear La b2 Pb Lb S3 jC dz Jd s0 s1 s2;go_wp2_with fail;refine (ae Hy b _ _ (by omega) (ae Y3) (by omega)).mono ?_;rintro e w4 ⟨sv4,rfl,hb4,ly,VG,VH,VI⟩;obtain ⟨g4,c4,rfl,VJ,VK⟩:=pV VI py;have B4:=af ((ae B3).trans (hb4.mono (ae B3).size));have Z9:=af VG;have VL:=af VH;have LX4:=af (show ∀p∈lx,aH b w4 p.1 p.2 from fun p hp=>(ae Z8 p hp).but (But.of_below hb4));have O4:=af (ak (w':=w4) (ae O3) (fun g cs f _ hh=>hb4.block g (lt_of_some hh)));have NL4:=af VJ;have NW4:=af VK;have nN:=(ae B4).size;clear hb4 VG VH VI VJ VK;go_wp2_with (at_builtin;go_must (refine wpList_append_lies _ rfl _ _ 301 rfl w.heap.size 157 i0 _ 1 16 Tryz.underlying301 (ae HI) (ae fG) (ae fH) (ae fI) rfl (by decide) _ _ _ rfl (ae O4) ⟨g4,0,none⟩ (ax y).length c4 (ly.map Prod.snd) rfl (ae NL4) (ae NW4) ?hone py ?h63 ?hbytes ?hbase w4.heap.size rfl ?hrest))
  case hone=>
   intro u hu;rw [List.mem_map] at hu;obtain ⟨q,hq,rfl⟩:=hu;obtain ⟨t,z,e⟩:=(ae VL q hq).isI;rw [e];rfl
  case h63=>unfold maxLen;omega
  case hbytes=>omega
  case hbase=>omega
  case hrest=>
   intro g5 aD w5 aC aj aP di;have vN:lX b w4 w5:=fun g cs f hg hh=>aj.block g (lt_of_some hh) (cO (ae O4) hh (by decide))
   have B5:=af (Below.grown (ae B4) aj nN (fun k hk=>((ae O4).lt k hk).1));have LX5:=af (show ∀p∈lx,aH b w5 p.1 p.2 from fun p hp=>aH.frame vN _ _ (ae LX4 p hp));have LY5:=af (show ∀p∈ly,aH b w5 p.1 p.2 from fun p hp=>aH.frame vN _ _ (ae VL p hp));have O5:=af aC;clear vN aC aj aP;go_wp2;go_ret;exact ⟨.slice (some ⟨g5,0,none⟩) ((ax x).length+1+(ax y).length) aD,rfl,ae B5,lx,ly,ae ZX,ae Z9,ae LX5,ae LY5,by rw [List.append_assoc];exact ae O5⟩
theorem Je (p:Nat) (x y:Ex) (hx:sN x) (hy:sN y) (b:Nat) (vx vy:Value) (w:World) (hb:b<w.heap.size) (rx:aH b w x vx) (ry:aH b w y vy) (hn:(ax x).length+1+(ax y).length≤1000):
  Calls Tryz.prog 156 #[.iface 245 (.agg #[.int .i64 p,vx,vy])] w fun e' w'=>∃sv,e'=.returned sv∧Below w.heap.size w w'∧
   ∃lx ly:List (Ex×Value),lx.map Prod.fst=ax x∧ly.map Prod.fst=ax y∧(∀p∈lx,aH b w' p.1 p.2)∧(∀p∈ly,aH b w' p.1 p.2)∧
    w'.ownsRow w.heap.size 157 1 sv ((ax x).length+1+(ax y).length) (lx.map Prod.snd++[.iface 245 (.agg #[.int .i64 p,vx,vy])]++ly.map Prod.snd):=by
 obtain ⟨i0,hi,hz0,hz1,hz2⟩:=info_parts Tryz.info157;have HI:=af hi;have fG:=af hz0;have fH:=af hz1;have fI:=af hz2;clear hi hz0 hz1 hz2;have py:=sM _ _ ry;obtain ⟨ta,va,rfl⟩:=rx.isI;obtain ⟨tb,vb,rfl⟩:=ry.isI;have Hx:=af hx;have Hy:=af hy;have RX:=af rx;have RY:=af ry;clear hx hy rx ry;go_enter Tryz.func156,Tryz.ntmps156;go_wp2_with fail;refine (I9 p ta va tb vb w).mono ?_;rintro e w1 ⟨rfl,hb1⟩;have b1:Below w.heap.size w (w1.alloc (.cells #[.int .i64 p,.iface ta va,.iface tb vb] 242)):=hb1.alloc hb1.size _;have B1:=af b1;have S1:=af (ai.new w1 #[.int .i64 p,.iface ta va,.iface tb vb] 242);have X1:=af ((ae RX).but (But.of_below b1));have Y1:=af ((ae RY).but (But.of_below b1));have Ap:=hb1.size;clear hb1 b1;go_wp2_with fail;refine (ae Hx b _ _ (by simp;omega) (ae X1) (by omega)).mono ?_;rintro e w2 ⟨IK,rfl,hb2,lx,VC,VD,VE⟩;have B2:=af ((ae B1).trans (hb2.mono (ae B1).size));have S2:=(ae S1).below hb2;have ZW:=af S2;obtain ⟨s0,s1,s2⟩:=S2.three;have sl:=S2.lt;have Y2:=af ((ae Y1).but (But.of_below hb2));have ZX:=af VC;have ZY:=af VD;have O2:=af (aO VE (show w.heap.size≤_ by simp;omega));have nQ:=(ae B2).size;clear hb2 S2 VC VD VE;go_wp2_with (at_builtin;go_must (refine wpList_append_lies _ rfl _ _ 301 rfl w.heap.size 157 i0 _ 1 16 Tryz.underlying301 (ae HI) (ae fG) (ae fH) (ae fI) rfl (by decide) IK (ax x).length (lx.map Prod.snd) rfl ?hown ⟨w2.heap.size,0,none⟩ 1 1 [.iface 245 (.agg #[.int .i64 p,.iface ta va,.iface tb vb])] rfl rfl ?hnews ?hone (by decide) ?h63 ?hbytes ?hbase (w2.heap.size+1) ?hH ?hrest))
 case hown=>exact (ae O2).alloc _
 case hnews=>exact sO w2 _ _ _ rfl
 case hone=>intro u hu;simp at hu;subst hu;rfl
 case h63=>unfold maxLen;omega
 case hbytes=>omega
 case hbase=>simp;omega
 case hH=>simp
 case hrest=>
  intro g3 ZZ w3 jC dz Jd Z7;have La:=(ae O2).alloc (.cells #[.iface 245 (.agg #[.int .i64 p,.iface ta va,.iface tb vb])] 157);have b2:Below w2.heap.size w2 (w2.alloc (.cells #[.iface 245 (.agg #[.int .i64 p,.iface ta va,.iface tb vb])] 157)):=(Below.refl _ _).alloc aeg _;have Pb:lX b w2 w3:=fun g cs f hg hh=>(dz.block g (Nat.lt_of_lt_of_le (lt_of_some hh) b2.size) (cO La ((b2.block g (lt_of_some hh)).trans hh) (by decide))).trans (b2.block g (lt_of_some hh))
  have B3:=af (Below.grown ((ae B2).trans (b2.mono nQ)) dz (by simp;omega) (fun k hk=>(La.lt k hk).1));have Lb:=(ae ZW).below b2;have S3:=(dz.block _ Lb.lt (own_ne La Lb (by decide))).trans Lb;have VF:=af (show ai w3 w1.heap.size #[.int .i64 p,.iface ta va,.iface tb vb] 242 from S3);obtain ⟨t0,t1,t2⟩:=(ae VF).three;have tl:=(ae VF).lt;have Y3:=af (aH.frame Pb _ _ (ae Y2));have Z8:=af (show ∀p∈lx,aH b w3 p.1 p.2 from fun p hp=>aH.frame Pb _ _ (ae ZY p hp));have O3:=af jC;have xH:=(ae B3).size;clear La b2 Pb Lb S3 jC dz Jd s0 s1 s2;go_wp2_with fail;refine (ae Hy b _ _ (by omega) (ae Y3) (by omega)).mono ?_;rintro e w4 ⟨sv4,rfl,hb4,ly,VG,VH,VI⟩;obtain ⟨g4,c4,rfl,VJ,VK⟩:=pV VI py;have B4:=af ((ae B3).trans (hb4.mono (ae B3).size));have Z9:=af VG;have VL:=af VH;have LX4:=af (show ∀p∈lx,aH b w4 p.1 p.2 from fun p hp=>(ae Z8 p hp).but (But.of_below hb4));have O4:=af (ak (w':=w4) (ae O3) (fun g cs f _ hh=>hb4.block g (lt_of_some hh)));have NL4:=af VJ;have NW4:=af VK;have nN:=(ae B4).size;clear hb4 VG VH VI VJ VK;go_wp2_with (at_builtin;go_must (refine wpList_append_lies _ rfl _ _ 301 rfl w.heap.size 157 i0 _ 1 16 Tryz.underlying301 (ae HI) (ae fG) (ae fH) (ae fI) rfl (by decide) _ _ _ rfl (ae O4) ⟨g4,0,none⟩ (ax y).length c4 (ly.map Prod.snd) rfl (ae NL4) (ae NW4) ?hone py ?h63 ?hbytes ?hbase w4.heap.size rfl ?hrest))
  case hone=>
   intro u hu;rw [List.mem_map] at hu;obtain ⟨q,hq,rfl⟩:=hu;obtain ⟨t,z,e⟩:=(ae VL q hq).isI;rw [e];rfl
  case h63=>unfold maxLen;omega
  case hbytes=>omega
  case hbase=>omega
  case hrest=>
   intro g5 aD w5 aC aj aP di;have vN:lX b w4 w5:=fun g cs f hg hh=>aj.block g (lt_of_some hh) (cO (ae O4) hh (by decide))
   have B5:=af (Below.grown (ae B4) aj nN (fun k hk=>((ae O4).lt k hk).1));have LX5:=af (show ∀p∈lx,aH b w5 p.1 p.2 from fun p hp=>aH.frame vN _ _ (ae LX4 p hp));have LY5:=af (show ∀p∈ly,aH b w5 p.1 p.2 from fun p hp=>aH.frame vN _ _ (ae VL p hp));have O5:=af aC;clear vN aC aj aP;go_wp2;go_ret;exact ⟨.slice (some ⟨g5,0,none⟩) ((ax x).length+1+(ax y).length) aD,rfl,ae B5,lx,ly,ae ZX,ae Z9,ae LX5,ae LY5,by rw [List.append_assoc];exact ae O5⟩
theorem Jf (p:Nat) (x y:Ex) (hx:sN x) (hy:sN y) (b:Nat) (vx vy:Value) (w:World) (hb:b<w.heap.size) (rx:aH b w x vx) (ry:aH b w y vy) (hn:(ax x).length+1+(ax y).length≤1000):
  Calls Tryz.prog 156 #[.iface 246 (.agg #[.int .i64 p,vx,vy])] w fun e' w'=>∃sv,e'=.returned sv∧Below w.heap.size w w'∧
   ∃lx ly:List (Ex×Value),lx.map Prod.fst=ax x∧ly.map Prod.fst=ax y∧(∀p∈lx,aH b w' p.1 p.2)∧(∀p∈ly,aH b w' p.1 p.2)∧
    w'.ownsRow w.heap.size 157 1 sv ((ax x).length+1+(ax y).length) (lx.map Prod.snd++[.iface 246 (.agg #[.int .i64 p,vx,vy])]++ly.map Prod.snd):=by
 obtain ⟨i0,hi,hz0,hz1,hz2⟩:=info_parts Tryz.info157;have HI:=af hi;have fG:=af hz0;have fH:=af hz1;have fI:=af hz2;clear hi hz0 hz1 hz2;have py:=sM _ _ ry;obtain ⟨ta,va,rfl⟩:=rx.isI;obtain ⟨tb,vb,rfl⟩:=ry.isI;have Hx:=af hx;have Hy:=af hy;have RX:=af rx;have RY:=af ry;clear hx hy rx ry;go_enter Tryz.func156,Tryz.ntmps156;go_wp2_with fail;refine (Ja p ta va tb vb w).mono ?_;rintro e w1 ⟨rfl,hb1⟩;have b1:Below w.heap.size w (w1.alloc (.cells #[.int .i64 p,.iface ta va,.iface tb vb] 242)):=hb1.alloc hb1.size _;have B1:=af b1;have S1:=af (ai.new w1 #[.int .i64 p,.iface ta va,.iface tb vb] 242);have X1:=af ((ae RX).but (But.of_below b1));have Y1:=af ((ae RY).but (But.of_below b1));have Ap:=hb1.size;clear hb1 b1;go_wp2_with fail;refine (ae Hx b _ _ (by simp;omega) (ae X1) (by omega)).mono ?_;rintro e w2 ⟨IK,rfl,hb2,lx,VC,VD,VE⟩;have B2:=af ((ae B1).trans (hb2.mono (ae B1).size));have S2:=(ae S1).below hb2;have ZW:=af S2;obtain ⟨s0,s1,s2⟩:=S2.three;have sl:=S2.lt;have Y2:=af ((ae Y1).but (But.of_below hb2));have ZX:=af VC;have ZY:=af VD;have O2:=af (aO VE (show w.heap.size≤_ by simp;omega));have nQ:=(ae B2).size;clear hb2 S2 VC VD VE;go_wp2_with (at_builtin;go_must (refine wpList_append_lies _ rfl _ _ 301 rfl w.heap.size 157 i0 _ 1 16 Tryz.underlying301 (ae HI) (ae fG) (ae fH) (ae fI) rfl (by decide) IK (ax x).length (lx.map Prod.snd) rfl ?hown ⟨w2.heap.size,0,none⟩ 1 1 [.iface 246 (.agg #[.int .i64 p,.iface ta va,.iface tb vb])] rfl rfl ?hnews ?hone (by decide) ?h63 ?hbytes ?hbase (w2.heap.size+1) ?hH ?hrest))
 case hown=>exact (ae O2).alloc _
 case hnews=>exact sO w2 _ _ _ rfl
 case hone=>intro u hu;simp at hu;subst hu;rfl
 case h63=>unfold maxLen;omega
 case hbytes=>omega
 case hbase=>simp;omega
 case hH=>simp
 case hrest=>
  intro g3 ZZ w3 jC dz Jd Z7;have La:=(ae O2).alloc (.cells #[.iface 246 (.agg #[.int .i64 p,.iface ta va,.iface tb vb])] 157);have b2:Below w2.heap.size w2 (w2.alloc (.cells #[.iface 246 (.agg #[.int .i64 p,.iface ta va,.iface tb vb])] 157)):=(Below.refl _ _).alloc aeg _;have Pb:lX b w2 w3:=fun g cs f hg hh=>(dz.block g (Nat.lt_of_lt_of_le (lt_of_some hh) b2.size) (cO La ((b2.block g (lt_of_some hh)).trans hh) (by decide))).trans (b2.block g (lt_of_some hh))
  have B3:=af (Below.grown ((ae B2).trans (b2.mono nQ)) dz (by simp;omega) (fun k hk=>(La.lt k hk).1));have Lb:=(ae ZW).below b2;have S3:=(dz.block _ Lb.lt (own_ne La Lb (by decide))).trans Lb;have VF:=af (show ai w3 w1.heap.size #[.int .i64 p,.iface ta va,.iface tb vb] 242 from S3);obtain ⟨t0,t1,t2⟩:=(ae VF).three;have tl:=(ae VF).lt;have Y3:=af (aH.frame Pb _ _ (ae Y2));have Z8:=af (show ∀p∈lx,aH b w3 p.1 p.2 from fun p hp=>aH.frame Pb _ _ (ae ZY p hp));have O3:=af jC;have xH:=(ae B3).size;clear La b2 Pb Lb S3 jC dz Jd s0 s1 s2;go_wp2_with fail;refine (ae Hy b _ _ (by omega) (ae Y3) (by omega)).mono ?_;rintro e w4 ⟨sv4,rfl,hb4,ly,VG,VH,VI⟩;obtain ⟨g4,c4,rfl,VJ,VK⟩:=pV VI py;have B4:=af ((ae B3).trans (hb4.mono (ae B3).size));have Z9:=af VG;have VL:=af VH;have LX4:=af (show ∀p∈lx,aH b w4 p.1 p.2 from fun p hp=>(ae Z8 p hp).but (But.of_below hb4));have O4:=af (ak (w':=w4) (ae O3) (fun g cs f _ hh=>hb4.block g (lt_of_some hh)));have NL4:=af VJ;have NW4:=af VK;have nN:=(ae B4).size;clear hb4 VG VH VI VJ VK;go_wp2_with (at_builtin;go_must (refine wpList_append_lies _ rfl _ _ 301 rfl w.heap.size 157 i0 _ 1 16 Tryz.underlying301 (ae HI) (ae fG) (ae fH) (ae fI) rfl (by decide) _ _ _ rfl (ae O4) ⟨g4,0,none⟩ (ax y).length c4 (ly.map Prod.snd) rfl (ae NL4) (ae NW4) ?hone py ?h63 ?hbytes ?hbase w4.heap.size rfl ?hrest))
  case hone=>
   intro u hu;rw [List.mem_map] at hu;obtain ⟨q,hq,rfl⟩:=hu;obtain ⟨t,z,e⟩:=(ae VL q hq).isI;rw [e];rfl
  case h63=>unfold maxLen;omega
  case hbytes=>omega
  case hbase=>omega
  case hrest=>
   intro g5 aD w5 aC aj aP di;have vN:lX b w4 w5:=fun g cs f hg hh=>aj.block g (lt_of_some hh) (cO (ae O4) hh (by decide))
   have B5:=af (Below.grown (ae B4) aj nN (fun k hk=>((ae O4).lt k hk).1));have LX5:=af (show ∀p∈lx,aH b w5 p.1 p.2 from fun p hp=>aH.frame vN _ _ (ae LX4 p hp));have LY5:=af (show ∀p∈ly,aH b w5 p.1 p.2 from fun p hp=>aH.frame vN _ _ (ae VL p hp));have O5:=af aC;clear vN aC aj aP;go_wp2;go_ret;exact ⟨.slice (some ⟨g5,0,none⟩) ((ax x).length+1+(ax y).length) aD,rfl,ae B5,lx,ly,ae ZX,ae Z9,ae LX5,ae LY5,by rw [List.append_assoc];exact ae O5⟩
theorem qQ (e:Ex):sN e:=by
 induction e using Ex.ind with
 |h0 n r=>
  intro b v w hb h hn;have key:∀{v:Value},(Calls Tryz.prog 156 #[v] w fun e' w'=>∃sv,e'=.returned sv∧Below w.heap.size w w'∧w'.ownsRow w.heap.size 157 1 sv 1 [v])→aH b w ⟨n,none,r⟩ v→Calls Tryz.prog 156 #[v] w fun e' w'=>∃sv,e'=.returned sv∧Below w.heap.size w w'∧VB w.heap.size b w' sv (ax ⟨n,none,r⟩):=by
   intro v hc hr;refine hc.mono ?_;rintro e' w' ⟨sv,h1,h2,h3⟩;exact ⟨sv,h1,h2,[(⟨n,none,r⟩,v)],rfl,fun p hp=>by simp at hp;subst hp;exact hr.but (But.of_below h2),h3⟩
  have h':=h
  rcases h with ⟨h1,sv,rfl,h3⟩|⟨h1,rfl⟩|⟨h1,rfl⟩
  ·exact key (Jc _ w) h'
  ·exact key (Ms _ w) h'
  ·exact key (Mt _ w) h'
 |h1 n a=>intro b v w hb h hn;exact h.elim
 |h2 n x y hx hy=>
  intro b v w hb h hn;obtain ⟨vx,vy,rfl,rx,ry⟩:=h;have hn':(ax x).length+1+(ax y).length≤1000:=by simp [ax] at hn;omega
  have key:(Calls Tryz.prog 156 #[.iface (jl n.kind) (.agg #[.int .i64 n.place,vx,vy])] w fun e' w'=>∃sv,e'=.returned sv∧Below w.heap.size w w'∧
   ∃lx ly:List (Ex×Value),lx.map Prod.fst=ax x∧ly.map Prod.fst=ax y∧(∀p∈lx,aH b w' p.1 p.2)∧(∀p∈ly,aH b w' p.1 p.2)∧
    w'.ownsRow w.heap.size 157 1 sv ((ax x).length+1+(ax y).length) (lx.map Prod.snd++[.iface (jl n.kind) (.agg #[.int .i64 n.place,vx,vy])]++ly.map Prod.snd)):=by
   unfold jl
   split
   ·exact Dk _ x y hx hy b vx vy w hb rx ry hn'
   ·split
    ·exact Je _ x y hx hy b vx vy w hb rx ry hn'
    ·exact Jf _ x y hx hy b vx vy w hb rx ry hn'
  refine key.mono ?_;rintro e' w' ⟨sv,h1,h2,lx,ly,h3,h4,h5,h6,h7⟩;refine ⟨sv,h1,h2,lx++[(⟨n,some x,some y⟩,.iface (jl n.kind) (.agg #[.int .i64 n.place,vx,vy]))]++ly,?_,?_,?_⟩
  ·simp [ax,h3,h4]
  ·intro p hp;simp only [List.mem_append,List.mem_singleton] at hp
   rcases hp with (hp|rfl)|hp
   ·exact h5 p hp
   ·exact ⟨vx,vy,rfl,rx.but (But.of_below h2),ry.but (But.of_below h2)⟩
   ·exact h6 p hp
  ·have e1:(ax ⟨n,some x,some y⟩).length=(ax x).length+1+(ax y).length:=by simp [ax];omega
   rw [e1]
   simpa using h7
theorem qR {w:World} {base:Nat} {e:TypeId} {size:Nat} {v:Value} {n:Nat} {xs:List Value} (h:w.ownsRow base e size v n xs) (hn:0<n):
  ∃g c,v=.slice (some ⟨g,0,none⟩) n c∧xs.length=n*size∧∀j u,xs[j]? =some u→w.cell? ((⟨g,0,none⟩:Addr).add j)=some u:=by
 obtain ⟨g,c,hv,_⟩:=h.form hn;refine ⟨g,c,hv,h.1,fun j u hu=> ?_⟩;obtain ⟨g',c',hv',hc⟩:=aK h j u hu;rw [hv] at hv';simp only [Value.slice.injEq,Option.some.injEq,Addr.mk.injEq] at hv';obtain ⟨⟨rfl,_⟩,_⟩:=hv';have hadd:(⟨g,0,none⟩:Addr).add j=⟨g,j,none⟩:=by unfold Addr.add;split<;>simp_all
 rw [hadd];exact hc
def fw (e:Ex):List Gr:=match e.l with
 |none=>if e.nd.kind=0 then e.nd.gs else []
 |some _=>[]
def WF (e:Ex):Prop:=∀p∈ax e,p.l=none→p.nd.kind=0→p.nd.gs≠ []
def bH (e:Ex):List Gr:=(ax e).flatMap fw
def GK (e:Ex) (k:Nat):List Gr:=((ax e).take k).flatMap fw
theorem Dl {e:Ex} {k:Nat} {p:Ex} {gs:List Gr} (h:fw p=gs) (hk:(ax e)[k]? =some p):GK e (k+1)=GK e k++gs:=by
 unfold GK;have hlt:k<(ax e).length:=by
  rcases Nat.lt_or_ge k (ax e).length with h|h
  ·exact h
  ·rw [List.getElem?_eq_none h] at hk;cases hk
 rw [List.take_succ_eq_append_getElem hlt,List.flatMap_append];rw [aeh hlt] at hk;simp only [Option.some.injEq] at hk;simp [hk,h]
theorem Dm {e:Ex} {k:Nat} {p:Ex} (h:fw p=[]) (hk:(ax e)[k]? =some p):GK e (k+1)=GK e k:=by
 rw [Dl h hk];simp
theorem gk_le (e:Ex) (k:Nat):(GK e k).length≤(bH e).length:=by
 unfold GK bH
 conv=>rhs;rw [←List.take_append_drop k (ax e),List.flatMap_append,List.length_append]
 omega
theorem WL (l:List Gr):∀u∈bG l,u.oneCell'=true:=by
 intro u hu;unfold bG at hu;rw [List.mem_flatMap] at hu;obtain ⟨g,_,hu⟩:=hu;exact I1 g u hu
theorem yD (a c:List Gr):bG (a++c)=bG a++bG c:=by simp [bG]
theorem sP (p0:Nat) (n0:aei) (b:Nat) (e:Ex) (v:Value) (w:World) (hb:b<w.heap.size) (h:aH b w e v) (hp:(ax e).length≤1000) (hg:(bH e).length≤1000) (hwf:WF e):
  Calls Tryz.prog 106 #[.agg #[.int .i64 p0,.string n0,v]] w fun e' w'=>∃sv,e'=.returned sv∧Below w.heap.size w w'∧w'.ownsRow w.heap.size 207 5 sv (bH e).length (bG (bH e)):=by
 obtain ⟨i0,hi,hz0,hz1,hz2⟩:=info_parts Tryz.info207;have HI:=af hi;have fG:=af hz0;have fH:=af hz1;have fI:=af hz2;clear hi hz0 hz1 hz2;obtain ⟨tv,xv,rfl⟩:=h.isI;have H:=af h;have WM:=af hwf;clear h hwf;go_enter Tryz.func106,Tryz.ntmps106;go_wp2_with fail;refine (qQ e b _ _ (by simp;omega) ((ae H).but ((But.refl b w).alloc _)) hp).mono ?_;rintro e1 w2 ⟨IK,rfl,hb2,l,l1,l2,l3⟩;obtain ⟨oa,oc,rfl⟩:=au l3;have ll:l.length=(ax e).length:=by rw [←l1];simp
 have B2:=af (((Below.refl _ w).alloc aeg (.cells #[.int .i64 p0,.string n0,.iface tv xv] 159)).trans (hb2.mono (by simp)));have L1:=af l1;have L2:=af l2;have L3:=af l3;have nQ:=(ae B2).size;clear hb2 l1 l2 l3;have f0:=dU;have f1:=fe;have f2:=fo;have f3:=cZ;have f4:=dV;have f5:=dW;go_wp2_with fail
 go_loopw [3,11] (fun u3 u11 wr=>∃(k:Nat) (sv:Value),k≤(ax e).length∧u11=.int .i64 k∧u3=sv∧Below w2.heap.size w2 wr∧wr.ownsRow w2.heap.size 207 5 sv (GK e k).length (bG (GK e k))) (fun _ u _=>(ax e).length-(intOf u).toNat)
 case atStart=>exact ⟨0,_,by omega,rfl,rfl,Below.refl _ _,World.ownsRow_nil _ _ _ _⟩
 case round=>
  obtain ⟨k,sv,hk,rfl,rfl,hbr,ho⟩:=hrel;obtain ⟨sa,sc,rfl⟩:=au ho;have HB:=af hbr;have HO:=af ho
  by_cases hlt:k<(ax e).length
  ·have hkl:k<l.length:=by omega
   obtain ⟨g1,c1,e1,kc⟩:=aK (ak (w':=wr) (ae L3) (fun g cs f _ hh=>hbr.block g (lt_of_some hh))) k l[k].2 (by simp [aeh hkl]);simp only [Value.slice.injEq] at e1;obtain ⟨rfl,_,rfl⟩:=e1;have dF:=(ae L2 l[k] (List.getElem_mem hkl)).but (b:=b) (But.of_below hbr);have hk':(ax e)[k]? =some l[k].1:=by rw [←ae L1];simp [aeh hkl]
   generalize l[k]=q at*;obtain ⟨q1,qv⟩:=q;simp only at kc dF hk';have hkn:(k:Int)<((ax e).length:Int):=by omega
   clear hbr ho
   match q1,dF,hk' with
   |⟨nq,some xq,some yq⟩,⟨vx,vy,hv,rx,ry⟩,hk'=>
    have he':fw ⟨nq,some xq,some yq⟩=[]:=rfl;subst hv;clear rx ry;have ht:jl nq.kind=244∨jl nq.kind=245∨jl nq.kind=246:=by
     unfold jl
     split
     ·exact .inl rfl
     ·split
      ·exact .inr (.inl rfl)
      ·exact .inr (.inr rfl)
    rcases ht with ht|ht|ht
    all_goals
     rw [ht] at kc;clear ht;go_wp2;go_roundw
     case rel=>exact ⟨k+1,.slice sa (GK e k).length sc,by omega,by go_num,rfl,ae HB,by rw [Dm he' hk'];exact ae HO⟩
     case measure=>simp [intOf];omega
   |⟨nq,none,rq⟩,dF,hk'=>
    rcases dF with ⟨l7,gv,hv,hrow⟩|⟨l7,hv⟩|⟨l7,hv⟩
    ·have he':fw ⟨nq,none,rq⟩=nq.gs:=by simp [fw,l7]
     have hne:0<nq.gs.length:=List.length_pos_iff.2 (ae WM _ (List.mem_of_getElem? hk') rfl l7);have hle:=gk_le e (k+1);rw [Dl he' hk',List.length_append] at hle;obtain ⟨gg,gc,rfl,nl,nw⟩:=qR hrow hne;subst hv;have NL:=af nl;have NW:=af nw;have ggl:gg<wr.heap.size:=by
      obtain ⟨g',c',e1,h1⟩:=hrow.form hne;simp only [Value.slice.injEq,Option.some.injEq,Addr.mk.injEq] at e1;obtain ⟨⟨rfl,_⟩,_⟩:=e1;exact h1.2
     have Dn:=(ae HB).size;clear nl nw hrow l7;go_wp2_with (at_builtin;go_must (refine wpList_append_lies _ rfl _ _ 211 rfl w2.heap.size 207 i0 _ 5 56 Tryz.underlying211 (ae HI) (ae fG) (ae fH) (ae fI) rfl (by decide) _ _ _ rfl ((ae HO).alloc _) ⟨gg,0,none⟩ nq.gs.length gc (bG nq.gs) rfl (ae NL) ?hnews (WL _) hne ?h63 ?hbytes ?hbase (wr.heap.size+1) ?hH ?hrest))
     case hnews=>
      intro j u hu;have hadd:(⟨gg,0,none⟩:Addr).add j=⟨gg,j,none⟩:=by unfold Addr.add;split<;>simp_all
      have:=ae NW j u hu;rw [hadd] at this ⊢;rw [Below.cell ((Below.refl wr.heap.size wr).alloc aeg _) ggl];exact this
     case h63=>unfold maxLen;omega
     case hbytes=>omega
     case hbase=>simp;omega
     case hH=>simp
     case hrest=>
      intro g5 aD w5 aC aj aP di;have O1:=(ae HO).alloc (.cells #[.int .i64 nq.place,.slice (some ⟨gg,0,none⟩) nq.gs.length gc] 236);have B5:=af (Below.grown ((ae HB).alloc Dn (.cells #[.int .i64 nq.place,.slice (some ⟨gg,0,none⟩) nq.gs.length gc] 236)) aj (by simp;omega) (fun k hk=>(O1.lt k hk).1));have O5:=af aC;clear aC aj aP O1;go_wp2;go_roundw
      case rel=>exact ⟨k+1,.slice (some ⟨g5,0,none⟩) ((GK e k).length+nq.gs.length) aD,by omega,by go_num,rfl,ae B5,by rw [Dl he' hk',List.length_append,yD];exact ae O5⟩
      case measure=>simp [intOf];omega
    ·have he':fw ⟨nq,none,rq⟩=[]:=by simp [fw,l7]
     subst hv;clear l7;go_wp2;go_roundw
     case rel=>exact ⟨k+1,.slice sa (GK e k).length sc,by omega,by go_num,rfl,ae HB,by rw [Dm he' hk'];exact ae HO⟩
     case measure=>simp [intOf];omega
    ·have he':fw ⟨nq,none,rq⟩=[]:=by simp [fw,l7]
     subst hv;clear l7;go_wp2;go_roundw
     case rel=>exact ⟨k+1,.slice sa (GK e k).length sc,by omega,by go_num,rfl,ae HB,by rw [Dm he' hk'];exact ae HO⟩
     case measure=>simp [intOf];omega
   |⟨nq,some xq,none⟩,dF,hk'=>exact dF.elim
  ·have hall:GK e k=bH e:=by
    unfold GK bH;rw [List.take_of_length_le (by omega)]
   have HO2:Hid (wr.ownsRow w.heap.size 207 5 (.slice sa (GK e k).length sc) (bH e).length (bG (bH e))):=by
    have:=aO (ae HO) nQ;rw [hall] at this ⊢;exact this
   clear hall;have hkn:¬((k:Int)<((ax e).length:Int)):=by omega
   clear hbr ho;go_wp2;go_ret;exact ⟨.slice sa (GK e k).length sc,rfl,(ae B2).trans ((ae HB).mono nQ),ae HO2⟩
def t3 (p:Ty×Value):E3:=(p.1.place,p.1.name,p.2)
def r3 (p:Rl×Value):E3:=(p.1.place,p.1.name,p.2)
def dn (ts:List Ty) (x:aei):Option Ty:=ts.find? fun t=>eqs t.name x
def cu (t:Ty) (x:aei):Option Rl:=t.rels.find? fun r=>eqs r.name x
theorem c3_t3 (l:List (Ty×Value)):(l.map t3).flatMap c3=l.flatMap mW:=by rw [List.flatMap_map];rfl
theorem c3_r3 (l:List (Rl×Value)):(l.map r3).flatMap c3=l.flatMap mV:=by rw [List.flatMap_map];rfl
theorem yE (x:aei) (l:List (Ty×Value)):jB x (l.map t3)=(l.find? fun p=>eqs p.1.name x).map t3:=by
 unfold jB;rw [List.find?_map];rfl
theorem yF (x:aei) (l:List (Rl×Value)):jB x (l.map r3)=(l.find? fun p=>eqs p.1.name x).map r3:=by
 unfold jB;rw [List.find?_map];rfl
theorem sQ (x:aei) (l:List (Ty×Value)):dn (l.map Prod.fst) x=(l.find? fun p=>eqs p.1.name x).map Prod.fst:=by
 unfold dn;rw [List.find?_map];rfl
structure RC (b:Nat) (w:World) (sv:Value) (rs:List Rl) (rl:List (Rl×Value)):Prop where
 fst:rl.map Prod.fst=rs
 row:jO w 159 sv (rl.map r3)
 ex:∀p∈rl,aH b w p.1.body p.2
 len:rs.length≤1000
 okp:∀r∈rs,(ax r.body).length≤1000
 okg:∀r∈rs,(bH r.body).length≤1000
 wf:∀r∈rs,WF r.body
structure MC (b:Nat) (w:World) (sv:Value) (ts:List Ty) (tl:List (Ty×Value)):Prop where
 fst:tl.map Prod.fst=ts
 row:jO w 110 sv (tl.map t3)
 rels:∀p∈tl,∃rl,RC b w p.2 p.1.rels rl
 len:ts.length≤1000
 blt:b<w.heap.size
theorem RC.below {b:Nat} {w w':World} {sv:Value} {rs:List Rl} {rl:List (Rl×Value)} (h:RC b w sv rs rl) (k:Below w.heap.size w w'):RC b w' sv rs rl:=
 ⟨h.fst,h.row.below k,fun p hp=>(h.ex p hp).but (But.of_below k),h.len,h.okp,h.okg,h.wf⟩
theorem MC.below {b:Nat} {w w':World} {sv:Value} {ts:List Ty} {tl:List (Ty×Value)} (h:MC b w sv ts tl) (k:Below w.heap.size w w'):MC b w' sv ts tl:=
 ⟨h.fst,h.row.below k,fun p hp=>by obtain ⟨rl,hr⟩:=h.rels p hp;exact ⟨rl,hr.below k⟩,h.len,Nat.lt_of_lt_of_le h.blt k.size⟩
theorem RC.form {b:Nat} {w:World} {sv:Value} {rs:List Rl} {rl:List (Rl×Value)} (h:RC b w sv rs rl):∃a n c,sv=.slice a n c:=by
 obtain ⟨a,c,e⟩:=au h.row;exact ⟨a,_,c,e⟩
theorem MC.form {b:Nat} {w:World} {sv:Value} {ts:List Ty} {tl:List (Ty×Value)} (h:MC b w sv ts tl):∃a n c,sv=.slice a n c:=by
 obtain ⟨a,c,e⟩:=au h.row;exact ⟨a,_,c,e⟩
theorem RC.llen {b:Nat} {w:World} {sv:Value} {rs:List Rl} {rl:List (Rl×Value)} (h:RC b w sv rs rl):(rl.map r3).length≤1000:=by
 have:=h.len;rw [←h.fst] at this;simpa using this
theorem MC.llen {b:Nat} {w:World} {sv:Value} {ts:List Ty} {tl:List (Ty×Value)} (h:MC b w sv ts tl):(tl.map t3).length≤1000:=by
 have:=h.len;rw [←h.fst] at this;simpa using this
theorem yG (b:Nat) (sv:Value) (ts:List Ty) (tl:List (Ty×Value)) (x:aei) (w:World) (h:MC b w sv ts tl) (hf:dn ts x=none):
  Calls Tryz.prog 57 #[.agg #[sv],.string x] w fun e w'=>e=.returned (.tuple #[.agg #[.int .i64 0,.string ⟨#[]⟩,.slice none 0 0],bn 5])∧Below w.heap.size w w':=by
 refine Bj sv (tl.map t3) x w h.llen h.row ?_;rw [←h.fst,sQ] at hf;rw [yE]
 cases hq:tl.find? (fun p=>eqs p.1.name x) with
 |none=>rfl
 |some y=>rw [hq] at hf;cases hf
theorem vO (b:Nat) (sv:Value) (ts:List Ty) (tl:List (Ty×Value)) (x:aei) (w:World) (h:MC b w sv ts tl) (t:Ty) (hf:dn ts x=some t):
  ∃va vn vc rl,RC b w (.slice va vn vc) t.rels rl∧Calls Tryz.prog 57 #[.agg #[sv],.string x] w fun e w'=>e=.returned (.tuple #[.agg #[.int .i64 t.place,.string t.name,.slice va vn vc],.nilIface])∧Below w.heap.size w w':=by
 rw [←h.fst,sQ] at hf
 cases hq:tl.find? (fun p=>eqs p.1.name x) with
 |none=>rw [hq] at hf;cases hf
 |some y=>
  rw [hq] at hf;simp only [Option.map_some,Option.some.injEq] at hf;subst hf;obtain ⟨rl,hr⟩:=h.rels y (List.mem_of_find?_eq_some hq);obtain ⟨a,n,c,e⟩:=hr.form;have hr':=hr;rw [e] at hr';refine ⟨a,n,c,rl,hr',?_⟩;have:=sJ sv (tl.map t3) x w h.llen h.row (t3 y) (by rw [yE,hq];rfl) ⟨a,n,c,e⟩;have e2:(t3 y).2.2=.slice a n c:=e;rw [e2] at this;exact this
theorem l8 (b pp:Nat) (nn:aei) (sv:Value) (t:Ty) (rl:List (Rl×Value)) (x:aei) (w:World) (h:RC b w sv t.rels rl) (hf:cu t x=none):
  Calls Tryz.prog 145 #[.agg #[.int .i64 pp,.string nn,sv],.string x] w fun e w'=>e=.returned (.tuple #[.agg #[.int .i64 0,.string ⟨#[]⟩,.nilIface],bn 5])∧Below w.heap.size w w':=by
 refine Bl pp nn sv (rl.map r3) x w h.llen h.row ?_;unfold cu at hf;rw [←h.fst,List.find?_map] at hf;rw [yF]
 cases hq:rl.find? (fun p=>eqs p.1.name x) with
 |none=>rfl
 |some y=>rw [show ((fun r:Rl=>eqs r.name x) ∘ Prod.fst)=(fun p:Rl×Value=>eqs p.1.name x) from rfl,hq] at hf;cases hf
theorem nR (b pp:Nat) (nn:aei) (sv:Value) (t:Ty) (rl:List (Rl×Value)) (x:aei) (w:World) (h:RC b w sv t.rels rl) (r:Rl) (hf:cu t x=some r):
  ∃ta va,aH b w r.body (.iface ta va)∧r∈t.rels∧Calls Tryz.prog 145 #[.agg #[.int .i64 pp,.string nn,sv],.string x] w fun e w'=>e=.returned (.tuple #[.agg #[.int .i64 r.place,.string r.name,.iface ta va],.nilIface])∧Below w.heap.size w w':=by
 have hmem:r∈t.rels:=List.mem_of_find?_eq_some hf;unfold cu at hf;rw [←h.fst,List.find?_map,show ((fun r:Rl=>eqs r.name x) ∘ Prod.fst)=(fun p:Rl×Value=>eqs p.1.name x) from rfl] at hf
 cases hq:rl.find? (fun p=>eqs p.1.name x) with
 |none=>rw [hq] at hf;cases hf
 |some y=>
  rw [hq] at hf;simp only [Option.map_some,Option.some.injEq] at hf;subst hf;have hr:=h.ex y (List.mem_of_find?_eq_some hq);obtain ⟨ta,va,e⟩:=hr.isI;have hr':=hr;rw [e] at hr';refine ⟨ta,va,hr',hmem,?_⟩;have:=sK pp nn sv (rl.map r3) x w h.llen h.row (r3 y) (by rw [yF,hq];rfl) ⟨ta,va,e⟩;have e2:(r3 y).2.2=.iface ta va:=e;rw [e2] at this;exact this
theorem Pd (g:Gr):∀(l:List Gr) (i:Nat),l[i]? =some g→(bG l)[i*5]? =some (.int .i64 g.tp)∧(bG l)[i*5+1]? =some (.string g.ty)∧(bG l)[i*5+2]? =some (.int .i64 g.reach)∧(bG l)[i*5+3]? =some (.int .i64 g.rp)∧(bG l)[i*5+4]? =some (.string g.rel)
 | [],i,h=>by simp at h
 |e'::l,0,h=>by simp at h;subst h;simp [bG,bg]
 |e'::l,i+1,h=>by
  have:=Pd g l i (by simpa using h);rw [show bG (e'::l)=(bg e').toList++bG l from rfl,show (i+1)*5=i*5+5 by omega]
  simpa [bg] using this
theorem WN.cell {w:World} {base:Nat} {v:Value} {l:List Gr} (h:w.ownsRow base 207 5 v l.length (bG l)) (i:Nat) (g:Gr) (hi:l[i]? =some g):
  ∃q c,v=.slice (some ⟨q,0,none⟩) l.length c∧w.cell? ⟨q,i*5,none⟩=some (.int .i64 g.tp)∧w.cell? ⟨q,i*5+1,none⟩=some (.string g.ty)∧w.cell? ⟨q,i*5+2,none⟩=some (.int .i64 g.reach)∧w.cell? ⟨q,i*5+3,none⟩=some (.int .i64 g.rp)∧w.cell? ⟨q,i*5+4,none⟩=some (.string g.rel):=by
 obtain ⟨h0,h1,h2,h3,h4⟩:=Pd g l i hi;obtain ⟨q,c,rfl,e0⟩:=aK h _ _ h0;have go:∀k u,(bG l)[k]? =some u→w.cell? ⟨q,k,none⟩=some u:=fun k u hu=>by
  obtain ⟨q',c',e',e1⟩:=aK h k u hu;simp only [Value.slice.injEq,Option.some.injEq,Addr.mk.injEq] at e';obtain ⟨⟨rfl,_⟩,_⟩:=e';exact e1
 exact ⟨q,c,rfl,e0,go _ _ h1,go _ _ h2,go _ _ h3,go _ _ h4⟩
def pW (ts:List Ty) (g:Gr):Option Nat:=match dn ts g.ty with
 |none=>some g.tp
 |some t=>if g.reach=2 then (match cu t g.rel with
   |none=>some g.rp
   |some _=>none) else none
def rT (ts:List Ty) (gs:List Gr):Option Nat:=gs.findSome? (pW ts)
theorem Jg (ts:List Ty) (gs:List Gr) (k:Nat) (hk:k<gs.length):rT ts (gs.drop k)=match pW ts gs[k] with
  |some p=>some p
  |none=>rT ts (gs.drop (k+1)):=by
 unfold rT;rw [List.drop_eq_getElem_cons hk,List.findSome?_cons]
 cases pW ts gs[k]<;>rfl
theorem AA (b lp:Nat) (sv:Value) (ts:List Ty) (tl:List (Ty×Value)) (gv:Value) (gs:List Gr) (w:World) (h:MC b w sv ts tl) (hg:w.ownsRow (b+1) 207 5 gv gs.length (bG gs)) (hgl:gs.length≤1000):
  Calls Tryz.prog 174 #[.agg #[sv],.agg #[.int .i64 lp,gv]] w fun e' w'=>e'=.returned (iy 5 (rT ts gs))∧Below w.heap.size w w':=by
 obtain ⟨ma,mn,mc,rfl⟩:=h.form;obtain ⟨ga,gc,rfl⟩:=au hg;have H:=af h;have HG:=af hg;generalize hR:rT ts gs=R;have Ev:=af hR;clear h hg hR;go_enter Tryz.func174,Tryz.ntmps174;go_wp2_with fail
 go_loopw [14] (fun u wr=>∃(k:Nat),k≤gs.length∧u=.int .i64 k∧Below w.heap.size w wr∧ai wr w.heap.size #[.slice ma mn mc] 75∧Hid (rT ts (gs.drop k)=R)) (fun u _=>gs.length-(intOf u).toNat)
 case atStart=>exact ⟨0,by omega,rfl,((Below.refl _ _).alloc aeg _).alloc (by simp) _,(ai.new w _ _).alloc _,Ev⟩
 case round=>
  obtain ⟨k,hk,rfl,hb,hbl,HQ⟩:=hrel;have HB:=af hb;have HL:=af hbl;have Dn:=hb.size
  by_cases hlt:k<gs.length
  ·have hR:=ae HQ;rw [Jg ts gs k hlt] at hR;obtain ⟨q,c,e1,k0,k1,k2,k3,k4⟩:=WN.cell (ak (w':=wr) (ae HG) (fun g cs f _ hh=>hb.block g (lt_of_some hh))) k gs[k] (aeh hlt);simp only [Value.slice.injEq] at e1;obtain ⟨rfl,_,rfl⟩:=e1;generalize gs[k]=g at*;have bx:Below w.heap.size w (wr.alloc (.cells #[.int .i64 g.tp,.string g.ty,.int .i64 g.reach,.int .i64 g.rp,.string g.rel] 207)):=hb.alloc Dn _;have HM:=af ((ae H).below bx);have L1:=hbl.alloc (.cells #[.int .i64 g.tp,.string g.ty,.int .i64 g.reach,.int .i64 g.rp,.string g.rel] 207);have G1:=ai.new wr #[.int .i64 g.tp,.string g.ty,.int .i64 g.reach,.int .i64 g.rp,.string g.rel] 207;have m0:wr.cell? ⟨w.heap.size,0,none⟩=some (.slice ma mn mc):=hbl.cell rfl;have ml:=hbl.lt;have ny:=af bx;have Mo:=af L1;have WP:=af G1;clear hb hbl bx L1 G1;unfold pW at hR
   cases hf:dn ts g.ty with
   |none=>
    rw [hf] at hR;have dS:=af hR;have C:=af (yG b _ ts tl g.ty _ (ae HM) hf);clear hR hf;go_wp2_with fail;refine (ae C).mono ?_;rintro e w2 ⟨rfl,hb2⟩;have B2:=af ((ae ny).trans (hb2.mono (ae ny).size));obtain ⟨g0,g1,g2,g3,g4⟩:=((ae WP).below hb2).five;have gl:=((ae WP).below hb2).lt;have nQ:=(ae B2).size;clear hb2;unfold bn;go_wp2_with (go_at_call 73;refine (jP _ 5 _).mono ?_;rintro e w3 ⟨rfl,rfl⟩);go_ret;rw [←ae dS];exact ⟨rfl,(by with_reducible repeat (first|exact ae B2|refine Below.drew ?_|(refine Below.setCell ?_ ?_ _;rotate_left;exact (by first|omega|(simp;omega)|simp))|(refine Below.alloc ?_ ?_ _;rotate_left;exact (by first|omega|(simp;omega)|simp))))⟩
   |some t=>
    rw [hf] at hR;obtain ⟨va,vn,vc,rl,hrc,hcall⟩:=vO b _ ts tl g.ty _ (ae HM) t hf;have C:=af hcall;have RCH:=af hrc;clear hf hcall hrc;simp only at hR
    by_cases h2:g.reach=2
    ·have h2':((g.reach:Int) != 2)=false:=by rw [h2];rfl
     rw [if_pos h2] at hR;clear h2;go_wp2_with fail;refine (ae C).mono ?_;rintro e w2 ⟨rfl,hb2⟩;have b2:=(ae ny).trans (hb2.mono (ae ny).size);have B2:=af b2;have L2:=af ((ae Mo).below hb2);have RC2:=af (((ae RCH).below hb2).below ((Below.refl w2.heap.size w2).alloc aeg (.cells #[.int .i64 t.place,.string t.name,.slice va vn vc] 110)));have G2:=af ((ae WP).below hb2);obtain ⟨g0,g1,g2,g3,g4⟩:=(ae G2).five;have gl:=(ae G2).lt;have nQ:=b2.size;clear hb2 b2 C
     cases hq:cu t g.rel with
     |none=>
      rw [hq] at hR;have dS:=af hR;have C:=af (l8 b t.place t.name _ t rl g.rel _ (ae RC2) hq);clear hR hq;go_wp2_with fail;refine (ae C).mono ?_;rintro e w3 ⟨rfl,hb3⟩;have B3:=af (((ae B2).alloc nQ (.cells #[.int .i64 t.place,.string t.name,.slice va vn vc] 110)).trans (hb3.mono (by simp;omega)));obtain ⟨n0,n1,n2,n3,n4⟩:=(((ae G2).alloc (.cells #[.int .i64 t.place,.string t.name,.slice va vn vc] 110)).below hb3).five;have nl:=(((ae G2).alloc (.cells #[.int .i64 t.place,.string t.name,.slice va vn vc] 110)).below hb3).lt;have xH:=(ae B3).size;clear hb3 g0 g1 g2 g3 g4;unfold bn;go_wp2_with (go_at_call 73;refine (jP _ 5 _).mono ?_;rintro e w3 ⟨rfl,rfl⟩);go_ret;rw [←ae dS];exact ⟨rfl,(by with_reducible repeat (first|exact ae B3|refine Below.drew ?_|(refine Below.setCell ?_ ?_ _;rotate_left;exact (by first|omega|(simp;omega)|simp))|(refine Below.alloc ?_ ?_ _;rotate_left;exact (by first|omega|(simp;omega)|simp))))⟩
     |some r=>
      rw [hq] at hR;have dS:=af hR;obtain ⟨xa,xv,_,_,hcall⟩:=nR b t.place t.name _ t rl g.rel _ (ae RC2) r hq;have C:=af hcall;clear hR hq hcall;go_wp2_with fail;refine (ae C).mono ?_;rintro e w3 ⟨rfl,hb3⟩;have B3:=af (((ae B2).alloc nQ (.cells #[.int .i64 t.place,.string t.name,.slice va vn vc] 110)).trans (hb3.mono (by simp;omega)));have L3:=af (((ae L2).alloc (.cells #[.int .i64 t.place,.string t.name,.slice va vn vc] 110)).below hb3);have xH:=(ae B3).size;clear hb3;go_wp2;go_roundw
      case rel=>exact ⟨k+1,by omega,by go_num,(by with_reducible repeat (first|exact ae B3|refine Below.drew ?_|(refine Below.setCell ?_ ?_ _;rotate_left;exact (by first|omega|(simp;omega)|simp))|(refine Below.alloc ?_ ?_ _;rotate_left;exact (by first|omega|(simp;omega)|simp)))),(by with_reducible repeat (first|exact ae L3|apply ai.alloc|apply ai.drew|apply ai.set|(apply ai.other;case ha=>exact (by first|omega|(simp;omega)|simp)))),dS⟩
      case measure=>simp [intOf];omega
    ·have h2':((g.reach:Int) != 2)=true:=by rw [bne_iff_ne];omega
     rw [if_neg h2] at hR;have dS:=af hR;clear h2 hR;go_wp2_with fail;refine (ae C).mono ?_;rintro e w2 ⟨rfl,hb2⟩;have B2:=af ((ae ny).trans (hb2.mono (ae ny).size));have L2:=af ((ae Mo).below hb2);obtain ⟨g0,g1,g2,g3,g4⟩:=((ae WP).below hb2).five;have gl:=((ae WP).below hb2).lt;have nQ:=(ae B2).size;clear hb2 C;go_wp2;go_roundw
     case rel=>exact ⟨k+1,by omega,by go_num,(by with_reducible repeat (first|exact ae B2|refine Below.drew ?_|(refine Below.setCell ?_ ?_ _;rotate_left;exact (by first|omega|(simp;omega)|simp))|(refine Below.alloc ?_ ?_ _;rotate_left;exact (by first|omega|(simp;omega)|simp)))),(by with_reducible repeat (first|exact ae L2|apply ai.alloc|apply ai.drew|apply ai.set|(apply ai.other;case ha=>exact (by first|omega|(simp;omega)|simp)))),dS⟩
     case measure=>simp [intOf];omega
  ·have hR:=ae HQ;rw [List.drop_of_length_le (by omega)] at hR;have dS:=af hR;clear hb hbl hR;go_wp2;go_ret;rw [←ae dS];exact ⟨rfl,ae HB⟩
