import Derived.Test.YtlbpnlngckgcbaaGreatDoorM08
set_option linter.all false
set_option maxHeartbeats 4000000
set_option maxRecDepth 100000
namespace Go.Proofs.YtlbpnlngckgcbaaGreatDoor
open Go.RowKit Go.PlainAid
def aj:Ex→List Ex
 |⟨n,some x,some y⟩=>aj x++[⟨n,some x,some y⟩]++aj y
 |⟨n,none,r⟩=>[⟨n,none,r⟩]
 |⟨_,some _,none⟩=>[]
theorem mf {b:Nat} {w:World}:∀(e:Ex) (v:Value),ay b w e v→0<(aj e).length
 |⟨n,some x,some y⟩,v,h=>by simp [aj];omega
 |⟨n,none,r⟩,v,h=>by simp [aj]
 |⟨_,some _,none⟩,v,h=>h.elim
def Ki (base b:Nat) (w:World) (sv:Value) (es:List Ex):Prop:=
 ∃l:List (Ex×Value),l.map Prod.fst=es∧(∀p∈l,ay b w p.1 p.2)∧w.ownsRow base 157 1 sv es.length (l.map Prod.snd)
theorem Tryz.info157:(Tryz.prog.info? 157).map (fun i=>(i.zero,i.size,i.bytes))=some (some .nilIface,1,16):=by kernel_rfl
def mg (e:Ex):Prop:=∀(b:Nat) (v:Value) (w:World),b<w.heap.size→ay b w e v→(aj e).length≤1000→
 Calls Tryz.prog 156 #[v] w fun e' w'=>∃sv,e'=.returned sv∧Below w.heap.size w w'∧Ki w.heap.size b w' sv (aj e)
theorem mh (W:World) (x:Value) (T n:Nat) (hn:n=W.heap.size):∀j u,[x][j]? =some u→(W.alloc (.cells #[x] T)).cell? ((⟨n,0,none⟩:Addr).add j)=some u:=
 World.news_of_block (cs:=#[x]) (fr:=(0,0)) (ag.new' W #[x] T n hn)
theorem qK {w:World} {base:Nat} {e:TypeId} {v:Value} {n:Nat} {xs:List Value} (h:w.ownsRow base e 1 v n xs) (hn:0<n):
  ∃g c,v=.slice (some ⟨g,0,none⟩) n c∧xs.length=n*1∧∀j u,xs[j]? =some u→w.cell? ((⟨g,0,none⟩:Addr).add j)=some u:=by
 obtain ⟨g,c,hv,_⟩:=h.form hn;refine ⟨g,c,hv,h.1,fun j u hu=> ?_⟩;obtain ⟨g',c',hv',hc⟩:=aQ h j u hu;rw [hv] at hv';simp only [Value.slice.injEq,Option.some.injEq,Addr.mk.injEq] at hv';obtain ⟨⟨rfl,_⟩,_⟩:=hv';have hadd:(⟨g,0,none⟩:Addr).add j=⟨g,j,none⟩:=by unfold Addr.add;split<;>simp_all
 rw [hadd];exact hc
theorem zI (x:Value) (w:World):
  Calls Tryz.prog 156 #[.iface 236 x] w fun e' w'=>∃sv,e'=.returned sv∧Below w.heap.size w w'∧w'.ownsRow w.heap.size 157 1 sv 1 [.iface 236 x]:=by
 go_enter Tryz.func156,Tryz.ntmps156;go_wp2_with fail;refine (zH x w).mono ?_;rintro e w1 ⟨rfl,hb⟩;have B1:=ae hb;have sz:=hb.size;clear hb;unfold IU;go_wp2;go_ret;refine ⟨_,rfl,(by with_reducible repeat (first|exact aa B1|refine Below.drew ?_|(refine Below.setCell ?_ ?_ _;rotate_left;exact (by first|omega|(simp;omega)|simp))|(refine Below.alloc ?_ ?_ _;rotate_left;exact (by first|omega|(simp;omega)|simp)))),rfl,.inr ⟨w1.heap.size+1,1,#[.iface 236 x],rfl,by omega,?_,by omega,by unfold maxLen;omega,rfl,rfl⟩⟩;exact ag.new' (w1.alloc _) _ _ _ (by simp)
theorem Cv (x:Value) (w:World):
  Calls Tryz.prog 156 #[.iface 238 x] w fun e' w'=>∃sv,e'=.returned sv∧Below w.heap.size w w'∧w'.ownsRow w.heap.size 157 1 sv 1 [.iface 238 x]:=by
 go_enter Tryz.func156,Tryz.ntmps156;go_wp2_with fail;refine (Ct x w).mono ?_;rintro e w1 ⟨rfl,hb⟩;have B1:=ae hb;have sz:=hb.size;clear hb;unfold IU;go_wp2;go_ret;refine ⟨_,rfl,(by with_reducible repeat (first|exact aa B1|refine Below.drew ?_|(refine Below.setCell ?_ ?_ _;rotate_left;exact (by first|omega|(simp;omega)|simp))|(refine Below.alloc ?_ ?_ _;rotate_left;exact (by first|omega|(simp;omega)|simp)))),rfl,.inr ⟨w1.heap.size+1,1,#[.iface 238 x],rfl,by omega,?_,by omega,by unfold maxLen;omega,rfl,rfl⟩⟩;exact ag.new' (w1.alloc _) _ _ _ (by simp)
theorem Cw (x:Value) (w:World):
  Calls Tryz.prog 156 #[.iface 240 x] w fun e' w'=>∃sv,e'=.returned sv∧Below w.heap.size w w'∧w'.ownsRow w.heap.size 157 1 sv 1 [.iface 240 x]:=by
 go_enter Tryz.func156,Tryz.ntmps156;go_wp2_with fail;refine (Cu x w).mono ?_;rintro e w1 ⟨rfl,hb⟩;have B1:=ae hb;have sz:=hb.size;clear hb;unfold IU;go_wp2;go_ret;refine ⟨_,rfl,(by with_reducible repeat (first|exact aa B1|refine Below.drew ?_|(refine Below.setCell ?_ ?_ _;rotate_left;exact (by first|omega|(simp;omega)|simp))|(refine Below.alloc ?_ ?_ _;rotate_left;exact (by first|omega|(simp;omega)|simp)))),rfl,.inr ⟨w1.heap.size+1,1,#[.iface 240 x],rfl,by omega,?_,by omega,by unfold maxLen;omega,rfl,rfl⟩⟩;exact ag.new' (w1.alloc _) _ _ _ (by simp)
theorem uS (p:Nat) (x y:Ex) (hx:mg x) (hy:mg y) (b:Nat) (vx vy:Value) (w:World) (hb:b<w.heap.size) (rx:ay b w x vx) (ry:ay b w y vy) (hn:(aj x).length+1+(aj y).length≤1000):
  Calls Tryz.prog 156 #[.iface 244 (.agg #[.int .i64 p,vx,vy])] w fun e' w'=>∃sv,e'=.returned sv∧Below w.heap.size w w'∧
   ∃lx ly:List (Ex×Value),lx.map Prod.fst=aj x∧ly.map Prod.fst=aj y∧(∀p∈lx,ay b w' p.1 p.2)∧(∀p∈ly,ay b w' p.1 p.2)∧
    w'.ownsRow w.heap.size 157 1 sv ((aj x).length+1+(aj y).length) (lx.map Prod.snd++[.iface 244 (.agg #[.int .i64 p,vx,vy])]++ly.map Prod.snd):=by
 obtain ⟨i0,hi,hz0,hz1,hz2⟩:=info_parts Tryz.info157;have HI:=ae hi;have jg:=ae hz0;have jh:=ae hz1;have ji:=ae hz2;clear hi hz0 hz1 hz2;have py:=mf _ _ ry;obtain ⟨ta,va,rfl⟩:=rx.isI;obtain ⟨tb,vb,rfl⟩:=ry.isI;have Hx:=ae hx;have Hy:=ae hy;have RX:=ae rx;have RY:=ae ry;clear hx hy rx ry;go_enter Tryz.func156,Tryz.ntmps156;go_wp2_with fail;refine (uR p ta va tb vb w).mono ?_;rintro e w1 ⟨rfl,hb1⟩;have b1:Below w.heap.size w (w1.alloc (.cells #[.int .i64 p,.iface ta va,.iface tb vb] 242)):=hb1.alloc hb1.size _;have B1:=ae b1;have S1:=ae (ag.new w1 #[.int .i64 p,.iface ta va,.iface tb vb] 242);have X1:=ae ((aa RX).but (But.of_below b1));have Y1:=ae ((aa RY).but (But.of_below b1));have NV:=hb1.size;clear hb1 b1;go_wp2_with fail;refine (aa Hx b _ _ (by simp;omega) (aa X1) (by omega)).mono ?_;rintro e w2 ⟨yX,rfl,hb2,lx,Kj,Kk,Kl⟩;have B2:=ae ((aa B1).trans (hb2.mono (aa B1).size));have S2:=(aa S1).below hb2;have Ih:=ae S2;obtain ⟨s0,s1,s2⟩:=S2.three;have sl:=S2.lt;have Y2:=ae ((aa Y1).but (But.of_below hb2));have NY:=ae Kj;have NZ:=ae Kk;have O2:=ae (aA Kl (show w.heap.size≤_ by simp;omega));have nH:=(aa B2).size;clear hb2 S2 Kj Kk Kl;go_wp2_with (at_builtin;go_must (refine wpList_append_lies _ rfl _ _ 301 rfl w.heap.size 157 i0 _ 1 16 Tryz.underlying301 (aa HI) (aa jg) (aa jh) (aa ji) rfl (by decide) yX (aj x).length (lx.map Prod.snd) rfl ?hown ⟨w2.heap.size,0,none⟩ 1 1 [.iface 244 (.agg #[.int .i64 p,.iface ta va,.iface tb vb])] rfl rfl ?hnews ?hone (by decide) ?h63 ?hbytes ?hbase (w2.heap.size+1) ?hH ?hrest))
 case hown=>exact (aa O2).alloc _
 case hnews=>exact mh w2 _ _ _ rfl
 case hone=>intro u hu;simp at hu;subst hu;rfl
 case h63=>unfold maxLen;omega
 case hbytes=>omega
 case hbase=>simp;omega
 case hH=>simp
 case hrest=>
  intro g3 N7 w3 o9 fF Fa N8;have Bd:=(aa O2).alloc (.cells #[.iface 244 (.agg #[.int .i64 p,.iface ta va,.iface tb vb])] 157);have b2:Below w2.heap.size w2 (w2.alloc (.cells #[.iface 244 (.agg #[.int .i64 p,.iface ta va,.iface tb vb])] 157)):=(Below.refl _ _).alloc RH _;have Fb:iw b w2 w3:=fun g cs f hg hh=>(fF.block g (Nat.lt_of_lt_of_le (lt_of_some hh) b2.size) (dH Bd ((b2.block g (lt_of_some hh)).trans hh) (by decide))).trans (b2.block g (lt_of_some hh))
  have B3:=ae (Below.grown ((aa B2).trans (b2.mono nH)) fF (by simp;omega) (fun k hk=>(Bd.lt k hk).1));have Be:=(aa Ih).below b2;have S3:=(fF.block _ Be.lt (own_ne Bd Be (by decide))).trans Be;have zJ:=ae (show ag w3 w1.heap.size #[.int .i64 p,.iface ta va,.iface tb vb] 242 from S3);obtain ⟨t0,t1,t2⟩:=(aa zJ).three;have tl:=(aa zJ).lt;have Y3:=ae (ay.frame Fb _ _ (aa Y2));have N9:=ae (show ∀p∈lx,ay b w3 p.1 p.2 from fun p hp=>ay.frame Fb _ _ (aa NZ p hp));have O3:=ae o9;have zD:=(aa B3).size;clear Bd b2 Fb Be S3 o9 fF Fa s0 s1 s2;go_wp2_with fail;refine (aa Hy b _ _ (by omega) (aa Y3) (by omega)).mono ?_;rintro e w4 ⟨sv4,rfl,hb4,ly,Km,Kn,Ko⟩;obtain ⟨g4,c4,rfl,Kq,Kr⟩:=qK Ko py;have B4:=ae ((aa B3).trans (hb4.mono (aa B3).size));have Oa:=ae Km;have Kt:=ae Kn;have Ob:=ae (show ∀p∈lx,ay b w4 p.1 p.2 from fun p hp=>(aa N9 p hp).but (But.of_below hb4));have O4:=ae (ai (w':=w4) (aa O3) (fun g cs f _ hh=>hb4.block g (lt_of_some hh)));have Oc:=ae Kq;have Od:=ae Kr;have Fe:=(aa B4).size;clear hb4 Km Kn Ko Kq Kr;go_wp2_with (at_builtin;go_must (refine wpList_append_lies _ rfl _ _ 301 rfl w.heap.size 157 i0 _ 1 16 Tryz.underlying301 (aa HI) (aa jg) (aa jh) (aa ji) rfl (by decide) _ _ _ rfl (aa O4) ⟨g4,0,none⟩ (aj y).length c4 (ly.map Prod.snd) rfl (aa Oc) (aa Od) ?hone py ?h63 ?hbytes ?hbase w4.heap.size rfl ?hrest))
  case hone=>
   intro u hu;rw [List.mem_map] at hu;obtain ⟨q,hq,rfl⟩:=hu;obtain ⟨t,z,e⟩:=(aa Kt q hq).isI;rw [e];rfl
  case h63=>unfold maxLen;omega
  case hbytes=>omega
  case hbase=>omega
  case hrest=>
   intro g5 bu w5 aJ au bI jk;have og:iw b w4 w5:=fun g cs f hg hh=>au.block g (lt_of_some hh) (dH (aa O4) hh (by decide))
   have B5:=ae (Below.grown (aa B4) au Fe (fun k hk=>((aa O4).lt k hk).1));have Oe:=ae (show ∀p∈lx,ay b w5 p.1 p.2 from fun p hp=>ay.frame og _ _ (aa Ob p hp));have Og:=ae (show ∀p∈ly,ay b w5 p.1 p.2 from fun p hp=>ay.frame og _ _ (aa Kt p hp));have O5:=ae aJ;clear og aJ au bI;go_wp2;go_ret;exact ⟨.slice (some ⟨g5,0,none⟩) ((aj x).length+1+(aj y).length) bu,rfl,aa B5,lx,ly,aa NY,aa Oa,aa Oe,aa Og,by rw [List.append_assoc];exact aa O5⟩
theorem zK (p:Nat) (x y:Ex) (hx:mg x) (hy:mg y) (b:Nat) (vx vy:Value) (w:World) (hb:b<w.heap.size) (rx:ay b w x vx) (ry:ay b w y vy) (hn:(aj x).length+1+(aj y).length≤1000):
  Calls Tryz.prog 156 #[.iface 245 (.agg #[.int .i64 p,vx,vy])] w fun e' w'=>∃sv,e'=.returned sv∧Below w.heap.size w w'∧
   ∃lx ly:List (Ex×Value),lx.map Prod.fst=aj x∧ly.map Prod.fst=aj y∧(∀p∈lx,ay b w' p.1 p.2)∧(∀p∈ly,ay b w' p.1 p.2)∧
    w'.ownsRow w.heap.size 157 1 sv ((aj x).length+1+(aj y).length) (lx.map Prod.snd++[.iface 245 (.agg #[.int .i64 p,vx,vy])]++ly.map Prod.snd):=by
 obtain ⟨i0,hi,hz0,hz1,hz2⟩:=info_parts Tryz.info157;have HI:=ae hi;have jg:=ae hz0;have jh:=ae hz1;have ji:=ae hz2;clear hi hz0 hz1 hz2;have py:=mf _ _ ry;obtain ⟨ta,va,rfl⟩:=rx.isI;obtain ⟨tb,vb,rfl⟩:=ry.isI;have Hx:=ae hx;have Hy:=ae hy;have RX:=ae rx;have RY:=ae ry;clear hx hy rx ry;go_enter Tryz.func156,Tryz.ntmps156;go_wp2_with fail;refine (zF p ta va tb vb w).mono ?_;rintro e w1 ⟨rfl,hb1⟩;have b1:Below w.heap.size w (w1.alloc (.cells #[.int .i64 p,.iface ta va,.iface tb vb] 242)):=hb1.alloc hb1.size _;have B1:=ae b1;have S1:=ae (ag.new w1 #[.int .i64 p,.iface ta va,.iface tb vb] 242);have X1:=ae ((aa RX).but (But.of_below b1));have Y1:=ae ((aa RY).but (But.of_below b1));have NV:=hb1.size;clear hb1 b1;go_wp2_with fail;refine (aa Hx b _ _ (by simp;omega) (aa X1) (by omega)).mono ?_;rintro e w2 ⟨yX,rfl,hb2,lx,Kj,Kk,Kl⟩;have B2:=ae ((aa B1).trans (hb2.mono (aa B1).size));have S2:=(aa S1).below hb2;have Ih:=ae S2;obtain ⟨s0,s1,s2⟩:=S2.three;have sl:=S2.lt;have Y2:=ae ((aa Y1).but (But.of_below hb2));have NY:=ae Kj;have NZ:=ae Kk;have O2:=ae (aA Kl (show w.heap.size≤_ by simp;omega));have nH:=(aa B2).size;clear hb2 S2 Kj Kk Kl;go_wp2_with (at_builtin;go_must (refine wpList_append_lies _ rfl _ _ 301 rfl w.heap.size 157 i0 _ 1 16 Tryz.underlying301 (aa HI) (aa jg) (aa jh) (aa ji) rfl (by decide) yX (aj x).length (lx.map Prod.snd) rfl ?hown ⟨w2.heap.size,0,none⟩ 1 1 [.iface 245 (.agg #[.int .i64 p,.iface ta va,.iface tb vb])] rfl rfl ?hnews ?hone (by decide) ?h63 ?hbytes ?hbase (w2.heap.size+1) ?hH ?hrest))
 case hown=>exact (aa O2).alloc _
 case hnews=>exact mh w2 _ _ _ rfl
 case hone=>intro u hu;simp at hu;subst hu;rfl
 case h63=>unfold maxLen;omega
 case hbytes=>omega
 case hbase=>simp;omega
 case hH=>simp
 case hrest=>
  intro g3 N7 w3 o9 fF Fa N8;have Bd:=(aa O2).alloc (.cells #[.iface 245 (.agg #[.int .i64 p,.iface ta va,.iface tb vb])] 157);have b2:Below w2.heap.size w2 (w2.alloc (.cells #[.iface 245 (.agg #[.int .i64 p,.iface ta va,.iface tb vb])] 157)):=(Below.refl _ _).alloc RH _;have Fb:iw b w2 w3:=fun g cs f hg hh=>(fF.block g (Nat.lt_of_lt_of_le (lt_of_some hh) b2.size) (dH Bd ((b2.block g (lt_of_some hh)).trans hh) (by decide))).trans (b2.block g (lt_of_some hh))
  have B3:=ae (Below.grown ((aa B2).trans (b2.mono nH)) fF (by simp;omega) (fun k hk=>(Bd.lt k hk).1));have Be:=(aa Ih).below b2;have S3:=(fF.block _ Be.lt (own_ne Bd Be (by decide))).trans Be;have zJ:=ae (show ag w3 w1.heap.size #[.int .i64 p,.iface ta va,.iface tb vb] 242 from S3);obtain ⟨t0,t1,t2⟩:=(aa zJ).three;have tl:=(aa zJ).lt;have Y3:=ae (ay.frame Fb _ _ (aa Y2));have N9:=ae (show ∀p∈lx,ay b w3 p.1 p.2 from fun p hp=>ay.frame Fb _ _ (aa NZ p hp));have O3:=ae o9;have zD:=(aa B3).size;clear Bd b2 Fb Be S3 o9 fF Fa s0 s1 s2;go_wp2_with fail;refine (aa Hy b _ _ (by omega) (aa Y3) (by omega)).mono ?_;rintro e w4 ⟨sv4,rfl,hb4,ly,Km,Kn,Ko⟩;obtain ⟨g4,c4,rfl,Kq,Kr⟩:=qK Ko py;have B4:=ae ((aa B3).trans (hb4.mono (aa B3).size));have Oa:=ae Km;have Kt:=ae Kn;have Ob:=ae (show ∀p∈lx,ay b w4 p.1 p.2 from fun p hp=>(aa N9 p hp).but (But.of_below hb4));have O4:=ae (ai (w':=w4) (aa O3) (fun g cs f _ hh=>hb4.block g (lt_of_some hh)));have Oc:=ae Kq;have Od:=ae Kr;have Fe:=(aa B4).size;clear hb4 Km Kn Ko Kq Kr;go_wp2_with (at_builtin;go_must (refine wpList_append_lies _ rfl _ _ 301 rfl w.heap.size 157 i0 _ 1 16 Tryz.underlying301 (aa HI) (aa jg) (aa jh) (aa ji) rfl (by decide) _ _ _ rfl (aa O4) ⟨g4,0,none⟩ (aj y).length c4 (ly.map Prod.snd) rfl (aa Oc) (aa Od) ?hone py ?h63 ?hbytes ?hbase w4.heap.size rfl ?hrest))
  case hone=>
   intro u hu;rw [List.mem_map] at hu;obtain ⟨q,hq,rfl⟩:=hu;obtain ⟨t,z,e⟩:=(aa Kt q hq).isI;rw [e];rfl
  case h63=>unfold maxLen;omega
  case hbytes=>omega
  case hbase=>omega
  case hrest=>
   intro g5 bu w5 aJ au bI jk;have og:iw b w4 w5:=fun g cs f hg hh=>au.block g (lt_of_some hh) (dH (aa O4) hh (by decide))
   have B5:=ae (Below.grown (aa B4) au Fe (fun k hk=>((aa O4).lt k hk).1));have Oe:=ae (show ∀p∈lx,ay b w5 p.1 p.2 from fun p hp=>ay.frame og _ _ (aa Ob p hp));have Og:=ae (show ∀p∈ly,ay b w5 p.1 p.2 from fun p hp=>ay.frame og _ _ (aa Kt p hp));have O5:=ae aJ;clear og aJ au bI;go_wp2;go_ret;exact ⟨.slice (some ⟨g5,0,none⟩) ((aj x).length+1+(aj y).length) bu,rfl,aa B5,lx,ly,aa NY,aa Oa,aa Oe,aa Og,by rw [List.append_assoc];exact aa O5⟩
theorem zL (p:Nat) (x y:Ex) (hx:mg x) (hy:mg y) (b:Nat) (vx vy:Value) (w:World) (hb:b<w.heap.size) (rx:ay b w x vx) (ry:ay b w y vy) (hn:(aj x).length+1+(aj y).length≤1000):
  Calls Tryz.prog 156 #[.iface 246 (.agg #[.int .i64 p,vx,vy])] w fun e' w'=>∃sv,e'=.returned sv∧Below w.heap.size w w'∧
   ∃lx ly:List (Ex×Value),lx.map Prod.fst=aj x∧ly.map Prod.fst=aj y∧(∀p∈lx,ay b w' p.1 p.2)∧(∀p∈ly,ay b w' p.1 p.2)∧
    w'.ownsRow w.heap.size 157 1 sv ((aj x).length+1+(aj y).length) (lx.map Prod.snd++[.iface 246 (.agg #[.int .i64 p,vx,vy])]++ly.map Prod.snd):=by
 obtain ⟨i0,hi,hz0,hz1,hz2⟩:=info_parts Tryz.info157;have HI:=ae hi;have jg:=ae hz0;have jh:=ae hz1;have ji:=ae hz2;clear hi hz0 hz1 hz2;have py:=mf _ _ ry;obtain ⟨ta,va,rfl⟩:=rx.isI;obtain ⟨tb,vb,rfl⟩:=ry.isI;have Hx:=ae hx;have Hy:=ae hy;have RX:=ae rx;have RY:=ae ry;clear hx hy rx ry;go_enter Tryz.func156,Tryz.ntmps156;go_wp2_with fail;refine (zG p ta va tb vb w).mono ?_;rintro e w1 ⟨rfl,hb1⟩;have b1:Below w.heap.size w (w1.alloc (.cells #[.int .i64 p,.iface ta va,.iface tb vb] 242)):=hb1.alloc hb1.size _;have B1:=ae b1;have S1:=ae (ag.new w1 #[.int .i64 p,.iface ta va,.iface tb vb] 242);have X1:=ae ((aa RX).but (But.of_below b1));have Y1:=ae ((aa RY).but (But.of_below b1));have NV:=hb1.size;clear hb1 b1;go_wp2_with fail;refine (aa Hx b _ _ (by simp;omega) (aa X1) (by omega)).mono ?_;rintro e w2 ⟨yX,rfl,hb2,lx,Kj,Kk,Kl⟩;have B2:=ae ((aa B1).trans (hb2.mono (aa B1).size));have S2:=(aa S1).below hb2;have Ih:=ae S2;obtain ⟨s0,s1,s2⟩:=S2.three;have sl:=S2.lt;have Y2:=ae ((aa Y1).but (But.of_below hb2));have NY:=ae Kj;have NZ:=ae Kk;have O2:=ae (aA Kl (show w.heap.size≤_ by simp;omega));have nH:=(aa B2).size;clear hb2 S2 Kj Kk Kl;go_wp2_with (at_builtin;go_must (refine wpList_append_lies _ rfl _ _ 301 rfl w.heap.size 157 i0 _ 1 16 Tryz.underlying301 (aa HI) (aa jg) (aa jh) (aa ji) rfl (by decide) yX (aj x).length (lx.map Prod.snd) rfl ?hown ⟨w2.heap.size,0,none⟩ 1 1 [.iface 246 (.agg #[.int .i64 p,.iface ta va,.iface tb vb])] rfl rfl ?hnews ?hone (by decide) ?h63 ?hbytes ?hbase (w2.heap.size+1) ?hH ?hrest))
 case hown=>exact (aa O2).alloc _
 case hnews=>exact mh w2 _ _ _ rfl
 case hone=>intro u hu;simp at hu;subst hu;rfl
 case h63=>unfold maxLen;omega
 case hbytes=>omega
 case hbase=>simp;omega
 case hH=>simp
 case hrest=>
  intro g3 N7 w3 o9 fF Fa N8;have Bd:=(aa O2).alloc (.cells #[.iface 246 (.agg #[.int .i64 p,.iface ta va,.iface tb vb])] 157);have b2:Below w2.heap.size w2 (w2.alloc (.cells #[.iface 246 (.agg #[.int .i64 p,.iface ta va,.iface tb vb])] 157)):=(Below.refl _ _).alloc RH _;have Fb:iw b w2 w3:=fun g cs f hg hh=>(fF.block g (Nat.lt_of_lt_of_le (lt_of_some hh) b2.size) (dH Bd ((b2.block g (lt_of_some hh)).trans hh) (by decide))).trans (b2.block g (lt_of_some hh))
  have B3:=ae (Below.grown ((aa B2).trans (b2.mono nH)) fF (by simp;omega) (fun k hk=>(Bd.lt k hk).1));have Be:=(aa Ih).below b2;have S3:=(fF.block _ Be.lt (own_ne Bd Be (by decide))).trans Be;have zJ:=ae (show ag w3 w1.heap.size #[.int .i64 p,.iface ta va,.iface tb vb] 242 from S3);obtain ⟨t0,t1,t2⟩:=(aa zJ).three;have tl:=(aa zJ).lt;have Y3:=ae (ay.frame Fb _ _ (aa Y2));have N9:=ae (show ∀p∈lx,ay b w3 p.1 p.2 from fun p hp=>ay.frame Fb _ _ (aa NZ p hp));have O3:=ae o9;have zD:=(aa B3).size;clear Bd b2 Fb Be S3 o9 fF Fa s0 s1 s2;go_wp2_with fail;refine (aa Hy b _ _ (by omega) (aa Y3) (by omega)).mono ?_;rintro e w4 ⟨sv4,rfl,hb4,ly,Km,Kn,Ko⟩;obtain ⟨g4,c4,rfl,Kq,Kr⟩:=qK Ko py;have B4:=ae ((aa B3).trans (hb4.mono (aa B3).size));have Oa:=ae Km;have Kt:=ae Kn;have Ob:=ae (show ∀p∈lx,ay b w4 p.1 p.2 from fun p hp=>(aa N9 p hp).but (But.of_below hb4));have O4:=ae (ai (w':=w4) (aa O3) (fun g cs f _ hh=>hb4.block g (lt_of_some hh)));have Oc:=ae Kq;have Od:=ae Kr;have Fe:=(aa B4).size;clear hb4 Km Kn Ko Kq Kr;go_wp2_with (at_builtin;go_must (refine wpList_append_lies _ rfl _ _ 301 rfl w.heap.size 157 i0 _ 1 16 Tryz.underlying301 (aa HI) (aa jg) (aa jh) (aa ji) rfl (by decide) _ _ _ rfl (aa O4) ⟨g4,0,none⟩ (aj y).length c4 (ly.map Prod.snd) rfl (aa Oc) (aa Od) ?hone py ?h63 ?hbytes ?hbase w4.heap.size rfl ?hrest))
  case hone=>
   intro u hu;rw [List.mem_map] at hu;obtain ⟨q,hq,rfl⟩:=hu;obtain ⟨t,z,e⟩:=(aa Kt q hq).isI;rw [e];rfl
  case h63=>unfold maxLen;omega
  case hbytes=>omega
  case hbase=>omega
  case hrest=>
   intro g5 bu w5 aJ au bI jk;have og:iw b w4 w5:=fun g cs f hg hh=>au.block g (lt_of_some hh) (dH (aa O4) hh (by decide))
   have B5:=ae (Below.grown (aa B4) au Fe (fun k hk=>((aa O4).lt k hk).1));have Oe:=ae (show ∀p∈lx,ay b w5 p.1 p.2 from fun p hp=>ay.frame og _ _ (aa Ob p hp));have Og:=ae (show ∀p∈ly,ay b w5 p.1 p.2 from fun p hp=>ay.frame og _ _ (aa Kt p hp));have O5:=ae aJ;clear og aJ au bI;go_wp2;go_ret;exact ⟨.slice (some ⟨g5,0,none⟩) ((aj x).length+1+(aj y).length) bu,rfl,aa B5,lx,ly,aa NY,aa Oa,aa Oe,aa Og,by rw [List.append_assoc];exact aa O5⟩
theorem kT (e:Ex):mg e:=by
 induction e using Ex.ind with
 |h0 n r=>
  intro b v w hb h hn;have key:∀{v:Value},(Calls Tryz.prog 156 #[v] w fun e' w'=>∃sv,e'=.returned sv∧Below w.heap.size w w'∧w'.ownsRow w.heap.size 157 1 sv 1 [v])→ay b w ⟨n,none,r⟩ v→Calls Tryz.prog 156 #[v] w fun e' w'=>∃sv,e'=.returned sv∧Below w.heap.size w w'∧Ki w.heap.size b w' sv (aj ⟨n,none,r⟩):=by
   intro v hc hr;refine hc.mono ?_;rintro e' w' ⟨sv,h1,h2,h3⟩;exact ⟨sv,h1,h2,[(⟨n,none,r⟩,v)],rfl,fun p hp=>by simp at hp;subst hp;exact hr.but (But.of_below h2),h3⟩
  have h':=h
  rcases h with ⟨h1,sv,rfl,h3⟩|⟨h1,rfl⟩|⟨h1,rfl⟩
  ·exact key (zI _ w) h'
  ·exact key (Cv _ w) h'
  ·exact key (Cw _ w) h'
 |h1 n a=>intro b v w hb h hn;exact h.elim
 |h2 n x y hx hy=>
  intro b v w hb h hn;obtain ⟨vx,vy,rfl,rx,ry⟩:=h;have hn':(aj x).length+1+(aj y).length≤1000:=by simp [aj] at hn;omega
  have key:(Calls Tryz.prog 156 #[.iface (iJ n.kind) (.agg #[.int .i64 n.place,vx,vy])] w fun e' w'=>∃sv,e'=.returned sv∧Below w.heap.size w w'∧
   ∃lx ly:List (Ex×Value),lx.map Prod.fst=aj x∧ly.map Prod.fst=aj y∧(∀p∈lx,ay b w' p.1 p.2)∧(∀p∈ly,ay b w' p.1 p.2)∧
    w'.ownsRow w.heap.size 157 1 sv ((aj x).length+1+(aj y).length) (lx.map Prod.snd++[.iface (iJ n.kind) (.agg #[.int .i64 n.place,vx,vy])]++ly.map Prod.snd)):=by
   unfold iJ
   split
   ·exact uS _ x y hx hy b vx vy w hb rx ry hn'
   ·split
    ·exact zK _ x y hx hy b vx vy w hb rx ry hn'
    ·exact zL _ x y hx hy b vx vy w hb rx ry hn'
  refine key.mono ?_;rintro e' w' ⟨sv,h1,h2,lx,ly,h3,h4,h5,h6,h7⟩;refine ⟨sv,h1,h2,lx++[(⟨n,some x,some y⟩,.iface (iJ n.kind) (.agg #[.int .i64 n.place,vx,vy]))]++ly,?_,?_,?_⟩
  ·simp [aj,h3,h4]
  ·intro p hp;simp only [List.mem_append,List.mem_singleton] at hp
   rcases hp with (hp|rfl)|hp
   ·exact h5 p hp
   ·exact ⟨vx,vy,rfl,rx.but (But.of_below h2),ry.but (But.of_below h2)⟩
   ·exact h6 p hp
  ·have e1:(aj ⟨n,some x,some y⟩).length=(aj x).length+1+(aj y).length:=by simp [aj];omega
   rw [e1]
   simpa using h7
theorem tC {w:World} {base:Nat} {e:TypeId} {size:Nat} {v:Value} {n:Nat} {xs:List Value} (h:w.ownsRow base e size v n xs) (hn:0<n):
  ∃g c,v=.slice (some ⟨g,0,none⟩) n c∧xs.length=n*size∧∀j u,xs[j]? =some u→w.cell? ((⟨g,0,none⟩:Addr).add j)=some u:=by
 obtain ⟨g,c,hv,_⟩:=h.form hn;refine ⟨g,c,hv,h.1,fun j u hu=> ?_⟩;obtain ⟨g',c',hv',hc⟩:=aQ h j u hu;rw [hv] at hv';simp only [Value.slice.injEq,Option.some.injEq,Addr.mk.injEq] at hv';obtain ⟨⟨rfl,_⟩,_⟩:=hv';have hadd:(⟨g,0,none⟩:Addr).add j=⟨g,j,none⟩:=by unfold Addr.add;split<;>simp_all
 rw [hadd];exact hc
def mi (e:Ex):List Gr:=match e.l with
 |none=>if e.nd.kind=0 then e.nd.gs else []
 |some _=>[]
def WF (e:Ex):Prop:=∀p∈aj e,p.l=none→p.nd.kind=0→p.nd.gs≠ []
def aY (e:Ex):List Gr:=(aj e).flatMap mi
def GK (e:Ex) (k:Nat):List Gr:=((aj e).take k).flatMap mi
theorem uT {e:Ex} {k:Nat} {p:Ex} {gs:List Gr} (h:mi p=gs) (hk:(aj e)[k]? =some p):GK e (k+1)=GK e k++gs:=by
 unfold GK;have hlt:k<(aj e).length:=by
  rcases Nat.lt_or_ge k (aj e).length with h|h
  ·exact h
  ·rw [List.getElem?_eq_none h] at hk;cases hk
 rw [List.take_succ_eq_append_getElem hlt,List.flatMap_append];rw [RI hlt] at hk;simp only [Option.some.injEq] at hk;simp [hk,h]
theorem uU {e:Ex} {k:Nat} {p:Ex} (h:mi p=[]) (hk:(aj e)[k]? =some p):GK e (k+1)=GK e k:=by
 rw [uT h hk];simp
theorem gk_le (e:Ex) (k:Nat):(GK e k).length≤(aY e).length:=by
 unfold GK aY
 conv=>rhs;rw [←List.take_append_drop k (aj e),List.flatMap_append,List.length_append]
 omega
theorem Lb (l:List Gr):∀u∈aO l,u.oneCell'=true:=by
 intro u hu;unfold aO at hu;rw [List.mem_flatMap] at hu;obtain ⟨g,_,hu⟩:=hu;exact zu g u hu
theorem qL (a c:List Gr):aO (a++c)=aO a++aO c:=by simp [aO]
theorem mo (p0:Nat) (n0:RJ) (b:Nat) (e:Ex) (v:Value) (w:World) (hb:b<w.heap.size) (h:ay b w e v) (hp:(aj e).length≤1000) (hg:(aY e).length≤1000) (hwf:WF e):
  Calls Tryz.prog 106 #[.agg #[.int .i64 p0,.string n0,v]] w fun e' w'=>∃sv,e'=.returned sv∧Below w.heap.size w w'∧w'.ownsRow w.heap.size 207 5 sv (aY e).length (aO (aY e)):=by
 obtain ⟨i0,hi,hz0,hz1,hz2⟩:=info_parts Tryz.info207;have HI:=ae hi;have jg:=ae hz0;have jh:=ae hz1;have ji:=ae hz2;clear hi hz0 hz1 hz2;obtain ⟨tv,xv,rfl⟩:=h.isI;have H:=ae h;have Lc:=ae hwf;clear h hwf;go_enter Tryz.func106,Tryz.ntmps106;go_wp2_with fail;refine (kT e b _ _ (by simp;omega) ((aa H).but ((But.refl b w).alloc _)) hp).mono ?_;rintro e1 w2 ⟨yX,rfl,hb2,l,l1,l2,l3⟩;obtain ⟨oa,oc,rfl⟩:=ak l3;have ll:l.length=(aj e).length:=by rw [←l1];simp
 have B2:=ae (((Below.refl _ w).alloc RH (.cells #[.int .i64 p0,.string n0,.iface tv xv] 159)).trans (hb2.mono (by simp)));have L1:=ae l1;have L2:=ae l2;have L3:=ae l3;have nH:=(aa B2).size;clear hb2 l1 l2 l3;have f0:=bJ;have f1:=df;have f2:=dh;have f3:=aX;have f4:=bK;have f5:=bO;go_wp2_with fail
 go_loopw [3,11] (fun u3 u11 wr=>∃(k:Nat) (sv:Value),k≤(aj e).length∧u11=.int .i64 k∧u3=sv∧Below w2.heap.size w2 wr∧wr.ownsRow w2.heap.size 207 5 sv (GK e k).length (aO (GK e k))) (fun _ u _=>(aj e).length-(intOf u).toNat)
 case atStart=>exact ⟨0,_,by omega,rfl,rfl,Below.refl _ _,World.ownsRow_nil _ _ _ _⟩
 case round=>
  obtain ⟨k,sv,hk,rfl,rfl,hbr,ho⟩:=hrel;obtain ⟨sa,sc,rfl⟩:=ak ho;have HB:=ae hbr;have HO:=ae ho
  by_cases hlt:k<(aj e).length
  ·have hkl:k<l.length:=by omega
   obtain ⟨g1,c1,e1,kc⟩:=aQ (ai (w':=wr) (aa L3) (fun g cs f _ hh=>hbr.block g (lt_of_some hh))) k l[k].2 (by simp [RI hkl]);simp only [Value.slice.injEq] at e1;obtain ⟨rfl,_,rfl⟩:=e1;have bi:=(aa L2 l[k] (List.getElem_mem hkl)).but (b:=b) (But.of_below hbr);have hk':(aj e)[k]? =some l[k].1:=by rw [←aa L1];simp [RI hkl]
   generalize l[k]=q at*;obtain ⟨q1,qv⟩:=q;simp only at kc bi hk';have hkn:(k:Int)<((aj e).length:Int):=by omega
   clear hbr ho
   match q1,bi,hk' with
   |⟨nq,some xq,some yq⟩,⟨vx,vy,hv,rx,ry⟩,hk'=>
    have he':mi ⟨nq,some xq,some yq⟩=[]:=rfl;subst hv;clear rx ry;have ht:iJ nq.kind=244∨iJ nq.kind=245∨iJ nq.kind=246:=by
     unfold iJ
     split
     ·exact .inl rfl
     ·split
      ·exact .inr (.inl rfl)
      ·exact .inr (.inr rfl)
    rcases ht with ht|ht|ht
    all_goals
     rw [ht] at kc;clear ht;go_wp2;go_roundw
     case rel=>exact ⟨k+1,.slice sa (GK e k).length sc,by omega,by go_num,rfl,aa HB,by rw [uU he' hk'];exact aa HO⟩
     case measure=>simp [intOf];omega
   |⟨nq,none,rq⟩,bi,hk'=>
    rcases bi with ⟨jK,gv,hv,hrow⟩|⟨jK,hv⟩|⟨jK,hv⟩
    ·have he':mi ⟨nq,none,rq⟩=nq.gs:=by simp [mi,jK]
     have hne:0<nq.gs.length:=List.length_pos_iff.2 (aa Lc _ (List.mem_of_getElem? hk') rfl jK);have hle:=gk_le e (k+1);rw [uT he' hk',List.length_append] at hle;obtain ⟨gg,gc,rfl,nl,nw⟩:=tC hrow hne;subst hv;have NL:=ae nl;have NW:=ae nw;have ggl:gg<wr.heap.size:=by
      obtain ⟨g',c',e1,h1⟩:=hrow.form hne;simp only [Value.slice.injEq,Option.some.injEq,Addr.mk.injEq] at e1;obtain ⟨⟨rfl,_⟩,_⟩:=e1;exact h1.2
     have uV:=(aa HB).size;clear nl nw hrow jK;go_wp2_with (at_builtin;go_must (refine wpList_append_lies _ rfl _ _ 211 rfl w2.heap.size 207 i0 _ 5 56 Tryz.underlying211 (aa HI) (aa jg) (aa jh) (aa ji) rfl (by decide) _ _ _ rfl ((aa HO).alloc _) ⟨gg,0,none⟩ nq.gs.length gc (aO nq.gs) rfl (aa NL) ?hnews (Lb _) hne ?h63 ?hbytes ?hbase (wr.heap.size+1) ?hH ?hrest))
     case hnews=>
      intro j u hu;have hadd:(⟨gg,0,none⟩:Addr).add j=⟨gg,j,none⟩:=by unfold Addr.add;split<;>simp_all
      have:=aa NW j u hu;rw [hadd] at this ⊢;rw [Below.cell ((Below.refl wr.heap.size wr).alloc RH _) ggl];exact this
     case h63=>unfold maxLen;omega
     case hbytes=>omega
     case hbase=>simp;omega
     case hH=>simp
     case hrest=>
      intro g5 bu w5 aJ au bI jk;have O1:=(aa HO).alloc (.cells #[.int .i64 nq.place,.slice (some ⟨gg,0,none⟩) nq.gs.length gc] 236);have B5:=ae (Below.grown ((aa HB).alloc uV (.cells #[.int .i64 nq.place,.slice (some ⟨gg,0,none⟩) nq.gs.length gc] 236)) au (by simp;omega) (fun k hk=>(O1.lt k hk).1));have O5:=ae aJ;clear aJ au bI O1;go_wp2;go_roundw
      case rel=>exact ⟨k+1,.slice (some ⟨g5,0,none⟩) ((GK e k).length+nq.gs.length) bu,by omega,by go_num,rfl,aa B5,by rw [uT he' hk',List.length_append,qL];exact aa O5⟩
      case measure=>simp [intOf];omega
    ·have he':mi ⟨nq,none,rq⟩=[]:=by simp [mi,jK]
     subst hv;clear jK;go_wp2;go_roundw
     case rel=>exact ⟨k+1,.slice sa (GK e k).length sc,by omega,by go_num,rfl,aa HB,by rw [uU he' hk'];exact aa HO⟩
     case measure=>simp [intOf];omega
    ·have he':mi ⟨nq,none,rq⟩=[]:=by simp [mi,jK]
     subst hv;clear jK;go_wp2;go_roundw
     case rel=>exact ⟨k+1,.slice sa (GK e k).length sc,by omega,by go_num,rfl,aa HB,by rw [uU he' hk'];exact aa HO⟩
     case measure=>simp [intOf];omega
   |⟨nq,some xq,none⟩,bi,hk'=>exact bi.elim
  ·have hall:GK e k=aY e:=by
    unfold GK aY;rw [List.take_of_length_le (by omega)]
   have HO2:Hid (wr.ownsRow w.heap.size 207 5 (.slice sa (GK e k).length sc) (aY e).length (aO (aY e))):=by
    have:=aA (aa HO) nH;rw [hall] at this ⊢;exact this
   clear hall;have hkn:¬((k:Int)<((aj e).length:Int)):=by omega
   clear hbr ho;go_wp2;go_ret;exact ⟨.slice sa (GK e k).length sc,rfl,(aa B2).trans ((aa HB).mono nH),aa HO2⟩
