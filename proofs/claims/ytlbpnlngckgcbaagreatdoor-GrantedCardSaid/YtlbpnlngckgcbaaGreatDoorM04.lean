import Derived.Test.YtlbpnlngckgcbaaGreatDoorM03
set_option linter.all false
set_option maxHeartbeats 4000000
set_option maxRecDepth 100000
namespace Go.Proofs.YtlbpnlngckgcbaaGreatDoor
open Go.RowKit Go.PlainAid
theorem Tryz.info159:(Tryz.prog.info? 159).map (fun i=>(i.zero,i.size,i.bytes))=some (some (.agg #[.int .i64 0,.string ⟨#[]⟩,.nilIface]),3,40):=by kernel_rfl
def mV (p:Rl×Value):List Value:=[.int .i64 p.1.place,.string p.1.name,p.2]
def jN (base b:Nat) (w:World) (sv:Value) (rs:List Rl):Prop:=
 ∃l:List (Rl×Value),l.map Prod.fst=rs∧(∀p∈l,aH b w p.1.body p.2)∧w.ownsRow base 159 3 sv rs.length (l.flatMap mV)
theorem au {w:World} {base:Nat} {e:TypeId} {size:Nat} {v:Value} {n:Nat} {xs:List Value} (h:w.ownsRow base e size v n xs):∃a cap,v=.slice a n cap:=by
 rcases h.2 with ⟨rfl,rfl⟩|⟨g,cap,cur,rfl,_⟩
 ·exact ⟨_,_,rfl⟩
 ·exact ⟨_,_,rfl⟩
def dJ (b:Nat) (w w':World):Prop:=∀g cs T f,b+1≤g→w.heap[g]? =some (.cells cs T f)→(T=207∨T=159)→w'.heap[g]? =w.heap[g]?
theorem dJ.of_but {b:Nat} {w w':World} (h:But b w w'):dJ b w w':=fun g cs T f hg hh _=>h.block g (lt_of_some hh) (by omega)
theorem dJ.g {b:Nat} {w w':World} (h:dJ b w w'):lX b w w':=fun g cs f hg hh=>h g cs _ f hg hh (.inl rfl)
theorem jN.frame {base b:Nat} {w w':World} {sv:Value} {rs:List Rl} (h:jN base b w sv rs) (k:dJ b w w') (hb:b+1≤base):jN base b w' sv rs:=by
 obtain ⟨l,h1,h2,h3⟩:=h;exact ⟨l,h1,fun p hp=>aH.frame k.g _ _ (h2 p hp),ak h3 fun g cs f hg hh=>k g cs _ f (by omega) hh (.inr rfl)⟩
theorem jN.base {base base' b:Nat} {w:World} {sv:Value} {rs:List Rl} (h:jN base b w sv rs) (hb:base'≤base):jN base' b w sv rs:=by
 obtain ⟨l,h1,h2,h3⟩:=h;exact ⟨l,h1,h2,aO h3 hb⟩
theorem dJ.set {b:Nat} {w:World} {g:Nat} {cs:Array Value} {T:TypeId} (hb:ai w g cs T) (h1:T≠207) (h2:T≠159) (o:Nat) (u:Value):dJ b w (w.setCell ⟨g,o,none⟩ u):=
 fun g' cs' T' f hg hh ht=>Below.heap_setCell _ _ _ _ (fun (e':g'=g)=>by
  subst e';unfold ai at hb;rw [hb] at hh;simp at hh;obtain ⟨_,rfl,_⟩:=hh
  rcases ht with ht|ht
  ·exact h1 ht
  ·exact h2 ht)
theorem dJ.trans {b:Nat} {x y z:World} (h:dJ b x y) (k:dJ b y z):dJ b x z:=fun g cs T f hg hh ht=>(k g cs T f hg ((h g cs T f hg hh ht).trans hh) ht).trans (h g cs T f hg hh ht)
theorem dJ.below {b:Nat} {w w':World} (h:Below w.heap.size w w'):dJ b w w':=dJ.of_but (But.of_below h)
theorem cO {w:World} {base:Nat} {e:TypeId} {size:Nat} {v:Value} {n:Nat} {xs:List Value} {g:Nat} {cs:Array Value} {T:TypeId} {f:Nat×Nat} (h:w.ownsRow base e size v n xs) (hb:w.heap[g]? =some (.cells cs T f)) (ht:T≠e):some g≠v.ownBlock:=by
 rcases h.2 with ⟨rfl,_⟩|⟨g',cap,cur,rfl,hg,hh,r⟩
 ·simp [Value.ownBlock]
 ·intro he;simp only [Value.ownBlock,Option.some.injEq] at he;subst he;rw [hb] at hh;simp at hh;exact ht hh.2.1
def KV (b:Nat) (w:World) (t:Ty) (v:Value):Prop:=∃sv,v=.agg #[.int .i64 t.place,.string t.name,sv]∧jN (b+1) b w sv t.rels
def SL (v:Value):Prop:=∃(p:Nat) (t:aei) (a:Option Addr) (n c:Nat),v=.agg #[.int .i64 p,.string t,.slice a n c]
def typeM (T:Nat→aei) (P:Nat→Nat) (i:Nat) (R:dM (List Rl)):dM Ty:=match R with
 | .error e=> .error e
 | .ok (rs,m)=> .ok (⟨T (i+1),P (i+1),rs⟩,m)
theorem SN (b:Nat) (s:aei) (i d:Nat) (w:World) (hs:s.size≤500) (h:At w b s i d) (he:eqs (TT s i) lG=false):
  Calls Tryz.prog 114 #[.pointer (some ⟨b,0,none⟩)] w (Post b s d w (.error (2,i):dM Ty) (KV b) SL):=by
 have hlt:=h.lt;have A0:=af h;clear h;go_enter Tryz.func114,Tryz.ntmps114;go_wp2_with fail;refine (pU b s i d lG _ ?_ he).mono ?_
 ·exact (by with_reducible repeat (first|exact ae A0|refine At.alloc ?_ _|refine At.drew ?_|(refine At.setNew ?_ ?_ _;rotate_left;exact (by first|omega|(simp;omega)|simp))))
 rintro e w1 ⟨rfl,a1,b1⟩;have B1:=af (((But.refl b w).alloc _).alloc _ |>.trans b1);have R:=((ai.new w #[.int .i64 0,.string ⟨#[]⟩,.slice none 0 0] 110).alloc (.cells #[.int .i64 0,.string ⟨#[]⟩,.slice none 0 0] 110)).but b1 (by omega);have G:=(ai.new' (w.alloc (.cells #[.int .i64 0,.string ⟨#[]⟩,.slice none 0 0] 110)) #[.int .i64 0,.string ⟨#[]⟩,.slice none 0 0] 110 (w.heap.size+1) (by simp)).but b1 (by omega);have HR:=af R;have HG:=af G;obtain ⟨r0,r1,r2⟩:=R.three;obtain ⟨g0,g1,g2⟩:=G.three;have zr:=R.fz;have zg:=G.fz;have A1:=af a1;clear a1 b1 R G;unfold bn;go_wp2;refine bodyPost_ret (v:=.tuple #[.agg #[.int .i64 0,.string ⟨#[]⟩,.slice none 0 0],bn 2]) (aS Tryz.results114 _ _ w.heap.size _ 110 _ _ rfl rfl ?hB Tryz.underlying110 rfl (by kernel_rfl)) rfl ?post
 case hB=>exact ⟨_,(by with_reducible repeat (first|exact ae HR|apply ai.alloc|apply ai.drew|apply ai.set|(apply ai.other;case ha=>exact (by first|omega|(simp;omega)|simp)))),by rfl⟩
 case post=>exact ⟨(by with_reducible repeat (first|exact ae B1|refine But.alloc ?_ _|refine But.drew ?_|(refine But.setNew ?_ ?_ _;rotate_left;exact (by first|omega|(simp;omega)|simp)))),_,d,rfl,⟨0,_,_,_,_,rfl⟩,(by with_reducible repeat (first|exact ae A1|refine At.alloc ?_ _|refine At.drew ?_|(refine At.setNew ?_ ?_ _;rotate_left;exact (by first|omega|(simp;omega)|simp))))⟩
theorem Mm (b:Nat) (s:aei) (i d:Nat) (w:World) (hs:s.size≤500) (h:At w b s i d) (he:eqs (TT s i) lG=true) (c j:Nat) (Hn:Hid (bO (TT s) (sg 123) (i+1)=.error (c,j))):
  Calls Tryz.prog 114 #[.pointer (some ⟨b,0,none⟩)] w (Post b s d w (.error (c,j):dM Ty) (KV b) SL):=by
 have hlt:=h.lt;have Hs:Hid (s.size≤maxLen):=af (by unfold maxLen;omega);have He:=af he;have A0:=af h;clear h he;go_enter Tryz.func114,Tryz.ntmps114;go_wp2_with fail;refine (ku b s i d lG _ (ae Hs) ?_ (ae He) (by decide)).mono ?_
 ·exact (by with_reducible repeat (first|exact ae A0|refine At.alloc ?_ _|refine At.drew ?_|(refine At.setNew ?_ ?_ _;rotate_left;exact (by first|omega|(simp;omega)|simp))))
 rintro e w1 ⟨rfl,a1,b1⟩;have B1:=af (((But.refl b w).alloc _).alloc _ |>.trans b1);have R1:=af (((ai.new w #[.int .i64 0,.string ⟨#[]⟩,.slice none 0 0] 110).alloc (.cells #[.int .i64 0,.string ⟨#[]⟩,.slice none 0 0] 110)).but b1 (by omega));have G1:=af ((ai.new' (w.alloc (.cells #[.int .i64 0,.string ⟨#[]⟩,.slice none 0 0] 110)) #[.int .i64 0,.string ⟨#[]⟩,.slice none 0 0] 110 (w.heap.size+1) (by simp)).but b1 (by omega));have A1:=af a1;clear a1 b1;have C:=af (gQ b s (i+1) d (sg 123) w1 (ae Hs) (ae A1) (by decide));rw [ae Hn] at C;go_wp2_with fail;refine (ae C).mono ?_;rintro e w2 ⟨b2,v,d2,rfl,⟨p,t,rfl⟩,a2⟩;have B2:=af (But.trans (ae B1) b2);have R:=(ae R1).but b2 (by omega);have G:=(ae G1).but b2 (by omega);have HR:=af R;have HG:=af G;obtain ⟨r0,r1,r2⟩:=R.three;obtain ⟨g0,g1,g2⟩:=G.three;have zr:=R.fz;have zg:=G.fz;have hz:=G.lt;have A2:=af a2;clear a2 b2 R G C;unfold bn;go_wp2;refine bodyPost_ret (v:=.tuple #[.agg #[.int .i64 p,.string t,.slice none 0 0],bn c]) (aS Tryz.results114 _ _ w.heap.size _ 110 _ _ rfl rfl ?hB Tryz.underlying110 rfl (by kernel_rfl)) rfl ?post
 case hB=>exact ⟨_,(by with_reducible repeat (first|exact ae HR|apply ai.alloc|apply ai.drew|apply ai.set|(apply ai.other;case ha=>exact (by first|omega|(simp;omega)|simp)))),by rfl⟩
 case post=>exact ⟨(by with_reducible repeat (first|exact ae B2|refine But.alloc ?_ _|refine But.drew ?_|(refine But.setNew ?_ ?_ _;rotate_left;exact (by first|omega|(simp;omega)|simp)))),_,d2,rfl,⟨p,t,_,_,_,rfl⟩,(by with_reducible repeat (first|exact ae A2|refine At.alloc ?_ _|refine At.drew ?_|(refine At.setNew ?_ ?_ _;rotate_left;exact (by first|omega|(simp;omega)|simp))))⟩
theorem SQ (b:Nat) (s:aei) (i d:Nat) (w:World) (hs:s.size≤500) (h:At w b s i d) (hd:d+4=4) (he:eqs (TT s i) lG=true) (j:Nat) (Hn:Hid (bO (TT s) (sg 123) (i+1)=.ok ((),j))):
  Calls Tryz.prog 114 #[.pointer (some ⟨b,0,none⟩)] w (Post b s d w (typeM (TT s) (PP s) i (dP (TT s) (PP s) 512 [] j)) (KV b) SL):=by
 obtain ⟨i0,hi,hz0,hz1,hz2⟩:=info_parts Tryz.info159;have HI:=af hi;have fG:=af hz0;have fH:=af hz1;have fI:=af hz2;clear hi hz0 hz1 hz2;generalize hR:dP (TT s) (PP s) 512 [] j=R;have Ev:=af hR;clear hR;have hlt:=h.lt;have Hs:Hid (s.size≤maxLen):=af (by unfold maxLen;omega);have He:=af he;have A0:=af h;clear h he;go_enter Tryz.func114,Tryz.ntmps114;go_wp2_with fail;refine (ku b s i d lG _ (ae Hs) ?_ (ae He) (by decide)).mono ?_
 ·exact (by with_reducible repeat (first|exact ae A0|refine At.alloc ?_ _|refine At.drew ?_|(refine At.setNew ?_ ?_ _;rotate_left;exact (by first|omega|(simp;omega)|simp))))
 rintro e w1 ⟨rfl,a1,b1⟩;have B1:=af (((But.refl b w).alloc _).alloc _ |>.trans b1);have R1:=af (((ai.new w #[.int .i64 0,.string ⟨#[]⟩,.slice none 0 0] 110).alloc (.cells #[.int .i64 0,.string ⟨#[]⟩,.slice none 0 0] 110)).but b1 (by omega));have G1:=af ((ai.new' (w.alloc (.cells #[.int .i64 0,.string ⟨#[]⟩,.slice none 0 0] 110)) #[.int .i64 0,.string ⟨#[]⟩,.slice none 0 0] 110 (w.heap.size+1) (by simp)).but b1 (by omega));have A1:=af a1;clear a1 b1;have C:=af (gQ b s (i+1) d (sg 123) w1 (ae Hs) (ae A1) (by decide));rw [ae Hn] at C;go_wp2_with fail;refine (ae C).mono ?_;rintro e w2 ⟨b2,v,rfl,rfl,a2⟩;have B2:=af (But.trans (ae B1) b2);have R:=(ae R1).but b2 (by omega);have G:=(ae G1).but b2 (by omega);have HR:=af R;have HG:=af G;obtain ⟨r0,r1,r2⟩:=R.three;obtain ⟨g0,g1,g2⟩:=G.three;have zr:=R.fz;have zg:=G.fz;have hz:=G.lt;have A2:=af a2;clear a2 b2 R G C;unfold wX;go_wp2_with fail
 go_loopg [7] 512 (fun k u7 wr=>∃(rs:List Rl) (j:Nat) (sv:Value),But b w wr∧At wr b s j d∧512≤k+j∧rs.length≤j∧ai wr w.heap.size #[.int .i64 0,.string ⟨#[]⟩,.slice none 0 0] 110∧
  ai wr (w.heap.size+1) #[.int .i64 (bY s (K s (i+1))),.string (bf s (K s (i+1))),sv] 110∧jN w.heap.size b wr sv rs∧Hid (dP (TT s) (PP s) k rs j=R))
 case atStart=>exact ⟨[],j,_,(by with_reducible repeat (first|exact ae B2|refine But.alloc ?_ _|refine But.drew ?_|(refine But.setNew ?_ ?_ _;rotate_left;exact (by first|omega|(simp;omega)|simp)))),(by with_reducible repeat (first|exact ae A2|refine At.alloc ?_ _|refine At.drew ?_|(refine At.setNew ?_ ?_ _;rotate_left;exact (by first|omega|(simp;omega)|simp)))),by omega,by simp,((ae HR).other (by simp) _).other (by simp) _,((ae HG).set 0 _).set 1 _,⟨[],rfl,by simp,World.ownsRow_nil _ _ _ _⟩,Ev⟩
 case round=>
  obtain ⟨rs,j,sv,hb,ha,hk,hrl,hbr,xD,dF,HQ⟩:=hrel;have hf:12≤gk:=by have:=ha.le;omega
  obtain ⟨fu,rfl⟩:∃f,gk=f+1:=⟨gk-1,by omega⟩;obtain ⟨l,Ze,hl2,Bf⟩:=dF;obtain ⟨sa,sc,rfl⟩:=au Bf;have HA:=af ha;have HB:=af hb;have HR:=af hbr;have HT:=af xD;have Mo:=af Ze;have xG:=af hl2;have IG:=af Bf;have uE:=ae HQ;obtain ⟨t0,t1,t2⟩:=xD.three;obtain ⟨x0,x1,x2⟩:=hbr.three;have zx:=hbr.fz;have zt:=xD.fz;have hlt':=xD.lt;have uF:w.heap.size<wr.heap.size:=by omega
  have n1:=ha.pos.rd.c1;have n2:=ha.pos.rd.c2;have hlr:=ha.lt;unfold dP at uE;clear ha hb hbr xD Ze hl2 Bf HQ r0 r1 r2 g0 g1 g2 zr zg
  cases h1:eqs (TT s j) (sg 125)
  ·simp only [h1,Bool.false_eq_true,if_false] at uE;have P0:Hid (jN w.heap.size b wr (.slice sa rs.length sc) rs):=af ⟨l,ae Mo,ae xG,ae IG⟩
   cases hm:dh (TT s j)
   ·simp only [hm,Bool.false_and,Bool.false_eq_true,if_false] at uE;have HK:=af uE;clear uE;go_wp2_with fail;refine (ats b s j d _ _ (sg 125) _ ?_ ?_).mono ?_
    ·exact (by with_reducible repeat (first|exact ae HA|refine At.alloc ?_ _|refine At.drew ?_|(refine At.setNew ?_ ?_ _;rotate_left;exact (by first|omega|(simp;omega)|simp))))
    ·exact aU _ _ _ _ (by simp)
    rintro e w1 ⟨rfl,rfl⟩;rw [h1];go_wp2_with fail;refine (kr _ _ _ (nO s (K s j) (by unfold maxLen;omega) (ae HA).pos.le)).mono ?_;rintro e w3 ⟨rfl,hb3⟩;rw [show dh (bf s (K s j))=false from hm];clear hm;have A3:=af ((show At (wr.alloc (.cells #[.string ⟨#[125]⟩] 9)) b s j d from (by with_reducible repeat (first|exact ae HA|refine At.alloc ?_ _|refine At.drew ?_|(refine At.setNew ?_ ?_ _;rotate_left;exact (by first|omega|(simp;omega)|simp))))).below hb3);have B3:=af ((show But b w (wr.alloc (.cells #[.string ⟨#[125]⟩] 9)) from (by with_reducible repeat (first|exact ae HB|refine But.alloc ?_ _|refine But.drew ?_|(refine But.setNew ?_ ?_ _;rotate_left;exact (by first|omega|(simp;omega)|simp))))).trans (But.of_below hb3));have G3:=((ae HT).alloc (.cells #[.string ⟨#[125]⟩] 9)).below hb3;have R3:=((ae HR).alloc (.cells #[.string ⟨#[125]⟩] 9)).below hb3;have P3:=af ((ae P0).frame ((dJ.below (b:=b) ((Below.refl _ wr).alloc aeg (.cells #[.string ⟨#[125]⟩] 9))).trans (dJ.below hb3)) (by omega));clear hb3 t0 t1 t2 x0 x1 x2 zx zt n1 n2 HA HB HR HT Mo xG IG hlt' uF P0 hlr;have uC:=af G3;have oZ:=af R3;obtain ⟨q0,q1,q2⟩:=G3.three;obtain ⟨x0,x1,x2⟩:=R3.three;have zx:=R3.fz;have zq:=G3.fz;have hW:=G3.lt;have hW':=R3.lt;have hlr:=(ae A3).lt;clear G3 R3
    cases hq:pJ (TT s) (PP s) j with
    |error e=>
     obtain ⟨c4,j4⟩:=e;have C:=af (uD b s j d w3 hs (ae A3) hd);rw [hq] at C HK;clear hq;go_wp2_with fail;refine (ae C).mono ?_;rintro e w4 ⟨b4,v4,d4,rfl,⟨p4,s4,bv4,rfl,hi4⟩,a4⟩;have R4:=(ae oZ).but b4 (by omega);have G4:=(ae uC).but b4 (by omega);have B4:=af (But.trans (ae B3) b4);have P4:=af ((ae P3).frame (dJ.of_but b4) (by omega));have A4:=af a4;have vM:=af R4;have OV:=af G4;obtain ⟨y0,y1,y2⟩:=R4.three;obtain ⟨k0,k1,k2⟩:=G4.three;have zy:=R4.fz;have zk:=G4.fz;have yl:=G4.lt;have WB:w.heap.size<w4.heap.size:=by omega
     clear a4 b4 R4 G4 q0 q1 q2 x0 x1 x2 zx zq C;unfold bn
     rcases hi4 with rfl|⟨tx,vx,rfl⟩
     all_goals
      go_wp2;rw [←ae HK];refine bodyPost_ret (v:=.tuple #[.agg #[.int .i64 (bY s (K s (i+1))),.string (bf s (K s (i+1))),.slice sa rs.length sc],bn c4]) (aS Tryz.results114 _ _ w.heap.size _ 110 _ _ rfl rfl ?hB Tryz.underlying110 rfl (by kernel_rfl)) rfl ?post
      case hB=>exact ⟨_,(by with_reducible repeat (first|exact ae vM|apply ai.alloc|apply ai.drew|apply ai.set|(apply ai.other;case ha=>exact (by first|omega|(simp;omega)|simp)))),by rfl⟩
      case post=>exact ⟨(by with_reducible repeat (first|exact ae B4|refine But.alloc ?_ _|refine But.drew ?_|(refine But.setNew ?_ ?_ _;rotate_left;exact (by first|omega|(simp;omega)|simp)))),_,d4,rfl,⟨_,_,_,_,_,rfl⟩,(by with_reducible repeat (first|exact ae A4|refine At.alloc ?_ _|refine At.drew ?_|(refine At.setNew ?_ ?_ _;rotate_left;exact (by first|omega|(simp;omega)|simp))))⟩
    |ok y=>
     obtain ⟨r4,j4⟩:=y;have C:=af (uD b s j d w3 hs (ae A3) hd);have ZP:=nP _ _ _ _ _ hq;rw [hq] at C HK;clear hq;go_wp2_with fail;refine (ae C).mono ?_;rintro e w4 ⟨b4,v4,rfl,⟨bv4,rfl,Ew⟩,a4⟩;have R4:=(ae oZ).but b4 (by omega);have G4:=(ae uC).but b4 (by omega);have B4:=af (But.trans (ae B3) b4);have P4:=af ((ae P3).frame (dJ.of_but b4) (by omega));have A4:=af a4;have vM:=af R4;have OV:=af G4;obtain ⟨y0,y1,y2⟩:=R4.three;obtain ⟨k0,k1,k2⟩:=G4.three;have zy:=R4.fz;have zk:=G4.fz;have yl:=G4.lt;have WB:w.heap.size<w4.heap.size:=by omega
     clear a4 b4 R4 G4 q0 q1 q2 x0 x1 x2 zx zq C;obtain ⟨tx,vx,rfl⟩:=Ew.isI;have V4:=af Ew;have le4:=(ae A4).le;clear Ew;obtain ⟨l4,e1,e2,e3⟩:=ae P4;have E1:=af e1;have E2:=af e2;have E3:=af e3;clear e1 e2 e3;unfold bn at*;go_wp2_with (at_builtin;go_must (refine wpList_append_lies _ rfl _ _ 108 rfl w.heap.size 159 i0 _ 3 40 Tryz.underlying108 (ae HI) (ae fG) (ae fH) (ae fI) rfl (by decide) (.slice sa rs.length sc) rs.length (l4.flatMap mV) rfl ?hown ⟨w4.heap.size+1,0,none⟩ 1 1 (mV (r4,.iface tx vx)) rfl rfl ?hnews ?hone (by decide) ?h63 ?hbytes ?hbase (w4.heap.size+2) ?hH ?hrest))
     case hown=>exact ((ae E3).alloc _).alloc _
     case hnews=>exact World.news_of_block (B:=w4.heap.size+1) (cs:=#[.int .i64 r4.place,.string r4.name,.iface tx vx]) (t:=159) (fr:=(0,0)) (ai.new' (w4.alloc _) _ _ _ (by simp))
     case hone=>
      intro u hu;simp [mV] at hu
      rcases hu with rfl|rfl|rfl<;>rfl
     case h63=>unfold maxLen;omega
     case hbytes=>omega
     case hbase=>simp;omega
     case hH=>simp
     case hrest=>
      intro g5 aD w5 aC aj aP di;have b0:Below w4.heap.size w4 ((w4.alloc (.cells #[.int .i64 r4.place,.string r4.name,.iface tx vx] 159)).alloc (.cells #[.int .i64 r4.place,.string r4.name,.iface tx vx] 159)):=((Below.refl _ _).alloc aeg _).alloc (by simp) _;have Dc:=(ae OV).below b0;have De:=(ae vM).below b0;have I6:=(ae A4).below b0;have fU:=((ae E3).alloc (.cells #[.int .i64 r4.place,.string r4.name,.iface tx vx] 159)).alloc (.cells #[.int .i64 r4.place,.string r4.name,.iface tx vx] 159);have vN:lX b w4 w5:=fun g cs f hg hh=>(aj.block g (Nat.lt_of_lt_of_le (lt_of_some hh) b0.size) (cO fU ((b0.block g (lt_of_some hh)).trans hh) (by decide))).trans (b0.block g (lt_of_some hh))
      have X5:=af (show ∀p∈l4++[(r4,Value.iface tx vx)],aH b w5 p.1.body p.2 from fun p hp=>by
       rw [List.mem_append] at hp
       rcases hp with hp|hp
       ·exact aH.frame vN _ _ (ae E2 p hp)
       ·simp at hp;subst hp;exact aH.frame vN _ _ (ae V4))
      have uG:=af (show ai w5 (w.heap.size+1) #[.int .i64 (bY s (K s (i+1))),.string (bf s (K s (i+1))),.slice sa rs.length sc] 110 from (aj.block _ Dc.lt (own_ne fU Dc (by decide))).trans Dc);have WC:=af (show ai w5 w.heap.size #[.int .i64 0,.string ⟨#[]⟩,.slice none 0 0] 110 from (aj.block _ De.lt (own_ne fU De (by decide))).trans De);have A5:=af (I6.grown aj (own_ne fU I6.pos.rd.blk (by decide)));have B5:=af (But.grown ((ae B4).trans (But.of_below b0)) aj (fun k hk=>(fU.lt k hk).1));have O5:=af aC;obtain ⟨m0,m1,m2⟩:=(ae uG).three;have zm:=(ae uG).fz;have ml:=(ae uG).lt;clear b0 Dc De I6 fU vN aC aj aP y0 y1 y2 k0 k1 k2 zy zk;go_wp2
      go_roundg fu
      case measure=>omega
      case rel=>exact ⟨rs++[r4],j4,_,(by with_reducible repeat (first|exact ae B5|refine But.alloc ?_ _|refine But.drew ?_|(refine But.setNew ?_ ?_ _;rotate_left;exact (by first|omega|(simp;omega)|simp)))),(by with_reducible repeat (first|exact ae A5|refine At.alloc ?_ _|refine At.drew ?_|(refine At.setNew ?_ ?_ _;rotate_left;exact (by first|omega|(simp;omega)|simp)))),by omega,by simp;omega,(by with_reducible repeat (first|exact ae WC|apply ai.alloc|apply ai.drew|apply ai.set|(apply ai.other;case ha=>exact (by first|omega|(simp;omega)|simp)))),(ae uG).set 2 _,⟨l4++[(r4,.iface tx vx)],by simp [ae E1],fun p hp=>aH.set (ae X5 p hp) (ae uG) (by decide) 2 _,by rw [List.length_append,List.flatMap_append];exact aX (ae O5) (ae uG) (by decide) 2 _⟩,HK⟩
   ·cases h6:((rs.length:Int)==6)
    ·have h6':(rs.length==6)=false:=by
      rw [beq_eq_false_iff_ne] at*;omega
     simp only [hm,h6',Bool.and_false,Bool.false_eq_true,if_false] at uE;have HK:=af uE;clear uE h6';go_wp2_with fail;refine (ats b s j d _ _ (sg 125) _ ?_ ?_).mono ?_
     ·exact (by with_reducible repeat (first|exact ae HA|refine At.alloc ?_ _|refine At.drew ?_|(refine At.setNew ?_ ?_ _;rotate_left;exact (by first|omega|(simp;omega)|simp))))
     ·exact aU _ _ _ _ (by simp)
     rintro e w1 ⟨rfl,rfl⟩;rw [h1];go_wp2_with fail;refine (kr _ _ _ (nO s (K s j) (by unfold maxLen;omega) (ae HA).pos.le)).mono ?_;rintro e w3 ⟨rfl,hb3⟩;rw [show dh (bf s (K s j))=true from hm];clear hm;have A3:=af ((show At (wr.alloc (.cells #[.string ⟨#[125]⟩] 9)) b s j d from (by with_reducible repeat (first|exact ae HA|refine At.alloc ?_ _|refine At.drew ?_|(refine At.setNew ?_ ?_ _;rotate_left;exact (by first|omega|(simp;omega)|simp))))).below hb3);have B3:=af ((show But b w (wr.alloc (.cells #[.string ⟨#[125]⟩] 9)) from (by with_reducible repeat (first|exact ae HB|refine But.alloc ?_ _|refine But.drew ?_|(refine But.setNew ?_ ?_ _;rotate_left;exact (by first|omega|(simp;omega)|simp))))).trans (But.of_below hb3));have G3:=((ae HT).alloc (.cells #[.string ⟨#[125]⟩] 9)).below hb3;have R3:=((ae HR).alloc (.cells #[.string ⟨#[125]⟩] 9)).below hb3;have P3:=af ((ae P0).frame ((dJ.below (b:=b) ((Below.refl _ wr).alloc aeg (.cells #[.string ⟨#[125]⟩] 9))).trans (dJ.below hb3)) (by omega));clear hb3 t0 t1 t2 x0 x1 x2 zx zt n1 n2 HA HB HR HT Mo xG IG hlt' uF P0 hlr;have uC:=af G3;have oZ:=af R3;obtain ⟨q0,q1,q2⟩:=G3.three;obtain ⟨x0,x1,x2⟩:=R3.three;have zx:=R3.fz;have zq:=G3.fz;have hW:=G3.lt;have hW':=R3.lt;have hlr:=(ae A3).lt;clear G3 R3
     cases hq:pJ (TT s) (PP s) j with
     |error e=>
      obtain ⟨c4,j4⟩:=e;have C:=af (uD b s j d w3 hs (ae A3) hd);rw [hq] at C HK;clear hq;go_wp2_with fail;refine (ae C).mono ?_;rintro e w4 ⟨b4,v4,d4,rfl,⟨p4,s4,bv4,rfl,hi4⟩,a4⟩;have R4:=(ae oZ).but b4 (by omega);have G4:=(ae uC).but b4 (by omega);have B4:=af (But.trans (ae B3) b4);have P4:=af ((ae P3).frame (dJ.of_but b4) (by omega));have A4:=af a4;have vM:=af R4;have OV:=af G4;obtain ⟨y0,y1,y2⟩:=R4.three;obtain ⟨k0,k1,k2⟩:=G4.three;have zy:=R4.fz;have zk:=G4.fz;have yl:=G4.lt;have WB:w.heap.size<w4.heap.size:=by omega
      clear a4 b4 R4 G4 q0 q1 q2 x0 x1 x2 zx zq C;unfold bn
      rcases hi4 with rfl|⟨tx,vx,rfl⟩
      all_goals
       go_wp2;rw [←ae HK];refine bodyPost_ret (v:=.tuple #[.agg #[.int .i64 (bY s (K s (i+1))),.string (bf s (K s (i+1))),.slice sa rs.length sc],bn c4]) (aS Tryz.results114 _ _ w.heap.size _ 110 _ _ rfl rfl ?hB Tryz.underlying110 rfl (by kernel_rfl)) rfl ?post
       case hB=>exact ⟨_,(by with_reducible repeat (first|exact ae vM|apply ai.alloc|apply ai.drew|apply ai.set|(apply ai.other;case ha=>exact (by first|omega|(simp;omega)|simp)))),by rfl⟩
       case post=>exact ⟨(by with_reducible repeat (first|exact ae B4|refine But.alloc ?_ _|refine But.drew ?_|(refine But.setNew ?_ ?_ _;rotate_left;exact (by first|omega|(simp;omega)|simp)))),_,d4,rfl,⟨_,_,_,_,_,rfl⟩,(by with_reducible repeat (first|exact ae A4|refine At.alloc ?_ _|refine At.drew ?_|(refine At.setNew ?_ ?_ _;rotate_left;exact (by first|omega|(simp;omega)|simp))))⟩
     |ok y=>
      obtain ⟨r4,j4⟩:=y;have C:=af (uD b s j d w3 hs (ae A3) hd);have ZP:=nP _ _ _ _ _ hq;rw [hq] at C HK;clear hq;go_wp2_with fail;refine (ae C).mono ?_;rintro e w4 ⟨b4,v4,rfl,⟨bv4,rfl,Ew⟩,a4⟩;have R4:=(ae oZ).but b4 (by omega);have G4:=(ae uC).but b4 (by omega);have B4:=af (But.trans (ae B3) b4);have P4:=af ((ae P3).frame (dJ.of_but b4) (by omega));have A4:=af a4;have vM:=af R4;have OV:=af G4;obtain ⟨y0,y1,y2⟩:=R4.three;obtain ⟨k0,k1,k2⟩:=G4.three;have zy:=R4.fz;have zk:=G4.fz;have yl:=G4.lt;have WB:w.heap.size<w4.heap.size:=by omega
      clear a4 b4 R4 G4 q0 q1 q2 x0 x1 x2 zx zq C;obtain ⟨tx,vx,rfl⟩:=Ew.isI;have V4:=af Ew;have le4:=(ae A4).le;clear Ew;obtain ⟨l4,e1,e2,e3⟩:=ae P4;have E1:=af e1;have E2:=af e2;have E3:=af e3;clear e1 e2 e3;unfold bn at*;go_wp2_with (at_builtin;go_must (refine wpList_append_lies _ rfl _ _ 108 rfl w.heap.size 159 i0 _ 3 40 Tryz.underlying108 (ae HI) (ae fG) (ae fH) (ae fI) rfl (by decide) (.slice sa rs.length sc) rs.length (l4.flatMap mV) rfl ?hown ⟨w4.heap.size+1,0,none⟩ 1 1 (mV (r4,.iface tx vx)) rfl rfl ?hnews ?hone (by decide) ?h63 ?hbytes ?hbase (w4.heap.size+2) ?hH ?hrest))
      case hown=>exact ((ae E3).alloc _).alloc _
      case hnews=>exact World.news_of_block (B:=w4.heap.size+1) (cs:=#[.int .i64 r4.place,.string r4.name,.iface tx vx]) (t:=159) (fr:=(0,0)) (ai.new' (w4.alloc _) _ _ _ (by simp))
      case hone=>
       intro u hu;simp [mV] at hu
       rcases hu with rfl|rfl|rfl<;>rfl
      case h63=>unfold maxLen;omega
      case hbytes=>omega
      case hbase=>simp;omega
      case hH=>simp
      case hrest=>
       intro g5 aD w5 aC aj aP di;have b0:Below w4.heap.size w4 ((w4.alloc (.cells #[.int .i64 r4.place,.string r4.name,.iface tx vx] 159)).alloc (.cells #[.int .i64 r4.place,.string r4.name,.iface tx vx] 159)):=((Below.refl _ _).alloc aeg _).alloc (by simp) _;have Dc:=(ae OV).below b0;have De:=(ae vM).below b0;have I6:=(ae A4).below b0;have fU:=((ae E3).alloc (.cells #[.int .i64 r4.place,.string r4.name,.iface tx vx] 159)).alloc (.cells #[.int .i64 r4.place,.string r4.name,.iface tx vx] 159);have vN:lX b w4 w5:=fun g cs f hg hh=>(aj.block g (Nat.lt_of_lt_of_le (lt_of_some hh) b0.size) (cO fU ((b0.block g (lt_of_some hh)).trans hh) (by decide))).trans (b0.block g (lt_of_some hh))
       have X5:=af (show ∀p∈l4++[(r4,Value.iface tx vx)],aH b w5 p.1.body p.2 from fun p hp=>by
        rw [List.mem_append] at hp
        rcases hp with hp|hp
        ·exact aH.frame vN _ _ (ae E2 p hp)
        ·simp at hp;subst hp;exact aH.frame vN _ _ (ae V4))
       have uG:=af (show ai w5 (w.heap.size+1) #[.int .i64 (bY s (K s (i+1))),.string (bf s (K s (i+1))),.slice sa rs.length sc] 110 from (aj.block _ Dc.lt (own_ne fU Dc (by decide))).trans Dc);have WC:=af (show ai w5 w.heap.size #[.int .i64 0,.string ⟨#[]⟩,.slice none 0 0] 110 from (aj.block _ De.lt (own_ne fU De (by decide))).trans De);have A5:=af (I6.grown aj (own_ne fU I6.pos.rd.blk (by decide)));have B5:=af (But.grown ((ae B4).trans (But.of_below b0)) aj (fun k hk=>(fU.lt k hk).1));have O5:=af aC;obtain ⟨m0,m1,m2⟩:=(ae uG).three;have zm:=(ae uG).fz;have ml:=(ae uG).lt;clear b0 Dc De I6 fU vN aC aj aP y0 y1 y2 k0 k1 k2 zy zk;go_wp2
       go_roundg fu
       case measure=>omega
       case rel=>exact ⟨rs++[r4],j4,_,(by with_reducible repeat (first|exact ae B5|refine But.alloc ?_ _|refine But.drew ?_|(refine But.setNew ?_ ?_ _;rotate_left;exact (by first|omega|(simp;omega)|simp)))),(by with_reducible repeat (first|exact ae A5|refine At.alloc ?_ _|refine At.drew ?_|(refine At.setNew ?_ ?_ _;rotate_left;exact (by first|omega|(simp;omega)|simp)))),by omega,by simp;omega,(by with_reducible repeat (first|exact ae WC|apply ai.alloc|apply ai.drew|apply ai.set|(apply ai.other;case ha=>exact (by first|omega|(simp;omega)|simp)))),(ae uG).set 2 _,⟨l4++[(r4,.iface tx vx)],by simp [ae E1],fun p hp=>aH.set (ae X5 p hp) (ae uG) (by decide) 2 _,by rw [List.length_append,List.flatMap_append];exact aX (ae O5) (ae uG) (by decide) 2 _⟩,HK⟩
    ·have h6':(rs.length==6)=true:=by
      rw [beq_iff_eq] at*;omega
     simp only [hm,h6',Bool.and_true,if_true] at uE;have HK:=af uE;clear uE h6';go_wp2_with fail;refine (ats b s j d _ _ (sg 125) _ ?_ ?_).mono ?_
     ·exact (by with_reducible repeat (first|exact ae HA|refine At.alloc ?_ _|refine At.drew ?_|(refine At.setNew ?_ ?_ _;rotate_left;exact (by first|omega|(simp;omega)|simp))))
     ·exact aU _ _ _ _ (by simp)
     rintro e w1 ⟨rfl,rfl⟩;rw [h1];go_wp2_with fail;refine (kr _ _ _ (nO s (K s j) (by unfold maxLen;omega) (ae HA).pos.le)).mono ?_;rintro e w3 ⟨rfl,hb3⟩;rw [show dh (bf s (K s j))=true from hm];clear hm;have A3:=af ((show At (wr.alloc (.cells #[.string ⟨#[125]⟩] 9)) b s j d from (by with_reducible repeat (first|exact ae HA|refine At.alloc ?_ _|refine At.drew ?_|(refine At.setNew ?_ ?_ _;rotate_left;exact (by first|omega|(simp;omega)|simp))))).below hb3);have B3:=af ((show But b w (wr.alloc (.cells #[.string ⟨#[125]⟩] 9)) from (by with_reducible repeat (first|exact ae HB|refine But.alloc ?_ _|refine But.drew ?_|(refine But.setNew ?_ ?_ _;rotate_left;exact (by first|omega|(simp;omega)|simp))))).trans (But.of_below hb3));have G3:=((ae HT).alloc (.cells #[.string ⟨#[125]⟩] 9)).below hb3;have R3:=((ae HR).alloc (.cells #[.string ⟨#[125]⟩] 9)).below hb3;have P3:=af ((ae P0).frame ((dJ.below (b:=b) ((Below.refl _ wr).alloc aeg (.cells #[.string ⟨#[125]⟩] 9))).trans (dJ.below hb3)) (by omega));clear hb3 t0 t1 t2 x0 x1 x2 zx zt n1 n2 HA HB HR HT Mo xG IG hlt' uF P0 hlr;have uC:=af G3;have oZ:=af R3;obtain ⟨q0,q1,q2⟩:=G3.three;obtain ⟨x0,x1,x2⟩:=R3.three;have zx:=R3.fz;have zq:=G3.fz;have hW:=G3.lt;have hW':=R3.lt;have hlr:=(ae A3).lt;clear G3 R3;go_wp2;rw [←ae HK];refine bodyPost_ret (v:=.tuple #[.agg #[.int .i64 (bY s (K s (i+1))),.string (bf s (K s (i+1))),.slice sa rs.length sc],bn 3]) (aS Tryz.results114 _ _ w.heap.size _ 110 _ _ rfl rfl ?hB Tryz.underlying110 rfl (by kernel_rfl)) rfl ?post
     case hB=>exact ⟨_,(by with_reducible repeat (first|exact ae oZ|apply ai.alloc|apply ai.drew|apply ai.set|(apply ai.other;case ha=>exact (by first|omega|(simp;omega)|simp)))),by rfl⟩
     case post=>exact ⟨(by with_reducible repeat (first|exact ae B3|refine But.alloc ?_ _|refine But.drew ?_|(refine But.setNew ?_ ?_ _;rotate_left;exact (by first|omega|(simp;omega)|simp)))),_,d,rfl,⟨_,_,_,_,_,rfl⟩,(by with_reducible repeat (first|exact ae A3|refine At.alloc ?_ _|refine At.drew ?_|(refine At.setNew ?_ ?_ _;rotate_left;exact (by first|omega|(simp;omega)|simp))))⟩
  ·simp only [h1,if_true] at uE;have HK:=af uE;have H1:=af h1;clear uE;go_wp2_with fail;refine (ats b s j d _ _ (sg 125) _ ?_ ?_).mono ?_
   ·exact (by with_reducible repeat (first|exact ae HA|refine At.alloc ?_ _|refine At.drew ?_|(refine At.setNew ?_ ?_ _;rotate_left;exact (by first|omega|(simp;omega)|simp))))
   ·exact aU _ _ _ _ (by simp)
   rintro e w1 ⟨rfl,rfl⟩;rw [h1];clear h1;go_wp2_with fail;have ZR:=af (show At (wr.alloc (.cells #[.string ⟨#[125]⟩] 9)) b s j d from (by with_reducible repeat (first|exact ae HA|refine At.alloc ?_ _|refine At.drew ?_|(refine At.setNew ?_ ?_ _;rotate_left;exact (by first|omega|(simp;omega)|simp)))));have ZT:=af (show But b w (wr.alloc (.cells #[.string ⟨#[125]⟩] 9)) from (by with_reducible repeat (first|exact ae HB|refine But.alloc ?_ _|refine But.drew ?_|(refine But.setNew ?_ ?_ _;rotate_left;exact (by first|omega|(simp;omega)|simp)))));have G3:=(ae HT).alloc (.cells #[.string ⟨#[125]⟩] 9);have R3:=(ae HR).alloc (.cells #[.string ⟨#[125]⟩] 9);have P3:=af (jN.frame (base:=w.heap.size) ⟨l,ae Mo,ae xG,ae IG⟩ (dJ.below (b:=b) ((Below.refl _ wr).alloc aeg (.cells #[.string ⟨#[125]⟩] 9))) (by omega));generalize wr.alloc (.cells #[.string ⟨#[125]⟩] 9)=W at*;clear t0 t1 t2 x0 x1 x2 zx zt n1 n2 HA HB HR HT Mo xG IG hlt' uF;have uC:=af G3;have oZ:=af R3;obtain ⟨q0,q1,q2⟩:=G3.three;have zq:=G3.fz;have hW:=G3.lt;have hW':=R3.lt;clear G3 R3;have hne:¬(w.heap.size+1=w.heap.size):=by omega
   go_region_held3 (fun w'=>w'.cell? ⟨w.heap.size+1,0,none⟩=some (.int .i64 (bY s (K s (i+1))))∧w'.cell? ⟨w.heap.size+1,1,none⟩=some (.string (bf s (K s (i+1))))∧w'.cell? ⟨w.heap.size+1,2,none⟩=some (.slice sa rs.length sc)) (go_keep)
    ((go_at_call 169;refine (ku b s j d (sg 125) _ (ae Hs) ?_ (ae H1) (by decide)).mono ?_;(exact (ae ZR).drew);rintro e w3 ⟨rfl,a3,b3⟩;have G4:=(ae uC).drew.but b3 (by omega);obtain ⟨k0,k1,k2⟩:=G4.three;have R4:=(ae oZ).drew.but b3 (by omega);obtain ⟨m0,m1,m2⟩:=R4.three;have zk:=ai.fz R4;have vM:=af R4;have A4:=af a3;have P4:=af ((ae P3).frame (dJ.of_but (But.trans ((But.refl b W).drew) b3)) (by omega));have B4:=af (But.trans (ae ZT).drew b3);clear G4 R4 a3 b3))
   go_wp2;rw [←ae HK];refine bodyPost_ret (v:=.tuple #[.agg #[.int .i64 (bY s (K s (i+1))),.string (bf s (K s (i+1))),.slice sa rs.length sc],.nilIface]) (aS Tryz.results114 _ _ w.heap.size _ 110 _ _ rfl rfl ?hB Tryz.underlying110 rfl (by kernel_rfl)) rfl ?post
   case hB=>exact ⟨_,(by with_reducible repeat (first|exact ae vM|apply ai.alloc|apply ai.drew|apply ai.set|(apply ai.other;case ha=>exact (by first|omega|(simp;omega)|simp)))),by rfl⟩
   case post=>exact ⟨(by with_reducible repeat (first|exact ae B4|refine But.alloc ?_ _|refine But.drew ?_|(refine But.setNew ?_ ?_ _;rotate_left;exact (by first|omega|(simp;omega)|simp)))),_,rfl,⟨_,rfl,((ae P4).frame ((dJ.set (ae vM) (by decide) (by decide) 0 _).trans ((dJ.set ((ae vM).set 0 _) (by decide) (by decide) 1 _).trans (dJ.set (((ae vM).set 0 _).set 1 _) (by decide) (by decide) 2 _))) (by omega)).base (by omega)⟩,(by with_reducible repeat (first|exact ae A4|refine At.alloc ?_ _|refine At.drew ?_|(refine At.setNew ?_ ?_ _;rotate_left;exact (by first|omega|(simp;omega)|simp))))⟩
theorem qP (b:Nat) (s:aei) (i d:Nat) (w:World) (hs:s.size≤500) (h:At w b s i d) (hd:d+4=4):
  Calls Tryz.prog 114 #[.pointer (some ⟨b,0,none⟩)] w (Post b s d w (rQ (TT s) (PP s) i) (KV b) SL):=by
 unfold rQ
 cases he:eqs (TT s i) lG
 ·simp only [he,Bool.false_eq_true,if_false];exact SN b s i d w hs h he
 ·simp only [he,if_true]
  cases hn:bO (TT s) (sg 123) (i+1) with
  |error e=>exact Mm b s i d w hs h he e.1 e.2 (af hn)
  |ok y=>
   obtain ⟨⟨⟩,j⟩:=y;exact SQ b s i d w hs h hd he j (af hn)
theorem Tryz.info110:(Tryz.prog.info? 110).map (fun i=>(i.zero,i.size,i.bytes))=some (some (.agg #[.int .i64 0,.string ⟨#[]⟩,.slice none 0 0]),3,48):=by kernel_rfl
def mW (p:Ty×Value):List Value:=[.int .i64 p.1.place,.string p.1.name,p.2]
def nk (base b:Nat) (w:World) (sv:Value) (ts:List Ty):Prop:=
 ∃l:List (Ty×Value),l.map Prod.fst=ts∧(∀p∈l,jN (b+1) b w p.2 p.1.rels)∧w.ownsRow base 110 3 sv ts.length (l.flatMap mW)
def iw (b:Nat) (w w':World):Prop:=∀g cs T f,b+1≤g→w.heap[g]? =some (.cells cs T f)→(T=207∨T=159∨T=110)→w'.heap[g]? =w.heap[g]?
theorem iw.of_but {b:Nat} {w w':World} (h:But b w w'):iw b w w':=fun g cs T f hg hh _=>h.block g (lt_of_some hh) (by omega)
theorem iw.below {b:Nat} {w w':World} (h:Below w.heap.size w w'):iw b w w':=iw.of_but (But.of_below h)
theorem iw.r {b:Nat} {w w':World} (h:iw b w w'):dJ b w w':=fun g cs T f hg hh ht=>h g cs T f hg hh (by rcases ht with h|h;exact .inl h;exact .inr (.inl h))
theorem iw.trans {b:Nat} {x y z:World} (h:iw b x y) (k:iw b y z):iw b x z:=fun g cs T f hg hh ht=>(k g cs T f hg ((h g cs T f hg hh ht).trans hh) ht).trans (h g cs T f hg hh ht)
theorem iw.set {b:Nat} {w:World} {g:Nat} {cs:Array Value} {T:TypeId} (hb:ai w g cs T) (h1:T≠207) (h2:T≠159) (h3:T≠110) (o:Nat) (u:Value):iw b w (w.setCell ⟨g,o,none⟩ u):=
 fun g' cs' T' f hg hh ht=>Below.heap_setCell _ _ _ _ (fun (e':g'=g)=>by
  subst e';unfold ai at hb;rw [hb] at hh;simp at hh;obtain ⟨_,rfl,_⟩:=hh
  rcases ht with ht|ht|ht
  ·exact h1 ht
  ·exact h2 ht
  ·exact h3 ht)
theorem nk.frame {base b:Nat} {w w':World} {sv:Value} {ts:List Ty} (h:nk base b w sv ts) (k:iw b w w') (hb:b+1≤base):nk base b w' sv ts:=by
 obtain ⟨l,h1,h2,h3⟩:=h;exact ⟨l,h1,fun p hp=>(h2 p hp).frame k.r aeg,ak h3 fun g cs f hg hh=>k g cs _ f (by omega) hh (.inr (.inr rfl))⟩
theorem nk.base {base base' b:Nat} {w:World} {sv:Value} {ts:List Ty} (h:nk base b w sv ts) (hb:base'≤base):nk base' b w sv ts:=by
 obtain ⟨l,h1,h2,h3⟩:=h;exact ⟨l,h1,h2,aO h3 hb⟩
def RepM (b:Nat) (w:World) (ts:List Ty) (v:Value):Prop:=∃sv,v=.agg #[sv]∧nk (b+1) b w sv ts
def IsM (v:Value):Prop:=∃(a:Option Addr) (n c:Nat),v=.agg #[.slice a n c]
theorem sI (b:Nat) (s:aei) (d:Nat) (w:World) (hs:s.size≤500) (h:At w b s 0 d) (hd:d+4=4):
  Calls Tryz.prog 72 #[.pointer (some ⟨b,0,none⟩)] w (Post b s d w (gF (TT s) (PP s)) (RepM b) IsM):=by
 obtain ⟨i0,hi,hz0,hz1,hz2⟩:=info_parts Tryz.info110;have HI:=af hi;have fG:=af hz0;have fH:=af hz1;have fI:=af hz2;clear hi hz0 hz1 hz2;unfold gF;generalize hR:dR (TT s) (PP s) 512 [] 0=R;have Ev:=af hR;clear hR;have hlt:=h.lt;have Hs:Hid (s.size≤maxLen):=af (by unfold maxLen;omega);have A0:=af h;clear h;go_enter Tryz.func72,Tryz.ntmps72;go_wp2_with fail
 go_loopg [6] 512 (fun k u6 wr=>∃(ts:List Ty) (j:Nat) (sv:Value),But b w wr∧At wr b s j d∧512≤k+j∧ts.length≤j∧ai wr w.heap.size #[.slice none 0 0] 75∧
  ai wr (w.heap.size+1) #[sv] 75∧nk w.heap.size b wr sv ts∧Hid (dR (TT s) (PP s) k ts j=R))
 case atStart=>exact ⟨[],0,_,((But.refl b w).alloc _).alloc _,(by with_reducible repeat (first|exact ae A0|refine At.alloc ?_ _|refine At.drew ?_|(refine At.setNew ?_ ?_ _;rotate_left;exact (by first|omega|(simp;omega)|simp)))),by omega,by simp,(ai.new w _ _).alloc _,ai.new' (w.alloc _) _ _ _ (by simp),⟨[],rfl,by simp,World.ownsRow_nil _ _ _ _⟩,Ev⟩
 case round=>
  obtain ⟨ts,j,sv,hb,ha,hk,hrl,hbr,xD,dF,HQ⟩:=hrel;have hf:12≤gk:=by have:=ha.le;omega
  obtain ⟨fu,rfl⟩:∃f,gk=f+1:=⟨gk-1,by omega⟩;obtain ⟨l,Ze,hl2,Bf⟩:=dF;obtain ⟨sa,sc,rfl⟩:=au Bf;have P0:Hid (nk w.heap.size b wr (.slice sa ts.length sc) ts):=af ⟨l,Ze,hl2,Bf⟩;have HA:=af ha;have HB:=af hb;have HR:=af hbr;have HT:=af xD;have Mo:=af Ze;have xG:=af hl2;have IG:=af Bf;have uE:=ae HQ;have t0:=xD.cell (o:=0) rfl;have x0:=hbr.cell (o:=0) rfl;simp only [List.getElem_toArray,List.getElem_cons_zero] at t0 x0;have zx:=hbr.fz;have zt:=xD.fz;have hlt':=xD.lt;have uF:w.heap.size<wr.heap.size:=by omega
  have hlr:=ha.lt;unfold dR at uE;clear ha hb hbr xD Ze hl2 Bf HQ
  cases h1:eqs (TT s j) em
  ·simp only [h1,Bool.false_eq_true,if_false] at uE
   cases h2:eqs (TT s j) lG
   ·simp only [h2,Bool.false_and,Bool.false_eq_true,if_false] at uE;have HK:=af uE;clear uE;go_wp2_with fail;refine (ats b s j d _ _ em _ ?_ ?_).mono ?_
    ·exact (by with_reducible repeat (first|exact ae HA|refine At.alloc ?_ _|refine At.drew ?_|(refine At.setNew ?_ ?_ _;rotate_left;exact (by first|omega|(simp;omega)|simp))))
    ·exact aU _ _ _ _ (by simp)
    rintro e w1 ⟨rfl,rfl⟩;rw [h1];go_wp2_with fail;refine (ats b s j d _ _ lG _ ?_ ?_).mono ?_
    ·exact (by with_reducible repeat (first|exact ae HA|refine At.alloc ?_ _|refine At.drew ?_|(refine At.setNew ?_ ?_ _;rotate_left;exact (by first|omega|(simp;omega)|simp))))
    ·exact aU _ _ _ _ (by simp)
    rintro e w1 ⟨rfl,rfl⟩;rw [h2];have A3:=af (show At ((wr.alloc (.cells #[.string ⟨#[]⟩] 9)).alloc (.cells #[.string ⟨#[116,121,112,101]⟩] 9)) b s j d from (by with_reducible repeat (first|exact ae HA|refine At.alloc ?_ _|refine At.drew ?_|(refine At.setNew ?_ ?_ _;rotate_left;exact (by first|omega|(simp;omega)|simp)))));have B3:=af (show But b w ((wr.alloc (.cells #[.string ⟨#[]⟩] 9)).alloc (.cells #[.string ⟨#[116,121,112,101]⟩] 9)) from (by with_reducible repeat (first|exact ae HB|refine But.alloc ?_ _|refine But.drew ?_|(refine But.setNew ?_ ?_ _;rotate_left;exact (by first|omega|(simp;omega)|simp)))));have G3:=((ae HT).alloc (.cells #[.string ⟨#[]⟩] 9)).alloc (.cells #[.string ⟨#[116,121,112,101]⟩] 9);have R3:=((ae HR).alloc (.cells #[.string ⟨#[]⟩] 9)).alloc (.cells #[.string ⟨#[116,121,112,101]⟩] 9);have P3:=af ((ae P0).frame (iw.below (b:=b) (((Below.refl _ wr).alloc aeg (.cells #[.string ⟨#[]⟩] 9)).alloc (by simp) (.cells #[.string ⟨#[116,121,112,101]⟩] 9))) (by omega));generalize (wr.alloc (.cells #[.string ⟨#[]⟩] 9)).alloc (.cells #[.string ⟨#[116,121,112,101]⟩] 9)=w3 at*;clear t0 x0 zx zt HA HB HR HT Mo xG IG hlt' uF P0 hlr;have uC:=af G3;have oZ:=af R3;have q0:=G3.cell (o:=0) rfl;have x0:=R3.cell (o:=0) rfl;simp only [List.getElem_toArray,List.getElem_cons_zero] at q0 x0;have zx:=R3.fz;have zq:=G3.fz;have hW:=G3.lt;have hW':=R3.lt;have hlr:=(ae A3).lt;clear G3 R3
    cases hq:rQ (TT s) (PP s) j with
    |error e=>
     obtain ⟨c4,j4⟩:=e;have C:=af (qP b s j d w3 hs (ae A3) hd);rw [hq] at C HK;clear hq;go_wp2_with fail;refine (ae C).mono ?_;rintro e w4 ⟨b4,v4,d4,rfl,⟨p4,s4,va,vn,vc,rfl⟩,a4⟩;have R4:=(ae oZ).but b4 (by omega);have G4:=(ae uC).but b4 (by omega);have B4:=af (But.trans (ae B3) b4);have P4:=af ((ae P3).frame (iw.of_but b4) (by omega));have A4:=af a4;have vM:=af R4;have OV:=af G4;have y0:=R4.cell (o:=0) rfl;have k0:=G4.cell (o:=0) rfl;simp only [List.getElem_toArray,List.getElem_cons_zero] at y0 k0;have zy:=R4.fz;have zk:=G4.fz;have yl:=G4.lt;have WB:w.heap.size<w4.heap.size:=by omega
     clear a4 b4 R4 G4 q0 x0 zx zq C;unfold bn;go_wp2;rw [←ae HK];refine bodyPost_ret (v:=.tuple #[.agg #[.slice sa ts.length sc],bn c4]) (aS Tryz.results72 _ _ w.heap.size _ 75 _ _ rfl rfl ?hB Tryz.underlying75 rfl (by kernel_rfl)) rfl ?post
     case hB=>exact ⟨_,(by with_reducible repeat (first|exact ae vM|apply ai.alloc|apply ai.drew|apply ai.set|(apply ai.other;case ha=>exact (by first|omega|(simp;omega)|simp)))),by rfl⟩
     case post=>exact ⟨(by with_reducible repeat (first|exact ae B4|refine But.alloc ?_ _|refine But.drew ?_|(refine But.setNew ?_ ?_ _;rotate_left;exact (by first|omega|(simp;omega)|simp)))),_,d4,rfl,⟨_,_,_,rfl⟩,(by with_reducible repeat (first|exact ae A4|refine At.alloc ?_ _|refine At.drew ?_|(refine At.setNew ?_ ?_ _;rotate_left;exact (by first|omega|(simp;omega)|simp))))⟩
    |ok y=>
     obtain ⟨t4,j4⟩:=y;have C:=af (qP b s j d w3 hs (ae A3) hd);have ZP:=sH _ _ _ _ _ hq;rw [hq] at C HK;clear hq;go_wp2_with fail;refine (ae C).mono ?_;rintro e w4 ⟨b4,v4,rfl,⟨tv4,rfl,Ew⟩,a4⟩;have R4:=(ae oZ).but b4 (by omega);have G4:=(ae uC).but b4 (by omega);have B4:=af (But.trans (ae B3) b4);have P4:=af ((ae P3).frame (iw.of_but b4) (by omega));have A4:=af a4;have vM:=af R4;have OV:=af G4;have y0:=R4.cell (o:=0) rfl;have k0:=G4.cell (o:=0) rfl;simp only [List.getElem_toArray,List.getElem_cons_zero] at y0 k0;have zy:=R4.fz;have zk:=G4.fz;have yl:=G4.lt;have WB:w.heap.size<w4.heap.size:=by omega
     clear a4 b4 R4 G4 q0 x0 zx zq C;have hfm:∃a n c,tv4=.slice a n c:=by
      obtain ⟨_,_,_,h3⟩:=Ew;obtain ⟨a,c,h⟩:=au h3;exact ⟨a,_,c,h⟩
     obtain ⟨va,vn,vc,rfl⟩:=hfm;have V4:=af Ew;have le4:=(ae A4).le;clear Ew;obtain ⟨l4,e1,e2,e3⟩:=ae P4;have E1:=af e1;have E2:=af e2;have E3:=af e3;clear e1 e2 e3;go_wp2_with (at_builtin;go_must (refine wpList_append_lies _ rfl _ _ 73 rfl w.heap.size 110 i0 _ 3 48 Tryz.underlying73 (ae HI) (ae fG) (ae fH) (ae fI) rfl (by decide) (.slice sa ts.length sc) ts.length (l4.flatMap mW) rfl ?hown ⟨w4.heap.size+1,0,none⟩ 1 1 (mW (t4,.slice va vn vc)) rfl rfl ?hnews ?hone (by decide) ?h63 ?hbytes ?hbase (w4.heap.size+2) ?hH ?hrest))
     case hown=>exact ((ae E3).alloc _).alloc _
     case hnews=>exact World.news_of_block (B:=w4.heap.size+1) (cs:=#[.int .i64 t4.place,.string t4.name,.slice va vn vc]) (t:=110) (fr:=(0,0)) (ai.new' (w4.alloc _) _ _ _ (by simp))
     case hone=>
      intro u hu;simp [mW] at hu
      rcases hu with rfl|rfl|rfl<;>rfl
     case h63=>unfold maxLen;omega
     case hbytes=>omega
     case hbase=>simp;omega
     case hH=>simp
     case hrest=>
      intro g5 aD w5 aC aj aP di;have b0:Below w4.heap.size w4 ((w4.alloc (.cells #[.int .i64 t4.place,.string t4.name,.slice va vn vc] 110)).alloc (.cells #[.int .i64 t4.place,.string t4.name,.slice va vn vc] 110)):=((Below.refl _ _).alloc aeg _).alloc (by simp) _;have Dc:=(ae OV).below b0;have De:=(ae vM).below b0;have I6:=(ae A4).below b0;have fU:=((ae E3).alloc (.cells #[.int .i64 t4.place,.string t4.name,.slice va vn vc] 110)).alloc (.cells #[.int .i64 t4.place,.string t4.name,.slice va vn vc] 110);have vN:dJ b w4 w5:=fun g cs T f hg hh ht=>(aj.block g (Nat.lt_of_lt_of_le (lt_of_some hh) b0.size) (cO fU ((b0.block g (lt_of_some hh)).trans hh) (by rcases ht with rfl|rfl<;>decide))).trans (b0.block g (lt_of_some hh))
      have X5:=af (show ∀p∈l4++[(t4,Value.slice va vn vc)],jN (b+1) b w5 p.2 p.1.rels from fun p hp=>by
       rw [List.mem_append] at hp
       rcases hp with hp|hp
       ·exact (ae E2 p hp).frame vN aeg
       ·simp at hp;subst hp;exact (ae V4).frame vN aeg)
      have uG:=af (show ai w5 (w.heap.size+1) #[.slice sa ts.length sc] 75 from (aj.block _ Dc.lt (own_ne fU Dc (by decide))).trans Dc);have WC:=af (show ai w5 w.heap.size #[.slice none 0 0] 75 from (aj.block _ De.lt (own_ne fU De (by decide))).trans De);have A5:=af (I6.grown aj (own_ne fU I6.pos.rd.blk (by decide)));have B5:=af (But.grown ((ae B4).trans (But.of_below b0)) aj (fun k hk=>(fU.lt k hk).1));have O5:=af aC;have m0:=(ae uG).cell (o:=0) rfl;simp only [List.getElem_toArray,List.getElem_cons_zero] at m0;have zm:=(ae uG).fz;have ml:=(ae uG).lt;clear b0 Dc De I6 fU vN aC aj aP y0 k0 zy zk;go_wp2
      go_roundg fu
      case measure=>omega
      case rel=>exact ⟨ts++[t4],j4,_,(by with_reducible repeat (first|exact ae B5|refine But.alloc ?_ _|refine But.drew ?_|(refine But.setNew ?_ ?_ _;rotate_left;exact (by first|omega|(simp;omega)|simp)))),(by with_reducible repeat (first|exact ae A5|refine At.alloc ?_ _|refine At.drew ?_|(refine At.setNew ?_ ?_ _;rotate_left;exact (by first|omega|(simp;omega)|simp)))),by omega,by simp;omega,(by with_reducible repeat (first|exact ae WC|apply ai.alloc|apply ai.drew|apply ai.set|(apply ai.other;case ha=>exact (by first|omega|(simp;omega)|simp)))),(ae uG).set 0 _,⟨l4++[(t4,.slice va vn vc)],by simp [ae E1],fun p hp=>(ae X5 p hp).frame (dJ.set (ae uG) (by decide) (by decide) 0 _) aeg,by rw [List.length_append,List.flatMap_append];exact aX (ae O5) (ae uG) (by decide) 0 _⟩,HK⟩
   ·cases h5:((ts.length:Int)==5)
    ·have WE:(ts.length==5)=false:=by
      rw [beq_eq_false_iff_ne] at*;omega
     simp only [h2,WE,Bool.and_false,Bool.false_eq_true,if_false] at uE;have HK:=af uE;clear uE WE;go_wp2_with fail;refine (ats b s j d _ _ em _ ?_ ?_).mono ?_
     ·exact (by with_reducible repeat (first|exact ae HA|refine At.alloc ?_ _|refine At.drew ?_|(refine At.setNew ?_ ?_ _;rotate_left;exact (by first|omega|(simp;omega)|simp))))
     ·exact aU _ _ _ _ (by simp)
     rintro e w1 ⟨rfl,rfl⟩;rw [h1];go_wp2_with fail;refine (ats b s j d _ _ lG _ ?_ ?_).mono ?_
     ·exact (by with_reducible repeat (first|exact ae HA|refine At.alloc ?_ _|refine At.drew ?_|(refine At.setNew ?_ ?_ _;rotate_left;exact (by first|omega|(simp;omega)|simp))))
     ·exact aU _ _ _ _ (by simp)
     rintro e w1 ⟨rfl,rfl⟩;rw [h2];have A3:=af (show At ((wr.alloc (.cells #[.string ⟨#[]⟩] 9)).alloc (.cells #[.string ⟨#[116,121,112,101]⟩] 9)) b s j d from (by with_reducible repeat (first|exact ae HA|refine At.alloc ?_ _|refine At.drew ?_|(refine At.setNew ?_ ?_ _;rotate_left;exact (by first|omega|(simp;omega)|simp)))));have B3:=af (show But b w ((wr.alloc (.cells #[.string ⟨#[]⟩] 9)).alloc (.cells #[.string ⟨#[116,121,112,101]⟩] 9)) from (by with_reducible repeat (first|exact ae HB|refine But.alloc ?_ _|refine But.drew ?_|(refine But.setNew ?_ ?_ _;rotate_left;exact (by first|omega|(simp;omega)|simp)))));have G3:=((ae HT).alloc (.cells #[.string ⟨#[]⟩] 9)).alloc (.cells #[.string ⟨#[116,121,112,101]⟩] 9);have R3:=((ae HR).alloc (.cells #[.string ⟨#[]⟩] 9)).alloc (.cells #[.string ⟨#[116,121,112,101]⟩] 9);have P3:=af ((ae P0).frame (iw.below (b:=b) (((Below.refl _ wr).alloc aeg (.cells #[.string ⟨#[]⟩] 9)).alloc (by simp) (.cells #[.string ⟨#[116,121,112,101]⟩] 9))) (by omega));generalize (wr.alloc (.cells #[.string ⟨#[]⟩] 9)).alloc (.cells #[.string ⟨#[116,121,112,101]⟩] 9)=w3 at*;clear t0 x0 zx zt HA HB HR HT Mo xG IG hlt' uF P0 hlr;have uC:=af G3;have oZ:=af R3;have q0:=G3.cell (o:=0) rfl;have x0:=R3.cell (o:=0) rfl;simp only [List.getElem_toArray,List.getElem_cons_zero] at q0 x0;have zx:=R3.fz;have zq:=G3.fz;have hW:=G3.lt;have hW':=R3.lt;have hlr:=(ae A3).lt;clear G3 R3
     cases hq:rQ (TT s) (PP s) j with
     |error e=>
      obtain ⟨c4,j4⟩:=e;have C:=af (qP b s j d w3 hs (ae A3) hd);rw [hq] at C HK;clear hq;go_wp2_with fail;refine (ae C).mono ?_;rintro e w4 ⟨b4,v4,d4,rfl,⟨p4,s4,va,vn,vc,rfl⟩,a4⟩;have R4:=(ae oZ).but b4 (by omega);have G4:=(ae uC).but b4 (by omega);have B4:=af (But.trans (ae B3) b4);have P4:=af ((ae P3).frame (iw.of_but b4) (by omega));have A4:=af a4;have vM:=af R4;have OV:=af G4;have y0:=R4.cell (o:=0) rfl;have k0:=G4.cell (o:=0) rfl;simp only [List.getElem_toArray,List.getElem_cons_zero] at y0 k0;have zy:=R4.fz;have zk:=G4.fz;have yl:=G4.lt;have WB:w.heap.size<w4.heap.size:=by omega
      clear a4 b4 R4 G4 q0 x0 zx zq C;unfold bn;go_wp2;rw [←ae HK];refine bodyPost_ret (v:=.tuple #[.agg #[.slice sa ts.length sc],bn c4]) (aS Tryz.results72 _ _ w.heap.size _ 75 _ _ rfl rfl ?hB Tryz.underlying75 rfl (by kernel_rfl)) rfl ?post
      case hB=>exact ⟨_,(by with_reducible repeat (first|exact ae vM|apply ai.alloc|apply ai.drew|apply ai.set|(apply ai.other;case ha=>exact (by first|omega|(simp;omega)|simp)))),by rfl⟩
      case post=>exact ⟨(by with_reducible repeat (first|exact ae B4|refine But.alloc ?_ _|refine But.drew ?_|(refine But.setNew ?_ ?_ _;rotate_left;exact (by first|omega|(simp;omega)|simp)))),_,d4,rfl,⟨_,_,_,rfl⟩,(by with_reducible repeat (first|exact ae A4|refine At.alloc ?_ _|refine At.drew ?_|(refine At.setNew ?_ ?_ _;rotate_left;exact (by first|omega|(simp;omega)|simp))))⟩
     |ok y=>
      obtain ⟨t4,j4⟩:=y;have C:=af (qP b s j d w3 hs (ae A3) hd);have ZP:=sH _ _ _ _ _ hq;rw [hq] at C HK;clear hq;go_wp2_with fail;refine (ae C).mono ?_;rintro e w4 ⟨b4,v4,rfl,⟨tv4,rfl,Ew⟩,a4⟩;have R4:=(ae oZ).but b4 (by omega);have G4:=(ae uC).but b4 (by omega);have B4:=af (But.trans (ae B3) b4);have P4:=af ((ae P3).frame (iw.of_but b4) (by omega));have A4:=af a4;have vM:=af R4;have OV:=af G4;have y0:=R4.cell (o:=0) rfl;have k0:=G4.cell (o:=0) rfl;simp only [List.getElem_toArray,List.getElem_cons_zero] at y0 k0;have zy:=R4.fz;have zk:=G4.fz;have yl:=G4.lt;have WB:w.heap.size<w4.heap.size:=by omega
      clear a4 b4 R4 G4 q0 x0 zx zq C;have hfm:∃a n c,tv4=.slice a n c:=by
       obtain ⟨_,_,_,h3⟩:=Ew;obtain ⟨a,c,h⟩:=au h3;exact ⟨a,_,c,h⟩
      obtain ⟨va,vn,vc,rfl⟩:=hfm;have V4:=af Ew;have le4:=(ae A4).le;clear Ew;obtain ⟨l4,e1,e2,e3⟩:=ae P4;have E1:=af e1;have E2:=af e2;have E3:=af e3;clear e1 e2 e3;go_wp2_with (at_builtin;go_must (refine wpList_append_lies _ rfl _ _ 73 rfl w.heap.size 110 i0 _ 3 48 Tryz.underlying73 (ae HI) (ae fG) (ae fH) (ae fI) rfl (by decide) (.slice sa ts.length sc) ts.length (l4.flatMap mW) rfl ?hown ⟨w4.heap.size+1,0,none⟩ 1 1 (mW (t4,.slice va vn vc)) rfl rfl ?hnews ?hone (by decide) ?h63 ?hbytes ?hbase (w4.heap.size+2) ?hH ?hrest))
      case hown=>exact ((ae E3).alloc _).alloc _
      case hnews=>exact World.news_of_block (B:=w4.heap.size+1) (cs:=#[.int .i64 t4.place,.string t4.name,.slice va vn vc]) (t:=110) (fr:=(0,0)) (ai.new' (w4.alloc _) _ _ _ (by simp))
      case hone=>
       intro u hu;simp [mW] at hu
       rcases hu with rfl|rfl|rfl<;>rfl
      case h63=>unfold maxLen;omega
      case hbytes=>omega
      case hbase=>simp;omega
      case hH=>simp
      case hrest=>
       intro g5 aD w5 aC aj aP di;have b0:Below w4.heap.size w4 ((w4.alloc (.cells #[.int .i64 t4.place,.string t4.name,.slice va vn vc] 110)).alloc (.cells #[.int .i64 t4.place,.string t4.name,.slice va vn vc] 110)):=((Below.refl _ _).alloc aeg _).alloc (by simp) _;have Dc:=(ae OV).below b0;have De:=(ae vM).below b0;have I6:=(ae A4).below b0;have fU:=((ae E3).alloc (.cells #[.int .i64 t4.place,.string t4.name,.slice va vn vc] 110)).alloc (.cells #[.int .i64 t4.place,.string t4.name,.slice va vn vc] 110);have vN:dJ b w4 w5:=fun g cs T f hg hh ht=>(aj.block g (Nat.lt_of_lt_of_le (lt_of_some hh) b0.size) (cO fU ((b0.block g (lt_of_some hh)).trans hh) (by rcases ht with rfl|rfl<;>decide))).trans (b0.block g (lt_of_some hh))
       have X5:=af (show ∀p∈l4++[(t4,Value.slice va vn vc)],jN (b+1) b w5 p.2 p.1.rels from fun p hp=>by
        rw [List.mem_append] at hp
        rcases hp with hp|hp
        ·exact (ae E2 p hp).frame vN aeg
        ·simp at hp;subst hp;exact (ae V4).frame vN aeg)
       have uG:=af (show ai w5 (w.heap.size+1) #[.slice sa ts.length sc] 75 from (aj.block _ Dc.lt (own_ne fU Dc (by decide))).trans Dc);have WC:=af (show ai w5 w.heap.size #[.slice none 0 0] 75 from (aj.block _ De.lt (own_ne fU De (by decide))).trans De);have A5:=af (I6.grown aj (own_ne fU I6.pos.rd.blk (by decide)));have B5:=af (But.grown ((ae B4).trans (But.of_below b0)) aj (fun k hk=>(fU.lt k hk).1));have O5:=af aC;have m0:=(ae uG).cell (o:=0) rfl;simp only [List.getElem_toArray,List.getElem_cons_zero] at m0;have zm:=(ae uG).fz;have ml:=(ae uG).lt;clear b0 Dc De I6 fU vN aC aj aP y0 k0 zy zk;go_wp2
       go_roundg fu
       case measure=>omega
       case rel=>exact ⟨ts++[t4],j4,_,(by with_reducible repeat (first|exact ae B5|refine But.alloc ?_ _|refine But.drew ?_|(refine But.setNew ?_ ?_ _;rotate_left;exact (by first|omega|(simp;omega)|simp)))),(by with_reducible repeat (first|exact ae A5|refine At.alloc ?_ _|refine At.drew ?_|(refine At.setNew ?_ ?_ _;rotate_left;exact (by first|omega|(simp;omega)|simp)))),by omega,by simp;omega,(by with_reducible repeat (first|exact ae WC|apply ai.alloc|apply ai.drew|apply ai.set|(apply ai.other;case ha=>exact (by first|omega|(simp;omega)|simp)))),(ae uG).set 0 _,⟨l4++[(t4,.slice va vn vc)],by simp [ae E1],fun p hp=>(ae X5 p hp).frame (dJ.set (ae uG) (by decide) (by decide) 0 _) aeg,by rw [List.length_append,List.flatMap_append];exact aX (ae O5) (ae uG) (by decide) 0 _⟩,HK⟩
    ·have WE:(ts.length==5)=true:=by
      rw [beq_iff_eq] at*;omega
     simp only [h2,WE,Bool.and_true,if_true] at uE;have HK:=af uE;clear uE WE;go_wp2_with fail;refine (ats b s j d _ _ em _ ?_ ?_).mono ?_
     ·exact (by with_reducible repeat (first|exact ae HA|refine At.alloc ?_ _|refine At.drew ?_|(refine At.setNew ?_ ?_ _;rotate_left;exact (by first|omega|(simp;omega)|simp))))
     ·exact aU _ _ _ _ (by simp)
     rintro e w1 ⟨rfl,rfl⟩;rw [h1];go_wp2_with fail;refine (ats b s j d _ _ lG _ ?_ ?_).mono ?_
     ·exact (by with_reducible repeat (first|exact ae HA|refine At.alloc ?_ _|refine At.drew ?_|(refine At.setNew ?_ ?_ _;rotate_left;exact (by first|omega|(simp;omega)|simp))))
     ·exact aU _ _ _ _ (by simp)
     rintro e w1 ⟨rfl,rfl⟩;rw [h2];have A3:=af (show At ((wr.alloc (.cells #[.string ⟨#[]⟩] 9)).alloc (.cells #[.string ⟨#[116,121,112,101]⟩] 9)) b s j d from (by with_reducible repeat (first|exact ae HA|refine At.alloc ?_ _|refine At.drew ?_|(refine At.setNew ?_ ?_ _;rotate_left;exact (by first|omega|(simp;omega)|simp)))));have B3:=af (show But b w ((wr.alloc (.cells #[.string ⟨#[]⟩] 9)).alloc (.cells #[.string ⟨#[116,121,112,101]⟩] 9)) from (by with_reducible repeat (first|exact ae HB|refine But.alloc ?_ _|refine But.drew ?_|(refine But.setNew ?_ ?_ _;rotate_left;exact (by first|omega|(simp;omega)|simp)))));have G3:=((ae HT).alloc (.cells #[.string ⟨#[]⟩] 9)).alloc (.cells #[.string ⟨#[116,121,112,101]⟩] 9);have R3:=((ae HR).alloc (.cells #[.string ⟨#[]⟩] 9)).alloc (.cells #[.string ⟨#[116,121,112,101]⟩] 9);have P3:=af ((ae P0).frame (iw.below (b:=b) (((Below.refl _ wr).alloc aeg (.cells #[.string ⟨#[]⟩] 9)).alloc (by simp) (.cells #[.string ⟨#[116,121,112,101]⟩] 9))) (by omega));generalize (wr.alloc (.cells #[.string ⟨#[]⟩] 9)).alloc (.cells #[.string ⟨#[116,121,112,101]⟩] 9)=w3 at*;clear t0 x0 zx zt HA HB HR HT Mo xG IG hlt' uF P0 hlr;have uC:=af G3;have oZ:=af R3;have q0:=G3.cell (o:=0) rfl;have x0:=R3.cell (o:=0) rfl;simp only [List.getElem_toArray,List.getElem_cons_zero] at q0 x0;have zx:=R3.fz;have zq:=G3.fz;have hW:=G3.lt;have hW':=R3.lt;have hlr:=(ae A3).lt;clear G3 R3;go_wp2;rw [←ae HK];refine bodyPost_ret (v:=.tuple #[.agg #[.slice sa ts.length sc],bn 3]) (aS Tryz.results72 _ _ w.heap.size _ 75 _ _ rfl rfl ?hB Tryz.underlying75 rfl (by kernel_rfl)) rfl ?post
     case hB=>exact ⟨_,(by with_reducible repeat (first|exact ae oZ|apply ai.alloc|apply ai.drew|apply ai.set|(apply ai.other;case ha=>exact (by first|omega|(simp;omega)|simp)))),by rfl⟩
     case post=>exact ⟨(by with_reducible repeat (first|exact ae B3|refine But.alloc ?_ _|refine But.drew ?_|(refine But.setNew ?_ ?_ _;rotate_left;exact (by first|omega|(simp;omega)|simp)))),_,d,rfl,⟨_,_,_,rfl⟩,(by with_reducible repeat (first|exact ae A3|refine At.alloc ?_ _|refine At.drew ?_|(refine At.setNew ?_ ?_ _;rotate_left;exact (by first|omega|(simp;omega)|simp))))⟩
  ·simp only [h1,if_true] at uE;have HK:=af uE;clear uE;go_wp2_with fail;refine (ats b s j d _ _ em _ ?_ ?_).mono ?_
   ·exact (by with_reducible repeat (first|exact ae HA|refine At.alloc ?_ _|refine At.drew ?_|(refine At.setNew ?_ ?_ _;rotate_left;exact (by first|omega|(simp;omega)|simp))))
   ·exact aU _ _ _ _ (by simp)
   rintro e w1 ⟨rfl,rfl⟩;rw [h1];go_wp2;rw [←ae HK];refine bodyPost_ret (v:=.tuple #[.agg #[.slice sa ts.length sc],.nilIface]) (aS Tryz.results72 _ _ w.heap.size _ 75 _ _ rfl rfl ?hB Tryz.underlying75 rfl (by kernel_rfl)) rfl ?post
   case hB=>exact ⟨_,(by with_reducible repeat (first|exact ae HR|apply ai.alloc|apply ai.drew|apply ai.set|(apply ai.other;case ha=>exact (by first|omega|(simp;omega)|simp)))),by rfl⟩
   case post=>exact ⟨(by with_reducible repeat (first|exact ae HB|refine But.alloc ?_ _|refine But.drew ?_|(refine But.setNew ?_ ?_ _;rotate_left;exact (by first|omega|(simp;omega)|simp)))),_,rfl,⟨_,rfl,((ae P0).frame ((iw.set (ae HR) (by decide) (by decide) (by decide) 0 _).trans (iw.below ((Below.refl _ _).alloc aeg _))) (by omega)).base (by omega)⟩,(by with_reducible repeat (first|exact ae HA|refine At.alloc ?_ _|refine At.drew ?_|(refine At.setNew ?_ ?_ _;rotate_left;exact (by first|omega|(simp;omega)|simp))))⟩
