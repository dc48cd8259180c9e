import Derived.Test.YtlbpnlngckgcbaaGreatDoorM05
set_option linter.all false
set_option maxHeartbeats 4000000
set_option maxRecDepth 100000
namespace Go.Proofs.YtlbpnlngckgcbaaGreatDoor
open Go.RowKit Go.PlainAid
theorem Tryz.info159:(Tryz.prog.info? 159).map (fun i=>(i.zero,i.size,i.bytes))=some (some (.agg #[.int .i64 0,.string ⟨#[]⟩,.nilIface]),3,40):=by kernel_rfl
def iT (p:Rl×Value):List Value:=[.int .i64 p.1.place,.string p.1.name,p.2]
def fC (base b:Nat) (w:World) (sv:Value) (rs:List Rl):Prop:=
 ∃l:List (Rl×Value),l.map Prod.fst=rs∧(∀p∈l,ay b w p.1.body p.2)∧w.ownsRow base 159 3 sv rs.length (l.flatMap iT)
theorem ak {w:World} {base:Nat} {e:TypeId} {size:Nat} {v:Value} {n:Nat} {xs:List Value} (h:w.ownsRow base e size v n xs):∃a cap,v=.slice a n cap:=by
 rcases h.2 with ⟨rfl,rfl⟩|⟨g,cap,cur,rfl,_⟩
 ·exact ⟨_,_,rfl⟩
 ·exact ⟨_,_,rfl⟩
def bE (b:Nat) (w w':World):Prop:=∀g cs T f,b+1≤g→w.heap[g]? =some (.cells cs T f)→(T=207∨T=159)→w'.heap[g]? =w.heap[g]?
theorem bE.of_but {b:Nat} {w w':World} (h:But b w w'):bE b w w':=fun g cs T f hg hh _=>h.block g (lt_of_some hh) (by omega)
theorem bE.g {b:Nat} {w w':World} (h:bE b w w'):iw b w w':=fun g cs f hg hh=>h g cs _ f hg hh (.inl rfl)
theorem fC.frame {base b:Nat} {w w':World} {sv:Value} {rs:List Rl} (h:fC base b w sv rs) (k:bE b w w') (hb:b+1≤base):fC base b w' sv rs:=by
 obtain ⟨l,h1,h2,h3⟩:=h;exact ⟨l,h1,fun p hp=>ay.frame k.g _ _ (h2 p hp),ai h3 fun g cs f hg hh=>k g cs _ f (by omega) hh (.inr rfl)⟩
theorem fC.base {base base' b:Nat} {w:World} {sv:Value} {rs:List Rl} (h:fC base b w sv rs) (hb:base'≤base):fC base' b w sv rs:=by
 obtain ⟨l,h1,h2,h3⟩:=h;exact ⟨l,h1,h2,aA h3 hb⟩
theorem bE.set {b:Nat} {w:World} {g:Nat} {cs:Array Value} {T:TypeId} (hb:ag w g cs T) (h1:T≠207) (h2:T≠159) (o:Nat) (u:Value):bE b w (w.setCell ⟨g,o,none⟩ u):=
 fun g' cs' T' f hg hh ht=>Below.heap_setCell _ _ _ _ (fun (e':g'=g)=>by
  subst e';unfold ag at hb;rw [hb] at hh;simp at hh;obtain ⟨_,rfl,_⟩:=hh
  rcases ht with ht|ht
  ·exact h1 ht
  ·exact h2 ht)
theorem bE.trans {b:Nat} {x y z:World} (h:bE b x y) (k:bE b y z):bE b x z:=fun g cs T f hg hh ht=>(k g cs T f hg ((h g cs T f hg hh ht).trans hh) ht).trans (h g cs T f hg hh ht)
theorem bE.below {b:Nat} {w w':World} (h:Below w.heap.size w w'):bE b w w':=bE.of_but (But.of_below h)
theorem dH {w:World} {base:Nat} {e:TypeId} {size:Nat} {v:Value} {n:Nat} {xs:List Value} {g:Nat} {cs:Array Value} {T:TypeId} {f:Nat×Nat} (h:w.ownsRow base e size v n xs) (hb:w.heap[g]? =some (.cells cs T f)) (ht:T≠e):some g≠v.ownBlock:=by
 rcases h.2 with ⟨rfl,_⟩|⟨g',cap,cur,rfl,hg,hh,r⟩
 ·simp [Value.ownBlock]
 ·intro he;simp only [Value.ownBlock,Option.some.injEq] at he;subst he;rw [hb] at hh;simp at hh;exact ht hh.2.1
def A9 (b:Nat) (w:World) (t:Ty) (v:Value):Prop:=∃sv,v=.agg #[.int .i64 t.place,.string t.name,sv]∧fC (b+1) b w sv t.rels
def IL (v:Value):Prop:=∃(p:Nat) (t:RJ) (a:Option Addr) (n c:Nat),v=.agg #[.int .i64 p,.string t,.slice a n c]
def typeM (T:Nat→RJ) (P:Nat→Nat) (i:Nat) (R:fw (List Rl)):fw Ty:=match R with
 | .error e=> .error e
 | .ok (rs,m)=> .ok (⟨T (i+1),P (i+1),rs⟩,m)
theorem IM (b:Nat) (s:RJ) (i d:Nat) (w:World) (hs:s.size≤500) (h:At w b s i d) (he:eqs (TT s i) jw=false):
  Calls Tryz.prog 114 #[.pointer (some ⟨b,0,none⟩)] w (Post b s d w (.error (2,i):fw Ty) (A9 b) IL):=by
 have hlt:=h.lt;have A0:=ae h;clear h;go_enter Tryz.func114,Tryz.ntmps114;go_wp2_with fail;refine (kr b s i d jw _ ?_ he).mono ?_
 ·exact (by with_reducible repeat (first|exact aa A0|refine At.alloc ?_ _|refine At.drew ?_|(refine At.setNew ?_ ?_ _;rotate_left;exact (by first|omega|(simp;omega)|simp))))
 rintro e w1 ⟨rfl,a1,b1⟩;have B1:=ae (((But.refl b w).alloc _).alloc _ |>.trans b1);have R:=((ag.new w #[.int .i64 0,.string ⟨#[]⟩,.slice none 0 0] 110).alloc (.cells #[.int .i64 0,.string ⟨#[]⟩,.slice none 0 0] 110)).but b1 (by omega);have G:=(ag.new' (w.alloc (.cells #[.int .i64 0,.string ⟨#[]⟩,.slice none 0 0] 110)) #[.int .i64 0,.string ⟨#[]⟩,.slice none 0 0] 110 (w.heap.size+1) (by simp)).but b1 (by omega);have HR:=ae R;have HG:=ae G;obtain ⟨r0,r1,r2⟩:=R.three;obtain ⟨g0,g1,g2⟩:=G.three;have zr:=R.fz;have zg:=G.fz;have A1:=ae a1;clear a1 b1 R G;unfold aM;go_wp2;refine bodyPost_ret (v:=.tuple #[.agg #[.int .i64 0,.string ⟨#[]⟩,.slice none 0 0],aM 2]) (aK Tryz.results114 _ _ w.heap.size _ 110 _ _ rfl rfl ?hB Tryz.underlying110 rfl (by kernel_rfl)) rfl ?post
 case hB=>exact ⟨_,(by with_reducible repeat (first|exact aa HR|apply ag.alloc|apply ag.drew|apply ag.set|(apply ag.other;case ha=>exact (by first|omega|(simp;omega)|simp)))),by rfl⟩
 case post=>exact ⟨(by with_reducible repeat (first|exact aa B1|refine But.alloc ?_ _|refine But.drew ?_|(refine But.setNew ?_ ?_ _;rotate_left;exact (by first|omega|(simp;omega)|simp)))),_,d,rfl,⟨0,_,_,_,_,rfl⟩,(by with_reducible repeat (first|exact aa A1|refine At.alloc ?_ _|refine At.drew ?_|(refine At.setNew ?_ ?_ _;rotate_left;exact (by first|omega|(simp;omega)|simp))))⟩
theorem Co (b:Nat) (s:RJ) (i d:Nat) (w:World) (hs:s.size≤500) (h:At w b s i d) (he:eqs (TT s i) jw=true) (c j:Nat) (Hn:Hid (bB (TT s) (sg 123) (i+1)=.error (c,j))):
  Calls Tryz.prog 114 #[.pointer (some ⟨b,0,none⟩)] w (Post b s d w (.error (c,j):fw Ty) (A9 b) IL):=by
 have hlt:=h.lt;have Hs:Hid (s.size≤maxLen):=ae (by unfold maxLen;omega);have He:=ae he;have A0:=ae h;clear h he;go_enter Tryz.func114,Tryz.ntmps114;go_wp2_with fail;refine (fP b s i d jw _ (aa Hs) ?_ (aa He) (by decide)).mono ?_
 ·exact (by with_reducible repeat (first|exact aa A0|refine At.alloc ?_ _|refine At.drew ?_|(refine At.setNew ?_ ?_ _;rotate_left;exact (by first|omega|(simp;omega)|simp))))
 rintro e w1 ⟨rfl,a1,b1⟩;have B1:=ae (((But.refl b w).alloc _).alloc _ |>.trans b1);have R1:=ae (((ag.new w #[.int .i64 0,.string ⟨#[]⟩,.slice none 0 0] 110).alloc (.cells #[.int .i64 0,.string ⟨#[]⟩,.slice none 0 0] 110)).but b1 (by omega));have G1:=ae ((ag.new' (w.alloc (.cells #[.int .i64 0,.string ⟨#[]⟩,.slice none 0 0] 110)) #[.int .i64 0,.string ⟨#[]⟩,.slice none 0 0] 110 (w.heap.size+1) (by simp)).but b1 (by omega));have A1:=ae a1;clear a1 b1;have C:=ae (dQ b s (i+1) d (sg 123) w1 (aa Hs) (aa A1) (by decide));rw [aa Hn] at C;go_wp2_with fail;refine (aa C).mono ?_;rintro e w2 ⟨b2,v,d2,rfl,⟨p,t,rfl⟩,a2⟩;have B2:=ae (But.trans (aa B1) b2);have R:=(aa R1).but b2 (by omega);have G:=(aa G1).but b2 (by omega);have HR:=ae R;have HG:=ae G;obtain ⟨r0,r1,r2⟩:=R.three;obtain ⟨g0,g1,g2⟩:=G.three;have zr:=R.fz;have zg:=G.fz;have hz:=G.lt;have A2:=ae a2;clear a2 b2 R G C;unfold aM;go_wp2;refine bodyPost_ret (v:=.tuple #[.agg #[.int .i64 p,.string t,.slice none 0 0],aM c]) (aK Tryz.results114 _ _ w.heap.size _ 110 _ _ rfl rfl ?hB Tryz.underlying110 rfl (by kernel_rfl)) rfl ?post
 case hB=>exact ⟨_,(by with_reducible repeat (first|exact aa HR|apply ag.alloc|apply ag.drew|apply ag.set|(apply ag.other;case ha=>exact (by first|omega|(simp;omega)|simp)))),by rfl⟩
 case post=>exact ⟨(by with_reducible repeat (first|exact aa B2|refine But.alloc ?_ _|refine But.drew ?_|(refine But.setNew ?_ ?_ _;rotate_left;exact (by first|omega|(simp;omega)|simp)))),_,d2,rfl,⟨p,t,_,_,_,rfl⟩,(by with_reducible repeat (first|exact aa A2|refine At.alloc ?_ _|refine At.drew ?_|(refine At.setNew ?_ ?_ _;rotate_left;exact (by first|omega|(simp;omega)|simp))))⟩
theorem IP (b:Nat) (s:RJ) (i d:Nat) (w:World) (hs:s.size≤500) (h:At w b s i d) (hd:d+4=4) (he:eqs (TT s i) jw=true) (j:Nat) (Hn:Hid (bB (TT s) (sg 123) (i+1)=.ok ((),j))):
  Calls Tryz.prog 114 #[.pointer (some ⟨b,0,none⟩)] w (Post b s d w (typeM (TT s) (PP s) i (jV (TT s) (PP s) 512 [] j)) (A9 b) IL):=by
 obtain ⟨i0,hi,hz0,hz1,hz2⟩:=info_parts Tryz.info159;have HI:=ae hi;have jg:=ae hz0;have jh:=ae hz1;have ji:=ae hz2;clear hi hz0 hz1 hz2;generalize hR:jV (TT s) (PP s) 512 [] j=R;have yV:=ae hR;clear hR;have hlt:=h.lt;have Hs:Hid (s.size≤maxLen):=ae (by unfold maxLen;omega);have He:=ae he;have A0:=ae h;clear h he;go_enter Tryz.func114,Tryz.ntmps114;go_wp2_with fail;refine (fP b s i d jw _ (aa Hs) ?_ (aa He) (by decide)).mono ?_
 ·exact (by with_reducible repeat (first|exact aa A0|refine At.alloc ?_ _|refine At.drew ?_|(refine At.setNew ?_ ?_ _;rotate_left;exact (by first|omega|(simp;omega)|simp))))
 rintro e w1 ⟨rfl,a1,b1⟩;have B1:=ae (((But.refl b w).alloc _).alloc _ |>.trans b1);have R1:=ae (((ag.new w #[.int .i64 0,.string ⟨#[]⟩,.slice none 0 0] 110).alloc (.cells #[.int .i64 0,.string ⟨#[]⟩,.slice none 0 0] 110)).but b1 (by omega));have G1:=ae ((ag.new' (w.alloc (.cells #[.int .i64 0,.string ⟨#[]⟩,.slice none 0 0] 110)) #[.int .i64 0,.string ⟨#[]⟩,.slice none 0 0] 110 (w.heap.size+1) (by simp)).but b1 (by omega));have A1:=ae a1;clear a1 b1;have C:=ae (dQ b s (i+1) d (sg 123) w1 (aa Hs) (aa A1) (by decide));rw [aa Hn] at C;go_wp2_with fail;refine (aa C).mono ?_;rintro e w2 ⟨b2,v,rfl,rfl,a2⟩;have B2:=ae (But.trans (aa B1) b2);have R:=(aa R1).but b2 (by omega);have G:=(aa G1).but b2 (by omega);have HR:=ae R;have HG:=ae G;obtain ⟨r0,r1,r2⟩:=R.three;obtain ⟨g0,g1,g2⟩:=G.three;have zr:=R.fz;have zg:=G.fz;have hz:=G.lt;have A2:=ae a2;clear a2 b2 R G C;unfold pU;go_wp2_with fail
 go_loopg [7] 512 (fun k u7 wr=>∃(rs:List Rl) (j:Nat) (sv:Value),But b w wr∧At wr b s j d∧512≤k+j∧rs.length≤j∧ag wr w.heap.size #[.int .i64 0,.string ⟨#[]⟩,.slice none 0 0] 110∧
  ag wr (w.heap.size+1) #[.int .i64 (aV s (K s (i+1))),.string (aP s (K s (i+1))),sv] 110∧fC w.heap.size b wr sv rs∧Hid (jV (TT s) (PP s) k rs j=R))
 case atStart=>exact ⟨[],j,_,(by with_reducible repeat (first|exact aa B2|refine But.alloc ?_ _|refine But.drew ?_|(refine But.setNew ?_ ?_ _;rotate_left;exact (by first|omega|(simp;omega)|simp)))),(by with_reducible repeat (first|exact aa A2|refine At.alloc ?_ _|refine At.drew ?_|(refine At.setNew ?_ ?_ _;rotate_left;exact (by first|omega|(simp;omega)|simp)))),by omega,by simp,((aa HR).other (by simp) _).other (by simp) _,((aa HG).set 0 _).set 1 _,⟨[],rfl,by simp,World.ownsRow_nil _ _ _ _⟩,yV⟩
 case round=>
  obtain ⟨rs,j,sv,hb,ha,hk,hrl,hbr,nZ,bi,HQ⟩:=hrel;have hf:12≤gk:=by have:=ha.le;omega
  obtain ⟨fu,rfl⟩:∃f,gk=f+1:=⟨gk-1,by omega⟩;obtain ⟨l,zz,hl2,EK⟩:=bi;obtain ⟨sa,sc,rfl⟩:=ak EK;have HA:=ae ha;have HB:=ae hb;have HR:=ae hbr;have HT:=ae nZ;have Cs:=ae zz;have wM:=ae hl2;have yT:=ae EK;have nE:=aa HQ;obtain ⟨t0,t1,t2⟩:=nZ.three;obtain ⟨x0,x1,x2⟩:=hbr.three;have zx:=hbr.fz;have zt:=nZ.fz;have hlt':=nZ.lt;have qG:w.heap.size<wr.heap.size:=by omega
  have n1:=ha.pos.rd.c1;have n2:=ha.pos.rd.c2;have hlr:=ha.lt;unfold jV at nE;clear ha hb hbr nZ zz hl2 EK HQ r0 r1 r2 g0 g1 g2 zr zg
  cases h1:eqs (TT s j) (sg 125)
  ·simp only [h1,Bool.false_eq_true,if_false] at nE;have P0:Hid (fC w.heap.size b wr (.slice sa rs.length sc) rs):=ae ⟨l,aa Cs,aa wM,aa yT⟩
   cases hm:lS (TT s j)
   ·simp only [hm,Bool.false_and,Bool.false_eq_true,if_false] at nE;have HK:=ae nE;clear nE;go_wp2_with fail;refine (ats b s j d _ _ (sg 125) _ ?_ ?_).mono ?_
    ·exact (by with_reducible repeat (first|exact aa HA|refine At.alloc ?_ _|refine At.drew ?_|(refine At.setNew ?_ ?_ _;rotate_left;exact (by first|omega|(simp;omega)|simp))))
    ·exact aI _ _ _ _ (by simp)
    rintro e w1 ⟨rfl,rfl⟩;rw [h1];go_wp2_with fail;refine (fO _ _ _ (jv s (K s j) (by unfold maxLen;omega) (aa HA).pos.le)).mono ?_;rintro e w3 ⟨rfl,hb3⟩;rw [show lS (aP s (K s j))=false from hm];clear hm;have A3:=ae ((show At (wr.alloc (.cells #[.string ⟨#[125]⟩] 9)) b s j d from (by with_reducible repeat (first|exact aa HA|refine At.alloc ?_ _|refine At.drew ?_|(refine At.setNew ?_ ?_ _;rotate_left;exact (by first|omega|(simp;omega)|simp))))).below hb3);have B3:=ae ((show But b w (wr.alloc (.cells #[.string ⟨#[125]⟩] 9)) from (by with_reducible repeat (first|exact aa HB|refine But.alloc ?_ _|refine But.drew ?_|(refine But.setNew ?_ ?_ _;rotate_left;exact (by first|omega|(simp;omega)|simp))))).trans (But.of_below hb3));have G3:=((aa HT).alloc (.cells #[.string ⟨#[125]⟩] 9)).below hb3;have R3:=((aa HR).alloc (.cells #[.string ⟨#[125]⟩] 9)).below hb3;have P3:=ae ((aa P0).frame ((bE.below (b:=b) ((Below.refl _ wr).alloc RH (.cells #[.string ⟨#[125]⟩] 9))).trans (bE.below hb3)) (by omega));clear hb3 t0 t1 t2 x0 x1 x2 zx zt n1 n2 HA HB HR HT Cs wM yT hlt' qG P0 hlr;have uK:=ae G3;have gD:=ae R3;obtain ⟨q0,q1,q2⟩:=G3.three;obtain ⟨x0,x1,x2⟩:=R3.three;have zx:=R3.fz;have zq:=G3.fz;have hW:=G3.lt;have hW':=R3.lt;have hlr:=(aa A3).lt;clear G3 R3
    cases hq:uD (TT s) (PP s) j with
    |error e=>
     obtain ⟨c4,j4⟩:=e;have C:=ae (nD b s j d w3 hs (aa A3) hd);rw [hq] at C HK;clear hq;go_wp2_with fail;refine (aa C).mono ?_;rintro e w4 ⟨b4,v4,d4,rfl,⟨p4,s4,Qv,rfl,hi4⟩,a4⟩;have R4:=(aa gD).but b4 (by omega);have G4:=(aa uK).but b4 (by omega);have B4:=ae (But.trans (aa B3) b4);have P4:=ae ((aa P3).frame (bE.of_but b4) (by omega));have A4:=ae a4;have lD:=ae R4;have E5:=ae G4;obtain ⟨y0,y1,y2⟩:=R4.three;obtain ⟨k0,k1,k2⟩:=G4.three;have zy:=R4.fz;have zk:=G4.fz;have yl:=G4.lt;have K8:w.heap.size<w4.heap.size:=by omega
     clear a4 b4 R4 G4 q0 q1 q2 x0 x1 x2 zx zq C;unfold aM
     rcases hi4 with rfl|⟨tx,vx,rfl⟩
     all_goals
      go_wp2;rw [←aa HK];refine bodyPost_ret (v:=.tuple #[.agg #[.int .i64 (aV s (K s (i+1))),.string (aP s (K s (i+1))),.slice sa rs.length sc],aM c4]) (aK Tryz.results114 _ _ w.heap.size _ 110 _ _ rfl rfl ?hB Tryz.underlying110 rfl (by kernel_rfl)) rfl ?post
      case hB=>exact ⟨_,(by with_reducible repeat (first|exact aa lD|apply ag.alloc|apply ag.drew|apply ag.set|(apply ag.other;case ha=>exact (by first|omega|(simp;omega)|simp)))),by rfl⟩
      case post=>exact ⟨(by with_reducible repeat (first|exact aa B4|refine But.alloc ?_ _|refine But.drew ?_|(refine But.setNew ?_ ?_ _;rotate_left;exact (by first|omega|(simp;omega)|simp)))),_,d4,rfl,⟨_,_,_,_,_,rfl⟩,(by with_reducible repeat (first|exact aa A4|refine At.alloc ?_ _|refine At.drew ?_|(refine At.setNew ?_ ?_ _;rotate_left;exact (by first|omega|(simp;omega)|simp))))⟩
    |ok y=>
     obtain ⟨r4,j4⟩:=y;have C:=ae (nD b s j d w3 hs (aa A3) hd);have NM:=kQ _ _ _ _ _ hq;rw [hq] at C HK;clear hq;go_wp2_with fail;refine (aa C).mono ?_;rintro e w4 ⟨b4,v4,rfl,⟨Qv,rfl,vZ⟩,a4⟩;have R4:=(aa gD).but b4 (by omega);have G4:=(aa uK).but b4 (by omega);have B4:=ae (But.trans (aa B3) b4);have P4:=ae ((aa P3).frame (bE.of_but b4) (by omega));have A4:=ae a4;have lD:=ae R4;have E5:=ae G4;obtain ⟨y0,y1,y2⟩:=R4.three;obtain ⟨k0,k1,k2⟩:=G4.three;have zy:=R4.fz;have zk:=G4.fz;have yl:=G4.lt;have K8:w.heap.size<w4.heap.size:=by omega
     clear a4 b4 R4 G4 q0 q1 q2 x0 x1 x2 zx zq C;obtain ⟨tx,vx,rfl⟩:=vZ.isI;have V4:=ae vZ;have Qw:=(aa A4).le;clear vZ;obtain ⟨l4,e1,e2,e3⟩:=aa P4;have E1:=ae e1;have E2:=ae e2;have E3:=ae e3;clear e1 e2 e3;unfold aM at*;go_wp2_with (at_builtin;go_must (refine wpList_append_lies _ rfl _ _ 108 rfl w.heap.size 159 i0 _ 3 40 Tryz.underlying108 (aa HI) (aa jg) (aa jh) (aa ji) rfl (by decide) (.slice sa rs.length sc) rs.length (l4.flatMap iT) rfl ?hown ⟨w4.heap.size+1,0,none⟩ 1 1 (iT (r4,.iface tx vx)) rfl rfl ?hnews ?hone (by decide) ?h63 ?hbytes ?hbase (w4.heap.size+2) ?hH ?hrest))
     case hown=>exact ((aa E3).alloc _).alloc _
     case hnews=>exact World.news_of_block (B:=w4.heap.size+1) (cs:=#[.int .i64 r4.place,.string r4.name,.iface tx vx]) (t:=159) (fr:=(0,0)) (ag.new' (w4.alloc _) _ _ _ (by simp))
     case hone=>
      intro u hu;simp [iT] at hu
      rcases hu with rfl|rfl|rfl<;>rfl
     case h63=>unfold maxLen;omega
     case hbytes=>omega
     case hbase=>simp;omega
     case hH=>simp
     case hrest=>
      intro g5 bu w5 aJ au bI jk;have b0:Below w4.heap.size w4 ((w4.alloc (.cells #[.int .i64 r4.place,.string r4.name,.iface tx vx] 159)).alloc (.cells #[.int .i64 r4.place,.string r4.name,.iface tx vx] 159)):=((Below.refl _ _).alloc RH _).alloc (by simp) _;have uL:=(aa E5).below b0;have uM:=(aa lD).below b0;have zA:=(aa A4).below b0;have fA:=((aa E3).alloc (.cells #[.int .i64 r4.place,.string r4.name,.iface tx vx] 159)).alloc (.cells #[.int .i64 r4.place,.string r4.name,.iface tx vx] 159);have og:iw b w4 w5:=fun g cs f hg hh=>(au.block g (Nat.lt_of_lt_of_le (lt_of_some hh) b0.size) (dH fA ((b0.block g (lt_of_some hh)).trans hh) (by decide))).trans (b0.block g (lt_of_some hh))
      have X5:=ae (show ∀p∈l4++[(r4,Value.iface tx vx)],ay b w5 p.1.body p.2 from fun p hp=>by
       rw [List.mem_append] at hp
       rcases hp with hp|hp
       ·exact ay.frame og _ _ (aa E2 p hp)
       ·simp at hp;subst hp;exact ay.frame og _ _ (aa V4))
      have nG:=ae (show ag w5 (w.heap.size+1) #[.int .i64 (aV s (K s (i+1))),.string (aP s (K s (i+1))),.slice sa rs.length sc] 110 from (au.block _ uL.lt (own_ne fA uL (by decide))).trans uL);have K9:=ae (show ag w5 w.heap.size #[.int .i64 0,.string ⟨#[]⟩,.slice none 0 0] 110 from (au.block _ uM.lt (own_ne fA uM (by decide))).trans uM);have A5:=ae (zA.grown au (own_ne fA zA.pos.rd.blk (by decide)));have B5:=ae (But.grown ((aa B4).trans (But.of_below b0)) au (fun k hk=>(fA.lt k hk).1));have O5:=ae aJ;obtain ⟨m0,m1,m2⟩:=(aa nG).three;have zm:=(aa nG).fz;have ml:=(aa nG).lt;clear b0 uL uM zA fA og aJ au bI y0 y1 y2 k0 k1 k2 zy zk;go_wp2
      go_roundg fu
      case measure=>omega
      case rel=>exact ⟨rs++[r4],j4,_,(by with_reducible repeat (first|exact aa B5|refine But.alloc ?_ _|refine But.drew ?_|(refine But.setNew ?_ ?_ _;rotate_left;exact (by first|omega|(simp;omega)|simp)))),(by with_reducible repeat (first|exact aa A5|refine At.alloc ?_ _|refine At.drew ?_|(refine At.setNew ?_ ?_ _;rotate_left;exact (by first|omega|(simp;omega)|simp)))),by omega,by simp;omega,(by with_reducible repeat (first|exact aa K9|apply ag.alloc|apply ag.drew|apply ag.set|(apply ag.other;case ha=>exact (by first|omega|(simp;omega)|simp)))),(aa nG).set 2 _,⟨l4++[(r4,.iface tx vx)],by simp [aa E1],fun p hp=>ay.set (aa X5 p hp) (aa nG) (by decide) 2 _,by rw [List.length_append,List.flatMap_append];exact bD (aa O5) (aa nG) (by decide) 2 _⟩,HK⟩
   ·cases h6:((rs.length:Int)==6)
    ·have h6':(rs.length==6)=false:=by
      rw [beq_eq_false_iff_ne] at*;omega
     simp only [hm,h6',Bool.and_false,Bool.false_eq_true,if_false] at nE;have HK:=ae nE;clear nE h6';go_wp2_with fail;refine (ats b s j d _ _ (sg 125) _ ?_ ?_).mono ?_
     ·exact (by with_reducible repeat (first|exact aa HA|refine At.alloc ?_ _|refine At.drew ?_|(refine At.setNew ?_ ?_ _;rotate_left;exact (by first|omega|(simp;omega)|simp))))
     ·exact aI _ _ _ _ (by simp)
     rintro e w1 ⟨rfl,rfl⟩;rw [h1];go_wp2_with fail;refine (fO _ _ _ (jv s (K s j) (by unfold maxLen;omega) (aa HA).pos.le)).mono ?_;rintro e w3 ⟨rfl,hb3⟩;rw [show lS (aP s (K s j))=true from hm];clear hm;have A3:=ae ((show At (wr.alloc (.cells #[.string ⟨#[125]⟩] 9)) b s j d from (by with_reducible repeat (first|exact aa HA|refine At.alloc ?_ _|refine At.drew ?_|(refine At.setNew ?_ ?_ _;rotate_left;exact (by first|omega|(simp;omega)|simp))))).below hb3);have B3:=ae ((show But b w (wr.alloc (.cells #[.string ⟨#[125]⟩] 9)) from (by with_reducible repeat (first|exact aa HB|refine But.alloc ?_ _|refine But.drew ?_|(refine But.setNew ?_ ?_ _;rotate_left;exact (by first|omega|(simp;omega)|simp))))).trans (But.of_below hb3));have G3:=((aa HT).alloc (.cells #[.string ⟨#[125]⟩] 9)).below hb3;have R3:=((aa HR).alloc (.cells #[.string ⟨#[125]⟩] 9)).below hb3;have P3:=ae ((aa P0).frame ((bE.below (b:=b) ((Below.refl _ wr).alloc RH (.cells #[.string ⟨#[125]⟩] 9))).trans (bE.below hb3)) (by omega));clear hb3 t0 t1 t2 x0 x1 x2 zx zt n1 n2 HA HB HR HT Cs wM yT hlt' qG P0 hlr;have uK:=ae G3;have gD:=ae R3;obtain ⟨q0,q1,q2⟩:=G3.three;obtain ⟨x0,x1,x2⟩:=R3.three;have zx:=R3.fz;have zq:=G3.fz;have hW:=G3.lt;have hW':=R3.lt;have hlr:=(aa A3).lt;clear G3 R3
     cases hq:uD (TT s) (PP s) j with
     |error e=>
      obtain ⟨c4,j4⟩:=e;have C:=ae (nD b s j d w3 hs (aa A3) hd);rw [hq] at C HK;clear hq;go_wp2_with fail;refine (aa C).mono ?_;rintro e w4 ⟨b4,v4,d4,rfl,⟨p4,s4,Qv,rfl,hi4⟩,a4⟩;have R4:=(aa gD).but b4 (by omega);have G4:=(aa uK).but b4 (by omega);have B4:=ae (But.trans (aa B3) b4);have P4:=ae ((aa P3).frame (bE.of_but b4) (by omega));have A4:=ae a4;have lD:=ae R4;have E5:=ae G4;obtain ⟨y0,y1,y2⟩:=R4.three;obtain ⟨k0,k1,k2⟩:=G4.three;have zy:=R4.fz;have zk:=G4.fz;have yl:=G4.lt;have K8:w.heap.size<w4.heap.size:=by omega
      clear a4 b4 R4 G4 q0 q1 q2 x0 x1 x2 zx zq C;unfold aM
      rcases hi4 with rfl|⟨tx,vx,rfl⟩
      all_goals
       go_wp2;rw [←aa HK];refine bodyPost_ret (v:=.tuple #[.agg #[.int .i64 (aV s (K s (i+1))),.string (aP s (K s (i+1))),.slice sa rs.length sc],aM c4]) (aK Tryz.results114 _ _ w.heap.size _ 110 _ _ rfl rfl ?hB Tryz.underlying110 rfl (by kernel_rfl)) rfl ?post
       case hB=>exact ⟨_,(by with_reducible repeat (first|exact aa lD|apply ag.alloc|apply ag.drew|apply ag.set|(apply ag.other;case ha=>exact (by first|omega|(simp;omega)|simp)))),by rfl⟩
       case post=>exact ⟨(by with_reducible repeat (first|exact aa B4|refine But.alloc ?_ _|refine But.drew ?_|(refine But.setNew ?_ ?_ _;rotate_left;exact (by first|omega|(simp;omega)|simp)))),_,d4,rfl,⟨_,_,_,_,_,rfl⟩,(by with_reducible repeat (first|exact aa A4|refine At.alloc ?_ _|refine At.drew ?_|(refine At.setNew ?_ ?_ _;rotate_left;exact (by first|omega|(simp;omega)|simp))))⟩
     |ok y=>
      obtain ⟨r4,j4⟩:=y;have C:=ae (nD b s j d w3 hs (aa A3) hd);have NM:=kQ _ _ _ _ _ hq;rw [hq] at C HK;clear hq;go_wp2_with fail;refine (aa C).mono ?_;rintro e w4 ⟨b4,v4,rfl,⟨Qv,rfl,vZ⟩,a4⟩;have R4:=(aa gD).but b4 (by omega);have G4:=(aa uK).but b4 (by omega);have B4:=ae (But.trans (aa B3) b4);have P4:=ae ((aa P3).frame (bE.of_but b4) (by omega));have A4:=ae a4;have lD:=ae R4;have E5:=ae G4;obtain ⟨y0,y1,y2⟩:=R4.three;obtain ⟨k0,k1,k2⟩:=G4.three;have zy:=R4.fz;have zk:=G4.fz;have yl:=G4.lt;have K8:w.heap.size<w4.heap.size:=by omega
      clear a4 b4 R4 G4 q0 q1 q2 x0 x1 x2 zx zq C;obtain ⟨tx,vx,rfl⟩:=vZ.isI;have V4:=ae vZ;have Qw:=(aa A4).le;clear vZ;obtain ⟨l4,e1,e2,e3⟩:=aa P4;have E1:=ae e1;have E2:=ae e2;have E3:=ae e3;clear e1 e2 e3;unfold aM at*;go_wp2_with (at_builtin;go_must (refine wpList_append_lies _ rfl _ _ 108 rfl w.heap.size 159 i0 _ 3 40 Tryz.underlying108 (aa HI) (aa jg) (aa jh) (aa ji) rfl (by decide) (.slice sa rs.length sc) rs.length (l4.flatMap iT) rfl ?hown ⟨w4.heap.size+1,0,none⟩ 1 1 (iT (r4,.iface tx vx)) rfl rfl ?hnews ?hone (by decide) ?h63 ?hbytes ?hbase (w4.heap.size+2) ?hH ?hrest))
      case hown=>exact ((aa E3).alloc _).alloc _
      case hnews=>exact World.news_of_block (B:=w4.heap.size+1) (cs:=#[.int .i64 r4.place,.string r4.name,.iface tx vx]) (t:=159) (fr:=(0,0)) (ag.new' (w4.alloc _) _ _ _ (by simp))
      case hone=>
       intro u hu;simp [iT] at hu
       rcases hu with rfl|rfl|rfl<;>rfl
      case h63=>unfold maxLen;omega
      case hbytes=>omega
      case hbase=>simp;omega
      case hH=>simp
      case hrest=>
       intro g5 bu w5 aJ au bI jk;have b0:Below w4.heap.size w4 ((w4.alloc (.cells #[.int .i64 r4.place,.string r4.name,.iface tx vx] 159)).alloc (.cells #[.int .i64 r4.place,.string r4.name,.iface tx vx] 159)):=((Below.refl _ _).alloc RH _).alloc (by simp) _;have uL:=(aa E5).below b0;have uM:=(aa lD).below b0;have zA:=(aa A4).below b0;have fA:=((aa E3).alloc (.cells #[.int .i64 r4.place,.string r4.name,.iface tx vx] 159)).alloc (.cells #[.int .i64 r4.place,.string r4.name,.iface tx vx] 159);have og:iw b w4 w5:=fun g cs f hg hh=>(au.block g (Nat.lt_of_lt_of_le (lt_of_some hh) b0.size) (dH fA ((b0.block g (lt_of_some hh)).trans hh) (by decide))).trans (b0.block g (lt_of_some hh))
       have X5:=ae (show ∀p∈l4++[(r4,Value.iface tx vx)],ay b w5 p.1.body p.2 from fun p hp=>by
        rw [List.mem_append] at hp
        rcases hp with hp|hp
        ·exact ay.frame og _ _ (aa E2 p hp)
        ·simp at hp;subst hp;exact ay.frame og _ _ (aa V4))
       have nG:=ae (show ag w5 (w.heap.size+1) #[.int .i64 (aV s (K s (i+1))),.string (aP s (K s (i+1))),.slice sa rs.length sc] 110 from (au.block _ uL.lt (own_ne fA uL (by decide))).trans uL);have K9:=ae (show ag w5 w.heap.size #[.int .i64 0,.string ⟨#[]⟩,.slice none 0 0] 110 from (au.block _ uM.lt (own_ne fA uM (by decide))).trans uM);have A5:=ae (zA.grown au (own_ne fA zA.pos.rd.blk (by decide)));have B5:=ae (But.grown ((aa B4).trans (But.of_below b0)) au (fun k hk=>(fA.lt k hk).1));have O5:=ae aJ;obtain ⟨m0,m1,m2⟩:=(aa nG).three;have zm:=(aa nG).fz;have ml:=(aa nG).lt;clear b0 uL uM zA fA og aJ au bI y0 y1 y2 k0 k1 k2 zy zk;go_wp2
       go_roundg fu
       case measure=>omega
       case rel=>exact ⟨rs++[r4],j4,_,(by with_reducible repeat (first|exact aa B5|refine But.alloc ?_ _|refine But.drew ?_|(refine But.setNew ?_ ?_ _;rotate_left;exact (by first|omega|(simp;omega)|simp)))),(by with_reducible repeat (first|exact aa A5|refine At.alloc ?_ _|refine At.drew ?_|(refine At.setNew ?_ ?_ _;rotate_left;exact (by first|omega|(simp;omega)|simp)))),by omega,by simp;omega,(by with_reducible repeat (first|exact aa K9|apply ag.alloc|apply ag.drew|apply ag.set|(apply ag.other;case ha=>exact (by first|omega|(simp;omega)|simp)))),(aa nG).set 2 _,⟨l4++[(r4,.iface tx vx)],by simp [aa E1],fun p hp=>ay.set (aa X5 p hp) (aa nG) (by decide) 2 _,by rw [List.length_append,List.flatMap_append];exact bD (aa O5) (aa nG) (by decide) 2 _⟩,HK⟩
    ·have h6':(rs.length==6)=true:=by
      rw [beq_iff_eq] at*;omega
     simp only [hm,h6',Bool.and_true,if_true] at nE;have HK:=ae nE;clear nE h6';go_wp2_with fail;refine (ats b s j d _ _ (sg 125) _ ?_ ?_).mono ?_
     ·exact (by with_reducible repeat (first|exact aa HA|refine At.alloc ?_ _|refine At.drew ?_|(refine At.setNew ?_ ?_ _;rotate_left;exact (by first|omega|(simp;omega)|simp))))
     ·exact aI _ _ _ _ (by simp)
     rintro e w1 ⟨rfl,rfl⟩;rw [h1];go_wp2_with fail;refine (fO _ _ _ (jv s (K s j) (by unfold maxLen;omega) (aa HA).pos.le)).mono ?_;rintro e w3 ⟨rfl,hb3⟩;rw [show lS (aP s (K s j))=true from hm];clear hm;have A3:=ae ((show At (wr.alloc (.cells #[.string ⟨#[125]⟩] 9)) b s j d from (by with_reducible repeat (first|exact aa HA|refine At.alloc ?_ _|refine At.drew ?_|(refine At.setNew ?_ ?_ _;rotate_left;exact (by first|omega|(simp;omega)|simp))))).below hb3);have B3:=ae ((show But b w (wr.alloc (.cells #[.string ⟨#[125]⟩] 9)) from (by with_reducible repeat (first|exact aa HB|refine But.alloc ?_ _|refine But.drew ?_|(refine But.setNew ?_ ?_ _;rotate_left;exact (by first|omega|(simp;omega)|simp))))).trans (But.of_below hb3));have G3:=((aa HT).alloc (.cells #[.string ⟨#[125]⟩] 9)).below hb3;have R3:=((aa HR).alloc (.cells #[.string ⟨#[125]⟩] 9)).below hb3;have P3:=ae ((aa P0).frame ((bE.below (b:=b) ((Below.refl _ wr).alloc RH (.cells #[.string ⟨#[125]⟩] 9))).trans (bE.below hb3)) (by omega));clear hb3 t0 t1 t2 x0 x1 x2 zx zt n1 n2 HA HB HR HT Cs wM yT hlt' qG P0 hlr;have uK:=ae G3;have gD:=ae R3;obtain ⟨q0,q1,q2⟩:=G3.three;obtain ⟨x0,x1,x2⟩:=R3.three;have zx:=R3.fz;have zq:=G3.fz;have hW:=G3.lt;have hW':=R3.lt;have hlr:=(aa A3).lt;clear G3 R3;go_wp2;rw [←aa HK];refine bodyPost_ret (v:=.tuple #[.agg #[.int .i64 (aV s (K s (i+1))),.string (aP s (K s (i+1))),.slice sa rs.length sc],aM 3]) (aK Tryz.results114 _ _ w.heap.size _ 110 _ _ rfl rfl ?hB Tryz.underlying110 rfl (by kernel_rfl)) rfl ?post
     case hB=>exact ⟨_,(by with_reducible repeat (first|exact aa gD|apply ag.alloc|apply ag.drew|apply ag.set|(apply ag.other;case ha=>exact (by first|omega|(simp;omega)|simp)))),by rfl⟩
     case post=>exact ⟨(by with_reducible repeat (first|exact aa B3|refine But.alloc ?_ _|refine But.drew ?_|(refine But.setNew ?_ ?_ _;rotate_left;exact (by first|omega|(simp;omega)|simp)))),_,d,rfl,⟨_,_,_,_,_,rfl⟩,(by with_reducible repeat (first|exact aa A3|refine At.alloc ?_ _|refine At.drew ?_|(refine At.setNew ?_ ?_ _;rotate_left;exact (by first|omega|(simp;omega)|simp))))⟩
  ·simp only [h1,if_true] at nE;have HK:=ae nE;have H1:=ae h1;clear nE;go_wp2_with fail;refine (ats b s j d _ _ (sg 125) _ ?_ ?_).mono ?_
   ·exact (by with_reducible repeat (first|exact aa HA|refine At.alloc ?_ _|refine At.drew ?_|(refine At.setNew ?_ ?_ _;rotate_left;exact (by first|omega|(simp;omega)|simp))))
   ·exact aI _ _ _ _ (by simp)
   rintro e w1 ⟨rfl,rfl⟩;rw [h1];clear h1;go_wp2_with fail;have NN:=ae (show At (wr.alloc (.cells #[.string ⟨#[125]⟩] 9)) b s j d from (by with_reducible repeat (first|exact aa HA|refine At.alloc ?_ _|refine At.drew ?_|(refine At.setNew ?_ ?_ _;rotate_left;exact (by first|omega|(simp;omega)|simp)))));have NP:=ae (show But b w (wr.alloc (.cells #[.string ⟨#[125]⟩] 9)) from (by with_reducible repeat (first|exact aa HB|refine But.alloc ?_ _|refine But.drew ?_|(refine But.setNew ?_ ?_ _;rotate_left;exact (by first|omega|(simp;omega)|simp)))));have G3:=(aa HT).alloc (.cells #[.string ⟨#[125]⟩] 9);have R3:=(aa HR).alloc (.cells #[.string ⟨#[125]⟩] 9);have P3:=ae (fC.frame (base:=w.heap.size) ⟨l,aa Cs,aa wM,aa yT⟩ (bE.below (b:=b) ((Below.refl _ wr).alloc RH (.cells #[.string ⟨#[125]⟩] 9))) (by omega));generalize wr.alloc (.cells #[.string ⟨#[125]⟩] 9)=W at*;clear t0 t1 t2 x0 x1 x2 zx zt n1 n2 HA HB HR HT Cs wM yT hlt' qG;have uK:=ae G3;have gD:=ae R3;obtain ⟨q0,q1,q2⟩:=G3.three;have zq:=G3.fz;have hW:=G3.lt;have hW':=R3.lt;clear G3 R3;have hne:¬(w.heap.size+1=w.heap.size):=by omega
   go_region_held3 (fun w'=>w'.cell? ⟨w.heap.size+1,0,none⟩=some (.int .i64 (aV s (K s (i+1))))∧w'.cell? ⟨w.heap.size+1,1,none⟩=some (.string (aP s (K s (i+1))))∧w'.cell? ⟨w.heap.size+1,2,none⟩=some (.slice sa rs.length sc)) (go_keep)
    ((go_at_call 169;refine (fP b s j d (sg 125) _ (aa Hs) ?_ (aa H1) (by decide)).mono ?_;(exact (aa NN).drew);rintro e w3 ⟨rfl,a3,b3⟩;have G4:=(aa uK).drew.but b3 (by omega);obtain ⟨k0,k1,k2⟩:=G4.three;have R4:=(aa gD).drew.but b3 (by omega);obtain ⟨m0,m1,m2⟩:=R4.three;have zk:=ag.fz R4;have lD:=ae R4;have A4:=ae a3;have P4:=ae ((aa P3).frame (bE.of_but (But.trans ((But.refl b W).drew) b3)) (by omega));have B4:=ae (But.trans (aa NP).drew b3);clear G4 R4 a3 b3))
   go_wp2;rw [←aa HK];refine bodyPost_ret (v:=.tuple #[.agg #[.int .i64 (aV s (K s (i+1))),.string (aP s (K s (i+1))),.slice sa rs.length sc],.nilIface]) (aK Tryz.results114 _ _ w.heap.size _ 110 _ _ rfl rfl ?hB Tryz.underlying110 rfl (by kernel_rfl)) rfl ?post
   case hB=>exact ⟨_,(by with_reducible repeat (first|exact aa lD|apply ag.alloc|apply ag.drew|apply ag.set|(apply ag.other;case ha=>exact (by first|omega|(simp;omega)|simp)))),by rfl⟩
   case post=>exact ⟨(by with_reducible repeat (first|exact aa B4|refine But.alloc ?_ _|refine But.drew ?_|(refine But.setNew ?_ ?_ _;rotate_left;exact (by first|omega|(simp;omega)|simp)))),_,rfl,⟨_,rfl,((aa P4).frame ((bE.set (aa lD) (by decide) (by decide) 0 _).trans ((bE.set ((aa lD).set 0 _) (by decide) (by decide) 1 _).trans (bE.set (((aa lD).set 0 _).set 1 _) (by decide) (by decide) 2 _))) (by omega)).base (by omega)⟩,(by with_reducible repeat (first|exact aa A4|refine At.alloc ?_ _|refine At.drew ?_|(refine At.setNew ?_ ?_ _;rotate_left;exact (by first|omega|(simp;omega)|simp))))⟩
