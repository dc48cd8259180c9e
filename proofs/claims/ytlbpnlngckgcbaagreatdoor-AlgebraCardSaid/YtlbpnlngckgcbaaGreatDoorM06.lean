import Derived.Test.YtlbpnlngckgcbaaGreatDoorM05
set_option linter.all false
set_option maxHeartbeats 4000000
set_option maxRecDepth 100000
namespace Go.Proofs.YtlbpnlngckgcbaaGreatDoor
open Go.RowKit Go.PlainAid
theorem Tryz.info159:(Tryz.prog.info? 159).map (fun i=>(i.zero,i.size,i.bytes))=some (some (.agg #[.int .i64 0,.string ⟨#[]⟩,.nilIface]),3,40):=by kernel_rfl
def iH (p:Rl×Value):List Value:=[.int .i64 p.1.place,.string p.1.name,p.2]
def eY (base b:Nat) (w:World) (sv:Value) (rs:List Rl):Prop:=
 ∃l:List (Rl×Value),l.map Prod.fst=rs∧(∀p∈l,ay b w p.1.body p.2)∧w.ownsRow base 159 3 sv rs.length (l.flatMap iH)
theorem ak {w:World} {base:Nat} {e:TypeId} {size:Nat} {v:Value} {n:Nat} {xs:List Value} (h:w.ownsRow base e size v n xs):∃a cap,v=.slice a n cap:=by
 rcases h.2 with ⟨rfl,rfl⟩|⟨g,cap,cur,rfl,_⟩
 ·exact ⟨_,_,rfl⟩
 ·exact ⟨_,_,rfl⟩
def bu (b:Nat) (w w':World):Prop:=∀g cs T f,b+1≤g→w.heap[g]? =some (.cells cs T f)→(T=207∨T=159)→w'.heap[g]? =w.heap[g]?
theorem bu.of_but {b:Nat} {w w':World} (h:But b w w'):bu b w w':=fun g cs T f hg hh _=>h.block g (lt_of_some hh) (by omega)
theorem bu.g {b:Nat} {w w':World} (h:bu b w w'):gQ b w w':=fun g cs f hg hh=>h g cs _ f hg hh (.inl rfl)
theorem eY.frame {base b:Nat} {w w':World} {sv:Value} {rs:List Rl} (h:eY base b w sv rs) (k:bu b w w') (hb:b+1≤base):eY base b w' sv rs:=by
 obtain ⟨l,h1,h2,h3⟩:=h;exact ⟨l,h1,fun p hp=>ay.frame k.g _ _ (h2 p hp),ai h3 fun g cs f hg hh=>k g cs _ f (by omega) hh (.inr rfl)⟩
theorem eY.base {base base' b:Nat} {w:World} {sv:Value} {rs:List Rl} (h:eY base b w sv rs) (hb:base'≤base):eY base' b w sv rs:=by
 obtain ⟨l,h1,h2,h3⟩:=h;exact ⟨l,h1,h2,aC h3 hb⟩
theorem bu.set {b:Nat} {w:World} {g:Nat} {cs:Array Value} {T:TypeId} (hb:ag w g cs T) (h1:T≠207) (h2:T≠159) (o:Nat) (u:Value):bu b w (w.setCell ⟨g,o,none⟩ u):=
 fun g' cs' T' f hg hh ht=>Below.heap_setCell _ _ _ _ (fun (e':g'=g)=>by
  subst e';unfold ag at hb;rw [hb] at hh;simp at hh;obtain ⟨_,rfl,_⟩:=hh
  rcases ht with ht|ht
  ·exact h1 ht
  ·exact h2 ht)
theorem bu.trans {b:Nat} {x y z:World} (h:bu b x y) (k:bu b y z):bu b x z:=fun g cs T f hg hh ht=>(k g cs T f hg ((h g cs T f hg hh ht).trans hh) ht).trans (h g cs T f hg hh ht)
theorem bu.below {b:Nat} {w w':World} (h:Below w.heap.size w w'):bu b w w':=bu.of_but (But.of_below h)
theorem dD {w:World} {base:Nat} {e:TypeId} {size:Nat} {v:Value} {n:Nat} {xs:List Value} {g:Nat} {cs:Array Value} {T:TypeId} {f:Nat×Nat} (h:w.ownsRow base e size v n xs) (hb:w.heap[g]? =some (.cells cs T f)) (ht:T≠e):some g≠v.ownBlock:=by
 rcases h.2 with ⟨rfl,_⟩|⟨g',cap,cur,rfl,hg,hh,r⟩
 ·simp [Value.ownBlock]
 ·intro he;simp only [Value.ownBlock,Option.some.injEq] at he;subst he;rw [hb] at hh;simp at hh;exact ht hh.2.1
def Ao (b:Nat) (w:World) (t:Ty) (v:Value):Prop:=∃sv,v=.agg #[.int .i64 t.place,.string t.name,sv]∧eY (b+1) b w sv t.rels
def Gy (v:Value):Prop:=∃(p:Nat) (t:Qx) (a:Option Addr) (n c:Nat),v=.agg #[.int .i64 p,.string t,.slice a n c]
def typeM (T:Nat→Qx) (P:Nat→Nat) (i:Nat) (R:eX (List Rl)):eX Ty:=match R with
 | .error e=> .error e
 | .ok (rs,m)=> .ok (⟨T (i+1),P (i+1),rs⟩,m)
theorem Gz (b:Nat) (s:Qx) (i d:Nat) (w:World) (hs:s.size≤500) (h:At w b s i d) (he:eqs (TT s i) jg=false):
  Calls Tryz.prog 114 #[.pointer (some ⟨b,0,none⟩)] w (Post b s d w (.error (2,i):eX Ty) (Ao b) Gy):=by
 have hlt:=h.lt;have A0:=ae h;clear h;go_enter Tryz.func114,Tryz.ntmps114;go_wp2_with fail;refine (jU b s i d jg _ ?_ he).mono ?_
 ·exact (by with_reducible repeat (first|exact aa A0|refine At.alloc ?_ _|refine At.drew ?_|(refine At.setNew ?_ ?_ _;rotate_left;exact (by first|omega|(simp;omega)|simp))))
 rintro e w1 ⟨rfl,a1,b1⟩;have B1:=ae (((But.refl b w).alloc _).alloc _ |>.trans b1);have R:=((ag.new w #[.int .i64 0,.string ⟨#[]⟩,.slice none 0 0] 110).alloc (.cells #[.int .i64 0,.string ⟨#[]⟩,.slice none 0 0] 110)).but b1 (by omega);have G:=(ag.new' (w.alloc (.cells #[.int .i64 0,.string ⟨#[]⟩,.slice none 0 0] 110)) #[.int .i64 0,.string ⟨#[]⟩,.slice none 0 0] 110 (w.heap.size+1) (by simp)).but b1 (by omega);have HR:=ae R;have HG:=ae G;obtain ⟨r0,r1,r2⟩:=R.three;obtain ⟨g0,g1,g2⟩:=G.three;have zr:=R.fz;have zg:=G.fz;have A1:=ae a1;clear a1 b1 R G;unfold aJ;go_wp2;refine bodyPost_ret (v:=.tuple #[.agg #[.int .i64 0,.string ⟨#[]⟩,.slice none 0 0],aJ 2]) (aH Tryz.results114 _ _ w.heap.size _ 110 _ _ rfl rfl ?hB Tryz.underlying110 rfl (by kernel_rfl)) rfl ?post
 case hB=>exact ⟨_,(by with_reducible repeat (first|exact aa HR|apply ag.alloc|apply ag.drew|apply ag.set|(apply ag.other;case ha=>exact (by first|omega|(simp;omega)|simp)))),by rfl⟩
 case post=>exact ⟨(by with_reducible repeat (first|exact aa B1|refine But.alloc ?_ _|refine But.drew ?_|(refine But.setNew ?_ ?_ _;rotate_left;exact (by first|omega|(simp;omega)|simp)))),_,d,rfl,⟨0,_,_,_,_,rfl⟩,(by with_reducible repeat (first|exact aa A1|refine At.alloc ?_ _|refine At.drew ?_|(refine At.setNew ?_ ?_ _;rotate_left;exact (by first|omega|(simp;omega)|simp))))⟩
theorem Br (b:Nat) (s:Qx) (i d:Nat) (w:World) (hs:s.size≤500) (h:At w b s i d) (he:eqs (TT s i) jg=true) (c j:Nat) (Hn:Hid (bi (TT s) (sg 123) (i+1)=.error (c,j))):
  Calls Tryz.prog 114 #[.pointer (some ⟨b,0,none⟩)] w (Post b s d w (.error (c,j):eX Ty) (Ao b) Gy):=by
 have hlt:=h.lt;have Hs:Hid (s.size≤maxLen):=ae (by unfold maxLen;omega);have He:=ae he;have A0:=ae h;clear h he;go_enter Tryz.func114,Tryz.ntmps114;go_wp2_with fail;refine (fG b s i d jg _ (aa Hs) ?_ (aa He) (by decide)).mono ?_
 ·exact (by with_reducible repeat (first|exact aa A0|refine At.alloc ?_ _|refine At.drew ?_|(refine At.setNew ?_ ?_ _;rotate_left;exact (by first|omega|(simp;omega)|simp))))
 rintro e w1 ⟨rfl,a1,b1⟩;have B1:=ae (((But.refl b w).alloc _).alloc _ |>.trans b1);have R1:=ae (((ag.new w #[.int .i64 0,.string ⟨#[]⟩,.slice none 0 0] 110).alloc (.cells #[.int .i64 0,.string ⟨#[]⟩,.slice none 0 0] 110)).but b1 (by omega));have G1:=ae ((ag.new' (w.alloc (.cells #[.int .i64 0,.string ⟨#[]⟩,.slice none 0 0] 110)) #[.int .i64 0,.string ⟨#[]⟩,.slice none 0 0] 110 (w.heap.size+1) (by simp)).but b1 (by omega));have A1:=ae a1;clear a1 b1;have C:=ae (dM b s (i+1) d (sg 123) w1 (aa Hs) (aa A1) (by decide));rw [aa Hn] at C;go_wp2_with fail;refine (aa C).mono ?_;rintro e w2 ⟨b2,v,d2,rfl,⟨p,t,rfl⟩,a2⟩;have B2:=ae (But.trans (aa B1) b2);have R:=(aa R1).but b2 (by omega);have G:=(aa G1).but b2 (by omega);have HR:=ae R;have HG:=ae G;obtain ⟨r0,r1,r2⟩:=R.three;obtain ⟨g0,g1,g2⟩:=G.three;have zr:=R.fz;have zg:=G.fz;have hz:=G.lt;have A2:=ae a2;clear a2 b2 R G C;unfold aJ;go_wp2;refine bodyPost_ret (v:=.tuple #[.agg #[.int .i64 p,.string t,.slice none 0 0],aJ c]) (aH Tryz.results114 _ _ w.heap.size _ 110 _ _ rfl rfl ?hB Tryz.underlying110 rfl (by kernel_rfl)) rfl ?post
 case hB=>exact ⟨_,(by with_reducible repeat (first|exact aa HR|apply ag.alloc|apply ag.drew|apply ag.set|(apply ag.other;case ha=>exact (by first|omega|(simp;omega)|simp)))),by rfl⟩
 case post=>exact ⟨(by with_reducible repeat (first|exact aa B2|refine But.alloc ?_ _|refine But.drew ?_|(refine But.setNew ?_ ?_ _;rotate_left;exact (by first|omega|(simp;omega)|simp)))),_,d2,rfl,⟨p,t,_,_,_,rfl⟩,(by with_reducible repeat (first|exact aa A2|refine At.alloc ?_ _|refine At.drew ?_|(refine At.setNew ?_ ?_ _;rotate_left;exact (by first|omega|(simp;omega)|simp))))⟩
theorem GA (b:Nat) (s:Qx) (i d:Nat) (w:World) (hs:s.size≤500) (h:At w b s i d) (hd:d+4=4) (he:eqs (TT s i) jg=true) (j:Nat) (Hn:Hid (bi (TT s) (sg 123) (i+1)=.ok ((),j))):
  Calls Tryz.prog 114 #[.pointer (some ⟨b,0,none⟩)] w (Post b s d w (typeM (TT s) (PP s) i (jM (TT s) (PP s) 512 [] j)) (Ao b) Gy):=by
 obtain ⟨i0,hi,hz0,hz1,hz2⟩:=info_parts Tryz.info159;have HI:=ae hi;have iU:=ae hz0;have iV:=ae hz1;have iW:=ae hz2;clear hi hz0 hz1 hz2;generalize hR:jM (TT s) (PP s) 512 [] j=R;have yt:=ae hR;clear hR;have hlt:=h.lt;have Hs:Hid (s.size≤maxLen):=ae (by unfold maxLen;omega);have He:=ae he;have A0:=ae h;clear h he;go_enter Tryz.func114,Tryz.ntmps114;go_wp2_with fail;refine (fG b s i d jg _ (aa Hs) ?_ (aa He) (by decide)).mono ?_
 ·exact (by with_reducible repeat (first|exact aa A0|refine At.alloc ?_ _|refine At.drew ?_|(refine At.setNew ?_ ?_ _;rotate_left;exact (by first|omega|(simp;omega)|simp))))
 rintro e w1 ⟨rfl,a1,b1⟩;have B1:=ae (((But.refl b w).alloc _).alloc _ |>.trans b1);have R1:=ae (((ag.new w #[.int .i64 0,.string ⟨#[]⟩,.slice none 0 0] 110).alloc (.cells #[.int .i64 0,.string ⟨#[]⟩,.slice none 0 0] 110)).but b1 (by omega));have G1:=ae ((ag.new' (w.alloc (.cells #[.int .i64 0,.string ⟨#[]⟩,.slice none 0 0] 110)) #[.int .i64 0,.string ⟨#[]⟩,.slice none 0 0] 110 (w.heap.size+1) (by simp)).but b1 (by omega));have A1:=ae a1;clear a1 b1;have C:=ae (dM b s (i+1) d (sg 123) w1 (aa Hs) (aa A1) (by decide));rw [aa Hn] at C;go_wp2_with fail;refine (aa C).mono ?_;rintro e w2 ⟨b2,v,rfl,rfl,a2⟩;have B2:=ae (But.trans (aa B1) b2);have R:=(aa R1).but b2 (by omega);have G:=(aa G1).but b2 (by omega);have HR:=ae R;have HG:=ae G;obtain ⟨r0,r1,r2⟩:=R.three;obtain ⟨g0,g1,g2⟩:=G.three;have zr:=R.fz;have zg:=G.fz;have hz:=G.lt;have A2:=ae a2;clear a2 b2 R G C;unfold o6;go_wp2_with fail
 go_loopg [7] 512 (fun k u7 wr=>∃(rs:List Rl) (j:Nat) (sv:Value),But b w wr∧At wr b s j d∧512≤k+j∧rs.length≤j∧ag wr w.heap.size #[.int .i64 0,.string ⟨#[]⟩,.slice none 0 0] 110∧
  ag wr (w.heap.size+1) #[.int .i64 (aR s (K s (i+1))),.string (aO s (K s (i+1))),sv] 110∧eY w.heap.size b wr sv rs∧Hid (jM (TT s) (PP s) k rs j=R))
 case atStart=>exact ⟨[],j,_,(by with_reducible repeat (first|exact aa B2|refine But.alloc ?_ _|refine But.drew ?_|(refine But.setNew ?_ ?_ _;rotate_left;exact (by first|omega|(simp;omega)|simp)))),(by with_reducible repeat (first|exact aa A2|refine At.alloc ?_ _|refine At.drew ?_|(refine At.setNew ?_ ?_ _;rotate_left;exact (by first|omega|(simp;omega)|simp)))),by omega,by simp,((aa HR).other (by simp) _).other (by simp) _,((aa HG).set 0 _).set 1 _,⟨[],rfl,by simp,World.ownsRow_nil _ _ _ _⟩,yt⟩
 case round=>
  obtain ⟨rs,j,sv,hb,ha,hk,hrl,hbr,nU,bf,HQ⟩:=hrel;have hf:12≤gk:=by have:=ha.le;omega
  obtain ⟨fu,rfl⟩:∃f,gk=f+1:=⟨gk-1,by omega⟩;obtain ⟨l,yJ,hl2,DW⟩:=bf;obtain ⟨sa,sc,rfl⟩:=ak DW;have HA:=ae ha;have HB:=ae hb;have HR:=ae hbr;have HT:=ae nU;have Bu:=ae yJ;have Ap:=ae hl2;have yo:=ae DW;have mZ:=aa HQ;obtain ⟨t0,t1,t2⟩:=nU.three;obtain ⟨x0,x1,x2⟩:=hbr.three;have zx:=hbr.fz;have zt:=nU.fz;have hlt':=nU.lt;have qc:w.heap.size<wr.heap.size:=by omega
  have n1:=ha.pos.rd.c1;have n2:=ha.pos.rd.c2;have hlr:=ha.lt;unfold jM at mZ;clear ha hb hbr nU yJ hl2 DW HQ r0 r1 r2 g0 g1 g2 zr zg
  cases h1:eqs (TT s j) (sg 125)
  ·simp only [h1,Bool.false_eq_true,if_false] at mZ;have P0:Hid (eY w.heap.size b wr (.slice sa rs.length sc) rs):=ae ⟨l,aa Bu,aa Ap,aa yo⟩
   cases hm:lI (TT s j)
   ·simp only [hm,Bool.false_and,Bool.false_eq_true,if_false] at mZ;have HK:=ae mZ;clear mZ;go_wp2_with fail;refine (ats b s j d _ _ (sg 125) _ ?_ ?_).mono ?_
    ·exact (by with_reducible repeat (first|exact aa HA|refine At.alloc ?_ _|refine At.drew ?_|(refine At.setNew ?_ ?_ _;rotate_left;exact (by first|omega|(simp;omega)|simp))))
    ·exact aG _ _ _ _ (by simp)
    rintro e w1 ⟨rfl,rfl⟩;rw [h1];go_wp2_with fail;refine (fF _ _ _ (jf s (K s j) (by unfold maxLen;omega) (aa HA).pos.le)).mono ?_;rintro e w3 ⟨rfl,hb3⟩;rw [show lI (aO s (K s j))=false from hm];clear hm;have A3:=ae ((show At (wr.alloc (.cells #[.string ⟨#[125]⟩] 9)) b s j d from (by with_reducible repeat (first|exact aa HA|refine At.alloc ?_ _|refine At.drew ?_|(refine At.setNew ?_ ?_ _;rotate_left;exact (by first|omega|(simp;omega)|simp))))).below hb3);have B3:=ae ((show But b w (wr.alloc (.cells #[.string ⟨#[125]⟩] 9)) from (by with_reducible repeat (first|exact aa HB|refine But.alloc ?_ _|refine But.drew ?_|(refine But.setNew ?_ ?_ _;rotate_left;exact (by first|omega|(simp;omega)|simp))))).trans (But.of_below hb3));have G3:=((aa HT).alloc (.cells #[.string ⟨#[125]⟩] 9)).below hb3;have R3:=((aa HR).alloc (.cells #[.string ⟨#[125]⟩] 9)).below hb3;have P3:=ae ((aa P0).frame ((bu.below (b:=b) ((Below.refl _ wr).alloc Qv (.cells #[.string ⟨#[125]⟩] 9))).trans (bu.below hb3)) (by omega));clear hb3 t0 t1 t2 x0 x1 x2 zx zt n1 n2 HA HB HR HT Bu Ap yo hlt' qc P0 hlr;have uj:=ae G3;have iq:=ae R3;obtain ⟨q0,q1,q2⟩:=G3.three;obtain ⟨x0,x1,x2⟩:=R3.three;have zx:=R3.fz;have zq:=G3.fz;have hW:=G3.lt;have hW':=R3.lt;have hlr:=(aa A3).lt;clear G3 R3
    cases hq:tV (TT s) (PP s) j with
    |error e=>
     obtain ⟨c4,j4⟩:=e;have C:=ae (mY b s j d w3 hs (aa A3) hd);rw [hq] at C HK;clear hq;go_wp2_with fail;refine (aa C).mono ?_;rintro e w4 ⟨b4,v4,d4,rfl,⟨p4,s4,O8,rfl,hi4⟩,a4⟩;have R4:=(aa iq).but b4 (by omega);have G4:=(aa uj).but b4 (by omega);have B4:=ae (But.trans (aa B3) b4);have P4:=ae ((aa P3).frame (bu.of_but b4) (by omega));have A4:=ae a4;have nS:=ae R4;have Ef:=ae G4;obtain ⟨y0,y1,y2⟩:=R4.three;obtain ⟨k0,k1,k2⟩:=G4.three;have zy:=R4.fz;have zk:=G4.fz;have yl:=G4.lt;have J3:w.heap.size<w4.heap.size:=by omega
     clear a4 b4 R4 G4 q0 q1 q2 x0 x1 x2 zx zq C;unfold aJ
     rcases hi4 with rfl|⟨tx,vx,rfl⟩
     all_goals
      go_wp2;rw [←aa HK];refine bodyPost_ret (v:=.tuple #[.agg #[.int .i64 (aR s (K s (i+1))),.string (aO s (K s (i+1))),.slice sa rs.length sc],aJ c4]) (aH Tryz.results114 _ _ w.heap.size _ 110 _ _ rfl rfl ?hB Tryz.underlying110 rfl (by kernel_rfl)) rfl ?post
      case hB=>exact ⟨_,(by with_reducible repeat (first|exact aa nS|apply ag.alloc|apply ag.drew|apply ag.set|(apply ag.other;case ha=>exact (by first|omega|(simp;omega)|simp)))),by rfl⟩
      case post=>exact ⟨(by with_reducible repeat (first|exact aa B4|refine But.alloc ?_ _|refine But.drew ?_|(refine But.setNew ?_ ?_ _;rotate_left;exact (by first|omega|(simp;omega)|simp)))),_,d4,rfl,⟨_,_,_,_,_,rfl⟩,(by with_reducible repeat (first|exact aa A4|refine At.alloc ?_ _|refine At.drew ?_|(refine At.setNew ?_ ?_ _;rotate_left;exact (by first|omega|(simp;omega)|simp))))⟩
    |ok y=>
     obtain ⟨r4,j4⟩:=y;have C:=ae (mY b s j d w3 hs (aa A3) hd);have Md:=kK _ _ _ _ _ hq;rw [hq] at C HK;clear hq;go_wp2_with fail;refine (aa C).mono ?_;rintro e w4 ⟨b4,v4,rfl,⟨O8,rfl,vD⟩,a4⟩;have R4:=(aa iq).but b4 (by omega);have G4:=(aa uj).but b4 (by omega);have B4:=ae (But.trans (aa B3) b4);have P4:=ae ((aa P3).frame (bu.of_but b4) (by omega));have A4:=ae a4;have nS:=ae R4;have Ef:=ae G4;obtain ⟨y0,y1,y2⟩:=R4.three;obtain ⟨k0,k1,k2⟩:=G4.three;have zy:=R4.fz;have zk:=G4.fz;have yl:=G4.lt;have J3:w.heap.size<w4.heap.size:=by omega
     clear a4 b4 R4 G4 q0 q1 q2 x0 x1 x2 zx zq C;obtain ⟨tx,vx,rfl⟩:=vD.isI;have V4:=ae vD;have O9:=(aa A4).le;clear vD;obtain ⟨l4,e1,e2,e3⟩:=aa P4;have E1:=ae e1;have E2:=ae e2;have E3:=ae e3;clear e1 e2 e3;unfold aJ at*;go_wp2_with (at_builtin;go_must (refine wpList_append_lies _ rfl _ _ 108 rfl w.heap.size 159 i0 _ 3 40 Tryz.underlying108 (aa HI) (aa iU) (aa iV) (aa iW) rfl (by decide) (.slice sa rs.length sc) rs.length (l4.flatMap iH) rfl ?hown ⟨w4.heap.size+1,0,none⟩ 1 1 (iH (r4,.iface tx vx)) rfl rfl ?hnews ?hone (by decide) ?h63 ?hbytes ?hbase (w4.heap.size+2) ?hH ?hrest))
     case hown=>exact ((aa E3).alloc _).alloc _
     case hnews=>exact World.news_of_block (B:=w4.heap.size+1) (cs:=#[.int .i64 r4.place,.string r4.name,.iface tx vx]) (t:=159) (fr:=(0,0)) (ag.new' (w4.alloc _) _ _ _ (by simp))
     case hone=>
      intro u hu;simp [iH] at hu
      rcases hu with rfl|rfl|rfl<;>rfl
     case h63=>unfold maxLen;omega
     case hbytes=>omega
     case hbase=>simp;omega
     case hH=>simp
     case hrest=>
      intro g5 bP w5 aK ax bZ jD;have b0:Below w4.heap.size w4 ((w4.alloc (.cells #[.int .i64 r4.place,.string r4.name,.iface tx vx] 159)).alloc (.cells #[.int .i64 r4.place,.string r4.name,.iface tx vx] 159)):=((Below.refl _ _).alloc Qv _).alloc (by simp) _;have uk:=(aa Ef).below b0;have uo:=(aa nS).below b0;have yK:=(aa A4).below b0;have gF:=((aa E3).alloc (.cells #[.int .i64 r4.place,.string r4.name,.iface tx vx] 159)).alloc (.cells #[.int .i64 r4.place,.string r4.name,.iface tx vx] 159);have nV:gQ b w4 w5:=fun g cs f hg hh=>(ax.block g (Nat.lt_of_lt_of_le (lt_of_some hh) b0.size) (dD gF ((b0.block g (lt_of_some hh)).trans hh) (by decide))).trans (b0.block g (lt_of_some hh))
      have X5:=ae (show ∀p∈l4++[(r4,Value.iface tx vx)],ay b w5 p.1.body p.2 from fun p hp=>by
       rw [List.mem_append] at hp
       rcases hp with hp|hp
       ·exact ay.frame nV _ _ (aa E2 p hp)
       ·simp at hp;subst hp;exact ay.frame nV _ _ (aa V4))
      have ng:=ae (show ag w5 (w.heap.size+1) #[.int .i64 (aR s (K s (i+1))),.string (aO s (K s (i+1))),.slice sa rs.length sc] 110 from (ax.block _ uk.lt (own_ne gF uk (by decide))).trans uk);have J4:=ae (show ag w5 w.heap.size #[.int .i64 0,.string ⟨#[]⟩,.slice none 0 0] 110 from (ax.block _ uo.lt (own_ne gF uo (by decide))).trans uo);have A5:=ae (yK.grown ax (own_ne gF yK.pos.rd.blk (by decide)));have B5:=ae (But.grown ((aa B4).trans (But.of_below b0)) ax (fun k hk=>(gF.lt k hk).1));have O5:=ae aK;obtain ⟨m0,m1,m2⟩:=(aa ng).three;have zm:=(aa ng).fz;have ml:=(aa ng).lt;clear b0 uk uo yK gF nV aK ax bZ y0 y1 y2 k0 k1 k2 zy zk;go_wp2
      go_roundg fu
      case measure=>omega
      case rel=>exact ⟨rs++[r4],j4,_,(by with_reducible repeat (first|exact aa B5|refine But.alloc ?_ _|refine But.drew ?_|(refine But.setNew ?_ ?_ _;rotate_left;exact (by first|omega|(simp;omega)|simp)))),(by with_reducible repeat (first|exact aa A5|refine At.alloc ?_ _|refine At.drew ?_|(refine At.setNew ?_ ?_ _;rotate_left;exact (by first|omega|(simp;omega)|simp)))),by omega,by simp;omega,(by with_reducible repeat (first|exact aa J4|apply ag.alloc|apply ag.drew|apply ag.set|(apply ag.other;case ha=>exact (by first|omega|(simp;omega)|simp)))),(aa ng).set 2 _,⟨l4++[(r4,.iface tx vx)],by simp [aa E1],fun p hp=>ay.set (aa X5 p hp) (aa ng) (by decide) 2 _,by rw [List.length_append,List.flatMap_append];exact bn (aa O5) (aa ng) (by decide) 2 _⟩,HK⟩
   ·cases h6:((rs.length:Int)==6)
    ·have h6':(rs.length==6)=false:=by
      rw [beq_eq_false_iff_ne] at*;omega
     simp only [hm,h6',Bool.and_false,Bool.false_eq_true,if_false] at mZ;have HK:=ae mZ;clear mZ h6';go_wp2_with fail;refine (ats b s j d _ _ (sg 125) _ ?_ ?_).mono ?_
     ·exact (by with_reducible repeat (first|exact aa HA|refine At.alloc ?_ _|refine At.drew ?_|(refine At.setNew ?_ ?_ _;rotate_left;exact (by first|omega|(simp;omega)|simp))))
     ·exact aG _ _ _ _ (by simp)
     rintro e w1 ⟨rfl,rfl⟩;rw [h1];go_wp2_with fail;refine (fF _ _ _ (jf s (K s j) (by unfold maxLen;omega) (aa HA).pos.le)).mono ?_;rintro e w3 ⟨rfl,hb3⟩;rw [show lI (aO s (K s j))=true from hm];clear hm;have A3:=ae ((show At (wr.alloc (.cells #[.string ⟨#[125]⟩] 9)) b s j d from (by with_reducible repeat (first|exact aa HA|refine At.alloc ?_ _|refine At.drew ?_|(refine At.setNew ?_ ?_ _;rotate_left;exact (by first|omega|(simp;omega)|simp))))).below hb3);have B3:=ae ((show But b w (wr.alloc (.cells #[.string ⟨#[125]⟩] 9)) from (by with_reducible repeat (first|exact aa HB|refine But.alloc ?_ _|refine But.drew ?_|(refine But.setNew ?_ ?_ _;rotate_left;exact (by first|omega|(simp;omega)|simp))))).trans (But.of_below hb3));have G3:=((aa HT).alloc (.cells #[.string ⟨#[125]⟩] 9)).below hb3;have R3:=((aa HR).alloc (.cells #[.string ⟨#[125]⟩] 9)).below hb3;have P3:=ae ((aa P0).frame ((bu.below (b:=b) ((Below.refl _ wr).alloc Qv (.cells #[.string ⟨#[125]⟩] 9))).trans (bu.below hb3)) (by omega));clear hb3 t0 t1 t2 x0 x1 x2 zx zt n1 n2 HA HB HR HT Bu Ap yo hlt' qc P0 hlr;have uj:=ae G3;have iq:=ae R3;obtain ⟨q0,q1,q2⟩:=G3.three;obtain ⟨x0,x1,x2⟩:=R3.three;have zx:=R3.fz;have zq:=G3.fz;have hW:=G3.lt;have hW':=R3.lt;have hlr:=(aa A3).lt;clear G3 R3
     cases hq:tV (TT s) (PP s) j with
     |error e=>
      obtain ⟨c4,j4⟩:=e;have C:=ae (mY b s j d w3 hs (aa A3) hd);rw [hq] at C HK;clear hq;go_wp2_with fail;refine (aa C).mono ?_;rintro e w4 ⟨b4,v4,d4,rfl,⟨p4,s4,O8,rfl,hi4⟩,a4⟩;have R4:=(aa iq).but b4 (by omega);have G4:=(aa uj).but b4 (by omega);have B4:=ae (But.trans (aa B3) b4);have P4:=ae ((aa P3).frame (bu.of_but b4) (by omega));have A4:=ae a4;have nS:=ae R4;have Ef:=ae G4;obtain ⟨y0,y1,y2⟩:=R4.three;obtain ⟨k0,k1,k2⟩:=G4.three;have zy:=R4.fz;have zk:=G4.fz;have yl:=G4.lt;have J3:w.heap.size<w4.heap.size:=by omega
      clear a4 b4 R4 G4 q0 q1 q2 x0 x1 x2 zx zq C;unfold aJ
      rcases hi4 with rfl|⟨tx,vx,rfl⟩
      all_goals
       go_wp2;rw [←aa HK];refine bodyPost_ret (v:=.tuple #[.agg #[.int .i64 (aR s (K s (i+1))),.string (aO s (K s (i+1))),.slice sa rs.length sc],aJ c4]) (aH Tryz.results114 _ _ w.heap.size _ 110 _ _ rfl rfl ?hB Tryz.underlying110 rfl (by kernel_rfl)) rfl ?post
       case hB=>exact ⟨_,(by with_reducible repeat (first|exact aa nS|apply ag.alloc|apply ag.drew|apply ag.set|(apply ag.other;case ha=>exact (by first|omega|(simp;omega)|simp)))),by rfl⟩
       case post=>exact ⟨(by with_reducible repeat (first|exact aa B4|refine But.alloc ?_ _|refine But.drew ?_|(refine But.setNew ?_ ?_ _;rotate_left;exact (by first|omega|(simp;omega)|simp)))),_,d4,rfl,⟨_,_,_,_,_,rfl⟩,(by with_reducible repeat (first|exact aa A4|refine At.alloc ?_ _|refine At.drew ?_|(refine At.setNew ?_ ?_ _;rotate_left;exact (by first|omega|(simp;omega)|simp))))⟩
     |ok y=>
      obtain ⟨r4,j4⟩:=y;have C:=ae (mY b s j d w3 hs (aa A3) hd);have Md:=kK _ _ _ _ _ hq;rw [hq] at C HK;clear hq;go_wp2_with fail;refine (aa C).mono ?_;rintro e w4 ⟨b4,v4,rfl,⟨O8,rfl,vD⟩,a4⟩;have R4:=(aa iq).but b4 (by omega);have G4:=(aa uj).but b4 (by omega);have B4:=ae (But.trans (aa B3) b4);have P4:=ae ((aa P3).frame (bu.of_but b4) (by omega));have A4:=ae a4;have nS:=ae R4;have Ef:=ae G4;obtain ⟨y0,y1,y2⟩:=R4.three;obtain ⟨k0,k1,k2⟩:=G4.three;have zy:=R4.fz;have zk:=G4.fz;have yl:=G4.lt;have J3:w.heap.size<w4.heap.size:=by omega
      clear a4 b4 R4 G4 q0 q1 q2 x0 x1 x2 zx zq C;obtain ⟨tx,vx,rfl⟩:=vD.isI;have V4:=ae vD;have O9:=(aa A4).le;clear vD;obtain ⟨l4,e1,e2,e3⟩:=aa P4;have E1:=ae e1;have E2:=ae e2;have E3:=ae e3;clear e1 e2 e3;unfold aJ at*;go_wp2_with (at_builtin;go_must (refine wpList_append_lies _ rfl _ _ 108 rfl w.heap.size 159 i0 _ 3 40 Tryz.underlying108 (aa HI) (aa iU) (aa iV) (aa iW) rfl (by decide) (.slice sa rs.length sc) rs.length (l4.flatMap iH) rfl ?hown ⟨w4.heap.size+1,0,none⟩ 1 1 (iH (r4,.iface tx vx)) rfl rfl ?hnews ?hone (by decide) ?h63 ?hbytes ?hbase (w4.heap.size+2) ?hH ?hrest))
      case hown=>exact ((aa E3).alloc _).alloc _
      case hnews=>exact World.news_of_block (B:=w4.heap.size+1) (cs:=#[.int .i64 r4.place,.string r4.name,.iface tx vx]) (t:=159) (fr:=(0,0)) (ag.new' (w4.alloc _) _ _ _ (by simp))
      case hone=>
       intro u hu;simp [iH] at hu
       rcases hu with rfl|rfl|rfl<;>rfl
      case h63=>unfold maxLen;omega
      case hbytes=>omega
      case hbase=>simp;omega
      case hH=>simp
      case hrest=>
       intro g5 bP w5 aK ax bZ jD;have b0:Below w4.heap.size w4 ((w4.alloc (.cells #[.int .i64 r4.place,.string r4.name,.iface tx vx] 159)).alloc (.cells #[.int .i64 r4.place,.string r4.name,.iface tx vx] 159)):=((Below.refl _ _).alloc Qv _).alloc (by simp) _;have uk:=(aa Ef).below b0;have uo:=(aa nS).below b0;have yK:=(aa A4).below b0;have gF:=((aa E3).alloc (.cells #[.int .i64 r4.place,.string r4.name,.iface tx vx] 159)).alloc (.cells #[.int .i64 r4.place,.string r4.name,.iface tx vx] 159);have nV:gQ b w4 w5:=fun g cs f hg hh=>(ax.block g (Nat.lt_of_lt_of_le (lt_of_some hh) b0.size) (dD gF ((b0.block g (lt_of_some hh)).trans hh) (by decide))).trans (b0.block g (lt_of_some hh))
       have X5:=ae (show ∀p∈l4++[(r4,Value.iface tx vx)],ay b w5 p.1.body p.2 from fun p hp=>by
        rw [List.mem_append] at hp
        rcases hp with hp|hp
        ·exact ay.frame nV _ _ (aa E2 p hp)
        ·simp at hp;subst hp;exact ay.frame nV _ _ (aa V4))
       have ng:=ae (show ag w5 (w.heap.size+1) #[.int .i64 (aR s (K s (i+1))),.string (aO s (K s (i+1))),.slice sa rs.length sc] 110 from (ax.block _ uk.lt (own_ne gF uk (by decide))).trans uk);have J4:=ae (show ag w5 w.heap.size #[.int .i64 0,.string ⟨#[]⟩,.slice none 0 0] 110 from (ax.block _ uo.lt (own_ne gF uo (by decide))).trans uo);have A5:=ae (yK.grown ax (own_ne gF yK.pos.rd.blk (by decide)));have B5:=ae (But.grown ((aa B4).trans (But.of_below b0)) ax (fun k hk=>(gF.lt k hk).1));have O5:=ae aK;obtain ⟨m0,m1,m2⟩:=(aa ng).three;have zm:=(aa ng).fz;have ml:=(aa ng).lt;clear b0 uk uo yK gF nV aK ax bZ y0 y1 y2 k0 k1 k2 zy zk;go_wp2
       go_roundg fu
       case measure=>omega
       case rel=>exact ⟨rs++[r4],j4,_,(by with_reducible repeat (first|exact aa B5|refine But.alloc ?_ _|refine But.drew ?_|(refine But.setNew ?_ ?_ _;rotate_left;exact (by first|omega|(simp;omega)|simp)))),(by with_reducible repeat (first|exact aa A5|refine At.alloc ?_ _|refine At.drew ?_|(refine At.setNew ?_ ?_ _;rotate_left;exact (by first|omega|(simp;omega)|simp)))),by omega,by simp;omega,(by with_reducible repeat (first|exact aa J4|apply ag.alloc|apply ag.drew|apply ag.set|(apply ag.other;case ha=>exact (by first|omega|(simp;omega)|simp)))),(aa ng).set 2 _,⟨l4++[(r4,.iface tx vx)],by simp [aa E1],fun p hp=>ay.set (aa X5 p hp) (aa ng) (by decide) 2 _,by rw [List.length_append,List.flatMap_append];exact bn (aa O5) (aa ng) (by decide) 2 _⟩,HK⟩
    ·have h6':(rs.length==6)=true:=by
      rw [beq_iff_eq] at*;omega
     simp only [hm,h6',Bool.and_true,if_true] at mZ;have HK:=ae mZ;clear mZ h6';go_wp2_with fail;refine (ats b s j d _ _ (sg 125) _ ?_ ?_).mono ?_
     ·exact (by with_reducible repeat (first|exact aa HA|refine At.alloc ?_ _|refine At.drew ?_|(refine At.setNew ?_ ?_ _;rotate_left;exact (by first|omega|(simp;omega)|simp))))
     ·exact aG _ _ _ _ (by simp)
     rintro e w1 ⟨rfl,rfl⟩;rw [h1];go_wp2_with fail;refine (fF _ _ _ (jf s (K s j) (by unfold maxLen;omega) (aa HA).pos.le)).mono ?_;rintro e w3 ⟨rfl,hb3⟩;rw [show lI (aO s (K s j))=true from hm];clear hm;have A3:=ae ((show At (wr.alloc (.cells #[.string ⟨#[125]⟩] 9)) b s j d from (by with_reducible repeat (first|exact aa HA|refine At.alloc ?_ _|refine At.drew ?_|(refine At.setNew ?_ ?_ _;rotate_left;exact (by first|omega|(simp;omega)|simp))))).below hb3);have B3:=ae ((show But b w (wr.alloc (.cells #[.string ⟨#[125]⟩] 9)) from (by with_reducible repeat (first|exact aa HB|refine But.alloc ?_ _|refine But.drew ?_|(refine But.setNew ?_ ?_ _;rotate_left;exact (by first|omega|(simp;omega)|simp))))).trans (But.of_below hb3));have G3:=((aa HT).alloc (.cells #[.string ⟨#[125]⟩] 9)).below hb3;have R3:=((aa HR).alloc (.cells #[.string ⟨#[125]⟩] 9)).below hb3;have P3:=ae ((aa P0).frame ((bu.below (b:=b) ((Below.refl _ wr).alloc Qv (.cells #[.string ⟨#[125]⟩] 9))).trans (bu.below hb3)) (by omega));clear hb3 t0 t1 t2 x0 x1 x2 zx zt n1 n2 HA HB HR HT Bu Ap yo hlt' qc P0 hlr;have uj:=ae G3;have iq:=ae R3;obtain ⟨q0,q1,q2⟩:=G3.three;obtain ⟨x0,x1,x2⟩:=R3.three;have zx:=R3.fz;have zq:=G3.fz;have hW:=G3.lt;have hW':=R3.lt;have hlr:=(aa A3).lt;clear G3 R3;go_wp2;rw [←aa HK];refine bodyPost_ret (v:=.tuple #[.agg #[.int .i64 (aR s (K s (i+1))),.string (aO s (K s (i+1))),.slice sa rs.length sc],aJ 3]) (aH Tryz.results114 _ _ w.heap.size _ 110 _ _ rfl rfl ?hB Tryz.underlying110 rfl (by kernel_rfl)) rfl ?post
     case hB=>exact ⟨_,(by with_reducible repeat (first|exact aa iq|apply ag.alloc|apply ag.drew|apply ag.set|(apply ag.other;case ha=>exact (by first|omega|(simp;omega)|simp)))),by rfl⟩
     case post=>exact ⟨(by with_reducible repeat (first|exact aa B3|refine But.alloc ?_ _|refine But.drew ?_|(refine But.setNew ?_ ?_ _;rotate_left;exact (by first|omega|(simp;omega)|simp)))),_,d,rfl,⟨_,_,_,_,_,rfl⟩,(by with_reducible repeat (first|exact aa A3|refine At.alloc ?_ _|refine At.drew ?_|(refine At.setNew ?_ ?_ _;rotate_left;exact (by first|omega|(simp;omega)|simp))))⟩
  ·simp only [h1,if_true] at mZ;have HK:=ae mZ;have H1:=ae h1;clear mZ;go_wp2_with fail;refine (ats b s j d _ _ (sg 125) _ ?_ ?_).mono ?_
   ·exact (by with_reducible repeat (first|exact aa HA|refine At.alloc ?_ _|refine At.drew ?_|(refine At.setNew ?_ ?_ _;rotate_left;exact (by first|omega|(simp;omega)|simp))))
   ·exact aG _ _ _ _ (by simp)
   rintro e w1 ⟨rfl,rfl⟩;rw [h1];clear h1;go_wp2_with fail;have Mx:=ae (show At (wr.alloc (.cells #[.string ⟨#[125]⟩] 9)) b s j d from (by with_reducible repeat (first|exact aa HA|refine At.alloc ?_ _|refine At.drew ?_|(refine At.setNew ?_ ?_ _;rotate_left;exact (by first|omega|(simp;omega)|simp)))));have ME:=ae (show But b w (wr.alloc (.cells #[.string ⟨#[125]⟩] 9)) from (by with_reducible repeat (first|exact aa HB|refine But.alloc ?_ _|refine But.drew ?_|(refine But.setNew ?_ ?_ _;rotate_left;exact (by first|omega|(simp;omega)|simp)))));have G3:=(aa HT).alloc (.cells #[.string ⟨#[125]⟩] 9);have R3:=(aa HR).alloc (.cells #[.string ⟨#[125]⟩] 9);have P3:=ae (eY.frame (base:=w.heap.size) ⟨l,aa Bu,aa Ap,aa yo⟩ (bu.below (b:=b) ((Below.refl _ wr).alloc Qv (.cells #[.string ⟨#[125]⟩] 9))) (by omega));generalize wr.alloc (.cells #[.string ⟨#[125]⟩] 9)=W at*;clear t0 t1 t2 x0 x1 x2 zx zt n1 n2 HA HB HR HT Bu Ap yo hlt' qc;have uj:=ae G3;have iq:=ae R3;obtain ⟨q0,q1,q2⟩:=G3.three;have zq:=G3.fz;have hW:=G3.lt;have hW':=R3.lt;clear G3 R3;have hne:¬(w.heap.size+1=w.heap.size):=by omega
   go_region_held3 (fun w'=>w'.cell? ⟨w.heap.size+1,0,none⟩=some (.int .i64 (aR s (K s (i+1))))∧w'.cell? ⟨w.heap.size+1,1,none⟩=some (.string (aO s (K s (i+1))))∧w'.cell? ⟨w.heap.size+1,2,none⟩=some (.slice sa rs.length sc)) (go_keep)
    ((go_at_call 169;refine (fG b s j d (sg 125) _ (aa Hs) ?_ (aa H1) (by decide)).mono ?_;(exact (aa Mx).drew);rintro e w3 ⟨rfl,a3,b3⟩;have G4:=(aa uj).drew.but b3 (by omega);obtain ⟨k0,k1,k2⟩:=G4.three;have R4:=(aa iq).drew.but b3 (by omega);obtain ⟨m0,m1,m2⟩:=R4.three;have zk:=ag.fz R4;have nS:=ae R4;have A4:=ae a3;have P4:=ae ((aa P3).frame (bu.of_but (But.trans ((But.refl b W).drew) b3)) (by omega));have B4:=ae (But.trans (aa ME).drew b3);clear G4 R4 a3 b3))
   go_wp2;rw [←aa HK];refine bodyPost_ret (v:=.tuple #[.agg #[.int .i64 (aR s (K s (i+1))),.string (aO s (K s (i+1))),.slice sa rs.length sc],.nilIface]) (aH Tryz.results114 _ _ w.heap.size _ 110 _ _ rfl rfl ?hB Tryz.underlying110 rfl (by kernel_rfl)) rfl ?post
   case hB=>exact ⟨_,(by with_reducible repeat (first|exact aa nS|apply ag.alloc|apply ag.drew|apply ag.set|(apply ag.other;case ha=>exact (by first|omega|(simp;omega)|simp)))),by rfl⟩
   case post=>exact ⟨(by with_reducible repeat (first|exact aa B4|refine But.alloc ?_ _|refine But.drew ?_|(refine But.setNew ?_ ?_ _;rotate_left;exact (by first|omega|(simp;omega)|simp)))),_,rfl,⟨_,rfl,((aa P4).frame ((bu.set (aa nS) (by decide) (by decide) 0 _).trans ((bu.set ((aa nS).set 0 _) (by decide) (by decide) 1 _).trans (bu.set (((aa nS).set 0 _).set 1 _) (by decide) (by decide) 2 _))) (by omega)).base (by omega)⟩,(by with_reducible repeat (first|exact aa A4|refine At.alloc ?_ _|refine At.drew ?_|(refine At.setNew ?_ ?_ _;rotate_left;exact (by first|omega|(simp;omega)|simp))))⟩
