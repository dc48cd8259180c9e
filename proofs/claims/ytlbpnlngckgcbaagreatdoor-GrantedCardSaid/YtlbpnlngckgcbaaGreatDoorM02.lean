import Derived.Test.YtlbpnlngckgcbaaGreatDoorM01
import Derived.Deep.LoopGhost
set_option linter.all false
set_option maxHeartbeats 4000000
set_option maxRecDepth 100000
namespace Go.Proofs.YtlbpnlngckgcbaaGreatDoor
open Go.RowKit Go.PlainAid
def bg (g:Gr):Array Value:=#[.int .i64 g.tp,.string g.ty,.int .i64 g.reach,.int .i64 g.rp,.string g.rel]
def Bc (g:Gr):Value:=.agg (bg g)
def Mh (v:Value):Prop:=∃g,v=Bc g
theorem aU (W:World) (x:Value) (T n:Nat) (hn:n=W.heap.size):(W.alloc (.cells #[x] T)).cell? ⟨n,0,none⟩=some x:=by
 subst hn;exact (ai.new W #[x] T).cell rfl
theorem aS {P:Program} {fn:Func} {p u:Tmp} {ty:TypeId} (h:fn.results=#[.cell p ty,.tmp u]) (tmps:Array Value) (w:World) (g:Nat) (cs':Array Value) (t:TypeId) (e:Value) (d:TypeDesc)
  (hp:tmps.getD p undef=.pointer (some ⟨g,0,none⟩)) (hq:tmps.getD u undef=e) (hb:∃cs,ai w g cs t∧cs=cs')
  (hu:P.underlying ty=some d) (hd:(match d with| .struct _| .array _ _=>true|_=>false)=true) (hi:(P.info? ty).map (·.size)=some cs'.size):
  (results fn tmps).run P w=.ok (.tuple #[.agg cs',e]) w:=by
 obtain ⟨cs,hb,rfl⟩:=hb;exact CW h tmps w g cs t e d hp hq hb hu hd hi
theorem Mi (b:Nat) (s:aei) (i d:Nat) (w:World) (hs:s.size≤maxLen) (h:At w b s i d) (c j:Nat) (hr:bN (TT s) i=.error (c,j)):
  Calls Tryz.prog 277 #[.pointer (some ⟨b,0,none⟩)] w (Post b s d w (.error (c,j):dM Gr) (fun _ g v=>v=Bc g) Mh):=by
 have hlt:=h.lt;have C:=af (df b s i d _ hs ((h.alloc (.cells #[.int .i64 0,.string ⟨#[]⟩,.int .i64 0,.int .i64 0,.string ⟨#[]⟩] 207)).alloc (.cells #[.int .i64 0,.string ⟨#[]⟩,.int .i64 0,.int .i64 0,.string ⟨#[]⟩] 207)));rw [hr] at C;clear hr;go_enter Tryz.func277,Tryz.ntmps277;go_wp2_with fail;refine (ae C).mono ?_;rintro e w1 ⟨b1,v,d',rfl,rfl,a1⟩;have A1:=af a1;have B1:=af (((But.refl b w).alloc _).alloc _ |>.trans b1);have R:=((ai.new w #[.int .i64 0,.string ⟨#[]⟩,.int .i64 0,.int .i64 0,.string ⟨#[]⟩] 207).alloc _).but b1 (by omega);have G:=(ai.new (w.alloc (.cells #[.int .i64 0,.string ⟨#[]⟩,.int .i64 0,.int .i64 0,.string ⟨#[]⟩] 207)) #[.int .i64 0,.string ⟨#[]⟩,.int .i64 0,.int .i64 0,.string ⟨#[]⟩] 207).but b1 (by simp;omega);rw [show (w.alloc (.cells #[.int .i64 0,.string ⟨#[]⟩,.int .i64 0,.int .i64 0,.string ⟨#[]⟩] 207)).heap.size=w.heap.size+1 by simp] at G;have HR:=af R;have HG:=af G;obtain ⟨r0,r1,r2,r3,r4⟩:=R.five;obtain ⟨g0,g1,g2,g3,g4⟩:=G.five;have zr:=R.fz;have zg:=G.fz;have hsz:=G.lt;have hsz':w.heap.size<w1.heap.size:=by omega
 clear a1 b1 C h hs R G;unfold bn IC;go_wp2;refine bodyPost_ret (v:=.tuple #[.agg #[.int .i64 0,.string ⟨#[]⟩,.int .i64 0,.int .i64 0,.string ⟨#[]⟩],bn c]) (aS Tryz.results277 _ _ w.heap.size _ 207 _ _ rfl rfl ?hB Tryz.underlying207 rfl (by kernel_rfl)) rfl ?post
 case hB=>exact ⟨_,(by with_reducible repeat (first|exact ae HR|apply ai.alloc|apply ai.drew|apply ai.set|(apply ai.other;case ha=>exact (by first|omega|(simp;omega)|simp)))),by rfl⟩
 case post=>exact ⟨(by with_reducible repeat (first|exact ae B1|refine But.alloc ?_ _|refine But.drew ?_|(refine But.setNew ?_ ?_ _;rotate_left;exact (by first|omega|(simp;omega)|simp)))),_,d',rfl,⟨⟨⟨#[]⟩,0,0,⟨#[]⟩,0⟩,rfl⟩,(by with_reducible repeat (first|exact ae A1|refine At.alloc ?_ _|refine At.drew ?_|(refine At.setNew ?_ ?_ _;rotate_left;exact (by first|omega|(simp;omega)|simp))))⟩
theorem EN (b:Nat) (s:aei) (i d:Nat) (w:World) (hs:s.size≤maxLen) (h:At w b s i d) (j:Nat) (hr:bN (TT s) i=.ok ((),j)) (h1:eqs (TT s j) (sg 42)=false) (h2:eqs (TT s j) (sg 35)=false):
  Calls Tryz.prog 277 #[.pointer (some ⟨b,0,none⟩)] w (Post b s d w (.ok (⟨TT s i,PP s i,0,em,0⟩,j):dM Gr) (fun _ g v=>v=Bc g) Mh):=by
 have hlt:=h.lt;have Hs:=af hs;have C:=af (df b s i d _ hs ((h.alloc (.cells #[.int .i64 0,.string ⟨#[]⟩,.int .i64 0,.int .i64 0,.string ⟨#[]⟩] 207)).alloc (.cells #[.int .i64 0,.string ⟨#[]⟩,.int .i64 0,.int .i64 0,.string ⟨#[]⟩] 207)));rw [hr] at C;clear hr;go_enter Tryz.func277,Tryz.ntmps277;go_wp2_with fail;refine (ae C).mono ?_;rintro e w1 ⟨b1,v,rfl,rfl,a1⟩;have A1:=af a1;have B1:=af (((But.refl b w).alloc _).alloc _ |>.trans b1);have R:=((ai.new w #[.int .i64 0,.string ⟨#[]⟩,.int .i64 0,.int .i64 0,.string ⟨#[]⟩] 207).alloc _).but b1 (by omega);have G:=(ai.new (w.alloc (.cells #[.int .i64 0,.string ⟨#[]⟩,.int .i64 0,.int .i64 0,.string ⟨#[]⟩] 207)) #[.int .i64 0,.string ⟨#[]⟩,.int .i64 0,.int .i64 0,.string ⟨#[]⟩] 207).but b1 (by simp;omega);rw [show (w.alloc (.cells #[.int .i64 0,.string ⟨#[]⟩,.int .i64 0,.int .i64 0,.string ⟨#[]⟩] 207)).heap.size=w.heap.size+1 by simp] at G;have HR:=af R;have HG:=af G;obtain ⟨r0,r1,r2,r3,r4⟩:=R.five;obtain ⟨g0,g1,g2,g3,g4⟩:=G.five;have zr:=R.fz;have zg:=G.fz;have hsz:=G.lt;have hsz':w.heap.size<w1.heap.size:=by omega
 have hne:¬(w1.heap.size=w.heap.size):=by omega
 have fT:¬(w1.heap.size=w.heap.size+1):=by omega
 clear a1 b1 C h hs R G;unfold wX;go_wp2_with fail;refine (ats b s j d _ _ (sg 42) _ ?_ ?_).mono ?_
 ·exact (by with_reducible repeat (first|exact ae A1|refine At.alloc ?_ _|refine At.drew ?_|(refine At.setNew ?_ ?_ _;rotate_left;exact (by first|omega|(simp;omega)|simp))))
 ·exact aU _ _ _ _ (by simp)
 rintro e w2 ⟨rfl,rfl⟩;rw [h1];go_wp2_with fail;refine (ats b s j d _ _ (sg 35) _ ?_ ?_).mono ?_
 ·exact (by with_reducible repeat (first|exact ae A1|refine At.alloc ?_ _|refine At.drew ?_|(refine At.setNew ?_ ?_ _;rotate_left;exact (by first|omega|(simp;omega)|simp))))
 ·exact aU _ _ _ _ (by simp)
 rintro e w2 ⟨rfl,rfl⟩;rw [h2];go_wp2;refine bodyPost_ret (v:=.tuple #[Bc ⟨TT s i,PP s i,0,em,0⟩,.nilIface]) (aS Tryz.results277 _ _ w.heap.size _ 207 _ _ rfl rfl ?hB Tryz.underlying207 rfl (by kernel_rfl)) rfl ?post
 case hB=>exact ⟨_,(by with_reducible repeat (first|exact ae HR|apply ai.alloc|apply ai.drew|apply ai.set|(apply ai.other;case ha=>exact (by first|omega|(simp;omega)|simp)))),by rfl⟩
 case post=>exact ⟨(by with_reducible repeat (first|exact ae B1|refine But.alloc ?_ _|refine But.drew ?_|(refine But.setNew ?_ ?_ _;rotate_left;exact (by first|omega|(simp;omega)|simp)))),_,rfl,rfl,(by with_reducible repeat (first|exact ae A1|refine At.alloc ?_ _|refine At.drew ?_|(refine At.setNew ?_ ?_ _;rotate_left;exact (by first|omega|(simp;omega)|simp))))⟩
theorem Mj (b:Nat) (s:aei) (i d:Nat) (w:World) (hs:s.size≤maxLen) (h:At w b s i d) (j:Nat) (hr:bN (TT s) i=.ok ((),j)) (h1:eqs (TT s j) (sg 42)=true):
  Calls Tryz.prog 277 #[.pointer (some ⟨b,0,none⟩)] w (Post b s d w (.ok (⟨TT s i,PP s i,1,em,0⟩,j+1):dM Gr) (fun _ g v=>v=Bc g) Mh):=by
 have hlt:=h.lt;have Hs:=af hs;have C:=af (df b s i d _ hs ((h.alloc (.cells #[.int .i64 0,.string ⟨#[]⟩,.int .i64 0,.int .i64 0,.string ⟨#[]⟩] 207)).alloc (.cells #[.int .i64 0,.string ⟨#[]⟩,.int .i64 0,.int .i64 0,.string ⟨#[]⟩] 207)));rw [hr] at C;clear hr;go_enter Tryz.func277,Tryz.ntmps277;go_wp2_with fail;refine (ae C).mono ?_;rintro e w1 ⟨b1,v,rfl,rfl,a1⟩;have A1:=af a1;have B1:=af (((But.refl b w).alloc _).alloc _ |>.trans b1);have R:=((ai.new w #[.int .i64 0,.string ⟨#[]⟩,.int .i64 0,.int .i64 0,.string ⟨#[]⟩] 207).alloc _).but b1 (by omega);have G:=(ai.new (w.alloc (.cells #[.int .i64 0,.string ⟨#[]⟩,.int .i64 0,.int .i64 0,.string ⟨#[]⟩] 207)) #[.int .i64 0,.string ⟨#[]⟩,.int .i64 0,.int .i64 0,.string ⟨#[]⟩] 207).but b1 (by simp;omega);rw [show (w.alloc (.cells #[.int .i64 0,.string ⟨#[]⟩,.int .i64 0,.int .i64 0,.string ⟨#[]⟩] 207)).heap.size=w.heap.size+1 by simp] at G;have HR:=af R;have HG:=af G;obtain ⟨r0,r1,r2,r3,r4⟩:=R.five;obtain ⟨g0,g1,g2,g3,g4⟩:=G.five;have zr:=R.fz;have zg:=G.fz;have hsz:=G.lt;have hsz':w.heap.size<w1.heap.size:=by omega
 have hne:¬(w1.heap.size=w.heap.size):=by omega
 have fT:¬(w1.heap.size=w.heap.size+1):=by omega
 clear a1 b1 C h hs R G;unfold wX;have H1:=af h1;go_wp2_with fail;refine (ats b s j d _ _ (sg 42) _ ?_ ?_).mono ?_
 ·exact (by with_reducible repeat (first|exact ae A1|refine At.alloc ?_ _|refine At.drew ?_|(refine At.setNew ?_ ?_ _;rotate_left;exact (by first|omega|(simp;omega)|simp))))
 ·exact aU _ _ _ _ (by simp)
 rintro e w2 ⟨rfl,rfl⟩;rw [h1];go_wp2_with fail;refine (steps b s j d _ (ae Hs) ?_ ?_).mono ?_
 ·exact (by with_reducible repeat (first|exact ae A1|refine At.alloc ?_ _|refine At.drew ?_|(refine At.setNew ?_ ?_ _;rotate_left;exact (by first|omega|(simp;omega)|simp))))
 ·exact bZ (ae H1) (by decide)
 rintro e w2 ⟨rfl,a2,b2⟩;have dS:=af (ai.but (g:=w.heap.size) (T:=207) (by with_reducible repeat (first|exact ae HR|apply ai.alloc|apply ai.drew|apply ai.set|(apply ai.other;case ha=>exact (by first|omega|(simp;omega)|simp)))) b2 (by omega));have EO:=ai.but (g:=w.heap.size+1) (T:=207) (by with_reducible repeat (first|exact ae HG|apply ai.alloc|apply ai.drew|apply ai.set|(apply ai.other;case ha=>exact (by first|omega|(simp;omega)|simp)))) b2 (by omega);have G2:ai w2 (w.heap.size+1) #[.int .i64 (bY s (K s i)),.string (bf s (K s i)),.int .i64 1,.int .i64 0,.string ⟨#[]⟩] 207:=EO;have R2:ai w2 w.heap.size #[.int .i64 0,.string ⟨#[]⟩,.int .i64 0,.int .i64 0,.string ⟨#[]⟩] 207:=ae dS;obtain ⟨p0,p1,p2,p3,p4⟩:=R2.five;obtain ⟨q0,q1,q2,q3,q4⟩:=G2.five;have zp:=R2.fz;have zq:=G2.fz;have tz:=G2.lt;have Ww:w.heap.size<w2.heap.size:=by omega
 have HG2:=af G2;have A2:=af a2;have B2:=af (But.trans (x:=w) (by with_reducible repeat (first|exact ae B1|refine But.alloc ?_ _|refine But.drew ?_|(refine But.setNew ?_ ?_ _;rotate_left;exact (by first|omega|(simp;omega)|simp)))) b2);clear a2 b2 R2 G2 EO r0 r1 r2 r3 r4 g0 g1 g2 g3 g4 zr zg hsz hsz' hne fT;go_wp2;refine bodyPost_ret (v:=.tuple #[Bc ⟨TT s i,PP s i,1,em,0⟩,.nilIface]) (aS Tryz.results277 _ _ w.heap.size _ 207 _ _ rfl rfl ?hB Tryz.underlying207 rfl (by kernel_rfl)) rfl ?post
 case hB=>exact ⟨_,(by with_reducible repeat (first|exact ae dS|apply ai.alloc|apply ai.drew|apply ai.set|(apply ai.other;case ha=>exact (by first|omega|(simp;omega)|simp)))),by rfl⟩
 case post=>exact ⟨(by with_reducible repeat (first|exact ae B2|refine But.alloc ?_ _|refine But.drew ?_|(refine But.setNew ?_ ?_ _;rotate_left;exact (by first|omega|(simp;omega)|simp)))),_,rfl,rfl,(by with_reducible repeat (first|exact ae A2|refine At.alloc ?_ _|refine At.drew ?_|(refine At.setNew ?_ ?_ _;rotate_left;exact (by first|omega|(simp;omega)|simp))))⟩
theorem Mk (b:Nat) (s:aei) (i d:Nat) (w:World) (hs:s.size≤maxLen) (h:At w b s i d) (j m:Nat) (hr:bN (TT s) i=.ok ((),j)) (h1:eqs (TT s j) (sg 42)=false) (h2:eqs (TT s j) (sg 35)=true) (Hm:Hid (bN (TT s) (j+1)=.ok ((),m))):
  Calls Tryz.prog 277 #[.pointer (some ⟨b,0,none⟩)] w (Post b s d w (.ok (⟨TT s i,PP s i,2,TT s (j+1),PP s (j+1)⟩,m):dM Gr) (fun _ g v=>v=Bc g) Mh):=by
 have hlt:=h.lt;have Hs:=af hs;have C:=af (df b s i d _ hs ((h.alloc (.cells #[.int .i64 0,.string ⟨#[]⟩,.int .i64 0,.int .i64 0,.string ⟨#[]⟩] 207)).alloc (.cells #[.int .i64 0,.string ⟨#[]⟩,.int .i64 0,.int .i64 0,.string ⟨#[]⟩] 207)));rw [hr] at C;clear hr;go_enter Tryz.func277,Tryz.ntmps277;go_wp2_with fail;refine (ae C).mono ?_;rintro e w1 ⟨b1,v,rfl,rfl,a1⟩;have A1:=af a1;have B1:=af (((But.refl b w).alloc _).alloc _ |>.trans b1);have R:=((ai.new w #[.int .i64 0,.string ⟨#[]⟩,.int .i64 0,.int .i64 0,.string ⟨#[]⟩] 207).alloc _).but b1 (by omega);have G:=(ai.new (w.alloc (.cells #[.int .i64 0,.string ⟨#[]⟩,.int .i64 0,.int .i64 0,.string ⟨#[]⟩] 207)) #[.int .i64 0,.string ⟨#[]⟩,.int .i64 0,.int .i64 0,.string ⟨#[]⟩] 207).but b1 (by simp;omega);rw [show (w.alloc (.cells #[.int .i64 0,.string ⟨#[]⟩,.int .i64 0,.int .i64 0,.string ⟨#[]⟩] 207)).heap.size=w.heap.size+1 by simp] at G;have HR:=af R;have HG:=af G;obtain ⟨r0,r1,r2,r3,r4⟩:=R.five;obtain ⟨g0,g1,g2,g3,g4⟩:=G.five;have zr:=R.fz;have zg:=G.fz;have hsz:=G.lt;have hsz':w.heap.size<w1.heap.size:=by omega
 have hne:¬(w1.heap.size=w.heap.size):=by omega
 have fT:¬(w1.heap.size=w.heap.size+1):=by omega
 clear a1 b1 C h hs R G;unfold wX;have H2:=af h2;go_wp2_with fail;refine (ats b s j d _ _ (sg 42) _ ?_ ?_).mono ?_
 ·exact (by with_reducible repeat (first|exact ae A1|refine At.alloc ?_ _|refine At.drew ?_|(refine At.setNew ?_ ?_ _;rotate_left;exact (by first|omega|(simp;omega)|simp))))
 ·exact aU _ _ _ _ (by simp)
 rintro e w2 ⟨rfl,rfl⟩;rw [h1];go_wp2_with fail;refine (ats b s j d _ _ (sg 35) _ ?_ ?_).mono ?_
 ·exact (by with_reducible repeat (first|exact ae A1|refine At.alloc ?_ _|refine At.drew ?_|(refine At.setNew ?_ ?_ _;rotate_left;exact (by first|omega|(simp;omega)|simp))))
 ·exact aU _ _ _ _ (by simp)
 rintro e w2 ⟨rfl,rfl⟩;rw [h2];clear h1 h2;go_wp2_with fail;refine (steps b s j d _ (ae Hs) ?_ ?_).mono ?_
 ·exact (by with_reducible repeat (first|exact ae A1|refine At.alloc ?_ _|refine At.drew ?_|(refine At.setNew ?_ ?_ _;rotate_left;exact (by first|omega|(simp;omega)|simp))))
 ·exact bZ (ae H2) (by decide)
 rintro e w2 ⟨rfl,a2,b2⟩;have dS:=af (ai.but (g:=w.heap.size) (T:=207) (by with_reducible repeat (first|exact ae HR|apply ai.alloc|apply ai.drew|apply ai.set|(apply ai.other;case ha=>exact (by first|omega|(simp;omega)|simp)))) b2 (by omega));have EO:=ai.but (g:=w.heap.size+1) (T:=207) (by with_reducible repeat (first|exact ae HG|apply ai.alloc|apply ai.drew|apply ai.set|(apply ai.other;case ha=>exact (by first|omega|(simp;omega)|simp)))) b2 (by omega);have G2:ai w2 (w.heap.size+1) #[.int .i64 (bY s (K s i)),.string (bf s (K s i)),.int .i64 2,.int .i64 0,.string ⟨#[]⟩] 207:=EO;have R2:ai w2 w.heap.size #[.int .i64 0,.string ⟨#[]⟩,.int .i64 0,.int .i64 0,.string ⟨#[]⟩] 207:=ae dS;obtain ⟨p0,p1,p2,p3,p4⟩:=R2.five;obtain ⟨q0,q1,q2,q3,q4⟩:=G2.five;have zp:=R2.fz;have zq:=G2.fz;have tz:=G2.lt;have Ww:w.heap.size<w2.heap.size:=by omega
 have HG2:=af G2;have A2:=af a2;have B2:=af (But.trans (x:=w) (by with_reducible repeat (first|exact ae B1|refine But.alloc ?_ _|refine But.drew ?_|(refine But.setNew ?_ ?_ _;rotate_left;exact (by first|omega|(simp;omega)|simp)))) b2);clear a2 b2 R2 G2 EO r0 r1 r2 r3 r4 g0 g1 g2 g3 g4 zr zg hsz hsz' hne fT;go_wp2_with fail;have C:=af (df b s (j+1) d w2 (ae Hs) (ae A2));rw [ae Hm] at C;refine (ae C).mono ?_;rintro e w3 ⟨b3,v,rfl,rfl,a3⟩;have oZ:=af (ai.but (ae dS) b3 (by omega));have G3:=ai.but (ae HG2) b3 (by omega);have R3:ai w3 w.heap.size #[.int .i64 0,.string ⟨#[]⟩,.int .i64 0,.int .i64 0,.string ⟨#[]⟩] 207:=ae oZ;obtain ⟨p0,p1,p2,p3,p4⟩:=R3.five;obtain ⟨q0,q1,q2,q3,q4⟩:=G3.five;have zp:=R3.fz;have zq:=G3.fz;have tz:=G3.lt;have Ww:w.heap.size<w3.heap.size:=by omega
 have A3:=af a3;have B3:=af (But.trans (ae B2) b3);clear a3 b3 R3 G3;unfold wX;go_wp2;refine bodyPost_ret (v:=.tuple #[Bc ⟨TT s i,PP s i,2,TT s (j+1),PP s (j+1)⟩,.nilIface]) (aS Tryz.results277 _ _ w.heap.size _ 207 _ _ rfl rfl ?hB Tryz.underlying207 rfl (by kernel_rfl)) rfl ?post
 case hB=>exact ⟨_,(by with_reducible repeat (first|exact ae oZ|apply ai.alloc|apply ai.drew|apply ai.set|(apply ai.other;case ha=>exact (by first|omega|(simp;omega)|simp)))),by rfl⟩
 case post=>exact ⟨(by with_reducible repeat (first|exact ae B3|refine But.alloc ?_ _|refine But.drew ?_|(refine But.setNew ?_ ?_ _;rotate_left;exact (by first|omega|(simp;omega)|simp)))),_,rfl,rfl,(by with_reducible repeat (first|exact ae A3|refine At.alloc ?_ _|refine At.drew ?_|(refine At.setNew ?_ ?_ _;rotate_left;exact (by first|omega|(simp;omega)|simp))))⟩
theorem IY (b:Nat) (s:aei) (i d:Nat) (w:World) (hs:s.size≤maxLen) (h:At w b s i d) (j c m:Nat) (hr:bN (TT s) i=.ok ((),j)) (h1:eqs (TT s j) (sg 42)=false) (h2:eqs (TT s j) (sg 35)=true) (Hm:Hid (bN (TT s) (j+1)=.error (c,m))):
  Calls Tryz.prog 277 #[.pointer (some ⟨b,0,none⟩)] w (Post b s d w (.error (c,m):dM Gr) (fun _ g v=>v=Bc g) Mh):=by
 have hlt:=h.lt;have Hs:=af hs;have C:=af (df b s i d _ hs ((h.alloc (.cells #[.int .i64 0,.string ⟨#[]⟩,.int .i64 0,.int .i64 0,.string ⟨#[]⟩] 207)).alloc (.cells #[.int .i64 0,.string ⟨#[]⟩,.int .i64 0,.int .i64 0,.string ⟨#[]⟩] 207)));rw [hr] at C;clear hr;go_enter Tryz.func277,Tryz.ntmps277;go_wp2_with fail;refine (ae C).mono ?_;rintro e w1 ⟨b1,v,rfl,rfl,a1⟩;have A1:=af a1;have B1:=af (((But.refl b w).alloc _).alloc _ |>.trans b1);have R:=((ai.new w #[.int .i64 0,.string ⟨#[]⟩,.int .i64 0,.int .i64 0,.string ⟨#[]⟩] 207).alloc _).but b1 (by omega);have G:=(ai.new (w.alloc (.cells #[.int .i64 0,.string ⟨#[]⟩,.int .i64 0,.int .i64 0,.string ⟨#[]⟩] 207)) #[.int .i64 0,.string ⟨#[]⟩,.int .i64 0,.int .i64 0,.string ⟨#[]⟩] 207).but b1 (by simp;omega);rw [show (w.alloc (.cells #[.int .i64 0,.string ⟨#[]⟩,.int .i64 0,.int .i64 0,.string ⟨#[]⟩] 207)).heap.size=w.heap.size+1 by simp] at G;have HR:=af R;have HG:=af G;obtain ⟨r0,r1,r2,r3,r4⟩:=R.five;obtain ⟨g0,g1,g2,g3,g4⟩:=G.five;have zr:=R.fz;have zg:=G.fz;have hsz:=G.lt;have hsz':w.heap.size<w1.heap.size:=by omega
 have hne:¬(w1.heap.size=w.heap.size):=by omega
 have fT:¬(w1.heap.size=w.heap.size+1):=by omega
 clear a1 b1 C h hs R G;unfold wX;have H2:=af h2;go_wp2_with fail;refine (ats b s j d _ _ (sg 42) _ ?_ ?_).mono ?_
 ·exact (by with_reducible repeat (first|exact ae A1|refine At.alloc ?_ _|refine At.drew ?_|(refine At.setNew ?_ ?_ _;rotate_left;exact (by first|omega|(simp;omega)|simp))))
 ·exact aU _ _ _ _ (by simp)
 rintro e w2 ⟨rfl,rfl⟩;rw [h1];go_wp2_with fail;refine (ats b s j d _ _ (sg 35) _ ?_ ?_).mono ?_
 ·exact (by with_reducible repeat (first|exact ae A1|refine At.alloc ?_ _|refine At.drew ?_|(refine At.setNew ?_ ?_ _;rotate_left;exact (by first|omega|(simp;omega)|simp))))
 ·exact aU _ _ _ _ (by simp)
 rintro e w2 ⟨rfl,rfl⟩;rw [h2];clear h1 h2;go_wp2_with fail;refine (steps b s j d _ (ae Hs) ?_ ?_).mono ?_
 ·exact (by with_reducible repeat (first|exact ae A1|refine At.alloc ?_ _|refine At.drew ?_|(refine At.setNew ?_ ?_ _;rotate_left;exact (by first|omega|(simp;omega)|simp))))
 ·exact bZ (ae H2) (by decide)
 rintro e w2 ⟨rfl,a2,b2⟩;have dS:=af (ai.but (g:=w.heap.size) (T:=207) (by with_reducible repeat (first|exact ae HR|apply ai.alloc|apply ai.drew|apply ai.set|(apply ai.other;case ha=>exact (by first|omega|(simp;omega)|simp)))) b2 (by omega));have EO:=ai.but (g:=w.heap.size+1) (T:=207) (by with_reducible repeat (first|exact ae HG|apply ai.alloc|apply ai.drew|apply ai.set|(apply ai.other;case ha=>exact (by first|omega|(simp;omega)|simp)))) b2 (by omega);have G2:ai w2 (w.heap.size+1) #[.int .i64 (bY s (K s i)),.string (bf s (K s i)),.int .i64 2,.int .i64 0,.string ⟨#[]⟩] 207:=EO;have R2:ai w2 w.heap.size #[.int .i64 0,.string ⟨#[]⟩,.int .i64 0,.int .i64 0,.string ⟨#[]⟩] 207:=ae dS;obtain ⟨p0,p1,p2,p3,p4⟩:=R2.five;obtain ⟨q0,q1,q2,q3,q4⟩:=G2.five;have zp:=R2.fz;have zq:=G2.fz;have tz:=G2.lt;have Ww:w.heap.size<w2.heap.size:=by omega
 have HG2:=af G2;have A2:=af a2;have B2:=af (But.trans (x:=w) (by with_reducible repeat (first|exact ae B1|refine But.alloc ?_ _|refine But.drew ?_|(refine But.setNew ?_ ?_ _;rotate_left;exact (by first|omega|(simp;omega)|simp)))) b2);clear a2 b2 R2 G2 EO r0 r1 r2 r3 r4 g0 g1 g2 g3 g4 zr zg hsz hsz' hne fT;go_wp2_with fail;have C:=af (df b s (j+1) d w2 (ae Hs) (ae A2));rw [ae Hm] at C;refine (ae C).mono ?_;rintro e w3 ⟨b3,v,d',rfl,rfl,a3⟩;have oZ:=af (ai.but (ae dS) b3 (by omega));have G3:=ai.but (ae HG2) b3 (by omega);have R3:ai w3 w.heap.size #[.int .i64 0,.string ⟨#[]⟩,.int .i64 0,.int .i64 0,.string ⟨#[]⟩] 207:=ae oZ;obtain ⟨p0,p1,p2,p3,p4⟩:=R3.five;obtain ⟨q0,q1,q2,q3,q4⟩:=G3.five;have zp:=R3.fz;have zq:=G3.fz;have tz:=G3.lt;have Ww:w.heap.size<w3.heap.size:=by omega
 have A3:=af a3;have B3:=af (But.trans (ae B2) b3);clear a3 b3 R3 G3;unfold IC bn;go_wp2;refine bodyPost_ret (v:=.tuple #[Bc ⟨TT s i,PP s i,2,em,0⟩,bn c]) (aS Tryz.results277 _ _ w.heap.size _ 207 _ _ rfl rfl ?hB Tryz.underlying207 rfl (by kernel_rfl)) rfl ?post
 case hB=>exact ⟨_,(by with_reducible repeat (first|exact ae oZ|apply ai.alloc|apply ai.drew|apply ai.set|(apply ai.other;case ha=>exact (by first|omega|(simp;omega)|simp)))),by rfl⟩
 case post=>exact ⟨(by with_reducible repeat (first|exact ae B3|refine But.alloc ?_ _|refine But.drew ?_|(refine But.setNew ?_ ?_ _;rotate_left;exact (by first|omega|(simp;omega)|simp)))),_,d',rfl,⟨_,rfl⟩,(by with_reducible repeat (first|exact ae A3|refine At.alloc ?_ _|refine At.drew ?_|(refine At.setNew ?_ ?_ _;rotate_left;exact (by first|omega|(simp;omega)|simp))))⟩
theorem ow (b:Nat) (s:aei) (i d:Nat) (w:World) (hs:s.size≤maxLen) (h:At w b s i d):
  Calls Tryz.prog 277 #[.pointer (some ⟨b,0,none⟩)] w (Post b s d w (bD (TT s) (PP s) i) (fun _ g v=>v=Bc g) Mh):=by
 unfold bD
 cases hr:bN (TT s) i with
 |error e=>exact Mi b s i d w hs h e.1 e.2 hr
 |ok y=>
  obtain ⟨⟨⟩,j⟩:=y
  cases h1:eqs (TT s j) (sg 42)
  ·cases h2:eqs (TT s j) (sg 35)
   ·simp only [h1,h2];exact EN b s i d w hs h j hr h1 h2
   ·cases hm:bN (TT s) (j+1) with
    |error e=>simp only [h1,h2,hm];exact IY b s i d w hs h j e.1 e.2 hr h1 h2 (af hm)
    |ok y=>
     obtain ⟨⟨⟩,m⟩:=y;simp only [h1,h2,hm];exact Mk b s i d w hs h j m hr h1 h2 (af hm)
  ·simp only [h1];exact Mj b s i d w hs h j hr h1
theorem Ex.ind (Q:Ex→Prop) (h0:∀n r,Q ⟨n,none,r⟩) (h1:∀n a,Q ⟨n,some a,none⟩) (h2:∀n a b,Q a→Q b→Q ⟨n,some a,some b⟩):∀e,Q e
 |⟨n,none,r⟩=>h0 n r
 |⟨n,some a,none⟩=>h1 n a
 |⟨n,some a,some b⟩=>h2 n a b (Ex.ind Q h0 h1 h2 a) (Ex.ind Q h0 h1 h2 b)
def jl (k:Nat):TypeId:=if k=3 then 244 else if k=4 then 245 else 246
def bG (l:List Gr):List Value:=l.flatMap fun g=>(bg g).toList
def Sy (b:Nat) (w:World) (n:Nd) (v:Value):Prop:=
 (n.kind=0∧∃sv,v=.iface 236 (.agg #[.int .i64 n.place,sv])∧w.ownsRow (b+1) 207 5 sv n.gs.length (bG n.gs))∨
 (n.kind=1∧v=.iface 238 (.agg #[.int .i64 n.place,.string n.n1]))∨
 (n.kind=2∧v=.iface 240 (.agg #[.int .i64 n.place,.int .i64 n.p1,.string n.n1,.int .i64 n.p2,.string n.n2]))
def aH (b:Nat) (w:World):Ex→Value→Prop
 |⟨n,some x,some y⟩,v=>∃vx vy,v=.iface (jl n.kind) (.agg #[.int .i64 n.place,vx,vy])∧aH b w x vx∧aH b w y vy
 |⟨n,none,_⟩,v=>Sy b w n v
 |⟨_,some _,none⟩,_=>False
theorem ak {w w':World} {base:Nat} {e:TypeId} {size:Nat} {v:Value} {n:Nat} {xs:List Value} (h:w.ownsRow base e size v n xs)
  (k:∀g cs f,base≤g→w.heap[g]? =some (.cells cs e f)→w'.heap[g]? =w.heap[g]?):w'.ownsRow base e size v n xs:=by
 obtain ⟨h1,h2⟩:=h;refine ⟨h1,?_⟩
 rcases h2 with h2|⟨g,cap,cur,hv,hg,hh,r⟩
 ·exact Or.inl h2
 ·exact Or.inr ⟨g,cap,cur,hv,hg,(k g cur (0,0) hg hh).trans hh,r⟩
def lX (b:Nat) (w w':World):Prop:=∀g cs f,b+1≤g→w.heap[g]? =some (.cells cs 207 f)→w'.heap[g]? =w.heap[g]?
theorem lt_of_some {w:World} {g:Nat} {o:Obj} (h:w.heap[g]? =some o):g<w.heap.size:=by
 rcases Nat.lt_or_ge g w.heap.size with k|k
 ·exact k
 ·rw [Array.getElem?_eq_none k] at h;cases h
theorem lX.of_but {b:Nat} {w w':World} (h:But b w w'):lX b w w':=fun g cs f hg hh=>h.block g (lt_of_some hh) (by omega)
theorem aH.frame {b:Nat} {w w':World} (k:lX b w w'):∀e v,aH b w e v→aH b w' e v:=by
 intro e
 induction e using Ex.ind with
 |h0 n r=>
  intro v h
  rcases h with ⟨h1,sv,h2,h3⟩|h|h
  ·exact Or.inl ⟨h1,sv,h2,ak h3 k⟩
  ·exact Or.inr (Or.inl h)
  ·exact Or.inr (Or.inr h)
 |h1 n a=>intro v h;exact h
 |h2 n a c iha Vy=>
  rintro v ⟨vx,vy,h1,h2,h3⟩;exact ⟨vx,vy,h1,iha _ h2,Vy _ h3⟩
theorem aH.but {b:Nat} {w w':World} {e:Ex} {v:Value} (h:aH b w e v) (k:But b w w'):aH b w' e v:=aH.frame (lX.of_but k) e v h
theorem aH.isI {b:Nat} {w:World} {e:Ex} {v:Value} (h:aH b w e v):∃t x,v=.iface t x:=by
 match e,h with
 |⟨n,some x,some y⟩,⟨vx,vy,h1,_⟩=>exact ⟨_,_,h1⟩
 |⟨n,none,_⟩,h=>
  rcases h with ⟨h1,sv,h2,h3⟩|⟨_,h⟩|⟨_,h⟩
  ·exact ⟨_,_,h2⟩
  ·exact ⟨_,_,h⟩
  ·exact ⟨_,_,h⟩
abbrev eZ (b:Nat) (s:aei) (d:Nat) (w:World) (r:dM Ex):Ending→World→Prop:=Post b s d w r (aH b) Vx
theorem Sz (b:Nat) (s:aei) (i d:Nat) (w:World) (hs:s.size≤maxLen) (h:At w b s i d) (c j:Nat) (hr:bN (TT s) i=.error (c,j)):
  Calls Tryz.prog 273 #[.pointer (some ⟨b,0,none⟩)] w (eZ b s d w (.error (c,j))):=by
 have hlt:=h.lt;have Hs:=af hs;have C:=af (df b s i d w hs h);rw [hr] at C;clear hr;go_enter Tryz.func273,Tryz.ntmps273;go_wp2_with fail;refine (ae C).mono ?_;rintro e w1 ⟨b1,v,d',rfl,rfl,a1⟩;have A1:=af a1;have B1:=af b1;clear a1 b1 C h hs;unfold IC bn;go_wp2;go_ret2;exact ⟨(by with_reducible repeat (first|exact ae B1|refine But.alloc ?_ _|refine But.drew ?_|(refine But.setNew ?_ ?_ _;rotate_left;exact (by first|omega|(simp;omega)|simp)))),_,d',rfl,.inl rfl,(by with_reducible repeat (first|exact ae A1|refine At.alloc ?_ _|refine At.drew ?_|(refine At.setNew ?_ ?_ _;rotate_left;exact (by first|omega|(simp;omega)|simp))))⟩
theorem SC (b:Nat) (s:aei) (i d:Nat) (w:World) (hs:s.size≤maxLen) (h:At w b s i d) (j:Nat) (hr:bN (TT s) i=.ok ((),j)) (h1:eqs (TT s j) (sg 46)=false):
  Calls Tryz.prog 273 #[.pointer (some ⟨b,0,none⟩)] w (eZ b s d w (.ok (⟨⟨1,PP s i,TT s i,PP s i,em,0,[]⟩,none,none⟩,j))):=by
 have hlt:=h.lt;have Hs:=af hs;have C:=af (df b s i d w hs h);rw [hr] at C;clear hr;go_enter Tryz.func273,Tryz.ntmps273;go_wp2_with fail;refine (ae C).mono ?_;rintro e w1 ⟨b1,v,rfl,rfl,a1⟩;have A1:=af a1;have B1:=af b1;have hsz:b<w1.heap.size:=Nat.lt_of_lt_of_le hlt b1.size;clear a1 b1 C h hs;unfold wX;go_wp2_with fail;refine (ats b s j d _ _ (sg 46) _ ?_ ?_).mono ?_
 ·exact (by with_reducible repeat (first|exact ae A1|refine At.alloc ?_ _|refine At.drew ?_|(refine At.setNew ?_ ?_ _;rotate_left;exact (by first|omega|(simp;omega)|simp))))
 ·exact aU _ _ _ _ (by simp)
 rintro e w2 ⟨rfl,rfl⟩;rw [h1];go_wp2;go_ret2;exact ⟨(by with_reducible repeat (first|exact ae B1|refine But.alloc ?_ _|refine But.drew ?_|(refine But.setNew ?_ ?_ _;rotate_left;exact (by first|omega|(simp;omega)|simp)))),_,rfl,.inr (.inl ⟨rfl,rfl⟩),(by with_reducible repeat (first|exact ae A1|refine At.alloc ?_ _|refine At.drew ?_|(refine At.setNew ?_ ?_ _;rotate_left;exact (by first|omega|(simp;omega)|simp))))⟩
theorem SE (b:Nat) (s:aei) (i d:Nat) (w:World) (hs:s.size≤maxLen) (h:At w b s i d) (j m:Nat) (hr:bN (TT s) i=.ok ((),j)) (h1:eqs (TT s j) (sg 46)=true) (Hm:Hid (bN (TT s) (j+1)=.ok ((),m))):
  Calls Tryz.prog 273 #[.pointer (some ⟨b,0,none⟩)] w (eZ b s d w (.ok (⟨⟨2,PP s i,TT s i,PP s i,TT s (j+1),PP s (j+1),[]⟩,none,none⟩,m))):=by
 have hlt:=h.lt;have Hs:=af hs;have C:=af (df b s i d w hs h);rw [hr] at C;clear hr;go_enter Tryz.func273,Tryz.ntmps273;go_wp2_with fail;refine (ae C).mono ?_;have H1:=af h1;rintro e w1 ⟨b1,v,rfl,rfl,a1⟩;have A1:=af a1;have B1:=af b1;have hsz:b<w1.heap.size:=Nat.lt_of_lt_of_le hlt b1.size;clear a1 b1 C h hs;unfold wX;go_wp2_with fail;refine (ats b s j d _ _ (sg 46) _ ?_ ?_).mono ?_
 ·exact (by with_reducible repeat (first|exact ae A1|refine At.alloc ?_ _|refine At.drew ?_|(refine At.setNew ?_ ?_ _;rotate_left;exact (by first|omega|(simp;omega)|simp))))
 ·exact aU _ _ _ _ (by simp)
 rintro e w2 ⟨rfl,rfl⟩;rw [h1];clear h1;go_wp2_with fail;refine (steps b s j d _ (ae Hs) ?_ ?_).mono ?_
 ·exact (by with_reducible repeat (first|exact ae A1|refine At.alloc ?_ _|refine At.drew ?_|(refine At.setNew ?_ ?_ _;rotate_left;exact (by first|omega|(simp;omega)|simp))))
 ·exact bZ (ae H1) (by decide)
 rintro e w2 ⟨rfl,a2,b2⟩;have N2:=ai.but (g:=w1.heap.size) (T:=107) (ai.alloc (ai.new w1 #[.int .i64 (bY s (K s i)),.string (bf s (K s i))] 107) _) b2 (by omega);have Ao:=af N2;have A2:=af a2;have B2:=af (But.trans (x:=w) (by with_reducible repeat (first|exact ae B1|refine But.alloc ?_ _|refine But.drew ?_|(refine But.setNew ?_ ?_ _;rotate_left;exact (by first|omega|(simp;omega)|simp)))) b2);clear a2 b2 N2;go_wp2_with fail;have C:=af (df b s (j+1) d w2 (ae Hs) (ae A2));rw [ae Hm] at C;refine (ae C).mono ?_;rintro e w3 ⟨b3,v,rfl,rfl,a3⟩;have N3:=ai.but (ae Ao) b3 (by omega);obtain ⟨n0,n1⟩:=N3.two;have hn:=N3.lt;have A3:=af a3;have B3:=af (But.trans (ae B2) b3);clear a3 b3 N3;unfold wX;go_wp2;go_ret2;exact ⟨(by with_reducible repeat (first|exact ae B3|refine But.alloc ?_ _|refine But.drew ?_|(refine But.setNew ?_ ?_ _;rotate_left;exact (by first|omega|(simp;omega)|simp)))),_,rfl,.inr (.inr ⟨rfl,rfl⟩),(by with_reducible repeat (first|exact ae A3|refine At.alloc ?_ _|refine At.drew ?_|(refine At.setNew ?_ ?_ _;rotate_left;exact (by first|omega|(simp;omega)|simp))))⟩
theorem OO (b:Nat) (s:aei) (i d:Nat) (w:World) (hs:s.size≤maxLen) (h:At w b s i d) (j c m:Nat) (hr:bN (TT s) i=.ok ((),j)) (h1:eqs (TT s j) (sg 46)=true) (Hm:Hid (bN (TT s) (j+1)=.error (c,m))):
  Calls Tryz.prog 273 #[.pointer (some ⟨b,0,none⟩)] w (eZ b s d w (.error (c,m))):=by
 have hlt:=h.lt;have Hs:=af hs;have C:=af (df b s i d w hs h);rw [hr] at C;clear hr;go_enter Tryz.func273,Tryz.ntmps273;go_wp2_with fail;refine (ae C).mono ?_;have H1:=af h1;rintro e w1 ⟨b1,v,rfl,rfl,a1⟩;have A1:=af a1;have B1:=af b1;have hsz:b<w1.heap.size:=Nat.lt_of_lt_of_le hlt b1.size;clear a1 b1 C h hs;unfold wX;go_wp2_with fail;refine (ats b s j d _ _ (sg 46) _ ?_ ?_).mono ?_
 ·exact (by with_reducible repeat (first|exact ae A1|refine At.alloc ?_ _|refine At.drew ?_|(refine At.setNew ?_ ?_ _;rotate_left;exact (by first|omega|(simp;omega)|simp))))
 ·exact aU _ _ _ _ (by simp)
 rintro e w2 ⟨rfl,rfl⟩;rw [h1];clear h1;go_wp2_with fail;refine (steps b s j d _ (ae Hs) ?_ ?_).mono ?_
 ·exact (by with_reducible repeat (first|exact ae A1|refine At.alloc ?_ _|refine At.drew ?_|(refine At.setNew ?_ ?_ _;rotate_left;exact (by first|omega|(simp;omega)|simp))))
 ·exact bZ (ae H1) (by decide)
 rintro e w2 ⟨rfl,a2,b2⟩;have N2:=ai.but (g:=w1.heap.size) (T:=107) (ai.alloc (ai.new w1 #[.int .i64 (bY s (K s i)),.string (bf s (K s i))] 107) _) b2 (by omega);have Ao:=af N2;have A2:=af a2;have B2:=af (But.trans (x:=w) (by with_reducible repeat (first|exact ae B1|refine But.alloc ?_ _|refine But.drew ?_|(refine But.setNew ?_ ?_ _;rotate_left;exact (by first|omega|(simp;omega)|simp)))) b2);clear a2 b2 N2;go_wp2_with fail;have C:=af (df b s (j+1) d w2 (ae Hs) (ae A2));rw [ae Hm] at C;refine (ae C).mono ?_;rintro e w3 ⟨b3,v,d',rfl,rfl,a3⟩;have N3:=ai.but (ae Ao) b3 (by omega);obtain ⟨n0,n1⟩:=N3.two;have hn:=N3.lt;have A3:=af a3;have B3:=af (But.trans (ae B2) b3);clear a3 b3 N3;unfold IC bn;go_wp2;go_ret2;exact ⟨(by with_reducible repeat (first|exact ae B3|refine But.alloc ?_ _|refine But.drew ?_|(refine But.setNew ?_ ?_ _;rotate_left;exact (by first|omega|(simp;omega)|simp)))),_,d',rfl,.inr ⟨_,_,rfl⟩,(by with_reducible repeat (first|exact ae A3|refine At.alloc ?_ _|refine At.drew ?_|(refine At.setNew ?_ ?_ _;rotate_left;exact (by first|omega|(simp;omega)|simp))))⟩
theorem OP (b:Nat) (s:aei) (i d:Nat) (w:World) (hs:s.size≤maxLen) (h:At w b s i d):
  Calls Tryz.prog 273 #[.pointer (some ⟨b,0,none⟩)] w (eZ b s d w (lW (TT s) (PP s) i)):=by
 unfold lW
 cases hr:bN (TT s) i with
 |error e=>exact Sz b s i d w hs h e.1 e.2 hr
 |ok y=>
  obtain ⟨⟨⟩,j⟩:=y
  cases h1:eqs (TT s j) (sg 46)
  ·simp only [h1];exact SC b s i d w hs h j hr h1
  ·cases hm:bN (TT s) (j+1) with
   |error e=>simp only [h1,hm];exact OO b s i d w hs h j e.1 e.2 hr h1 (af hm)
   |ok y=>
    obtain ⟨⟨⟩,m⟩:=y;simp only [h1,hm];exact SE b s i d w hs h j m hr h1 (af hm)
theorem uA (p:Int) (t:aei) (x y:Value) (hx:Vx x) (hy:Vx y) (w:World):
  Calls Tryz.prog 263 #[.agg #[.int .i64 p,.string t],x,y] w fun e w'=>e=.returned (.iface (jl (kindOf t)) (.agg #[.int .i64 p,x,y]))∧Below w.heap.size w w':=by
 have hk:∀a b,(t.toList== [124])=a→(t.toList== [38])=b→kindOf t=if a then 3 else if b then 4 else 5:=by
  intro a b h1 h2;unfold kindOf eqs;rw [←aF,show bi (sg 124)=[124] from rfl,show bi (sg 38)=[38] from rfl,h1,h2]
 cases h1:(t.toList== [124])
 ·cases h2:(t.toList== [38])
  all_goals
   rw [hk _ _ h1 h2];clear hk
   rcases hx with rfl|⟨tx,vx,rfl⟩<;>rcases hy with rfl|⟨ty,vy,rfl⟩
   all_goals
    go_enter Tryz.func263,Tryz.ntmps263;go_wp2;go_ret;exact ⟨rfl,((Below.refl _ _).alloc aeg _).alloc (by simp) _⟩
 ·rw [hk _ _ h1 rfl];clear hk
  rcases hx with rfl|⟨tx,vx,rfl⟩<;>rcases hy with rfl|⟨ty,vy,rfl⟩
  all_goals
   go_enter Tryz.func263,Tryz.ntmps263;go_wp2;go_ret;exact ⟨rfl,((Below.refl _ _).alloc aeg _).alloc (by simp) _⟩
end Go.Proofs.YtlbpnlngckgcbaaGreatDoor
namespace Go.Proofs.YtlbpnlngckgcbaaGreatDoor
def lM {α:Type} (r:Nat→dM α):Prop:=∀i x j,r i=.ok (x,j)→i<j
theorem lY (T:Nat→ByteArray):lM (bN T):=by
 intro i x j h;unfold bN at h
 repeat' split at h
 all_goals simp at h
 omega
theorem iq (T:Nat→ByteArray) (y:ByteArray):lM (bO T y):=by
 intro i x j h;unfold bO at h
 split at h
 ·simp at h
 ·rename_i hm;have:=lY T _ _ _ hm
  split at h<;>simp at h
  omega
theorem mU (T:Nat→ByteArray) (P:Nat→Nat):lM (bD T P):=by
 intro i x j h;unfold bD at h
 split at h
 ·simp at h
 ·rename_i hm;have:=lY T _ _ _ hm
  split at h
  ·simp at h;omega
  ·split at h
   ·split at h
    ·simp at h
    ·rename_i hk;have:=lY T _ _ _ hk;simp at h;omega
   ·simp at h;omega
theorem yj (T:Nat→ByteArray) (P:Nat→Nat):∀f acc,lM (eY T P f acc)
 |0,_=>fun i x j h=>by simp [eY] at h
 |f+1,acc=>fun i x j h=>by
  unfold eY at h
  split at h
  ·simp at h
  ·rename_i hm;have:=mU T P _ _ _ hm
   split at h
   ·have:=yj T P f _ _ _ _ h;omega
   ·split at h<;>simp at h
    omega
theorem yo (T:Nat→ByteArray) (P:Nat→Nat):lM (pR T P):=by
 intro i x j h;unfold pR at h
 split at h
 ·simp at h
 ·rename_i hm;have:=yj T P _ _ _ _ _ hm;simp at h;omega
theorem wG (T:Nat→ByteArray) (P:Nat→Nat):lM (lW T P):=by
 intro i x j h;unfold lW at h
 split at h
 ·simp at h
 ·rename_i hm;have:=lY T _ _ _ hm
  split at h
  ·split at h
   ·simp at h
   ·rename_i hk;have:=lY T _ _ _ hk;simp at h;omega
  ·simp at h;omega
theorem lZ (T:Nat→ByteArray) (P:Nat→Nat) (room:Bool) (inner:Nat→dM Ex) (hi:lM inner):lM (gY T P room inner):=by
 intro i x j h;unfold gY at h
 split at h
 ·exact yo T P _ _ _ h
 ·split at h
  ·split at h
   ·split at h
    ·simp at h
    ·rename_i hm;have:=hi _ _ _ hm
     split at h<;>simp at h
     omega
   ·simp at h
  ·exact wG T P _ _ _ h
theorem yt (T:Nat→ByteArray) (P:Nat→Nat) (l:List ByteArray) (part:Nat→dM Ex) (hp:lM part):∀f y i x j,joinL T P l part f y i=.ok (x,j)→i≤j
 |0,_,i,x,j=>fun h=>by simp [joinL] at h
 |f+1,y,i,x,j=>fun h=>by
  unfold joinL at h
  split at h
  ·split at h
   ·simp at h
   ·rename_i hm;have:=hp _ _ _ hm;have:=yt T P l part hp f _ _ _ _ h;omega
  ·simp at h;omega
theorem sF (T:Nat→ByteArray) (P:Nat→Nat) (l:List ByteArray) (part:Nat→dM Ex) (hp:lM part):lM (gJ T P l part):=by
 intro i x j h;unfold gJ at h
 split at h
 ·simp at h
 ·rename_i hm;have:=hp _ _ _ hm;have:=yt T P l part hp _ _ _ _ _ h;omega
theorem jA (T:Nat→ByteArray) (P:Nat→Nat) (room:Bool) (inner:Nat→dM Ex) (hi:lM inner):lM (jL T P room inner):=
 sF T P _ _ (lZ T P room inner hi)
theorem jm (T:Nat→ByteArray) (P:Nat→Nat):∀n,lM (gZ T P n)
 |0=>sF T P _ _ (jA T P false _ (fun i x j h=>by simp at h))
 |n+1=>sF T P _ _ (jA T P true _ (jm T P n))
theorem nP (T:Nat→ByteArray) (P:Nat→Nat):lM (pJ T P):=by
 intro i x j h;unfold pJ at h
 split at h
 ·simp at h
 ·rename_i hm;have:=iq T _ _ _ _ hm
  split at h
  ·simp at h
  ·rename_i hk;have:=jm T P _ _ _ _ hk
   split at h<;>simp at h
   omega
theorem sG (T:Nat→ByteArray) (P:Nat→Nat):∀f acc,lM (dP T P f acc)
 |0,_=>fun i x j h=>by simp [dP] at h
 |f+1,acc=>fun i x j h=>by
  unfold dP at h
  split at h
  ·simp at h;omega
  ·split at h
   ·simp at h
   ·split at h
    ·simp at h
    ·rename_i hm;have:=nP T P _ _ _ hm;have:=sG T P f _ _ _ _ h;omega
theorem sH (T:Nat→ByteArray) (P:Nat→Nat):lM (rQ T P):=by
 intro i x j h;unfold rQ at h
 split at h
 ·split at h
  ·simp at h
  ·rename_i hm;have:=iq T _ _ _ _ hm
   split at h
   ·simp at h
   ·rename_i hk;have:=sG T P _ _ _ _ _ hk;simp at h;omega
 ·simp at h
end Go.Proofs.YtlbpnlngckgcbaaGreatDoor
namespace Go.Proofs.YtlbpnlngckgcbaaGreatDoor
open Go.RowKit Go.PlainAid
theorem Bd {t:aei} {l:List aei} (h:gX t l=true) (hl:∀x∈l,0<(bi x).length):0<t.size:=by
 unfold gX at h;rw [List.any_eq_true] at h;obtain ⟨x,hx,he⟩:=h;exact bZ he (hl x hx)
theorem EP (b:Nat) (s:aei) (i d:Nat) (w:World) (hs:s.size≤500) (h:At w b s i d) (g cap:Nat) (l:List aei) (part:Nat→dM Ex) (hm:lM part)
  (hp:∀i w,At w b s i d→Calls Tryz.prog 264 #[.pointer (some ⟨b,0,none⟩)] w (eZ b s d w (part i)))
  (hl:l.length≤maxLen) (hpos:∀x∈l,0<(bi x).length) (hg:g≠b) (hgl:g<w.heap.size) (hc:∀i,i<l.length→w.cell? ⟨g,i,none⟩=some (.string (l.getD i ByteArray.empty))):
  Calls Tryz.prog 248 #[.pointer (some ⟨b,0,none⟩),.func (.func 264) #[.pointer (some ⟨b,0,none⟩)] #[],.slice (some ⟨g,0,none⟩) l.length cap] w (eZ b s d w (gJ (TT s) (PP s) l part i)):=by
 have hlt:=h.lt;have Hs:Hid (s.size≤maxLen):=af (by unfold maxLen;omega);have Hp:=af hp;have Hm:=af hm;have Hc:=af hc;have Hl:=af hl;have Wx:=af hpos;have A0:=af h;clear hp hm hc hl h hpos;unfold gJ
 cases hr:part i with
 |error e=>
  obtain ⟨c,j⟩:=e;have C:=af (ae Hp i w (ae A0));rw [hr] at C;clear hr;go_enter Tryz.func248,Tryz.ntmps248;go_wp2_with fail;refine (ae C).mono ?_;rintro e w1 ⟨b1,v,d',rfl,hv,a1⟩;have A1:=af a1;have B1:=af b1;have HV:=af hv;clear a1 b1 hv;unfold bn;go_wp2_with fail;refine wp_loop_rounds 1 ?_;rw [rounds_succ];go_wp2;go_ret2;exact ⟨ae B1,v,d',rfl,ae HV,ae A1⟩
 |ok y=>
  obtain ⟨x0,j0⟩:=y;have C:=af (ae Hp i w (ae A0));rw [hr] at C;have Hj:=af (ae Hm _ _ _ hr);clear hr;simp only;generalize hR:joinL (TT s) (PP s) l part 512 x0 j0=R;have HR:=af hR;clear hR;go_enter Tryz.func248,Tryz.ntmps248;go_wp2_with fail;refine (ae C).mono ?_;rintro e w1 ⟨b1,v,rfl,hv,a1⟩;have A1:=af a1;have B1:=af b1;have HV:=af hv;clear a1 b1 hv;go_wp2_with fail
  go_loopg [8,9] 512 (fun k u8 u9 wr=>But b w wr∧((u9=.nilIface∧∃x j,aH b wr x u8∧At wr b s j d∧512≤k+j∧Hid (joinL (TT s) (PP s) l part k x j=R))∨(∃c j d',u9=bn c∧Vx u8∧At wr b s j d'∧Hid (R=.error (c,j)))))
  case atStart=>exact ⟨ae B1,.inl ⟨rfl,x0,j0,ae HV,ae A1,by omega,HR⟩⟩
  case round=>
   obtain ⟨hb,⟨rfl,x,j,hv,ha,hk,HJ⟩|⟨c,j,d',rfl,hv,ha,HJ⟩⟩:=hrel
   ·have hf:12≤gk:=by have:=ha.le;omega
    obtain ⟨f,rfl⟩:∃f,gk=f+1:=⟨gk-1,by omega⟩;have HA:=af ha;have HB:=af hb;have HX:=af hv;have hc':=af (show ∀i,i<l.length→wr.cell? ⟨g,i,none⟩=some (.string (l.getD i ByteArray.empty)) from fun i hi=>(hb.cell hgl hg).trans (ae Hc i hi));have hlt':b<wr.heap.size:=ha.lt;obtain ⟨tx,vx,rfl⟩:=hv.isI;have c1:=ha.pos.rd.c1;have c2:=ha.pos.rd.c2;clear ha hb hv;have IZ:=ae HJ;unfold joinL at IZ
    cases ht:gX (TT s j) l
    ·simp only [ht] at IZ;have IE:=af IZ;clear IZ;go_wp2_with fail;refine (uw b s _ _ d g cap l _ (ae HA).pos.rd (ae Hl) (ae hc')).mono ?_;rintro e w2 ⟨rfl,rfl⟩;rw [show gX (bf s (K s j)) l=false from ht];go_wp2;go_ret2;rw [←ae IE];exact ⟨ae HB,_,rfl,ae HX,ae HA⟩
    ·simp only [ht,if_true] at IZ;have IE:=af IZ;clear IZ;go_wp2_with fail;refine (uw b s _ _ d g cap l _ (ae HA).pos.rd (ae Hl) (ae hc')).mono ?_;rintro e w2 ⟨rfl,rfl⟩;rw [show gX (bf s (K s j)) l=true from ht];have Ht:=af ht;clear ht;go_wp2_with fail;refine (steps b s j d _ (ae Hs) ((ae HA).alloc _) (Bd (ae Ht) (ae Wx))).mono ?_;rintro e w3 ⟨rfl,a3,b3⟩;have S3:=af ((ai.new w2 #[.int .i64 (bY s (K s j)),.string (bf s (K s j))] 137).but b3 (by omega));have B3:=af (But.trans (ae HB) (But.trans ((But.refl b w2).alloc _) b3));have X3:=af (aH.but (ae HX) (But.trans ((But.refl b w2).alloc _) b3));have A3:=af a3;have hlt3:b<w3.heap.size:=a3.lt;clear a3 b3 c1 c2
     cases hq:part (j+1) with
     |error e=>
      obtain ⟨c4,j4⟩:=e;have C3:=af (ae Hp (j+1) w3 (ae A3));rw [hq] at IE C3;clear hq;go_wp2_with fail;refine (ae C3).mono ?_;rintro e w4 ⟨b4,v4,d4,rfl,hv4,a4⟩;have S4:=(ae S3).but b4 (by have:=(ae S3).lt;have:=(ae HA).lt;omega);obtain ⟨s0,s1⟩:=S4.two;have B4:=af (But.trans (ae B3) b4);have A4:=af a4;have V4:=af hv4;clear a4 b4 hv4 S4;unfold bn;go_wp2_with fail;refine (uA _ _ _ _ (.inr ⟨_,_,rfl⟩) (ae V4) _).mono ?_;rintro e w5 ⟨rfl,bV⟩;have B5:=af (But.trans (ae B4) (But.of_below bV));have A5:=af ((ae A4).below bV);clear bV;go_wp2
      go_roundg 0
      case measure=>omega
      case rel=>exact ⟨ae B5,.inr ⟨c4,j4,d4,rfl,.inr ⟨_,_,rfl⟩,ae A5,af (ae IE).symm⟩⟩
     |ok y=>
      obtain ⟨y4,j4⟩:=y;have C3:=af (ae Hp (j+1) w3 (ae A3));have ZP:j+1<j4:=ae Hm _ _ _ hq;rw [hq] at IE C3;clear hq;go_wp2_with fail;refine (ae C3).mono ?_;rintro e w4 ⟨b4,v4,rfl,hv4,a4⟩;have S4:=(ae S3).but b4 (by have:=(ae S3).lt;have:=(ae HA).lt;omega);obtain ⟨s0,s1⟩:=S4.two;have B4:=af (But.trans (ae B3) b4);have A4:=af a4;have V4:=af hv4;have X4:=af (aH.but (ae X3) b4);have I4:=af (show Vx v4 from .inr hv4.isI);clear a4 b4 hv4 S4;go_wp2_with fail;refine (uA _ _ _ _ (.inr ⟨_,_,rfl⟩) (ae I4) _).mono ?_;rintro e w5 ⟨rfl,bV⟩;have B5:=af (But.trans (ae B4) (But.of_below bV));have A5:=af ((ae A4).below bV);have X5:=af (aH.but (ae X4) (But.of_below bV));have V5:=af (aH.but (ae V4) (But.of_below bV));clear bV;go_wp2
      go_roundg f
      case measure=>omega
      case rel=>exact ⟨ae B5,.inl ⟨rfl,jZ (TT s j) (PP s j) x y4,j4,⟨_,_,rfl,ae X5,ae V5⟩,ae A5,by omega,af (ae IE)⟩⟩
   ·have HB:=af hb;have HA:=af ha;have HX:=af hv;clear hb ha hv;unfold bn;go_wp2;go_ret2;rw [ae HJ];exact ⟨ae HB,_,d',rfl,ae HX,ae HA⟩
theorem CZ (b:Nat) (s:aei) (i d:Nat) (w:World) (hs:s.size≤500) (h:At w b s i d) (g cap:Nat) (l:List aei) (part:Nat→dM Ex) (hm:lM part)
  (hp:∀i w,At w b s i d→Calls Tryz.prog 249 #[.pointer (some ⟨b,0,none⟩)] w (eZ b s d w (part i)))
  (hl:l.length≤maxLen) (hpos:∀x∈l,0<(bi x).length) (hg:g≠b) (hgl:g<w.heap.size) (hc:∀i,i<l.length→w.cell? ⟨g,i,none⟩=some (.string (l.getD i ByteArray.empty))):
  Calls Tryz.prog 248 #[.pointer (some ⟨b,0,none⟩),.func (.func 249) #[.pointer (some ⟨b,0,none⟩)] #[],.slice (some ⟨g,0,none⟩) l.length cap] w (eZ b s d w (gJ (TT s) (PP s) l part i)):=by
 have hlt:=h.lt;have Hs:Hid (s.size≤maxLen):=af (by unfold maxLen;omega);have Hp:=af hp;have Hm:=af hm;have Hc:=af hc;have Hl:=af hl;have Wx:=af hpos;have A0:=af h;clear hp hm hc hl h hpos;unfold gJ
 cases hr:part i with
 |error e=>
  obtain ⟨c,j⟩:=e;have C:=af (ae Hp i w (ae A0));rw [hr] at C;clear hr;go_enter Tryz.func248,Tryz.ntmps248;go_wp2_with fail;refine (ae C).mono ?_;rintro e w1 ⟨b1,v,d',rfl,hv,a1⟩;have A1:=af a1;have B1:=af b1;have HV:=af hv;clear a1 b1 hv;unfold bn;go_wp2_with fail;refine wp_loop_rounds 1 ?_;rw [rounds_succ];go_wp2;go_ret2;exact ⟨ae B1,v,d',rfl,ae HV,ae A1⟩
 |ok y=>
  obtain ⟨x0,j0⟩:=y;have C:=af (ae Hp i w (ae A0));rw [hr] at C;have Hj:=af (ae Hm _ _ _ hr);clear hr;simp only;generalize hR:joinL (TT s) (PP s) l part 512 x0 j0=R;have HR:=af hR;clear hR;go_enter Tryz.func248,Tryz.ntmps248;go_wp2_with fail;refine (ae C).mono ?_;rintro e w1 ⟨b1,v,rfl,hv,a1⟩;have A1:=af a1;have B1:=af b1;have HV:=af hv;clear a1 b1 hv;go_wp2_with fail
  go_loopg [8,9] 512 (fun k u8 u9 wr=>But b w wr∧((u9=.nilIface∧∃x j,aH b wr x u8∧At wr b s j d∧512≤k+j∧Hid (joinL (TT s) (PP s) l part k x j=R))∨(∃c j d',u9=bn c∧Vx u8∧At wr b s j d'∧Hid (R=.error (c,j)))))
  case atStart=>exact ⟨ae B1,.inl ⟨rfl,x0,j0,ae HV,ae A1,by omega,HR⟩⟩
  case round=>
   obtain ⟨hb,⟨rfl,x,j,hv,ha,hk,HJ⟩|⟨c,j,d',rfl,hv,ha,HJ⟩⟩:=hrel
   ·have hf:12≤gk:=by have:=ha.le;omega
    obtain ⟨f,rfl⟩:∃f,gk=f+1:=⟨gk-1,by omega⟩;have HA:=af ha;have HB:=af hb;have HX:=af hv;have hc':=af (show ∀i,i<l.length→wr.cell? ⟨g,i,none⟩=some (.string (l.getD i ByteArray.empty)) from fun i hi=>(hb.cell hgl hg).trans (ae Hc i hi));have hlt':b<wr.heap.size:=ha.lt;obtain ⟨tx,vx,rfl⟩:=hv.isI;have c1:=ha.pos.rd.c1;have c2:=ha.pos.rd.c2;clear ha hb hv;have IZ:=ae HJ;unfold joinL at IZ
    cases ht:gX (TT s j) l
    ·simp only [ht] at IZ;have IE:=af IZ;clear IZ;go_wp2_with fail;refine (uw b s _ _ d g cap l _ (ae HA).pos.rd (ae Hl) (ae hc')).mono ?_;rintro e w2 ⟨rfl,rfl⟩;rw [show gX (bf s (K s j)) l=false from ht];go_wp2;go_ret2;rw [←ae IE];exact ⟨ae HB,_,rfl,ae HX,ae HA⟩
    ·simp only [ht,if_true] at IZ;have IE:=af IZ;clear IZ;go_wp2_with fail;refine (uw b s _ _ d g cap l _ (ae HA).pos.rd (ae Hl) (ae hc')).mono ?_;rintro e w2 ⟨rfl,rfl⟩;rw [show gX (bf s (K s j)) l=true from ht];have Ht:=af ht;clear ht;go_wp2_with fail;refine (steps b s j d _ (ae Hs) ((ae HA).alloc _) (Bd (ae Ht) (ae Wx))).mono ?_;rintro e w3 ⟨rfl,a3,b3⟩;have S3:=af ((ai.new w2 #[.int .i64 (bY s (K s j)),.string (bf s (K s j))] 137).but b3 (by omega));have B3:=af (But.trans (ae HB) (But.trans ((But.refl b w2).alloc _) b3));have X3:=af (aH.but (ae HX) (But.trans ((But.refl b w2).alloc _) b3));have A3:=af a3;have hlt3:b<w3.heap.size:=a3.lt;clear a3 b3 c1 c2
     cases hq:part (j+1) with
     |error e=>
      obtain ⟨c4,j4⟩:=e;have C3:=af (ae Hp (j+1) w3 (ae A3));rw [hq] at IE C3;clear hq;go_wp2_with fail;refine (ae C3).mono ?_;rintro e w4 ⟨b4,v4,d4,rfl,hv4,a4⟩;have S4:=(ae S3).but b4 (by have:=(ae S3).lt;have:=(ae HA).lt;omega);obtain ⟨s0,s1⟩:=S4.two;have B4:=af (But.trans (ae B3) b4);have A4:=af a4;have V4:=af hv4;clear a4 b4 hv4 S4;unfold bn;go_wp2_with fail;refine (uA _ _ _ _ (.inr ⟨_,_,rfl⟩) (ae V4) _).mono ?_;rintro e w5 ⟨rfl,bV⟩;have B5:=af (But.trans (ae B4) (But.of_below bV));have A5:=af ((ae A4).below bV);clear bV;go_wp2
      go_roundg 0
      case measure=>omega
      case rel=>exact ⟨ae B5,.inr ⟨c4,j4,d4,rfl,.inr ⟨_,_,rfl⟩,ae A5,af (ae IE).symm⟩⟩
     |ok y=>
      obtain ⟨y4,j4⟩:=y;have C3:=af (ae Hp (j+1) w3 (ae A3));have ZP:j+1<j4:=ae Hm _ _ _ hq;rw [hq] at IE C3;clear hq;go_wp2_with fail;refine (ae C3).mono ?_;rintro e w4 ⟨b4,v4,rfl,hv4,a4⟩;have S4:=(ae S3).but b4 (by have:=(ae S3).lt;have:=(ae HA).lt;omega);obtain ⟨s0,s1⟩:=S4.two;have B4:=af (But.trans (ae B3) b4);have A4:=af a4;have V4:=af hv4;have X4:=af (aH.but (ae X3) b4);have I4:=af (show Vx v4 from .inr hv4.isI);clear a4 b4 hv4 S4;go_wp2_with fail;refine (uA _ _ _ _ (.inr ⟨_,_,rfl⟩) (ae I4) _).mono ?_;rintro e w5 ⟨rfl,bV⟩;have B5:=af (But.trans (ae B4) (But.of_below bV));have A5:=af ((ae A4).below bV);have X5:=af (aH.but (ae X4) (But.of_below bV));have V5:=af (aH.but (ae V4) (But.of_below bV));clear bV;go_wp2
      go_roundg f
      case measure=>omega
      case rel=>exact ⟨ae B5,.inl ⟨rfl,jZ (TT s j) (PP s j) x y4,j4,⟨_,_,rfl,ae X5,ae V5⟩,ae A5,by omega,af (ae IE)⟩⟩
   ·have HB:=af hb;have HA:=af ha;have HX:=af hv;clear hb ha hv;unfold bn;go_wp2;go_ret2;rw [ae HJ];exact ⟨ae HB,_,d',rfl,ae HX,ae HA⟩
