import Derived.Test.YtlbpnlngckgcbaaGreatDoorM01
import Derived.Laws.ResultCell
import Derived.Laws.Rows
set_option linter.all false
set_option maxHeartbeats 4000000
set_option maxRecDepth 100000
namespace Go.Proofs.YtlbpnlngckgcbaaGreatDoor
open Go.RowKit Go.PlainAid
def Iy (v:Value):Prop:=∃(p:Nat) (t:RJ),v=.agg #[.int .i64 p,.string t]
theorem ag.two {w:World} {g:Nat} {x y:Value} {T:TypeId} (h:ag w g #[x,y] T):w.cell? ⟨g,0,none⟩=some x∧w.cell? ⟨g,1,none⟩=some y:=⟨h.cell rfl,h.cell rfl⟩
theorem ag.three {w:World} {g:Nat} {x y z:Value} {T:TypeId} (h:ag w g #[x,y,z] T):w.cell? ⟨g,0,none⟩=some x∧w.cell? ⟨g,1,none⟩=some y∧w.cell? ⟨g,2,none⟩=some z:=⟨h.cell rfl,h.cell rfl,h.cell rfl⟩
theorem ag.five {w:World} {g:Nat} {x y z u v:Value} {T:TypeId} (h:ag w g #[x,y,z,u,v] T):w.cell? ⟨g,0,none⟩=some x∧w.cell? ⟨g,1,none⟩=some y∧w.cell? ⟨g,2,none⟩=some z∧w.cell? ⟨g,3,none⟩=some u∧w.cell? ⟨g,4,none⟩=some v:=⟨h.cell rfl,h.cell rfl,h.cell rfl,h.cell rfl,h.cell rfl⟩
theorem uE {P:Program} {fn:Func} {p u:Tmp} {ty:TypeId} (h:fn.results=#[.cell p ty,.tmp u]) (tmps:Array Value) (w:World) (g:Nat) (cs:Array Value) (t:TypeId) (e:Value) (d:TypeDesc)
  (hp:tmps.getD p undef=.pointer (some ⟨g,0,none⟩)) (hq:tmps.getD u undef=e) (hb:ag w g cs t)
  (hu:P.underlying ty=some d) (hd:(match d with| .struct _| .array _ _=>true|_=>false)=true) (hi:(P.info? ty).map (·.size)=some cs.size):
  (results fn tmps).run P w=.ok (.tuple #[.agg cs,e]) w:=by
 rw [results_cell_tmp h,hp,hq];simp [asAddr,run_loadVar_row w g t ty cs (0,0) d hb hu hd hi]
theorem fP (b:Nat) (s:RJ) (i d:Nat) (x:RJ) (w:World) (hs:s.size≤maxLen) (h:At w b s i d) (he:eqs (TT s i) x=true) (hx:0<(cO x).length):
  Calls Tryz.prog 169 #[.pointer (some ⟨b,0,none⟩),.string x] w fun e w'=>e=.returned .nilIface∧At w' b s (i+1) d∧But b w w':=by
 refine (ES b s (K s i) d x w hs h.pos he).mono ?_;rintro e w' ⟨rfl,h1,h2⟩;exact ⟨rfl,At.next h1 h.good (eQ he hx),h2⟩
theorem kr (b:Nat) (s:RJ) (i d:Nat) (x:RJ) (w:World) (h:At w b s i d) (he:eqs (TT s i) x=false):
  Calls Tryz.prog 169 #[.pointer (some ⟨b,0,none⟩),.string x] w fun e w'=>e=.returned (aM 2)∧At w' b s i d∧But b w w':=by
 refine (Ir b s (K s i) d x w h.pos he).mono ?_;rintro e w' ⟨rfl,h1,h2⟩;exact ⟨rfl,⟨h1,h.good⟩,But.of_below h2⟩
theorem steps (b:Nat) (s:RJ) (i d:Nat) (w:World) (hs:s.size≤maxLen) (h:At w b s i d) (ht:0<(TT s i).size):
  Calls Tryz.prog 220 #[.pointer (some ⟨b,0,none⟩)] w fun e w'=>e=.returned (.tuple #[])∧At w' b s (i+1) d∧But b w w':=by
 refine (qy b s (K s i) d w hs h.pos).mono ?_;rintro e w' ⟨rfl,h1,h2⟩;exact ⟨rfl,At.next h1 h.good ht,h2⟩
theorem ats (b:Nat) (s:RJ) (i d g cap:Nat) (x:RJ) (w:World) (h:At w b s i d) (hc:w.cell? ⟨g,0,none⟩=some (.string x)):
  Calls Tryz.prog 113 #[.pointer (some ⟨b,0,none⟩),.slice (some ⟨g,0,none⟩) 1 cap] w fun e w'=>e=.returned (.bool (eqs (TT s i) x))∧w'=w:=
 Qq b s (K s i) d g cap x w h.pos hc
theorem uF (b:Nat) (s:RJ) (i d:Nat) (x:RJ) (w:World) (hs:s.size≤maxLen) (h:At w b s i d) (c j:Nat) (hr:cB (TT s) i=.error (c,j)):
  Calls Tryz.prog 170 #[.pointer (some ⟨b,0,none⟩),.string x] w (Post b s d w (.error (c,j):fw Unit) (fun _ _ v=>v=pU s (K s i)) Iy):=by
 have hlt:=h.lt;have C:=ae (bf b s i d (w.alloc (.cells #[.int .i64 0,.string ⟨#[]⟩] 107)) hs (h.alloc _));rw [hr] at C;clear hr;go_enter Tryz.func170,Tryz.ntmps170;go_wp2_with fail;refine (aa C).mono ?_;rintro e w1 ⟨b1,v,d',rfl,rfl,a1⟩;have A1:=ae a1;have B1:=ae (((But.refl b w).alloc _).trans b1);have R:=(ag.new w #[.int .i64 0,.string ⟨#[]⟩] 107).but b1 (by omega);obtain ⟨r0,r1⟩:=R.two;have z:=R.fz;have hsz:=R.lt;have HR:=ae R;clear a1 b1 C h hs R;unfold aM yR;go_wp2;exact bodyPost_ret (v:=.tuple #[yR,aM c]) (uE Tryz.results170 _ _ w.heap.size #[.int .i64 0,.string ⟨#[]⟩] 107 _ _ rfl rfl ((((aa HR).set 0 _).set 1 _).alloc _) Tryz.underlying107 rfl (by kernel_rfl)) rfl
  ⟨(((aa B1).setNew (by simp) _).setNew (by simp) _).alloc _,yR,d',rfl,⟨0,_,rfl⟩,(((aa A1).setNew (by simp;omega) _).setNew (by simp;omega) _).alloc _⟩
theorem uG (b:Nat) (s:RJ) (i d:Nat) (x:RJ) (w:World) (hs:s.size≤maxLen) (h:At w b s i d) (j:Nat) (hr:cB (TT s) i=.ok ((),j)) (he:eqs (TT s j) x=true) (hx:0<(cO x).length):
  Calls Tryz.prog 170 #[.pointer (some ⟨b,0,none⟩),.string x] w (Post b s d w (.ok ((),j+1):fw Unit) (fun _ _ v=>v=pU s (K s i)) Iy):=by
 have hlt:=h.lt;have Hs:=ae hs;have He:=ae he;have C:=ae (bf b s i d (w.alloc (.cells #[.int .i64 0,.string ⟨#[]⟩] 107)) hs (h.alloc _));rw [hr] at C;clear hr he;go_enter Tryz.func170,Tryz.ntmps170;go_wp2_with fail;refine (aa C).mono ?_;rintro e w1 ⟨b1,v,rfl,rfl,a1⟩;have A1:=ae a1;have B1:=ae (((But.refl b w).alloc _).trans b1);have R:=(ag.new w #[.int .i64 0,.string ⟨#[]⟩] 107).but b1 (by omega);have HR:=ae R;obtain ⟨r0,r1⟩:=R.two;have z:=R.fz;have hsz:=R.lt;have hne:¬(w1.heap.size=w.heap.size):=by omega
 have lX:¬(w.heap.size=w1.heap.size):=by omega
 clear a1 b1 C h hs R;unfold pU;go_wp2
 go_region_held3 (fun w'=>w'.cell? ⟨w1.heap.size,0,none⟩=some (.int .i64 (aV s (K s i)))∧w'.cell? ⟨w1.heap.size,1,none⟩=some (.string (aP s (K s i))))
  (go_keep) ((go_at_call 169;refine (fP b s j d x _ (aa Hs) ?_ (aa He) hx).mono ?_;(exact ((aa A1).alloc _).drew);rintro e w2 ⟨rfl,a2,b2⟩;have N2:=(ag.new w1 #[.int .i64 (aV s (K s i)),.string (aP s (K s i))] 107).drew.but b2 (by omega);obtain ⟨n0,n1⟩:=N2.two;have R2:=((aa HR).alloc (.cells #[.int .i64 (aV s (K s i)),.string (aP s (K s i))] 107)).drew.but b2 (by omega);obtain ⟨r0',r1'⟩:=R2.two;have z':=R2.fz;have bP:=ae R2;have A2:=ae a2;have B2:=ae b2;clear N2 R2 a2 b2))
 go_wp2;exact bodyPost_ret (v:=.tuple #[pU s (K s i),.nilIface]) (uE Tryz.results170 _ _ w.heap.size #[.int .i64 (aV s (K s i)),.string (aP s (K s i))] 107 _ _ rfl rfl (((aa bP).set 0 _).set 1 _) Tryz.underlying107 rfl (by kernel_rfl)) rfl
  ⟨((((aa B1).alloc _).drew.trans (aa B2)).setNew (by simp) _).setNew (by simp) _,_,rfl,rfl,((aa A2).setNew (by simp;omega) _).setNew (by simp;omega) _⟩
theorem wF (b:Nat) (s:RJ) (i d:Nat) (x:RJ) (w:World) (hs:s.size≤maxLen) (h:At w b s i d) (j:Nat) (hr:cB (TT s) i=.ok ((),j)) (he:eqs (TT s j) x=false):
  Calls Tryz.prog 170 #[.pointer (some ⟨b,0,none⟩),.string x] w (Post b s d w (.error (2,j):fw Unit) (fun _ _ v=>v=pU s (K s i)) Iy):=by
 have hlt:=h.lt;have Hs:=ae hs;have He:=ae he;have C:=ae (bf b s i d (w.alloc (.cells #[.int .i64 0,.string ⟨#[]⟩] 107)) hs (h.alloc _));rw [hr] at C;clear hr he;go_enter Tryz.func170,Tryz.ntmps170;go_wp2_with fail;refine (aa C).mono ?_;rintro e w1 ⟨b1,v,rfl,rfl,a1⟩;have A1:=ae a1;have B1:=ae (((But.refl b w).alloc _).trans b1);have R:=(ag.new w #[.int .i64 0,.string ⟨#[]⟩] 107).but b1 (by omega);have HR:=ae R;obtain ⟨r0,r1⟩:=R.two;have z:=R.fz;have hsz:=R.lt;have hne:¬(w1.heap.size=w.heap.size):=by omega
 have lX:¬(w.heap.size=w1.heap.size):=by omega
 clear a1 b1 C h hs R;unfold pU;go_wp2
 go_region_held3 (fun w'=>w'.cell? ⟨w1.heap.size,0,none⟩=some (.int .i64 (aV s (K s i)))∧w'.cell? ⟨w1.heap.size,1,none⟩=some (.string (aP s (K s i))))
  (go_keep) ((go_at_call 169;refine (kr b s j d x _ ?_ (aa He)).mono ?_;(exact ((aa A1).alloc _).drew);rintro e w2 ⟨rfl,a2,b2⟩;have N2:=(ag.new w1 #[.int .i64 (aV s (K s i)),.string (aP s (K s i))] 107).drew.but b2 (by omega);obtain ⟨n0,n1⟩:=N2.two;have R2:=((aa HR).alloc (.cells #[.int .i64 (aV s (K s i)),.string (aP s (K s i))] 107)).drew.but b2 (by omega);obtain ⟨r0',r1'⟩:=R2.two;have z':=R2.fz;have bP:=ae R2;have A2:=ae a2;have B2:=ae b2;clear N2 R2 a2 b2))
 go_wp2;exact bodyPost_ret (v:=.tuple #[pU s (K s i),aM 2]) (uE Tryz.results170 _ _ w.heap.size #[.int .i64 (aV s (K s i)),.string (aP s (K s i))] 107 _ _ rfl rfl (((aa bP).set 0 _).set 1 _) Tryz.underlying107 rfl (by kernel_rfl)) rfl
  ⟨((((aa B1).alloc _).drew.trans (aa B2)).setNew (by simp) _).setNew (by simp) _,_,d,rfl,⟨_,_,rfl⟩,((aa A2).setNew (by simp;omega) _).setNew (by simp;omega) _⟩
theorem dQ (b:Nat) (s:RJ) (i d:Nat) (x:RJ) (w:World) (hs:s.size≤maxLen) (h:At w b s i d) (hx:0<(cO x).length):
  Calls Tryz.prog 170 #[.pointer (some ⟨b,0,none⟩),.string x] w (Post b s d w (bB (TT s) x i) (fun _ _ v=>v=pU s (K s i)) Iy):=by
 unfold bB
 cases hr:cB (TT s) i with
 |error e=>exact uF b s i d x w hs h e.1 e.2 hr
 |ok y=>
  obtain ⟨⟨⟩,j⟩:=y
  cases he:eqs (TT s j) x
  ·simp only [he];exact wF b s i d x w hs h j hr he
  ·simp only [he];exact uG b s i d x w hs h j hr he hx
def aL (g:Gr):Array Value:=#[.int .i64 g.tp,.string g.ty,.int .i64 g.reach,.int .i64 g.rp,.string g.rel]
def sQ (g:Gr):Value:=.agg (aL g)
def Ch (v:Value):Prop:=∃g,v=sQ g
theorem aI (W:World) (x:Value) (T n:Nat) (hn:n=W.heap.size):(W.alloc (.cells #[x] T)).cell? ⟨n,0,none⟩=some x:=by
 subst hn;exact (ag.new W #[x] T).cell rfl
theorem aK {P:Program} {fn:Func} {p u:Tmp} {ty:TypeId} (h:fn.results=#[.cell p ty,.tmp u]) (tmps:Array Value) (w:World) (g:Nat) (cs':Array Value) (t:TypeId) (e:Value) (d:TypeDesc)
  (hp:tmps.getD p undef=.pointer (some ⟨g,0,none⟩)) (hq:tmps.getD u undef=e) (hb:∃cs,ag w g cs t∧cs=cs')
  (hu:P.underlying ty=some d) (hd:(match d with| .struct _| .array _ _=>true|_=>false)=true) (hi:(P.info? ty).map (·.size)=some cs'.size):
  (results fn tmps).run P w=.ok (.tuple #[.agg cs',e]) w:=by
 obtain ⟨cs,hb,rfl⟩:=hb;exact uE h tmps w g cs t e d hp hq hb hu hd hi
theorem Ci (b:Nat) (s:RJ) (i d:Nat) (w:World) (hs:s.size≤maxLen) (h:At w b s i d) (c j:Nat) (hr:cB (TT s) i=.error (c,j)):
  Calls Tryz.prog 277 #[.pointer (some ⟨b,0,none⟩)] w (Post b s d w (.error (c,j):fw Gr) (fun _ g v=>v=sQ g) Ch):=by
 have hlt:=h.lt;have C:=ae (bf b s i d _ hs ((h.alloc (.cells #[.int .i64 0,.string ⟨#[]⟩,.int .i64 0,.int .i64 0,.string ⟨#[]⟩] 207)).alloc (.cells #[.int .i64 0,.string ⟨#[]⟩,.int .i64 0,.int .i64 0,.string ⟨#[]⟩] 207)));rw [hr] at C;clear hr;go_enter Tryz.func277,Tryz.ntmps277;go_wp2_with fail;refine (aa C).mono ?_;rintro e w1 ⟨b1,v,d',rfl,rfl,a1⟩;have A1:=ae a1;have B1:=ae (((But.refl b w).alloc _).alloc _ |>.trans b1);have R:=((ag.new w #[.int .i64 0,.string ⟨#[]⟩,.int .i64 0,.int .i64 0,.string ⟨#[]⟩] 207).alloc _).but b1 (by omega);have G:=(ag.new (w.alloc (.cells #[.int .i64 0,.string ⟨#[]⟩,.int .i64 0,.int .i64 0,.string ⟨#[]⟩] 207)) #[.int .i64 0,.string ⟨#[]⟩,.int .i64 0,.int .i64 0,.string ⟨#[]⟩] 207).but b1 (by simp;omega);rw [show (w.alloc (.cells #[.int .i64 0,.string ⟨#[]⟩,.int .i64 0,.int .i64 0,.string ⟨#[]⟩] 207)).heap.size=w.heap.size+1 by simp] at G;have HR:=ae R;have HG:=ae G;obtain ⟨r0,r1,r2,r3,r4⟩:=R.five;obtain ⟨g0,g1,g2,g3,g4⟩:=G.five;have zr:=R.fz;have zg:=G.fz;have hsz:=G.lt;have hsz':w.heap.size<w1.heap.size:=by omega
 clear a1 b1 C h hs R G;unfold aM yR;go_wp2;refine bodyPost_ret (v:=.tuple #[.agg #[.int .i64 0,.string ⟨#[]⟩,.int .i64 0,.int .i64 0,.string ⟨#[]⟩],aM c]) (aK Tryz.results277 _ _ w.heap.size _ 207 _ _ rfl rfl ?hB Tryz.underlying207 rfl (by kernel_rfl)) rfl ?post
 case hB=>exact ⟨_,(by with_reducible repeat (first|exact aa HR|apply ag.alloc|apply ag.drew|apply ag.set|(apply ag.other;case ha=>exact (by first|omega|(simp;omega)|simp)))),by rfl⟩
 case post=>exact ⟨(by with_reducible repeat (first|exact aa B1|refine But.alloc ?_ _|refine But.drew ?_|(refine But.setNew ?_ ?_ _;rotate_left;exact (by first|omega|(simp;omega)|simp)))),_,d',rfl,⟨⟨⟨#[]⟩,0,0,⟨#[]⟩,0⟩,rfl⟩,(by with_reducible repeat (first|exact aa A1|refine At.alloc ?_ _|refine At.drew ?_|(refine At.setNew ?_ ?_ _;rotate_left;exact (by first|omega|(simp;omega)|simp))))⟩
theorem wG (b:Nat) (s:RJ) (i d:Nat) (w:World) (hs:s.size≤maxLen) (h:At w b s i d) (j:Nat) (hr:cB (TT s) i=.ok ((),j)) (h1:eqs (TT s j) (sg 42)=false) (h2:eqs (TT s j) (sg 35)=false):
  Calls Tryz.prog 277 #[.pointer (some ⟨b,0,none⟩)] w (Post b s d w (.ok (⟨TT s i,PP s i,0,em,0⟩,j):fw Gr) (fun _ g v=>v=sQ g) Ch):=by
 have hlt:=h.lt;have Hs:=ae hs;have C:=ae (bf b s i d _ hs ((h.alloc (.cells #[.int .i64 0,.string ⟨#[]⟩,.int .i64 0,.int .i64 0,.string ⟨#[]⟩] 207)).alloc (.cells #[.int .i64 0,.string ⟨#[]⟩,.int .i64 0,.int .i64 0,.string ⟨#[]⟩] 207)));rw [hr] at C;clear hr;go_enter Tryz.func277,Tryz.ntmps277;go_wp2_with fail;refine (aa C).mono ?_;rintro e w1 ⟨b1,v,rfl,rfl,a1⟩;have A1:=ae a1;have B1:=ae (((But.refl b w).alloc _).alloc _ |>.trans b1);have R:=((ag.new w #[.int .i64 0,.string ⟨#[]⟩,.int .i64 0,.int .i64 0,.string ⟨#[]⟩] 207).alloc _).but b1 (by omega);have G:=(ag.new (w.alloc (.cells #[.int .i64 0,.string ⟨#[]⟩,.int .i64 0,.int .i64 0,.string ⟨#[]⟩] 207)) #[.int .i64 0,.string ⟨#[]⟩,.int .i64 0,.int .i64 0,.string ⟨#[]⟩] 207).but b1 (by simp;omega);rw [show (w.alloc (.cells #[.int .i64 0,.string ⟨#[]⟩,.int .i64 0,.int .i64 0,.string ⟨#[]⟩] 207)).heap.size=w.heap.size+1 by simp] at G;have HR:=ae R;have HG:=ae G;obtain ⟨r0,r1,r2,r3,r4⟩:=R.five;obtain ⟨g0,g1,g2,g3,g4⟩:=G.five;have zr:=R.fz;have zg:=G.fz;have hsz:=G.lt;have hsz':w.heap.size<w1.heap.size:=by omega
 have hne:¬(w1.heap.size=w.heap.size):=by omega
 have lX:¬(w1.heap.size=w.heap.size+1):=by omega
 clear a1 b1 C h hs R G;unfold pU;go_wp2_with fail;refine (ats b s j d _ _ (sg 42) _ ?_ ?_).mono ?_
 ·exact (by with_reducible repeat (first|exact aa A1|refine At.alloc ?_ _|refine At.drew ?_|(refine At.setNew ?_ ?_ _;rotate_left;exact (by first|omega|(simp;omega)|simp))))
 ·exact aI _ _ _ _ (by simp)
 rintro e w2 ⟨rfl,rfl⟩;rw [h1];go_wp2_with fail;refine (ats b s j d _ _ (sg 35) _ ?_ ?_).mono ?_
 ·exact (by with_reducible repeat (first|exact aa A1|refine At.alloc ?_ _|refine At.drew ?_|(refine At.setNew ?_ ?_ _;rotate_left;exact (by first|omega|(simp;omega)|simp))))
 ·exact aI _ _ _ _ (by simp)
 rintro e w2 ⟨rfl,rfl⟩;rw [h2];go_wp2;refine bodyPost_ret (v:=.tuple #[sQ ⟨TT s i,PP s i,0,em,0⟩,.nilIface]) (aK Tryz.results277 _ _ w.heap.size _ 207 _ _ rfl rfl ?hB Tryz.underlying207 rfl (by kernel_rfl)) rfl ?post
 case hB=>exact ⟨_,(by with_reducible repeat (first|exact aa HR|apply ag.alloc|apply ag.drew|apply ag.set|(apply ag.other;case ha=>exact (by first|omega|(simp;omega)|simp)))),by rfl⟩
 case post=>exact ⟨(by with_reducible repeat (first|exact aa B1|refine But.alloc ?_ _|refine But.drew ?_|(refine But.setNew ?_ ?_ _;rotate_left;exact (by first|omega|(simp;omega)|simp)))),_,rfl,rfl,(by with_reducible repeat (first|exact aa A1|refine At.alloc ?_ _|refine At.drew ?_|(refine At.setNew ?_ ?_ _;rotate_left;exact (by first|omega|(simp;omega)|simp))))⟩
theorem Cj (b:Nat) (s:RJ) (i d:Nat) (w:World) (hs:s.size≤maxLen) (h:At w b s i d) (j:Nat) (hr:cB (TT s) i=.ok ((),j)) (h1:eqs (TT s j) (sg 42)=true):
  Calls Tryz.prog 277 #[.pointer (some ⟨b,0,none⟩)] w (Post b s d w (.ok (⟨TT s i,PP s i,1,em,0⟩,j+1):fw Gr) (fun _ g v=>v=sQ g) Ch):=by
 have hlt:=h.lt;have Hs:=ae hs;have C:=ae (bf b s i d _ hs ((h.alloc (.cells #[.int .i64 0,.string ⟨#[]⟩,.int .i64 0,.int .i64 0,.string ⟨#[]⟩] 207)).alloc (.cells #[.int .i64 0,.string ⟨#[]⟩,.int .i64 0,.int .i64 0,.string ⟨#[]⟩] 207)));rw [hr] at C;clear hr;go_enter Tryz.func277,Tryz.ntmps277;go_wp2_with fail;refine (aa C).mono ?_;rintro e w1 ⟨b1,v,rfl,rfl,a1⟩;have A1:=ae a1;have B1:=ae (((But.refl b w).alloc _).alloc _ |>.trans b1);have R:=((ag.new w #[.int .i64 0,.string ⟨#[]⟩,.int .i64 0,.int .i64 0,.string ⟨#[]⟩] 207).alloc _).but b1 (by omega);have G:=(ag.new (w.alloc (.cells #[.int .i64 0,.string ⟨#[]⟩,.int .i64 0,.int .i64 0,.string ⟨#[]⟩] 207)) #[.int .i64 0,.string ⟨#[]⟩,.int .i64 0,.int .i64 0,.string ⟨#[]⟩] 207).but b1 (by simp;omega);rw [show (w.alloc (.cells #[.int .i64 0,.string ⟨#[]⟩,.int .i64 0,.int .i64 0,.string ⟨#[]⟩] 207)).heap.size=w.heap.size+1 by simp] at G;have HR:=ae R;have HG:=ae G;obtain ⟨r0,r1,r2,r3,r4⟩:=R.five;obtain ⟨g0,g1,g2,g3,g4⟩:=G.five;have zr:=R.fz;have zg:=G.fz;have hsz:=G.lt;have hsz':w.heap.size<w1.heap.size:=by omega
 have hne:¬(w1.heap.size=w.heap.size):=by omega
 have lX:¬(w1.heap.size=w.heap.size+1):=by omega
 clear a1 b1 C h hs R G;unfold pU;have H1:=ae h1;go_wp2_with fail;refine (ats b s j d _ _ (sg 42) _ ?_ ?_).mono ?_
 ·exact (by with_reducible repeat (first|exact aa A1|refine At.alloc ?_ _|refine At.drew ?_|(refine At.setNew ?_ ?_ _;rotate_left;exact (by first|omega|(simp;omega)|simp))))
 ·exact aI _ _ _ _ (by simp)
 rintro e w2 ⟨rfl,rfl⟩;rw [h1];go_wp2_with fail;refine (steps b s j d _ (aa Hs) ?_ ?_).mono ?_
 ·exact (by with_reducible repeat (first|exact aa A1|refine At.alloc ?_ _|refine At.drew ?_|(refine At.setNew ?_ ?_ _;rotate_left;exact (by first|omega|(simp;omega)|simp))))
 ·exact eQ (aa H1) (by decide)
 rintro e w2 ⟨rfl,a2,b2⟩;have bP:=ae (ag.but (g:=w.heap.size) (T:=207) (by with_reducible repeat (first|exact aa HR|apply ag.alloc|apply ag.drew|apply ag.set|(apply ag.other;case ha=>exact (by first|omega|(simp;omega)|simp)))) b2 (by omega));have wH:=ag.but (g:=w.heap.size+1) (T:=207) (by with_reducible repeat (first|exact aa HG|apply ag.alloc|apply ag.drew|apply ag.set|(apply ag.other;case ha=>exact (by first|omega|(simp;omega)|simp)))) b2 (by omega);have G2:ag w2 (w.heap.size+1) #[.int .i64 (aV s (K s i)),.string (aP s (K s i)),.int .i64 1,.int .i64 0,.string ⟨#[]⟩] 207:=wH;have R2:ag w2 w.heap.size #[.int .i64 0,.string ⟨#[]⟩,.int .i64 0,.int .i64 0,.string ⟨#[]⟩] 207:=aa bP;obtain ⟨p0,p1,p2,p3,p4⟩:=R2.five;obtain ⟨q0,q1,q2,q3,q4⟩:=G2.five;have zp:=R2.fz;have zq:=G2.fz;have tz:=G2.lt;have KV:w.heap.size<w2.heap.size:=by omega
 have HG2:=ae G2;have A2:=ae a2;have B2:=ae (But.trans (x:=w) (by with_reducible repeat (first|exact aa B1|refine But.alloc ?_ _|refine But.drew ?_|(refine But.setNew ?_ ?_ _;rotate_left;exact (by first|omega|(simp;omega)|simp)))) b2);clear a2 b2 R2 G2 wH r0 r1 r2 r3 r4 g0 g1 g2 g3 g4 zr zg hsz hsz' hne lX;go_wp2;refine bodyPost_ret (v:=.tuple #[sQ ⟨TT s i,PP s i,1,em,0⟩,.nilIface]) (aK Tryz.results277 _ _ w.heap.size _ 207 _ _ rfl rfl ?hB Tryz.underlying207 rfl (by kernel_rfl)) rfl ?post
 case hB=>exact ⟨_,(by with_reducible repeat (first|exact aa bP|apply ag.alloc|apply ag.drew|apply ag.set|(apply ag.other;case ha=>exact (by first|omega|(simp;omega)|simp)))),by rfl⟩
 case post=>exact ⟨(by with_reducible repeat (first|exact aa B2|refine But.alloc ?_ _|refine But.drew ?_|(refine But.setNew ?_ ?_ _;rotate_left;exact (by first|omega|(simp;omega)|simp)))),_,rfl,rfl,(by with_reducible repeat (first|exact aa A2|refine At.alloc ?_ _|refine At.drew ?_|(refine At.setNew ?_ ?_ _;rotate_left;exact (by first|omega|(simp;omega)|simp))))⟩
theorem Ck (b:Nat) (s:RJ) (i d:Nat) (w:World) (hs:s.size≤maxLen) (h:At w b s i d) (j m:Nat) (hr:cB (TT s) i=.ok ((),j)) (h1:eqs (TT s j) (sg 42)=false) (h2:eqs (TT s j) (sg 35)=true) (Hm:Hid (cB (TT s) (j+1)=.ok ((),m))):
  Calls Tryz.prog 277 #[.pointer (some ⟨b,0,none⟩)] w (Post b s d w (.ok (⟨TT s i,PP s i,2,TT s (j+1),PP s (j+1)⟩,m):fw Gr) (fun _ g v=>v=sQ g) Ch):=by
 have hlt:=h.lt;have Hs:=ae hs;have C:=ae (bf b s i d _ hs ((h.alloc (.cells #[.int .i64 0,.string ⟨#[]⟩,.int .i64 0,.int .i64 0,.string ⟨#[]⟩] 207)).alloc (.cells #[.int .i64 0,.string ⟨#[]⟩,.int .i64 0,.int .i64 0,.string ⟨#[]⟩] 207)));rw [hr] at C;clear hr;go_enter Tryz.func277,Tryz.ntmps277;go_wp2_with fail;refine (aa C).mono ?_;rintro e w1 ⟨b1,v,rfl,rfl,a1⟩;have A1:=ae a1;have B1:=ae (((But.refl b w).alloc _).alloc _ |>.trans b1);have R:=((ag.new w #[.int .i64 0,.string ⟨#[]⟩,.int .i64 0,.int .i64 0,.string ⟨#[]⟩] 207).alloc _).but b1 (by omega);have G:=(ag.new (w.alloc (.cells #[.int .i64 0,.string ⟨#[]⟩,.int .i64 0,.int .i64 0,.string ⟨#[]⟩] 207)) #[.int .i64 0,.string ⟨#[]⟩,.int .i64 0,.int .i64 0,.string ⟨#[]⟩] 207).but b1 (by simp;omega);rw [show (w.alloc (.cells #[.int .i64 0,.string ⟨#[]⟩,.int .i64 0,.int .i64 0,.string ⟨#[]⟩] 207)).heap.size=w.heap.size+1 by simp] at G;have HR:=ae R;have HG:=ae G;obtain ⟨r0,r1,r2,r3,r4⟩:=R.five;obtain ⟨g0,g1,g2,g3,g4⟩:=G.five;have zr:=R.fz;have zg:=G.fz;have hsz:=G.lt;have hsz':w.heap.size<w1.heap.size:=by omega
 have hne:¬(w1.heap.size=w.heap.size):=by omega
 have lX:¬(w1.heap.size=w.heap.size+1):=by omega
 clear a1 b1 C h hs R G;unfold pU;have H2:=ae h2;go_wp2_with fail;refine (ats b s j d _ _ (sg 42) _ ?_ ?_).mono ?_
 ·exact (by with_reducible repeat (first|exact aa A1|refine At.alloc ?_ _|refine At.drew ?_|(refine At.setNew ?_ ?_ _;rotate_left;exact (by first|omega|(simp;omega)|simp))))
 ·exact aI _ _ _ _ (by simp)
 rintro e w2 ⟨rfl,rfl⟩;rw [h1];go_wp2_with fail;refine (ats b s j d _ _ (sg 35) _ ?_ ?_).mono ?_
 ·exact (by with_reducible repeat (first|exact aa A1|refine At.alloc ?_ _|refine At.drew ?_|(refine At.setNew ?_ ?_ _;rotate_left;exact (by first|omega|(simp;omega)|simp))))
 ·exact aI _ _ _ _ (by simp)
 rintro e w2 ⟨rfl,rfl⟩;rw [h2];clear h1 h2;go_wp2_with fail;refine (steps b s j d _ (aa Hs) ?_ ?_).mono ?_
 ·exact (by with_reducible repeat (first|exact aa A1|refine At.alloc ?_ _|refine At.drew ?_|(refine At.setNew ?_ ?_ _;rotate_left;exact (by first|omega|(simp;omega)|simp))))
 ·exact eQ (aa H2) (by decide)
 rintro e w2 ⟨rfl,a2,b2⟩;have bP:=ae (ag.but (g:=w.heap.size) (T:=207) (by with_reducible repeat (first|exact aa HR|apply ag.alloc|apply ag.drew|apply ag.set|(apply ag.other;case ha=>exact (by first|omega|(simp;omega)|simp)))) b2 (by omega));have wH:=ag.but (g:=w.heap.size+1) (T:=207) (by with_reducible repeat (first|exact aa HG|apply ag.alloc|apply ag.drew|apply ag.set|(apply ag.other;case ha=>exact (by first|omega|(simp;omega)|simp)))) b2 (by omega);have G2:ag w2 (w.heap.size+1) #[.int .i64 (aV s (K s i)),.string (aP s (K s i)),.int .i64 2,.int .i64 0,.string ⟨#[]⟩] 207:=wH;have R2:ag w2 w.heap.size #[.int .i64 0,.string ⟨#[]⟩,.int .i64 0,.int .i64 0,.string ⟨#[]⟩] 207:=aa bP;obtain ⟨p0,p1,p2,p3,p4⟩:=R2.five;obtain ⟨q0,q1,q2,q3,q4⟩:=G2.five;have zp:=R2.fz;have zq:=G2.fz;have tz:=G2.lt;have KV:w.heap.size<w2.heap.size:=by omega
 have HG2:=ae G2;have A2:=ae a2;have B2:=ae (But.trans (x:=w) (by with_reducible repeat (first|exact aa B1|refine But.alloc ?_ _|refine But.drew ?_|(refine But.setNew ?_ ?_ _;rotate_left;exact (by first|omega|(simp;omega)|simp)))) b2);clear a2 b2 R2 G2 wH r0 r1 r2 r3 r4 g0 g1 g2 g3 g4 zr zg hsz hsz' hne lX;go_wp2_with fail;have C:=ae (bf b s (j+1) d w2 (aa Hs) (aa A2));rw [aa Hm] at C;refine (aa C).mono ?_;rintro e w3 ⟨b3,v,rfl,rfl,a3⟩;have gD:=ae (ag.but (aa bP) b3 (by omega));have G3:=ag.but (aa HG2) b3 (by omega);have R3:ag w3 w.heap.size #[.int .i64 0,.string ⟨#[]⟩,.int .i64 0,.int .i64 0,.string ⟨#[]⟩] 207:=aa gD;obtain ⟨p0,p1,p2,p3,p4⟩:=R3.five;obtain ⟨q0,q1,q2,q3,q4⟩:=G3.five;have zp:=R3.fz;have zq:=G3.fz;have tz:=G3.lt;have KV:w.heap.size<w3.heap.size:=by omega
 have A3:=ae a3;have B3:=ae (But.trans (aa B2) b3);clear a3 b3 R3 G3;unfold pU;go_wp2;refine bodyPost_ret (v:=.tuple #[sQ ⟨TT s i,PP s i,2,TT s (j+1),PP s (j+1)⟩,.nilIface]) (aK Tryz.results277 _ _ w.heap.size _ 207 _ _ rfl rfl ?hB Tryz.underlying207 rfl (by kernel_rfl)) rfl ?post
 case hB=>exact ⟨_,(by with_reducible repeat (first|exact aa gD|apply ag.alloc|apply ag.drew|apply ag.set|(apply ag.other;case ha=>exact (by first|omega|(simp;omega)|simp)))),by rfl⟩
 case post=>exact ⟨(by with_reducible repeat (first|exact aa B3|refine But.alloc ?_ _|refine But.drew ?_|(refine But.setNew ?_ ?_ _;rotate_left;exact (by first|omega|(simp;omega)|simp)))),_,rfl,rfl,(by with_reducible repeat (first|exact aa A3|refine At.alloc ?_ _|refine At.drew ?_|(refine At.setNew ?_ ?_ _;rotate_left;exact (by first|omega|(simp;omega)|simp))))⟩
theorem zi (b:Nat) (s:RJ) (i d:Nat) (w:World) (hs:s.size≤maxLen) (h:At w b s i d) (j c m:Nat) (hr:cB (TT s) i=.ok ((),j)) (h1:eqs (TT s j) (sg 42)=false) (h2:eqs (TT s j) (sg 35)=true) (Hm:Hid (cB (TT s) (j+1)=.error (c,m))):
  Calls Tryz.prog 277 #[.pointer (some ⟨b,0,none⟩)] w (Post b s d w (.error (c,m):fw Gr) (fun _ g v=>v=sQ g) Ch):=by
 have hlt:=h.lt;have Hs:=ae hs;have C:=ae (bf b s i d _ hs ((h.alloc (.cells #[.int .i64 0,.string ⟨#[]⟩,.int .i64 0,.int .i64 0,.string ⟨#[]⟩] 207)).alloc (.cells #[.int .i64 0,.string ⟨#[]⟩,.int .i64 0,.int .i64 0,.string ⟨#[]⟩] 207)));rw [hr] at C;clear hr;go_enter Tryz.func277,Tryz.ntmps277;go_wp2_with fail;refine (aa C).mono ?_;rintro e w1 ⟨b1,v,rfl,rfl,a1⟩;have A1:=ae a1;have B1:=ae (((But.refl b w).alloc _).alloc _ |>.trans b1);have R:=((ag.new w #[.int .i64 0,.string ⟨#[]⟩,.int .i64 0,.int .i64 0,.string ⟨#[]⟩] 207).alloc _).but b1 (by omega);have G:=(ag.new (w.alloc (.cells #[.int .i64 0,.string ⟨#[]⟩,.int .i64 0,.int .i64 0,.string ⟨#[]⟩] 207)) #[.int .i64 0,.string ⟨#[]⟩,.int .i64 0,.int .i64 0,.string ⟨#[]⟩] 207).but b1 (by simp;omega);rw [show (w.alloc (.cells #[.int .i64 0,.string ⟨#[]⟩,.int .i64 0,.int .i64 0,.string ⟨#[]⟩] 207)).heap.size=w.heap.size+1 by simp] at G;have HR:=ae R;have HG:=ae G;obtain ⟨r0,r1,r2,r3,r4⟩:=R.five;obtain ⟨g0,g1,g2,g3,g4⟩:=G.five;have zr:=R.fz;have zg:=G.fz;have hsz:=G.lt;have hsz':w.heap.size<w1.heap.size:=by omega
 have hne:¬(w1.heap.size=w.heap.size):=by omega
 have lX:¬(w1.heap.size=w.heap.size+1):=by omega
 clear a1 b1 C h hs R G;unfold pU;have H2:=ae h2;go_wp2_with fail;refine (ats b s j d _ _ (sg 42) _ ?_ ?_).mono ?_
 ·exact (by with_reducible repeat (first|exact aa A1|refine At.alloc ?_ _|refine At.drew ?_|(refine At.setNew ?_ ?_ _;rotate_left;exact (by first|omega|(simp;omega)|simp))))
 ·exact aI _ _ _ _ (by simp)
 rintro e w2 ⟨rfl,rfl⟩;rw [h1];go_wp2_with fail;refine (ats b s j d _ _ (sg 35) _ ?_ ?_).mono ?_
 ·exact (by with_reducible repeat (first|exact aa A1|refine At.alloc ?_ _|refine At.drew ?_|(refine At.setNew ?_ ?_ _;rotate_left;exact (by first|omega|(simp;omega)|simp))))
 ·exact aI _ _ _ _ (by simp)
 rintro e w2 ⟨rfl,rfl⟩;rw [h2];clear h1 h2;go_wp2_with fail;refine (steps b s j d _ (aa Hs) ?_ ?_).mono ?_
 ·exact (by with_reducible repeat (first|exact aa A1|refine At.alloc ?_ _|refine At.drew ?_|(refine At.setNew ?_ ?_ _;rotate_left;exact (by first|omega|(simp;omega)|simp))))
 ·exact eQ (aa H2) (by decide)
 rintro e w2 ⟨rfl,a2,b2⟩;have bP:=ae (ag.but (g:=w.heap.size) (T:=207) (by with_reducible repeat (first|exact aa HR|apply ag.alloc|apply ag.drew|apply ag.set|(apply ag.other;case ha=>exact (by first|omega|(simp;omega)|simp)))) b2 (by omega));have wH:=ag.but (g:=w.heap.size+1) (T:=207) (by with_reducible repeat (first|exact aa HG|apply ag.alloc|apply ag.drew|apply ag.set|(apply ag.other;case ha=>exact (by first|omega|(simp;omega)|simp)))) b2 (by omega);have G2:ag w2 (w.heap.size+1) #[.int .i64 (aV s (K s i)),.string (aP s (K s i)),.int .i64 2,.int .i64 0,.string ⟨#[]⟩] 207:=wH;have R2:ag w2 w.heap.size #[.int .i64 0,.string ⟨#[]⟩,.int .i64 0,.int .i64 0,.string ⟨#[]⟩] 207:=aa bP;obtain ⟨p0,p1,p2,p3,p4⟩:=R2.five;obtain ⟨q0,q1,q2,q3,q4⟩:=G2.five;have zp:=R2.fz;have zq:=G2.fz;have tz:=G2.lt;have KV:w.heap.size<w2.heap.size:=by omega
 have HG2:=ae G2;have A2:=ae a2;have B2:=ae (But.trans (x:=w) (by with_reducible repeat (first|exact aa B1|refine But.alloc ?_ _|refine But.drew ?_|(refine But.setNew ?_ ?_ _;rotate_left;exact (by first|omega|(simp;omega)|simp)))) b2);clear a2 b2 R2 G2 wH r0 r1 r2 r3 r4 g0 g1 g2 g3 g4 zr zg hsz hsz' hne lX;go_wp2_with fail;have C:=ae (bf b s (j+1) d w2 (aa Hs) (aa A2));rw [aa Hm] at C;refine (aa C).mono ?_;rintro e w3 ⟨b3,v,d',rfl,rfl,a3⟩;have gD:=ae (ag.but (aa bP) b3 (by omega));have G3:=ag.but (aa HG2) b3 (by omega);have R3:ag w3 w.heap.size #[.int .i64 0,.string ⟨#[]⟩,.int .i64 0,.int .i64 0,.string ⟨#[]⟩] 207:=aa gD;obtain ⟨p0,p1,p2,p3,p4⟩:=R3.five;obtain ⟨q0,q1,q2,q3,q4⟩:=G3.five;have zp:=R3.fz;have zq:=G3.fz;have tz:=G3.lt;have KV:w.heap.size<w3.heap.size:=by omega
 have A3:=ae a3;have B3:=ae (But.trans (aa B2) b3);clear a3 b3 R3 G3;unfold yR aM;go_wp2;refine bodyPost_ret (v:=.tuple #[sQ ⟨TT s i,PP s i,2,em,0⟩,aM c]) (aK Tryz.results277 _ _ w.heap.size _ 207 _ _ rfl rfl ?hB Tryz.underlying207 rfl (by kernel_rfl)) rfl ?post
 case hB=>exact ⟨_,(by with_reducible repeat (first|exact aa gD|apply ag.alloc|apply ag.drew|apply ag.set|(apply ag.other;case ha=>exact (by first|omega|(simp;omega)|simp)))),by rfl⟩
 case post=>exact ⟨(by with_reducible repeat (first|exact aa B3|refine But.alloc ?_ _|refine But.drew ?_|(refine But.setNew ?_ ?_ _;rotate_left;exact (by first|omega|(simp;omega)|simp)))),_,d',rfl,⟨_,rfl⟩,(by with_reducible repeat (first|exact aa A3|refine At.alloc ?_ _|refine At.drew ?_|(refine At.setNew ?_ ?_ _;rotate_left;exact (by first|omega|(simp;omega)|simp))))⟩
theorem jL (b:Nat) (s:RJ) (i d:Nat) (w:World) (hs:s.size≤maxLen) (h:At w b s i d):
  Calls Tryz.prog 277 #[.pointer (some ⟨b,0,none⟩)] w (Post b s d w (lT (TT s) (PP s) i) (fun _ g v=>v=sQ g) Ch):=by
 unfold lT
 cases hr:cB (TT s) i with
 |error e=>exact Ci b s i d w hs h e.1 e.2 hr
 |ok y=>
  obtain ⟨⟨⟩,j⟩:=y
  cases h1:eqs (TT s j) (sg 42)
  ·cases h2:eqs (TT s j) (sg 35)
   ·simp only [h1,h2];exact wG b s i d w hs h j hr h1 h2
   ·cases hm:cB (TT s) (j+1) with
    |error e=>simp only [h1,h2,hm];exact zi b s i d w hs h j e.1 e.2 hr h1 h2 (ae hm)
    |ok y=>
     obtain ⟨⟨⟩,m⟩:=y;simp only [h1,h2,hm];exact Ck b s i d w hs h j m hr h1 h2 (ae hm)
  ·simp only [h1];exact Cj b s i d w hs h j hr h1
