import Derived.Test.YtlbpnlngckgcbaaGreatDoorM07
import Derived.Deep.RegionLaw
set_option linter.all false
set_option maxHeartbeats 4000000
set_option maxRecDepth 100000
namespace Go.Proofs.YtlbpnlngckgcbaaGreatDoor
open Go.RowKit Go.PlainAid
structure RS (w:World) (b:Nat) (s:aei) (tv:Value) (i d e a:Nat) (kv rv pv:Value):Prop where
 blk:ai w b #[tv,.int .i64 i,.int .i64 d,.int .i64 e,.int .i64 a,kv,rv,pv] 252
 tok:w.ownsRow 0 259 3 tv (jM s).length (aL (jM s))
 gd:Gd s i
 fm:(∃x n c,kv=.slice x n c)∧(∃x n c,rv=.slice x n c)∧(∃x n c,pv=.slice x n c)
 sz:s.size≤500
theorem ai.eight {w:World} {g:Nat} {x0 x1 x2 x3 x4 x5 x6 x7:Value} {T:TypeId} (h:ai w g #[x0,x1,x2,x3,x4,x5,x6,x7] T):w.cell? ⟨g,0,none⟩=some x0∧w.cell? ⟨g,1,none⟩=some x1∧w.cell? ⟨g,2,none⟩=some x2∧w.cell? ⟨g,3,none⟩=some x3∧w.cell? ⟨g,4,none⟩=some x4∧w.cell? ⟨g,5,none⟩=some x5∧w.cell? ⟨g,6,none⟩=some x6∧w.cell? ⟨g,7,none⟩=some x7:=
 ⟨h.cell rfl,h.cell rfl,h.cell rfl,h.cell rfl,h.cell rfl,h.cell rfl,h.cell rfl,h.cell rfl⟩
theorem RS.at {w:World} {b:Nat} {s:aei} {tv:Value} {i d e a:Nat} {kv rv pv:Value} (h:RS w b s tv i d e a kv rv pv):
  ∃g c,tv=.slice (some ⟨g,0,none⟩) (jM s).length c∧i<(jM s).length∧w.cell? ⟨g,i*3,none⟩=some (.string (TT s i))∧w.cell? ⟨g,i*3+1,none⟩=some (.int .i64 (PP s i))∧w.cell? ⟨g,i*3+2,none⟩=some (.bool (aT (TT s i))):=by
 have ht:=KS s i h.gd;obtain ⟨h0,h1,h2⟩:=Pe _ _ _ ht;obtain ⟨g,c,e0,c0⟩:=aK h.tok _ _ h0;obtain ⟨g1,k1,e1,c1⟩:=aK h.tok _ _ h1;obtain ⟨g2,k2,e2,c2⟩:=aK h.tok _ _ h2;rw [e0] at e1 e2;simp only [Value.slice.injEq,Option.some.injEq,Addr.mk.injEq] at e1 e2;obtain ⟨⟨rfl,_⟩,_⟩:=e1;obtain ⟨⟨rfl,_⟩,_⟩:=e2;refine ⟨g,c,e0,?_,?_,c1,c2⟩
 ·exact (List.getElem?_eq_some_iff.1 ht).1
 ·rw [gV] at c0;exact c0
theorem RS.below {w:World} {b:Nat} {s:aei} {tv:Value} {i d e a:Nat} {kv rv pv:Value} {w':World} (h:RS w b s tv i d e a kv rv pv) (k:Below w.heap.size w w'):RS w' b s tv i d e a kv rv pv:=⟨h.blk.below k,ak h.tok (fun g cs f _ hh=>k.block g (lt_of_some hh)),h.gd,h.fm,h.sz⟩
theorem Below.drewN' {w:World} (m:Nat):Below w.heap.size w (w.drewN m):=below_drewN (Below.refl _ _) m
theorem RS.drewN {w:World} {b:Nat} {s:aei} {tv:Value} {i d e a:Nat} {kv rv pv:Value} (h:RS w b s tv i d e a kv rv pv) (m:Nat):RS (w.drewN m) b s tv i d e a kv rv pv:=h.below (Below.drewN' m)
theorem RS.lt {w:World} {b:Nat} {s:aei} {tv:Value} {i d e a:Nat} {kv rv pv:Value} (h:RS w b s tv i d e a kv rv pv):b<w.heap.size:=h.blk.lt
theorem RS.setI {w:World} {b:Nat} {s:aei} {tv:Value} {i d e a:Nat} {kv rv pv:Value} (h:RS w b s tv i d e a kv rv pv) (j:Nat) (hj:Gd s j):RS (w.setCell ⟨b,1,none⟩ (.int .i64 j)) b s tv j d e a kv rv pv:=⟨h.blk.set 1 _,aX h.tok h.blk (by decide) _ _,hj,h.fm,h.sz⟩
theorem RS.setD {w:World} {b:Nat} {s:aei} {tv:Value} {i d e a:Nat} {kv rv pv:Value} (h:RS w b s tv i d e a kv rv pv) (j:Nat):RS (w.setCell ⟨b,2,none⟩ (.int .i64 j)) b s tv i j e a kv rv pv:=⟨h.blk.set 2 _,aX h.tok h.blk (by decide) _ _,h.gd,h.fm,h.sz⟩
theorem RS.setE {w:World} {b:Nat} {s:aei} {tv:Value} {i d e a:Nat} {kv rv pv:Value} (h:RS w b s tv i d e a kv rv pv) (j:Nat):RS (w.setCell ⟨b,3,none⟩ (.int .i64 j)) b s tv i d j a kv rv pv:=⟨h.blk.set 3 _,aX h.tok h.blk (by decide) _ _,h.gd,h.fm,h.sz⟩
theorem RS.setA {w:World} {b:Nat} {s:aei} {tv:Value} {i d e a:Nat} {kv rv pv:Value} (h:RS w b s tv i d e a kv rv pv) (j:Nat):RS (w.setCell ⟨b,4,none⟩ (.int .i64 j)) b s tv i d e j kv rv pv:=⟨h.blk.set 4 _,aX h.tok h.blk (by decide) _ _,h.gd,h.fm,h.sz⟩
theorem RS.but {w w':World} {b:Nat} {s:aei} {tv:Value} {i d e a:Nat} {kv rv pv:Value} (h:RS w b s tv i d e a kv rv pv) (k:But b w w') {i' d' e' a':Nat} (hb:∃x,ai w' b x 252∧x=#[tv,.int .i64 i',.int .i64 d',.int .i64 e',.int .i64 a',kv,rv,pv]) (hg:Gd s i'):RS w' b s tv i' d' e' a' kv rv pv:=by
 obtain ⟨x,hb,rfl⟩:=hb;exact ⟨hb,ak h.tok (fun g cs f _ hh=>k.block g (lt_of_some hh) (fun e=>by
  subst e;have:=h.blk;unfold ai at this;rw [this] at hh;simp at hh)),hg,h.fm,h.sz⟩
theorem Gd.succ {s:aei} {i:Nat} (h:Gd s i) (ht:0<(TT s i).size):Gd s (i+1):=fun j hj=>by
 by_cases e:j=i
 ·subst e;exact ht
 ·exact h j (by omega)
theorem Gd.le {s:aei} {i:Nat} (h:Gd s i):i≤s.size:=by
 have:=(List.getElem?_eq_some_iff.1 (KS s i h)).1;have:=yh s;omega
theorem Px (b:Nat) (s:aei) (tv:Value) (i d a:Nat) (kv rv pv:Value) (x:aei) (w:World) (h:RS w b s tv i d 0 a kv rv pv):
  Calls Tryz.prog 187 #[.pointer (some ⟨b,0,none⟩),.string x] w fun e w'=>e=.returned (.bool (eqs (TT s i) x))∧∃m,w'=w.drewN m:=by
 rw [show eqs (TT s i) x=((TT s i).toList==x.toList) by unfold eqs;rw [aF,aF]];obtain ⟨g,c,rfl,hi,t0,t1,t2⟩:=h.at;obtain ⟨r0,r1,r2,r3,r4,_⟩:=h.blk.eight;have hn:=yh s;have hz:=h.sz;clear h;go_enter Tryz.func187,Tryz.ntmps187;go_wp2
 go_quiet (fail)
 go_wp2;go_ret;exact ⟨rfl,_,rfl⟩
theorem Py (b:Nat) (s:aei) (tv:Value) (i d e0 a:Nat) (kv rv pv:Value) (x:aei) (w:World) (h:RS w b s tv i d e0 a kv rv pv) (he:e0≠0):
  Calls Tryz.prog 187 #[.pointer (some ⟨b,0,none⟩),.string x] w fun e w'=>e=.returned (.bool false)∧∃m,w'=w.drewN m:=by
 obtain ⟨g,c,rfl,hi,t0,t1,t2⟩:=h.at;obtain ⟨r0,r1,r2,r3,r4,_⟩:=h.blk.eight;have he':¬((e0:Int)=0):=by omega
 clear h;go_enter Tryz.func187,Tryz.ntmps187;go_wp2
 go_quiet (fail)
 go_wp2;go_ret;exact ⟨rfl,_,rfl⟩
theorem oG (b:Nat) (s:aei) (tv:Value) (i d a:Nat) (kv rv pv:Value) (c0:Nat) (w:World) (h:RS w b s tv i d 0 a kv rv pv):
  Calls Tryz.prog 189 #[.pointer (some ⟨b,0,none⟩),.int .i64 c0] w fun e w'=>e=.returned (.tuple #[])∧But b w w'∧RS w' b s tv i d c0 (PP s i) kv rv pv:=by
 have H:=af h;obtain ⟨g,c,e0,hi,t0,t1,t2⟩:=h.at;obtain ⟨r0,r1,r2,r3,r4,_⟩:=h.blk.eight;have hz:=h.blk.fz;have hn:=yh s;have hs:=h.sz;have hgb:¬(g=b):=fun e=>by
  have:=own_ne h.tok h.blk (by decide);rw [e0,e] at this;exact this rfl
 have hbg:¬(b=g):=fun e=>hgb e.symm
 rw [e0] at r0;clear h e0;go_enter Tryz.func189,Tryz.ntmps189;go_wp2
 go_region
 go_wp2;go_end0;exact ⟨rfl,(((But.refl b w).setCell 3 _).setCell 4 _).drew,((ae H).setE c0 |>.setA (PP s i)).drewN 1⟩
theorem yP (b:Nat) (s:aei) (tv:Value) (i d a:Nat) (kv rv pv:Value) (x:aei) (w:World) (h:RS w b s tv i d 0 a kv rv pv) (he:eqs (TT s i) x=true) (hx:0<(bi x).length):
  Calls Tryz.prog 188 #[.pointer (some ⟨b,0,none⟩),.string x] w fun e w'=>e=.returned (.tuple #[])∧But b w w'∧RS w' b s tv (i+1) d 0 a kv rv pv:=by
 have H:=af h;obtain ⟨r0,r1,r2,r3,r4,_⟩:=h.blk.eight;have hz:=h.blk.fz;have hlt:=h.lt;have hg:=h.gd.succ (bZ he hx);have hle:=h.gd.le;have hs:=h.sz;have C:=af (Px b s tv i d a kv rv pv x w h);rw [he] at C;clear h he hx;go_enter Tryz.func188,Tryz.ntmps188;go_wp2_with fail;refine (ae C).mono ?_;rintro e w' ⟨rfl,m,rfl⟩;go_wp2;go_end0;exact ⟨rfl,(But.of_below (Below.drewN' m)).setCell 1 _,(ae H).drewN m |>.setI (i+1) hg⟩
theorem Dw (b:Nat) (s:aei) (tv:Value) (i d a:Nat) (kv rv pv:Value) (x:aei) (w:World) (h:RS w b s tv i d 0 a kv rv pv) (he:eqs (TT s i) x=false):
  Calls Tryz.prog 188 #[.pointer (some ⟨b,0,none⟩),.string x] w fun e w'=>e=.returned (.tuple #[])∧But b w w'∧RS w' b s tv i d 2 (PP s i) kv rv pv:=by
 have H:=af h;obtain ⟨r0,r1,r2,r3,r4,_⟩:=h.blk.eight;have hz:=h.blk.fz;have hlt:=h.lt;have C:=af (Px b s tv i d a kv rv pv x w h);rw [he] at C;clear h he;go_enter Tryz.func188,Tryz.ntmps188;go_wp2_with fail;refine (ae C).mono ?_;rintro e w' ⟨rfl,m,rfl⟩;have C2:=af (oG b s tv i d a kv rv pv 2 _ ((ae H).drewN m));go_wp2_with fail;refine (ae C2).mono ?_;rintro e w2 ⟨rfl,b2,k2⟩;have B2:=af ((But.of_below (b:=b) (Below.drewN' m)).trans b2);have K2:=af k2;clear b2 k2 C2 C;go_wp2;go_end0;exact ⟨rfl,ae B2,ae K2⟩
theorem Pz (b:Nat) (s:aei) (tv:Value) (i d e0 a:Nat) (kv rv pv:Value) (c0:Int) (w:World) (h:RS w b s tv i d e0 a kv rv pv) (he:e0≠0):
  Calls Tryz.prog 189 #[.pointer (some ⟨b,0,none⟩),.int .i64 c0] w fun e w'=>e=.returned (.tuple #[])∧∃m,w'=w.drewN m:=by
 have H:=af h;obtain ⟨r0,r1,r2,r3,r4,_⟩:=h.blk.eight;have hz:=h.blk.fz;have hlt:=h.lt;have he':¬((e0:Int)=0):=by omega
 have sV:((e0:Int)==0)=false:=beq_eq_false_iff_ne.2 he';clear h;go_enter Tryz.func189,Tryz.ntmps189;go_wp2;go_end0;exact ⟨rfl,0,rfl⟩
theorem yQ (b:Nat) (s:aei) (tv:Value) (i d e0 a:Nat) (kv rv pv:Value) (x:aei) (w:World) (h:RS w b s tv i d e0 a kv rv pv) (he:e0≠0):
  Calls Tryz.prog 188 #[.pointer (some ⟨b,0,none⟩),.string x] w fun e w'=>e=.returned (.tuple #[])∧Below w.heap.size w w':=by
 have H:=af h;have C:=af (Py b s tv i d e0 a kv rv pv x w h he);clear h;go_enter Tryz.func188,Tryz.ntmps188;go_wp2_with fail;refine (ae C).mono ?_;rintro e w' ⟨rfl,m,rfl⟩;have C2:=af (Pz b s tv i d e0 a kv rv pv 2 _ ((ae H).drewN m) he);go_wp2_with fail;refine (ae C2).mono ?_;rintro e w2 ⟨rfl,m2,rfl⟩;go_wp2;go_end0;exact ⟨rfl,Below.drewN' _⟩
theorem kU {P:Program} {fn:Func} {p:Tmp} {ty:TypeId} (h:fn.results=#[.cell p ty]) (tmps:Array Value) (w:World) (g:Nat) (cs:Array Value) (t:TypeId) (d:TypeDesc)
  (hp:tmps.getD p undef=.pointer (some ⟨g,0,none⟩)) (hb:∃x,ai w g x t∧x=cs)
  (hu:P.underlying ty=some d) (hd:(match d with| .struct _| .array _ _=>true|_=>false)=true) (hi:(P.info? ty).map (·.size)=some cs.size):
  (results fn tmps).run P w=.ok (.agg cs) w:=by
 obtain ⟨x,hb,rfl⟩:=hb;exact results_cell_row h tmps w g t x (0,0) d hp hb hu hd hi
def qb (s:aei) (i:Nat):Value:=.agg #[.string (TT s i),.int .i64 (PP s i),.bool (aT (TT s i))]
theorem oH (t:aei):dh t=(aT t&& !(t.toList== [116,121,112,101])):=by
 rw [aF];unfold dh aT
 cases bi t with
 |nil=>rfl
 |cons c r=>rfl
theorem iX (b:Nat) (s:aei) (tv:Value) (i d a:Nat) (kv rv pv:Value) (w:World) (h:RS w b s tv i d 0 a kv rv pv) (hn:dh (TT s i)=true) (hl:(TT s i).size≤8):
  Calls Tryz.prog 228 #[.pointer (some ⟨b,0,none⟩),.bool true] w fun e w'=>e=.returned (qb s i)∧But b w w'∧RS w' b s tv (i+1) d 0 a kv rv pv:=by
 have hg:=h.gd.succ (EK hn);rw [oH,Bool.and_eq_true] at hn;obtain ⟨n1,n2⟩:=hn;have n3:((TT s i).toList== [116,121,112,101])=false:=by simpa using n2
 have hl':¬((8:Int)<((TT s i).size:Int)):=by omega
 clear n2 hl;have H0:=af h;have hle:=h.gd.le;have hs:=h.sz;have hlt:=h.lt;have H:=af (h.below ((Below.refl _ _).alloc aeg (.cells #[.string ⟨#[]⟩,.int .i64 0,.bool false] 259)));have RB:=af (ai.new w #[.string ⟨#[]⟩,.int .i64 0,.bool false] 259);have B1:=af (But.of_below (b:=b) ((Below.refl _ w).alloc aeg (.cells #[.string ⟨#[]⟩,.int .i64 0,.bool false] 259)));clear h;go_enter Tryz.func228,Tryz.ntmps228;go_wp2_with fail;generalize w.alloc (.cells #[.string ⟨#[]⟩,.int .i64 0,.bool false] 259)=W at*;obtain ⟨g,c,e0,hi,t0,t1,t2⟩:=(ae H).at;obtain ⟨r0,r1,r2,r3,r4,_⟩:=(ae H).blk.eight;obtain ⟨q0,q1,q2⟩:=(ae RB).three;have uO:=af (ae H).blk;have zb:=(ae H).blk.fz;have zq:=(ae RB).fz;have bF:=(ae H).lt;have hqw:=(ae RB).lt;rw [e0] at r0;have E0:=af e0;clear e0;have gl:=bU t0;have BW:=af (Below.refl W.heap.size W);have m0:=World.new_ne W _ r0;have m1:=World.new_ne W _ r1;have m2:=World.new_ne W _ t0;have hne:¬(w.heap.size=b):=by omega
 have fT:¬(b=w.heap.size):=by omega
 go_region_held3 (fun w'=>w'.cell? ⟨b,0,none⟩=some (.slice (some ⟨g,0,none⟩) (jM s).length c)∧w'.cell? ⟨b,1,none⟩=some (.int .i64 i)∧w'.cell? ⟨g,i*3,none⟩=some (.string (TT s i))∧w'.cell? ⟨g,i*3+1,none⟩=some (.int .i64 (PP s i))∧w'.cell? ⟨g,i*3+2,none⟩=some (.bool (aT (TT s i)))) (go_keep) (fail)
 rename_i hh;clear hh;go_wp2;refine bodyPost_ret (v:=qb s i) (kU Tryz.results228 _ _ w.heap.size _ 259 _ rfl ?hB Tryz.underlying259 rfl (by kernel_rfl)) rfl ⟨rfl,?but,RS.but (i':=i+1) (d':=d) (e':=0) (a':=a) (ae H0) ?Dx ?hb2 hg⟩
 case hB=>exact ⟨_,(by with_reducible repeat (first|exact ae RB|apply ai.alloc|apply ai.drew|apply ai.set|(apply ai.other;case ha=>exact (by first|omega|(simp;omega)|simp)))),by rw [n1];rfl⟩
 case but=>exact (by with_reducible repeat (first|exact ae B1|refine But.alloc ?_ _|refine But.drew ?_|refine But.setCell ?_ _ _|(refine But.setNew ?_ ?_ _;rotate_left;exact (by first|omega|(simp;omega)|simp))))
 case Dx=>exact (by with_reducible repeat (first|exact ae B1|refine But.alloc ?_ _|refine But.drew ?_|refine But.setCell ?_ _ _|(refine But.setNew ?_ ?_ _;rotate_left;exact (by first|omega|(simp;omega)|simp))))
 case hb2=>exact ⟨_,(by with_reducible repeat (first|exact ae uO|apply ai.alloc|apply ai.drew|apply ai.set|(apply ai.other;case ha=>exact (by first|omega|(simp;omega)|simp)))),by rfl⟩
theorem MI (b:Nat) (s:aei) (tv:Value) (i d a:Nat) (kv rv pv:Value) (rm:Bool) (w:World) (h:RS w b s tv i d 0 a kv rv pv) (n1:aT (TT s i)=false):
  Calls Tryz.prog 228 #[.pointer (some ⟨b,0,none⟩),.bool rm] w fun e w'=>e=.returned (qb s i)∧But b w w'∧RS w' b s tv i d 2 (PP s i) kv rv pv:=by
 have HG:=af h.gd;have H0:=af h;have hle:=h.gd.le;have hs:=h.sz;have hlt:=h.lt;have H:=af (h.below ((Below.refl _ _).alloc aeg (.cells #[.string ⟨#[]⟩,.int .i64 0,.bool false] 259)));have RB:=af (ai.new w #[.string ⟨#[]⟩,.int .i64 0,.bool false] 259);have B1:=af (But.of_below (b:=b) ((Below.refl _ w).alloc aeg (.cells #[.string ⟨#[]⟩,.int .i64 0,.bool false] 259)));clear h;go_enter Tryz.func228,Tryz.ntmps228;go_wp2_with fail;generalize w.alloc (.cells #[.string ⟨#[]⟩,.int .i64 0,.bool false] 259)=W at*;obtain ⟨g,c,e0,hi,t0,t1,t2⟩:=(ae H).at;obtain ⟨r0,r1,r2,r3,r4,_⟩:=(ae H).blk.eight;obtain ⟨q0,q1,q2⟩:=(ae RB).three;have uO:=af (ae H).blk;have zb:=(ae H).blk.fz;have zq:=(ae RB).fz;have bF:=(ae H).lt;have hqw:=(ae RB).lt;rw [e0] at r0;have E0:=af e0;clear e0;have gl:=bU t0;have BW:=af (Below.refl W.heap.size W);have m0:=World.new_ne W _ r0;have m1:=World.new_ne W _ r1;have m2:=World.new_ne W _ t0;have hne:¬(w.heap.size=b):=by omega
 have fT:¬(b=w.heap.size):=by omega
 go_region_held3 (fun w'=>w'.cell? ⟨b,0,none⟩=some (.slice (some ⟨g,0,none⟩) (jM s).length c)∧w'.cell? ⟨b,1,none⟩=some (.int .i64 i)∧w'.cell? ⟨g,i*3,none⟩=some (.string (TT s i))∧w'.cell? ⟨g,i*3+1,none⟩=some (.int .i64 (PP s i))∧w'.cell? ⟨g,i*3+2,none⟩=some (.bool (aT (TT s i)))) (go_keep) (fail)
 rename_i hh;clear hh;go_wp2_with fail;refine (oG b s tv i d a kv rv pv 2 _ ?rs).mono ?_
 case rs=>exact (ae H).below (by with_reducible repeat (first|exact ae BW|refine Below.drew ?_|(refine Below.setCell ?_ ?_ _;rotate_left;exact (by first|omega|(simp;omega)|simp))|(refine Below.alloc ?_ ?_ _;rotate_left;exact (by first|omega|(simp;omega)|simp))))
 rintro e w2 ⟨rfl,b2,k2⟩;have Jk:¬(W.heap.size=b):=by omega
 have xL:=af (ai.but ((by with_reducible repeat (first|exact ae RB|apply ai.alloc|apply ai.drew|apply ai.set|(apply ai.other;case ha=>exact (by first|omega|(simp;omega)|simp))))) b2 hne);have PD:=af (ai.but (ai.new W #[.string (TT s i),.int .i64 (PP s i),.bool false] 259).drew b2 Jk);have B2:=af ((show But b w _ from (by with_reducible repeat (first|exact ae B1|refine But.alloc ?_ _|refine But.drew ?_|(refine But.setNew ?_ ?_ _;rotate_left;exact (by first|omega|(simp;omega)|simp))))).trans b2);have K2:=af k2;obtain ⟨p0,p1,p2⟩:=(ae xL).three;obtain ⟨u0,u1,u2⟩:=(ae PD).three;have zp:=(ae xL).fz;have lp:=(ae PD).lt;have lq:=(ae xL).lt;clear b2 k2 r0 r1 r2 r3 r4 t0 t1 t2 q0 q1 q2 m0 m1 m2 zb zq;go_wp2;refine bodyPost_ret (v:=qb s i) (kU Tryz.results228 _ _ w.heap.size _ 259 _ rfl ?hB Tryz.underlying259 rfl (by kernel_rfl)) rfl ⟨rfl,?but,RS.but (i':=i) (d':=d) (e':=2) (a':=PP s i) (ae H0) ?Dx ?hb2 (ae HG)⟩
 case hB=>exact ⟨_,(by with_reducible repeat (first|exact ae xL|apply ai.alloc|apply ai.drew|apply ai.set|(apply ai.other;case ha=>exact (by first|omega|(simp;omega)|simp)))),by rw [n1];rfl⟩
 case but=>exact (by with_reducible repeat (first|exact ae B2|refine But.alloc ?_ _|refine But.drew ?_|refine But.setCell ?_ _ _|(refine But.setNew ?_ ?_ _;rotate_left;exact (by first|omega|(simp;omega)|simp))))
 case Dx=>exact (by with_reducible repeat (first|exact ae B2|refine But.alloc ?_ _|refine But.drew ?_|refine But.setCell ?_ _ _|(refine But.setNew ?_ ?_ _;rotate_left;exact (by first|omega|(simp;omega)|simp))))
 case hb2=>exact ⟨_,((((ae K2).blk).other fT _).other fT _).other fT _,by rfl⟩
theorem Jl (b:Nat) (s:aei) (tv:Value) (i d a:Nat) (kv rv pv:Value) (rm:Bool) (w:World) (h:RS w b s tv i d 0 a kv rv pv) (n1:aT (TT s i)=true) (n3:((TT s i).toList== [116,121,112,101])=true):
  Calls Tryz.prog 228 #[.pointer (some ⟨b,0,none⟩),.bool rm] w fun e w'=>e=.returned (qb s i)∧But b w w'∧RS w' b s tv i d 2 (PP s i) kv rv pv:=by
 have HG:=af h.gd;have H0:=af h;have hle:=h.gd.le;have hs:=h.sz;have hlt:=h.lt;have H:=af (h.below ((Below.refl _ _).alloc aeg (.cells #[.string ⟨#[]⟩,.int .i64 0,.bool false] 259)));have RB:=af (ai.new w #[.string ⟨#[]⟩,.int .i64 0,.bool false] 259);have B1:=af (But.of_below (b:=b) ((Below.refl _ w).alloc aeg (.cells #[.string ⟨#[]⟩,.int .i64 0,.bool false] 259)));clear h;go_enter Tryz.func228,Tryz.ntmps228;go_wp2_with fail;generalize w.alloc (.cells #[.string ⟨#[]⟩,.int .i64 0,.bool false] 259)=W at*;obtain ⟨g,c,e0,hi,t0,t1,t2⟩:=(ae H).at;obtain ⟨r0,r1,r2,r3,r4,_⟩:=(ae H).blk.eight;obtain ⟨q0,q1,q2⟩:=(ae RB).three;have uO:=af (ae H).blk;have zb:=(ae H).blk.fz;have zq:=(ae RB).fz;have bF:=(ae H).lt;have hqw:=(ae RB).lt;rw [e0] at r0;have E0:=af e0;clear e0;have gl:=bU t0;have BW:=af (Below.refl W.heap.size W);have m0:=World.new_ne W _ r0;have m1:=World.new_ne W _ r1;have m2:=World.new_ne W _ t0;have hne:¬(w.heap.size=b):=by omega
 have fT:¬(b=w.heap.size):=by omega
 go_region_held3 (fun w'=>w'.cell? ⟨b,0,none⟩=some (.slice (some ⟨g,0,none⟩) (jM s).length c)∧w'.cell? ⟨b,1,none⟩=some (.int .i64 i)∧w'.cell? ⟨g,i*3,none⟩=some (.string (TT s i))∧w'.cell? ⟨g,i*3+1,none⟩=some (.int .i64 (PP s i))∧w'.cell? ⟨g,i*3+2,none⟩=some (.bool (aT (TT s i)))) (go_keep) (fail)
 rename_i hh;clear hh;go_wp2_with fail;refine (oG b s tv i d a kv rv pv 2 _ ?rs).mono ?_
 case rs=>exact (ae H).below (by with_reducible repeat (first|exact ae BW|refine Below.drew ?_|(refine Below.setCell ?_ ?_ _;rotate_left;exact (by first|omega|(simp;omega)|simp))|(refine Below.alloc ?_ ?_ _;rotate_left;exact (by first|omega|(simp;omega)|simp))))
 rintro e w2 ⟨rfl,b2,k2⟩;have Jk:¬(W.heap.size=b):=by omega
 have xL:=af (ai.but ((by with_reducible repeat (first|exact ae RB|apply ai.alloc|apply ai.drew|apply ai.set|(apply ai.other;case ha=>exact (by first|omega|(simp;omega)|simp))))) b2 hne);have PD:=af (ai.but (ai.new W #[.string (TT s i),.int .i64 (PP s i),.bool true] 259).drew b2 Jk);have B2:=af ((show But b w _ from (by with_reducible repeat (first|exact ae B1|refine But.alloc ?_ _|refine But.drew ?_|(refine But.setNew ?_ ?_ _;rotate_left;exact (by first|omega|(simp;omega)|simp))))).trans b2);have K2:=af k2;obtain ⟨p0,p1,p2⟩:=(ae xL).three;obtain ⟨u0,u1,u2⟩:=(ae PD).three;have zp:=(ae xL).fz;have lp:=(ae PD).lt;have lq:=(ae xL).lt;clear b2 k2 r0 r1 r2 r3 r4 t0 t1 t2 q0 q1 q2 m0 m1 m2 zb zq;go_wp2;refine bodyPost_ret (v:=qb s i) (kU Tryz.results228 _ _ w.heap.size _ 259 _ rfl ?hB Tryz.underlying259 rfl (by kernel_rfl)) rfl ⟨rfl,?but,RS.but (i':=i) (d':=d) (e':=2) (a':=PP s i) (ae H0) ?Dx ?hb2 (ae HG)⟩
 case hB=>exact ⟨_,(by with_reducible repeat (first|exact ae xL|apply ai.alloc|apply ai.drew|apply ai.set|(apply ai.other;case ha=>exact (by first|omega|(simp;omega)|simp)))),by rw [n1];rfl⟩
 case but=>exact (by with_reducible repeat (first|exact ae B2|refine But.alloc ?_ _|refine But.drew ?_|refine But.setCell ?_ _ _|(refine But.setNew ?_ ?_ _;rotate_left;exact (by first|omega|(simp;omega)|simp))))
 case Dx=>exact (by with_reducible repeat (first|exact ae B2|refine But.alloc ?_ _|refine But.drew ?_|refine But.setCell ?_ _ _|(refine But.setNew ?_ ?_ _;rotate_left;exact (by first|omega|(simp;omega)|simp))))
 case hb2=>exact ⟨_,((((ae K2).blk).other fT _).other fT _).other fT _,by rfl⟩
theorem jq (b:Nat) (s:aei) (tv:Value) (i d a:Nat) (kv rv pv:Value) (rm:Bool) (w:World) (h:RS w b s tv i d 0 a kv rv pv) (hn:dh (TT s i)=false):
  Calls Tryz.prog 228 #[.pointer (some ⟨b,0,none⟩),.bool rm] w fun e w'=>e=.returned (qb s i)∧But b w w'∧RS w' b s tv i d 2 (PP s i) kv rv pv:=by
 rw [oH] at hn
 cases h1:aT (TT s i)
 ·exact MI b s tv i d a kv rv pv rm w h h1
 ·rw [h1] at hn;exact Jl b s tv i d a kv rv pv rm w h h1 (by simpa using hn)
theorem kG (b:Nat) (s:aei) (tv:Value) (i d a:Nat) (kv rv pv:Value) (rm:Bool) (w:World) (h:RS w b s tv i d 0 a kv rv pv) (hn:dh (TT s i)=true) (hl:8<(TT s i).size):
  Calls Tryz.prog 228 #[.pointer (some ⟨b,0,none⟩),.bool rm] w fun e w'=>e=.returned (qb s i)∧But b w w'∧RS w' b s tv i d 3 (PP s i) kv rv pv:=by
 have HG:=af h.gd;rw [oH,Bool.and_eq_true] at hn;obtain ⟨n1,n2⟩:=hn;have n3:((TT s i).toList== [116,121,112,101])=false:=by simpa using n2
 clear n2;have hl':(8:Int)<((TT s i).size:Int):=by omega
 have hdl:decide ((8:Int)<((TT s i).size:Int))=true:=by simpa using hl'
 have H0:=af h;have hle:=h.gd.le;have hs:=h.sz;have hlt:=h.lt;have H:=af (h.below ((Below.refl _ _).alloc aeg (.cells #[.string ⟨#[]⟩,.int .i64 0,.bool false] 259)));have RB:=af (ai.new w #[.string ⟨#[]⟩,.int .i64 0,.bool false] 259);have B1:=af (But.of_below (b:=b) ((Below.refl _ w).alloc aeg (.cells #[.string ⟨#[]⟩,.int .i64 0,.bool false] 259)));clear h;go_enter Tryz.func228,Tryz.ntmps228;go_wp2_with fail;generalize w.alloc (.cells #[.string ⟨#[]⟩,.int .i64 0,.bool false] 259)=W at*;obtain ⟨g,c,e0,hi,t0,t1,t2⟩:=(ae H).at;obtain ⟨r0,r1,r2,r3,r4,_⟩:=(ae H).blk.eight;obtain ⟨q0,q1,q2⟩:=(ae RB).three;have uO:=af (ae H).blk;have zb:=(ae H).blk.fz;have zq:=(ae RB).fz;have bF:=(ae H).lt;have hqw:=(ae RB).lt;rw [e0] at r0;have E0:=af e0;clear e0;have gl:=bU t0;have BW:=af (Below.refl W.heap.size W);have m0:=World.new_ne W _ r0;have m1:=World.new_ne W _ r1;have m2:=World.new_ne W _ t0;have hne:¬(w.heap.size=b):=by omega
 have fT:¬(b=w.heap.size):=by omega
 go_region_held3 (fun w'=>w'.cell? ⟨b,0,none⟩=some (.slice (some ⟨g,0,none⟩) (jM s).length c)∧w'.cell? ⟨b,1,none⟩=some (.int .i64 i)∧w'.cell? ⟨g,i*3,none⟩=some (.string (TT s i))∧w'.cell? ⟨g,i*3+1,none⟩=some (.int .i64 (PP s i))∧w'.cell? ⟨g,i*3+2,none⟩=some (.bool (aT (TT s i)))) (go_keep) (fail)
 rename_i hh;clear hh;go_wp2_with fail;refine (oG b s tv i d a kv rv pv 3 _ ?rs).mono ?_
 case rs=>exact (ae H).below (by with_reducible repeat (first|exact ae BW|refine Below.drew ?_|(refine Below.setCell ?_ ?_ _;rotate_left;exact (by first|omega|(simp;omega)|simp))|(refine Below.alloc ?_ ?_ _;rotate_left;exact (by first|omega|(simp;omega)|simp))))
 rintro e w2 ⟨rfl,b2,k2⟩;have Jk:¬(W.heap.size=b):=by omega
 have xL:=af (ai.but ((by with_reducible repeat (first|exact ae RB|apply ai.alloc|apply ai.drew|apply ai.set|(apply ai.other;case ha=>exact (by first|omega|(simp;omega)|simp))))) b2 hne);have PD:=af (ai.but (ai.new W #[.string (TT s i),.int .i64 (PP s i),.bool true] 259).drew b2 Jk);have B2:=af ((show But b w _ from (by with_reducible repeat (first|exact ae B1|refine But.alloc ?_ _|refine But.drew ?_|(refine But.setNew ?_ ?_ _;rotate_left;exact (by first|omega|(simp;omega)|simp))))).trans b2);have K2:=af k2;obtain ⟨p0,p1,p2⟩:=(ae xL).three;obtain ⟨u0,u1,u2⟩:=(ae PD).three;have zp:=(ae xL).fz;have lp:=(ae PD).lt;have lq:=(ae xL).lt;clear b2 k2 r0 r1 r2 r3 r4 t0 t1 t2 q0 q1 q2 m0 m1 m2 zb zq;go_wp2;refine bodyPost_ret (v:=qb s i) (kU Tryz.results228 _ _ w.heap.size _ 259 _ rfl ?hB Tryz.underlying259 rfl (by kernel_rfl)) rfl ⟨rfl,?but,RS.but (i':=i) (d':=d) (e':=3) (a':=PP s i) (ae H0) ?Dx ?hb2 (ae HG)⟩
 case hB=>exact ⟨_,(by with_reducible repeat (first|exact ae xL|apply ai.alloc|apply ai.drew|apply ai.set|(apply ai.other;case ha=>exact (by first|omega|(simp;omega)|simp)))),by rw [n1];rfl⟩
 case but=>exact (by with_reducible repeat (first|exact ae B2|refine But.alloc ?_ _|refine But.drew ?_|refine But.setCell ?_ _ _|(refine But.setNew ?_ ?_ _;rotate_left;exact (by first|omega|(simp;omega)|simp))))
 case Dx=>exact (by with_reducible repeat (first|exact ae B2|refine But.alloc ?_ _|refine But.drew ?_|refine But.setCell ?_ _ _|(refine But.setNew ?_ ?_ _;rotate_left;exact (by first|omega|(simp;omega)|simp))))
 case hb2=>exact ⟨_,((((ae K2).blk).other fT _).other fT _).other fT _,by rfl⟩
theorem Jm (b:Nat) (s:aei) (tv:Value) (i d a:Nat) (kv rv pv:Value) (rm:Bool) (w:World) (h:RS w b s tv i d 0 a kv rv pv) (hn:dh (TT s i)=true) (hl:(TT s i).size≤8) (hr:rm=false):
  Calls Tryz.prog 228 #[.pointer (some ⟨b,0,none⟩),.bool rm] w fun e w'=>e=.returned (qb s i)∧But b w w'∧RS w' b s tv i d 3 (PP s i) kv rv pv:=by
 have HG:=af h.gd;rw [oH,Bool.and_eq_true] at hn;obtain ⟨n1,n2⟩:=hn;have n3:((TT s i).toList== [116,121,112,101])=false:=by simpa using n2
 clear n2;have hl':¬((8:Int)<((TT s i).size:Int)):=by omega
 subst hr;have H0:=af h;have hle:=h.gd.le;have hs:=h.sz;have hlt:=h.lt;have H:=af (h.below ((Below.refl _ _).alloc aeg (.cells #[.string ⟨#[]⟩,.int .i64 0,.bool false] 259)));have RB:=af (ai.new w #[.string ⟨#[]⟩,.int .i64 0,.bool false] 259);have B1:=af (But.of_below (b:=b) ((Below.refl _ w).alloc aeg (.cells #[.string ⟨#[]⟩,.int .i64 0,.bool false] 259)));clear h;go_enter Tryz.func228,Tryz.ntmps228;go_wp2_with fail;generalize w.alloc (.cells #[.string ⟨#[]⟩,.int .i64 0,.bool false] 259)=W at*;obtain ⟨g,c,e0,hi,t0,t1,t2⟩:=(ae H).at;obtain ⟨r0,r1,r2,r3,r4,_⟩:=(ae H).blk.eight;obtain ⟨q0,q1,q2⟩:=(ae RB).three;have uO:=af (ae H).blk;have zb:=(ae H).blk.fz;have zq:=(ae RB).fz;have bF:=(ae H).lt;have hqw:=(ae RB).lt;rw [e0] at r0;have E0:=af e0;clear e0;have gl:=bU t0;have BW:=af (Below.refl W.heap.size W);have m0:=World.new_ne W _ r0;have m1:=World.new_ne W _ r1;have m2:=World.new_ne W _ t0;have hne:¬(w.heap.size=b):=by omega
 have fT:¬(b=w.heap.size):=by omega
 go_region_held3 (fun w'=>w'.cell? ⟨b,0,none⟩=some (.slice (some ⟨g,0,none⟩) (jM s).length c)∧w'.cell? ⟨b,1,none⟩=some (.int .i64 i)∧w'.cell? ⟨g,i*3,none⟩=some (.string (TT s i))∧w'.cell? ⟨g,i*3+1,none⟩=some (.int .i64 (PP s i))∧w'.cell? ⟨g,i*3+2,none⟩=some (.bool (aT (TT s i)))) (go_keep) (fail)
 rename_i hh;clear hh;go_wp2_with fail;refine (oG b s tv i d a kv rv pv 3 _ ?rs).mono ?_
 case rs=>exact (ae H).below (by with_reducible repeat (first|exact ae BW|refine Below.drew ?_|(refine Below.setCell ?_ ?_ _;rotate_left;exact (by first|omega|(simp;omega)|simp))|(refine Below.alloc ?_ ?_ _;rotate_left;exact (by first|omega|(simp;omega)|simp))))
 rintro e w2 ⟨rfl,b2,k2⟩;have Jk:¬(W.heap.size=b):=by omega
 have xL:=af (ai.but ((by with_reducible repeat (first|exact ae RB|apply ai.alloc|apply ai.drew|apply ai.set|(apply ai.other;case ha=>exact (by first|omega|(simp;omega)|simp))))) b2 hne);have PD:=af (ai.but (ai.new W #[.string (TT s i),.int .i64 (PP s i),.bool true] 259).drew b2 Jk);have B2:=af ((show But b w _ from (by with_reducible repeat (first|exact ae B1|refine But.alloc ?_ _|refine But.drew ?_|(refine But.setNew ?_ ?_ _;rotate_left;exact (by first|omega|(simp;omega)|simp))))).trans b2);have K2:=af k2;obtain ⟨p0,p1,p2⟩:=(ae xL).three;obtain ⟨u0,u1,u2⟩:=(ae PD).three;have zp:=(ae xL).fz;have lp:=(ae PD).lt;have lq:=(ae xL).lt;clear b2 k2 r0 r1 r2 r3 r4 t0 t1 t2 q0 q1 q2 m0 m1 m2 zb zq;go_wp2;refine bodyPost_ret (v:=qb s i) (kU Tryz.results228 _ _ w.heap.size _ 259 _ rfl ?hB Tryz.underlying259 rfl (by kernel_rfl)) rfl ⟨rfl,?but,RS.but (i':=i) (d':=d) (e':=3) (a':=PP s i) (ae H0) ?Dx ?hb2 (ae HG)⟩
 case hB=>exact ⟨_,(by with_reducible repeat (first|exact ae xL|apply ai.alloc|apply ai.drew|apply ai.set|(apply ai.other;case ha=>exact (by first|omega|(simp;omega)|simp)))),by rw [n1];rfl⟩
 case but=>exact (by with_reducible repeat (first|exact ae B2|refine But.alloc ?_ _|refine But.drew ?_|refine But.setCell ?_ _ _|(refine But.setNew ?_ ?_ _;rotate_left;exact (by first|omega|(simp;omega)|simp))))
 case Dx=>exact (by with_reducible repeat (first|exact ae B2|refine But.alloc ?_ _|refine But.drew ?_|refine But.setCell ?_ _ _|(refine But.setNew ?_ ?_ _;rotate_left;exact (by first|omega|(simp;omega)|simp))))
 case hb2=>exact ⟨_,((((ae K2).blk).other fT _).other fT _).other fT _,by rfl⟩
structure PV where
 kind:Nat
 gs:List Gr
 nb:aei
 nr:aei
 pa:Nat
 pr:Nat
 ps:List Nat
 sg:List Tk
abbrev PX:=PV×Value×Value×Value
def bB (g:Gr):aei:=if g.reach=1 then sg 42 else g.rel
def aJ (g:Gr):List Value:=[.string g.ty,.string (bB g),.int .i64 g.tp,.int .i64 g.rp]
def nC (x:PX):List Value:=[.int .i64 x.1.kind,x.2.1,.string x.1.nb,.string x.1.nr,.int .i64 x.1.pa,.int .i64 x.1.pr,x.2.2.1,x.2.2.2]
structure nD (w:World) (x:PX):Prop where
 g:w.ownsRow 0 257 4 x.2.1 x.1.gs.length (x.1.gs.flatMap aJ)
 p:w.ownsRow 0 3 1 x.2.2.1 x.1.ps.length (x.1.ps.map fun n:Nat=> .int .i64 n)
 s:w.ownsRow 0 259 3 x.2.2.2 x.1.sg.length (aL x.1.sg)
structure PT (base:Nat) (w:World) (pv:Value) (pl:List PV) (l:List PX):Prop where
 fst:l.map Prod.fst=pl
 row:w.ownsRow base 255 8 pv pl.length (l.flatMap nC)
 rep:∀x∈l,nD w x
def lH (B:Nat) (x:PX):Prop:=∀g,(x.2.1.ownBlock=some g∨x.2.2.1.ownBlock=some g∨x.2.2.2.ownBlock=some g)→B≤g
theorem lH.mono {B C:Nat} {x:PX} (h:lH B x) (k:C≤B):lH C x:=fun g hg=>Nat.le_trans k (h g hg)
theorem lT (B:Nat) (p:PV):lH B (p,.slice none 0 0,.slice none 0 0,.slice none 0 0):=fun g h=>by
 rcases h with h|h|h<;>cases h
structure Fr (base b:Nat) (w w':World) (pv pv':Value):Prop where
 below:Below base w w'
 keep:∀g,g<w.heap.size→g≠b→pv.ownBlock≠some g→w'.heap[g]? =w.heap[g]?
 own:∀g,pv'.ownBlock=some g→pv.ownBlock=some g∨w.heap.size≤g
theorem Fr.trans {base b:Nat} {w w1 w2:World} {p p1 p2:Value} (h:Fr base b w w1 p p1) (k:Fr base b w1 w2 p1 p2):Fr base b w w2 p p2:=by
 refine ⟨h.below.trans k.below,fun g hg hb hp=> ?_,fun g hg=> ?_⟩
 ·refine (k.keep g (Nat.lt_of_lt_of_le hg h.below.size) hb (fun e=> ?_)).trans (h.keep g hg hb hp)
  rcases h.own g e with e|e
  ·exact hp e
  ·omega
 ·rcases k.own g hg with e|e
  ·exact h.own g e
  ·exact .inr (Nat.le_trans h.below.size e)
theorem Fr.of_below {base b:Nat} {w w':World} {pv:Value} (h:Below w.heap.size w w') (hb:base≤w.heap.size):Fr base b w w' pv pv:=⟨h.mono hb,fun g hg _ _=>h.block g hg,fun g e=> .inl e⟩
theorem Fr.of_but {base b:Nat} {w w':World} {pv:Value} (h:But b w w') (hb:base≤b) (hw:base≤w.heap.size):Fr base b w w' pv pv:=⟨h.below hb hw,fun g hg hb' _=>h.block g hg hb',fun g e=> .inl e⟩
theorem iY {w:World} {base:Nat} {T:TypeId} {size:Nat} {v:Value} {n:Nat} {xs:List Value} (h:w.ownsRow base T size v n xs) {g:Nat} {cs:Array Value} {T':TypeId} {f:Nat×Nat} (hh:w.heap[g]? =some (.cells cs T' f)) (ht:T'≠T):v.ownBlock≠some g:=fun e=>cO h hh ht e.symm
theorem Fr.row {base b:Nat} {w w':World} {pv pv':Value} (h:Fr base b w w' pv pv') {bs:Nat} {T:TypeId} {size:Nat} {v:Value} {n:Nat} {xs:List Value} (k:w.ownsRow bs T size v n xs) {cs:Array Value} (hb:ai w b cs 252) {pb:Nat} {pn:Nat} {px:List Value} (hp:w.ownsRow pb 255 8 pv pn px) (h1:T≠252) (h2:T≠255):w'.ownsRow bs T size v n xs:=
 ak k (fun g cs f _ hh=>h.keep g (lt_of_some hh) (fun e=>by
  subst e;unfold ai at hb;rw [hb] at hh;simp only [Option.some.injEq,Obj.cells.injEq] at hh;exact h1 hh.2.1.symm) (iY hp hh h2))
theorem nD.frame {base b:Nat} {w w':World} {pv pv':Value} (h:Fr base b w w' pv pv') {x:PX} (k:nD w x) {cs:Array Value} (hb:ai w b cs 252) {pb:Nat} {pn:Nat} {px:List Value} (hp:w.ownsRow pb 255 8 pv pn px):nD w' x:=
 ⟨h.row k.g hb hp (by decide) (by decide),h.row k.p hb hp (by decide) (by decide),h.row k.s hb hp (by decide) (by decide)⟩
theorem Fr.blk {base b:Nat} {w w':World} {pv pv':Value} (h:Fr base b w w' pv pv') {g:Nat} {cs:Array Value} {T:TypeId} (k:ai w g cs T) (hg:g≠b) (hp:pv.ownBlock≠some g):ai w' g cs T:=(h.keep g k.lt hg hp).trans k
theorem bK {w:World} {base:Nat} {e:TypeId} {size:Nat} {v:Value} {n:Nat} {xs:List Value} (h:w.ownsRow base e size v n xs):w.drew.ownsRow base e size v n xs:=h
theorem Tryz.infoPt:(Tryz.prog.info? 255).map (fun i=>(i.zero,i.size,i.bytes))=some (some (.agg #[.int .i64 0,.slice none 0 0,.string ⟨#[]⟩,.string ⟨#[]⟩,.int .i64 0,.int .i64 0,.slice none 0 0,.slice none 0 0]),8,128):=by kernel_rfl
def Fa (base b:Nat) (s:aei) (tv:Value) (i d e0 a:Nat) (kv rv pv:Value) (pl:List PV) (l:List PX) (x:PX) (w:World) (e:Ending) (w':World):Prop:=
 ∃pv',e=.returned (.int .i64 pl.length)∧Fr base b w w' pv pv'∧RS w' b s tv i d e0 a kv rv pv'∧PT base w' pv' (pl++[x.1]) (l++[x])
theorem Jn {base b:Nat} {s:aei} {tv:Value} {i d e0 a:Nat} {kv rv:Value} {pl:List PV} {l:List PX} {x:PX} {w:World} {va:Option Addr} {vc:Nat} (H0:RS w b s tv i d e0 a kv rv (.slice va pl.length vc)) (uL:PT base w (.slice va pl.length vc) pl l) (Ji:nD w x) (hbb:base≤b) (bF:base≤w.heap.size)
  {W w5:World} {o:Obj} {g5 aD:Nat} (hB:Below w.heap.size w W) (G5:(W.alloc o).drew.grownBy w5 (Value.slice va pl.length vc).ownBlock) (O5:w5.ownsRow base 255 8 (.slice (some ⟨g5,0,none⟩) (pl.length+1) aD) (pl.length+1) (l.flatMap nC++nC x)) (A5:(Value.slice va pl.length vc).ownBlock=some g5∨g5=W.heap.size+1)
  (K5:ai w5 b #[tv,.int .i64 i,.int .i64 d,.int .i64 e0,.int .i64 a,kv,rv,.slice va pl.length vc] 252):
  Fa base b s tv i d e0 a kv rv (.slice va pl.length vc) pl l x w (.returned (.int .i64 pl.length)) (w5.setCell ⟨b,7,none⟩ (.slice (some ⟨g5,0,none⟩) (pl.length+1) aD)):=by
 have Xf:Below w.heap.size w (W.alloc o).drew:=(hB.alloc hB.size o).drew;have hO2:(W.alloc o).drew.ownsRow base 255 8 (.slice va pl.length vc) pl.length (l.flatMap nC):=ak uL.row (fun g cs f _ hh=>Xf.block g (lt_of_some hh));have fr:Fr base b w (w5.setCell ⟨b,7,none⟩ (.slice (some ⟨g5,0,none⟩) (pl.length+1) aD)) (.slice va pl.length vc) (.slice (some ⟨g5,0,none⟩) (pl.length+1) aD):=by
  refine ⟨(Below.grown (Xf.mono bF) G5 (Nat.le_trans bF Xf.size) (fun k hk=>(hO2.lt k hk).1)).setCell hbb _,fun g hg hb hp=> ?_,fun g hg=> ?_⟩
  ·exact (Below.heap_setCell _ _ _ _ hb).trans ((G5.block g (Nat.lt_of_lt_of_le hg Xf.size) (fun e=>hp e.symm)).trans (Xf.block g hg))
  ·simp only [Value.ownBlock,Option.some.injEq] at hg
   rcases A5 with e|e
   ·exact .inl (by rw [e,hg])
   ·exact .inr (by have:=hB.size;omega)
 refine ⟨_,rfl,fr,⟨K5.set 7 _,fr.row H0.tok H0.blk uL.row (by decide) (by decide),H0.gd,⟨H0.fm.1,H0.fm.2.1,_,_,_,rfl⟩,H0.sz⟩,⟨by rw [List.map_append,uL.fst];rfl,?_,fun y hy=> ?_⟩⟩
 ·have:=aX O5 K5 (by decide) 7 (.slice (some ⟨g5,0,none⟩) (pl.length+1) aD);rw [List.flatMap_append,List.length_append]
  simpa using this
 ·rw [List.mem_append,List.mem_singleton] at hy
  rcases hy with hy|rfl
  ·exact (uL.rep y hy).frame fr H0.blk uL.row
  ·exact Ji.frame fr H0.blk uL.row
theorem fV (base b:Nat) (s:aei) (tv:Value) (i d e0 a:Nat) (kv rv pv:Value) (pl:List PV) (l:List PX) (p:PV) (ga:Option Addr) (gc:Nat) (pa:Option Addr) (pc:Nat) (sa:Option Addr) (sc:Nat) (w:World) (h:RS w b s tv i d e0 a kv rv pv) (ht:PT base w pv pl l) (hx:nD w (p,.slice ga p.gs.length gc,.slice pa p.ps.length pc,.slice sa p.sg.length sc)) (hl:pl.length≤2000) (bF:base≤w.heap.size) (hbb:base≤b):
  Calls Tryz.prog 252 #[.pointer (some ⟨b,0,none⟩),.agg #[.int .i64 p.kind,.slice ga p.gs.length gc,.string p.nb,.string p.nr,.int .i64 p.pa,.int .i64 p.pr,.slice pa p.ps.length pc,.slice sa p.sg.length sc]] w
   (Fa base b s tv i d e0 a kv rv pv pl l (p,.slice ga p.gs.length gc,.slice pa p.ps.length pc,.slice sa p.sg.length sc) w):=by
 obtain ⟨i0,hi,hz0,hz1,hz2⟩:=info_parts Tryz.infoPt;have HI:=af hi;have fG:=af hz0;have fH:=af hz1;have fI:=af hz2;clear hi hz0 hz1 hz2;have H0:=af h;have uL:=af ht;have Ji:=af hx;obtain ⟨va,vc,rfl⟩:=au ht.row;have b1:=(Below.refl _ w).alloc aeg (.cells #[.int .i64 p.kind,.slice ga p.gs.length gc,.string p.nb,.string p.nr,.int .i64 p.pa,.int .i64 p.pr,.slice pa p.ps.length pc,.slice sa p.sg.length sc] 255);have H:=af (h.below b1);have HO:=af (show (w.alloc (.cells #[.int .i64 p.kind,.slice ga p.gs.length gc,.string p.nb,.string p.nr,.int .i64 p.pa,.int .i64 p.pr,.slice pa p.ps.length pc,.slice sa p.sg.length sc] 255)).ownsRow base 255 8 (.slice va pl.length vc) pl.length (l.flatMap nC) from ak ht.row (fun g cs f _ hh=>b1.block g (lt_of_some hh)));have PB:=ai.new w #[.int .i64 p.kind,.slice ga p.gs.length gc,.string p.nb,.string p.nr,.int .i64 p.pa,.int .i64 p.pr,.slice pa p.ps.length pc,.slice sa p.sg.length sc] 255;have B1:=af b1;have hlt:=h.lt;have hWs:w.heap.size<(w.alloc (.cells #[.int .i64 p.kind,.slice ga p.gs.length gc,.string p.nb,.string p.nr,.int .i64 p.pa,.int .i64 p.pr,.slice pa p.ps.length pc,.slice sa p.sg.length sc] 255)).heap.size:=by simp
 clear h ht hx b1;go_enter Tryz.func252,Tryz.ntmps252;go_wp2_with fail;generalize w.alloc (.cells #[.int .i64 p.kind,.slice ga p.gs.length gc,.string p.nb,.string p.nr,.int .i64 p.pa,.int .i64 p.pr,.slice pa p.ps.length pc,.slice sa p.sg.length sc] 255)=W at*;obtain ⟨r0,r1,r2,r3,r4,r5,r6,r7⟩:=(ae H).blk.eight;obtain ⟨x0,x1,x2,x3,x4,x5,x6,x7⟩:=PB.eight;have hbk:=(ae H).blk;have hz:=hbk.fz;have wM:=af PB;have m7:=World.new_ne W _ r7;have m8:=World.new_ne W _ x0;have c7:(W.alloc (.cells #[.int .i64 p.kind,.slice ga p.gs.length gc,.string p.nb,.string p.nr,.int .i64 p.pa,.int .i64 p.pr,.slice pa p.ps.length pc,.slice sa p.sg.length sc] 255)).cell? ⟨b,7,none⟩=some (.slice va pl.length vc):=(hbk.alloc _).cell rfl;have hne:¬(b=W.heap.size):=by have:=hbk.lt;omega
 have uO:=af hbk;clear PB hbk;have rM:=af (show ∀u∈nC (p,.slice ga p.gs.length gc,.slice pa p.ps.length pc,.slice sa p.sg.length sc),u.oneCell'=true from by
  intro u hu;simp only [nC,List.mem_cons,List.not_mem_nil,or_false] at hu
  rcases hu with rfl|rfl|rfl|rfl|rfl|rfl|rfl|rfl<;>rfl)
 have h63:pl.length+1≤maxLen:=by unfold maxLen;omega
 have aam:(pl.length+1)*128≤140737488355328:=by omega
 have HS:=af (show base≤(W.alloc (.cells #[.int .i64 p.kind,.slice ga p.gs.length gc,.string p.nb,.string p.nr,.int .i64 p.pa,.int .i64 p.pr,.slice pa p.ps.length pc,.slice sa p.sg.length sc] 255)).drew.heap.size from by
  have:=((Below.refl _ W).alloc aeg (.cells #[.int .i64 p.kind,.slice ga p.gs.length gc,.string p.nb,.string p.nr,.int .i64 p.pa,.int .i64 p.pr,.slice pa p.ps.length pc,.slice sa p.sg.length sc] 255)).drew.size;omega)
 have HH:=af (show (W.alloc (.cells #[.int .i64 p.kind,.slice ga p.gs.length gc,.string p.nb,.string p.nr,.int .i64 p.pa,.int .i64 p.pr,.slice pa p.ps.length pc,.slice sa p.sg.length sc] 255)).drew.heap.size=W.heap.size+1 from by simp);have Dy:=af h63;have AC:=af aam;clear h63 aam
 go_region_law (refine step_append_lies _ rfl (.tmp 10) (.tmp 12) 166 rfl base 255 i0 _ 8 128 Tryz.underlying166 (ae HI) (ae fG) (ae fH) (ae fI) rfl (by decide) (.slice va pl.length vc) pl.length (l.flatMap nC) (by simp [Act.eval,Act.put]) (bK ((ae HO).alloc _)) ⟨W.heap.size,0,none⟩ 1 1 (nC (p,.slice ga p.gs.length gc,.slice pa p.ps.length pc,.slice sa p.sg.length sc)) (by simp [Act.eval,Act.put]) rfl (World.news_of_block (B:=W.heap.size) (cs:=#[.int .i64 p.kind,.slice ga p.gs.length gc,.string p.nb,.string p.nr,.int .i64 p.pa,.int .i64 p.pr,.slice pa p.ps.length pc,.slice sa p.sg.length sc]) (t:=255) (fr:=(0,0)) (ai.new W _ _).drew) (ae rM) (by decide) (ae Dy) (ae AC) (ae HS) (W.heap.size+1) (ae HH) ?_;intro g5 aD w5 aC aj aP di;have fU:=bK ((ae HO).alloc (.cells #[.int .i64 p.kind,.slice ga p.gs.length gc,.string p.nb,.string p.nr,.int .i64 p.pa,.int .i64 p.pr,.slice pa p.ps.length pc,.slice sa p.sg.length sc] 255));have uP:=((ae uO).alloc (.cells #[.int .i64 p.kind,.slice ga p.gs.length gc,.string p.nb,.string p.nr,.int .i64 p.pa,.int .i64 p.pr,.slice pa p.ps.length pc,.slice sa p.sg.length sc] 255)).drew;have K5:ai w5 b _ 252:=(aj.block b uP.lt (own_ne fU uP (by decide))).trans uP;obtain ⟨q0,q1,q2,q3,q4,q5,q6,q7⟩:=K5.eight;have zq:=K5.fz;have Xg:=af K5;have G5:=af aj;have O5:=af aC;have A5:=af aP;have lq:=K5.lt;clear fU uP K5 aj aC aP)
 all_goals
  go_wp2;go_ret;exact Jn (ae H0) (ae uL) (ae Ji) hbb bF (ae B1) (ae G5) (ae O5) (ae A5) (ae Xg)
