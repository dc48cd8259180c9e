import Derived.Test.YtlbpnlngckgcbaaGreatDoorM02
namespace Go.Proofs.YtlbpnlngckgcbaaGreatDoor
open Go.RowKit Go.PlainAid
set_option linter.unusedSimpArgs false
set_option linter.unusedVariables false
def grCells (g : Gr) : Array Value := #[.int .i64 g.tp, .string g.ty, .int .i64 g.reach, .int .i64 g.rp, .string g.rel]
def grv (g : Gr) : Value := .agg (grCells g)
def IsGr (v : Value) : Prop := ∃ g, v = grv g
theorem cell_new1 (W : World) (x : Value) (T n : Nat) (hn : n = W.heap.size) : (W.alloc (.cells #[x] T)).cell? ⟨n, 0, none⟩ = some x := by
 subst hn; exact (Blk.new W #[x] T).cell rfl
theorem res_cc {P : Program} {fn : Func} {p u : Tmp} {ty : TypeId} (h : fn.results = #[.cell p ty, .tmp u]) (tmps : Array Value) (w : World) (g : Nat) (cs' : Array Value) (t : TypeId) (e : Value) (d : TypeDesc)
  (hp : tmps.getD p undef = .pointer (some ⟨g, 0, none⟩)) (hq : tmps.getD u undef = e) (hb : ∃ cs, Blk w g cs t ∧ cs = cs')
  (hu : P.underlying ty = some d) (hd : (match d with | .struct _ | .array _ _ => true | _ => false) = true) (hi : (P.info? ty).map (·.size) = some cs'.size) :
  (results fn tmps).run P w = .ok (.tuple #[.agg cs', e]) w := by
 obtain ⟨cs, hb, rfl⟩ := hb
 exact res_ct h tmps w g cs t e d hp hq hb hu hd hi
set_option maxHeartbeats 1000000 in
set_option maxRecDepth 100000 in
theorem grant_bad (b : Nat) (s : ByteArray) (i d : Nat) (w : World) (hs : s.size ≤ maxLen) (h : At w b s i d) (c j : Nat) (hr : nameR (TT s) i = .error (c, j)) :
  Calls Tryz.prog 277 #[.pointer (some ⟨b, 0, none⟩)] w (Post b s d w (.error (c, j) : Res Gr) (fun _ g v => v = grv g) IsGr) := by
 have hlt := h.lt
 have C := hide (name_post b s i d _ hs ((h.alloc (.cells #[.int .i64 0, .string ⟨#[]⟩, .int .i64 0, .int .i64 0, .string ⟨#[]⟩] 207)).alloc (.cells #[.int .i64 0, .string ⟨#[]⟩, .int .i64 0, .int .i64 0, .string ⟨#[]⟩] 207)))
 rw [hr] at C
 clear hr
 go_enter Tryz.func277, Tryz.ntmps277
 go_wp2_with fail
 refine (uh C).mono ?_
 rintro e w1 ⟨b1, v, d', rfl, rfl, a1⟩
 have A1 := hide a1
 have B1 := hide (((But.refl b w).alloc _).alloc _ |>.trans b1)
 have R := ((Blk.new w #[.int .i64 0, .string ⟨#[]⟩, .int .i64 0, .int .i64 0, .string ⟨#[]⟩] 207).alloc _).but b1 (by omega)
 have G := (Blk.new (w.alloc (.cells #[.int .i64 0, .string ⟨#[]⟩, .int .i64 0, .int .i64 0, .string ⟨#[]⟩] 207)) #[.int .i64 0, .string ⟨#[]⟩, .int .i64 0, .int .i64 0, .string ⟨#[]⟩] 207).but b1 (by simp; omega)
 rw [show (w.alloc (.cells #[.int .i64 0, .string ⟨#[]⟩, .int .i64 0, .int .i64 0, .string ⟨#[]⟩] 207)).heap.size = w.heap.size + 1 by simp] at G
 have HR := hide R
 have HG := hide G
 obtain ⟨r0, r1, r2, r3, r4⟩ := R.five
 obtain ⟨g0, g1, g2, g3, g4⟩ := G.five
 have zr := R.fz
 have zg := G.fz
 have hsz := G.lt
 have hsz' : w.heap.size < w1.heap.size := by omega
 clear a1 b1 C h hs R G
 unfold errv nm0
 go_wp2
 refine bodyPost_ret (v := .tuple #[.agg #[.int .i64 0, .string ⟨#[]⟩, .int .i64 0, .int .i64 0, .string ⟨#[]⟩], errv c]) (res_cc Tryz.results277 _ _ w.heap.size _ 207 _ _ rfl rfl ?hB Tryz.underlying207 rfl (by kernel_rfl)) rfl ?post
 case hB => exact ⟨_, (by repeat (first | with_reducible exact uh HR | with_reducible apply Blk.alloc | with_reducible apply Blk.drew | with_reducible apply Blk.set | (with_reducible apply Blk.other; case ha => exact (by first | omega | (simp; omega) | simp | (simp; done))))), by rfl⟩
 case post => exact ⟨(by repeat (first | with_reducible exact uh B1 | with_reducible refine But.alloc ?_ _ | with_reducible refine But.drew ?_ | (with_reducible refine But.setNew ?_ ?_ _; rotate_left; exact (by first | omega | (simp; omega) | simp | (simp; done))))), _, d', rfl, ⟨⟨⟨#[]⟩, 0, 0, ⟨#[]⟩, 0⟩, rfl⟩, (by repeat (first | with_reducible exact uh A1 | with_reducible refine At.alloc ?_ _ | with_reducible refine At.drew ?_ | (with_reducible refine At.setNew ?_ ?_ _; rotate_left; exact (by first | omega | (simp; omega) | simp | (simp; done)))))⟩
set_option maxHeartbeats 1000000 in
set_option maxRecDepth 100000 in
theorem grant_plain (b : Nat) (s : ByteArray) (i d : Nat) (w : World) (hs : s.size ≤ maxLen) (h : At w b s i d) (j : Nat) (hr : nameR (TT s) i = .ok ((), j)) (h1 : eqs (TT s j) (sg 42) = false) (h2 : eqs (TT s j) (sg 35) = false) :
  Calls Tryz.prog 277 #[.pointer (some ⟨b, 0, none⟩)] w (Post b s d w (.ok (⟨TT s i, PP s i, 0, em, 0⟩, j) : Res Gr) (fun _ g v => v = grv g) IsGr) := by
 have hlt := h.lt
 have Hs := hide hs
 have C := hide (name_post b s i d _ hs ((h.alloc (.cells #[.int .i64 0, .string ⟨#[]⟩, .int .i64 0, .int .i64 0, .string ⟨#[]⟩] 207)).alloc (.cells #[.int .i64 0, .string ⟨#[]⟩, .int .i64 0, .int .i64 0, .string ⟨#[]⟩] 207)))
 rw [hr] at C
 clear hr
 go_enter Tryz.func277, Tryz.ntmps277
 go_wp2_with fail
 refine (uh C).mono ?_
 rintro e w1 ⟨b1, v, rfl, rfl, a1⟩
 have A1 := hide a1
 have B1 := hide (((But.refl b w).alloc _).alloc _ |>.trans b1)
 have R := ((Blk.new w #[.int .i64 0, .string ⟨#[]⟩, .int .i64 0, .int .i64 0, .string ⟨#[]⟩] 207).alloc _).but b1 (by omega)
 have G := (Blk.new (w.alloc (.cells #[.int .i64 0, .string ⟨#[]⟩, .int .i64 0, .int .i64 0, .string ⟨#[]⟩] 207)) #[.int .i64 0, .string ⟨#[]⟩, .int .i64 0, .int .i64 0, .string ⟨#[]⟩] 207).but b1 (by simp; omega)
 rw [show (w.alloc (.cells #[.int .i64 0, .string ⟨#[]⟩, .int .i64 0, .int .i64 0, .string ⟨#[]⟩] 207)).heap.size = w.heap.size + 1 by simp] at G
 have HR := hide R
 have HG := hide G
 obtain ⟨r0, r1, r2, r3, r4⟩ := R.five
 obtain ⟨g0, g1, g2, g3, g4⟩ := G.five
 have zr := R.fz
 have zg := G.fz
 have hsz := G.lt
 have hsz' : w.heap.size < w1.heap.size := by omega
 have hne : ¬ (w1.heap.size = w.heap.size) := by omega
 have hne' : ¬ (w1.heap.size = w.heap.size + 1) := by omega
 clear a1 b1 C h hs R G
 unfold nmv
 go_wp2_with fail
 refine (ats b s j d _ _ (sg 42) _ ?_ ?_).mono ?_
 ·exact (by repeat (first | with_reducible exact uh A1 | with_reducible refine At.alloc ?_ _ | with_reducible refine At.drew ?_ | (with_reducible refine At.setNew ?_ ?_ _; rotate_left; exact (by first | omega | (simp; omega) | simp | (simp; done)))))
 ·exact cell_new1 _ _ _ _ (by simp)
 rintro e w2 ⟨rfl, rfl⟩
 rw [h1]
 go_wp2_with fail
 refine (ats b s j d _ _ (sg 35) _ ?_ ?_).mono ?_
 ·exact (by repeat (first | with_reducible exact uh A1 | with_reducible refine At.alloc ?_ _ | with_reducible refine At.drew ?_ | (with_reducible refine At.setNew ?_ ?_ _; rotate_left; exact (by first | omega | (simp; omega) | simp | (simp; done)))))
 ·exact cell_new1 _ _ _ _ (by simp)
 rintro e w2 ⟨rfl, rfl⟩
 rw [h2]
 go_wp2
 refine bodyPost_ret (v := .tuple #[grv ⟨TT s i, PP s i, 0, em, 0⟩, .nilIface]) (res_cc Tryz.results277 _ _ w.heap.size _ 207 _ _ rfl rfl ?hB Tryz.underlying207 rfl (by kernel_rfl)) rfl ?post
 case hB => exact ⟨_, (by repeat (first | with_reducible exact uh HR | with_reducible apply Blk.alloc | with_reducible apply Blk.drew | with_reducible apply Blk.set | (with_reducible apply Blk.other; case ha => exact (by first | omega | (simp; omega) | simp | (simp; done))))), by rfl⟩
 case post => exact ⟨(by repeat (first | with_reducible exact uh B1 | with_reducible refine But.alloc ?_ _ | with_reducible refine But.drew ?_ | (with_reducible refine But.setNew ?_ ?_ _; rotate_left; exact (by first | omega | (simp; omega) | simp | (simp; done))))), _, rfl, rfl, (by repeat (first | with_reducible exact uh A1 | with_reducible refine At.alloc ?_ _ | with_reducible refine At.drew ?_ | (with_reducible refine At.setNew ?_ ?_ _; rotate_left; exact (by first | omega | (simp; omega) | simp | (simp; done)))))⟩
set_option maxHeartbeats 1000000 in
set_option maxRecDepth 100000 in
theorem grant_all (b : Nat) (s : ByteArray) (i d : Nat) (w : World) (hs : s.size ≤ maxLen) (h : At w b s i d) (j : Nat) (hr : nameR (TT s) i = .ok ((), j)) (h1 : eqs (TT s j) (sg 42) = true) :
  Calls Tryz.prog 277 #[.pointer (some ⟨b, 0, none⟩)] w (Post b s d w (.ok (⟨TT s i, PP s i, 1, em, 0⟩, j + 1) : Res Gr) (fun _ g v => v = grv g) IsGr) := by
 have hlt := h.lt
 have Hs := hide hs
 have C := hide (name_post b s i d _ hs ((h.alloc (.cells #[.int .i64 0, .string ⟨#[]⟩, .int .i64 0, .int .i64 0, .string ⟨#[]⟩] 207)).alloc (.cells #[.int .i64 0, .string ⟨#[]⟩, .int .i64 0, .int .i64 0, .string ⟨#[]⟩] 207)))
 rw [hr] at C
 clear hr
 go_enter Tryz.func277, Tryz.ntmps277
 go_wp2_with fail
 refine (uh C).mono ?_
 rintro e w1 ⟨b1, v, rfl, rfl, a1⟩
 have A1 := hide a1
 have B1 := hide (((But.refl b w).alloc _).alloc _ |>.trans b1)
 have R := ((Blk.new w #[.int .i64 0, .string ⟨#[]⟩, .int .i64 0, .int .i64 0, .string ⟨#[]⟩] 207).alloc _).but b1 (by omega)
 have G := (Blk.new (w.alloc (.cells #[.int .i64 0, .string ⟨#[]⟩, .int .i64 0, .int .i64 0, .string ⟨#[]⟩] 207)) #[.int .i64 0, .string ⟨#[]⟩, .int .i64 0, .int .i64 0, .string ⟨#[]⟩] 207).but b1 (by simp; omega)
 rw [show (w.alloc (.cells #[.int .i64 0, .string ⟨#[]⟩, .int .i64 0, .int .i64 0, .string ⟨#[]⟩] 207)).heap.size = w.heap.size + 1 by simp] at G
 have HR := hide R
 have HG := hide G
 obtain ⟨r0, r1, r2, r3, r4⟩ := R.five
 obtain ⟨g0, g1, g2, g3, g4⟩ := G.five
 have zr := R.fz
 have zg := G.fz
 have hsz := G.lt
 have hsz' : w.heap.size < w1.heap.size := by omega
 have hne : ¬ (w1.heap.size = w.heap.size) := by omega
 have hne' : ¬ (w1.heap.size = w.heap.size + 1) := by omega
 clear a1 b1 C h hs R G
 unfold nmv
 have H1 := hide h1
 go_wp2_with fail
 refine (ats b s j d _ _ (sg 42) _ ?_ ?_).mono ?_
 ·exact (by repeat (first | with_reducible exact uh A1 | with_reducible refine At.alloc ?_ _ | with_reducible refine At.drew ?_ | (with_reducible refine At.setNew ?_ ?_ _; rotate_left; exact (by first | omega | (simp; omega) | simp | (simp; done)))))
 ·exact cell_new1 _ _ _ _ (by simp)
 rintro e w2 ⟨rfl, rfl⟩
 rw [h1]
 go_wp2_with fail
 refine (steps b s j d _ (uh Hs) ?_ ?_).mono ?_
 ·exact (by repeat (first | with_reducible exact uh A1 | with_reducible refine At.alloc ?_ _ | with_reducible refine At.drew ?_ | (with_reducible refine At.setNew ?_ ?_ _; rotate_left; exact (by first | omega | (simp; omega) | simp | (simp; done)))))
 ·exact eqs_pos (uh H1) (by decide)
 rintro e w2 ⟨rfl, a2, b2⟩
 have HR2 := hide (Blk.but (g := w.heap.size) (T := 207) (by repeat (first | with_reducible exact uh HR | with_reducible apply Blk.alloc | with_reducible apply Blk.drew | with_reducible apply Blk.set | (with_reducible apply Blk.other; case ha => exact (by first | omega | (simp; omega) | simp | (simp; done))))) b2 (by omega))
 have G2' := Blk.but (g := w.heap.size + 1) (T := 207) (by repeat (first | with_reducible exact uh HG | with_reducible apply Blk.alloc | with_reducible apply Blk.drew | with_reducible apply Blk.set | (with_reducible apply Blk.other; case ha => exact (by first | omega | (simp; omega) | simp | (simp; done))))) b2 (by omega)
 have G2 : Blk w2 (w.heap.size + 1) #[.int .i64 (tokP s (K s i)), .string (tokT s (K s i)), .int .i64 1, .int .i64 0, .string ⟨#[]⟩] 207 := G2'
 have R2 : Blk w2 w.heap.size #[.int .i64 0, .string ⟨#[]⟩, .int .i64 0, .int .i64 0, .string ⟨#[]⟩] 207 := uh HR2
 obtain ⟨p0, p1, p2, p3, p4⟩ := R2.five
 obtain ⟨q0, q1, q2, q3, q4⟩ := G2.five
 have zp := R2.fz
 have zq := G2.fz
 have tz := G2.lt
 have tz' : w.heap.size < w2.heap.size := by omega
 have HG2 := hide G2
 have A2 := hide a2
 have B2 := hide (But.trans (x := w) (by repeat (first | with_reducible exact uh B1 | with_reducible refine But.alloc ?_ _ | with_reducible refine But.drew ?_ | (with_reducible refine But.setNew ?_ ?_ _; rotate_left; exact (by first | omega | (simp; omega) | simp | (simp; done))))) b2)
 clear a2 b2 R2 G2 G2' r0 r1 r2 r3 r4 g0 g1 g2 g3 g4 zr zg hsz hsz' hne hne'
 go_wp2
 refine bodyPost_ret (v := .tuple #[grv ⟨TT s i, PP s i, 1, em, 0⟩, .nilIface]) (res_cc Tryz.results277 _ _ w.heap.size _ 207 _ _ rfl rfl ?hB Tryz.underlying207 rfl (by kernel_rfl)) rfl ?post
 case hB => exact ⟨_, (by repeat (first | with_reducible exact uh HR2 | with_reducible apply Blk.alloc | with_reducible apply Blk.drew | with_reducible apply Blk.set | (with_reducible apply Blk.other; case ha => exact (by first | omega | (simp; omega) | simp | (simp; done))))), by rfl⟩
 case post => exact ⟨(by repeat (first | with_reducible exact uh B2 | with_reducible refine But.alloc ?_ _ | with_reducible refine But.drew ?_ | (with_reducible refine But.setNew ?_ ?_ _; rotate_left; exact (by first | omega | (simp; omega) | simp | (simp; done))))), _, rfl, rfl, (by repeat (first | with_reducible exact uh A2 | with_reducible refine At.alloc ?_ _ | with_reducible refine At.drew ?_ | (with_reducible refine At.setNew ?_ ?_ _; rotate_left; exact (by first | omega | (simp; omega) | simp | (simp; done)))))⟩
set_option maxHeartbeats 1000000 in
set_option maxRecDepth 100000 in
theorem grant_rel (b : Nat) (s : ByteArray) (i d : Nat) (w : World) (hs : s.size ≤ maxLen) (h : At w b s i d) (j m : Nat) (hr : nameR (TT s) i = .ok ((), j)) (h1 : eqs (TT s j) (sg 42) = false) (h2 : eqs (TT s j) (sg 35) = true) (Hm : Hid (nameR (TT s) (j + 1) = .ok ((), m))) :
  Calls Tryz.prog 277 #[.pointer (some ⟨b, 0, none⟩)] w (Post b s d w (.ok (⟨TT s i, PP s i, 2, TT s (j + 1), PP s (j + 1)⟩, m) : Res Gr) (fun _ g v => v = grv g) IsGr) := by
 have hlt := h.lt
 have Hs := hide hs
 have C := hide (name_post b s i d _ hs ((h.alloc (.cells #[.int .i64 0, .string ⟨#[]⟩, .int .i64 0, .int .i64 0, .string ⟨#[]⟩] 207)).alloc (.cells #[.int .i64 0, .string ⟨#[]⟩, .int .i64 0, .int .i64 0, .string ⟨#[]⟩] 207)))
 rw [hr] at C
 clear hr
 go_enter Tryz.func277, Tryz.ntmps277
 go_wp2_with fail
 refine (uh C).mono ?_
 rintro e w1 ⟨b1, v, rfl, rfl, a1⟩
 have A1 := hide a1
 have B1 := hide (((But.refl b w).alloc _).alloc _ |>.trans b1)
 have R := ((Blk.new w #[.int .i64 0, .string ⟨#[]⟩, .int .i64 0, .int .i64 0, .string ⟨#[]⟩] 207).alloc _).but b1 (by omega)
 have G := (Blk.new (w.alloc (.cells #[.int .i64 0, .string ⟨#[]⟩, .int .i64 0, .int .i64 0, .string ⟨#[]⟩] 207)) #[.int .i64 0, .string ⟨#[]⟩, .int .i64 0, .int .i64 0, .string ⟨#[]⟩] 207).but b1 (by simp; omega)
 rw [show (w.alloc (.cells #[.int .i64 0, .string ⟨#[]⟩, .int .i64 0, .int .i64 0, .string ⟨#[]⟩] 207)).heap.size = w.heap.size + 1 by simp] at G
 have HR := hide R
 have HG := hide G
 obtain ⟨r0, r1, r2, r3, r4⟩ := R.five
 obtain ⟨g0, g1, g2, g3, g4⟩ := G.five
 have zr := R.fz
 have zg := G.fz
 have hsz := G.lt
 have hsz' : w.heap.size < w1.heap.size := by omega
 have hne : ¬ (w1.heap.size = w.heap.size) := by omega
 have hne' : ¬ (w1.heap.size = w.heap.size + 1) := by omega
 clear a1 b1 C h hs R G
 unfold nmv
 have H2 := hide h2
 go_wp2_with fail
 refine (ats b s j d _ _ (sg 42) _ ?_ ?_).mono ?_
 ·exact (by repeat (first | with_reducible exact uh A1 | with_reducible refine At.alloc ?_ _ | with_reducible refine At.drew ?_ | (with_reducible refine At.setNew ?_ ?_ _; rotate_left; exact (by first | omega | (simp; omega) | simp | (simp; done)))))
 ·exact cell_new1 _ _ _ _ (by simp)
 rintro e w2 ⟨rfl, rfl⟩
 rw [h1]
 go_wp2_with fail
 refine (ats b s j d _ _ (sg 35) _ ?_ ?_).mono ?_
 ·exact (by repeat (first | with_reducible exact uh A1 | with_reducible refine At.alloc ?_ _ | with_reducible refine At.drew ?_ | (with_reducible refine At.setNew ?_ ?_ _; rotate_left; exact (by first | omega | (simp; omega) | simp | (simp; done)))))
 ·exact cell_new1 _ _ _ _ (by simp)
 rintro e w2 ⟨rfl, rfl⟩
 rw [h2]
 clear h1 h2
 go_wp2_with fail
 refine (steps b s j d _ (uh Hs) ?_ ?_).mono ?_
 ·exact (by repeat (first | with_reducible exact uh A1 | with_reducible refine At.alloc ?_ _ | with_reducible refine At.drew ?_ | (with_reducible refine At.setNew ?_ ?_ _; rotate_left; exact (by first | omega | (simp; omega) | simp | (simp; done)))))
 ·exact eqs_pos (uh H2) (by decide)
 rintro e w2 ⟨rfl, a2, b2⟩
 have HR2 := hide (Blk.but (g := w.heap.size) (T := 207) (by repeat (first | with_reducible exact uh HR | with_reducible apply Blk.alloc | with_reducible apply Blk.drew | with_reducible apply Blk.set | (with_reducible apply Blk.other; case ha => exact (by first | omega | (simp; omega) | simp | (simp; done))))) b2 (by omega))
 have G2' := Blk.but (g := w.heap.size + 1) (T := 207) (by repeat (first | with_reducible exact uh HG | with_reducible apply Blk.alloc | with_reducible apply Blk.drew | with_reducible apply Blk.set | (with_reducible apply Blk.other; case ha => exact (by first | omega | (simp; omega) | simp | (simp; done))))) b2 (by omega)
 have G2 : Blk w2 (w.heap.size + 1) #[.int .i64 (tokP s (K s i)), .string (tokT s (K s i)), .int .i64 2, .int .i64 0, .string ⟨#[]⟩] 207 := G2'
 have R2 : Blk w2 w.heap.size #[.int .i64 0, .string ⟨#[]⟩, .int .i64 0, .int .i64 0, .string ⟨#[]⟩] 207 := uh HR2
 obtain ⟨p0, p1, p2, p3, p4⟩ := R2.five
 obtain ⟨q0, q1, q2, q3, q4⟩ := G2.five
 have zp := R2.fz
 have zq := G2.fz
 have tz := G2.lt
 have tz' : w.heap.size < w2.heap.size := by omega
 have HG2 := hide G2
 have A2 := hide a2
 have B2 := hide (But.trans (x := w) (by repeat (first | with_reducible exact uh B1 | with_reducible refine But.alloc ?_ _ | with_reducible refine But.drew ?_ | (with_reducible refine But.setNew ?_ ?_ _; rotate_left; exact (by first | omega | (simp; omega) | simp | (simp; done))))) b2)
 clear a2 b2 R2 G2 G2' r0 r1 r2 r3 r4 g0 g1 g2 g3 g4 zr zg hsz hsz' hne hne'
 go_wp2_with fail
 have C := hide (name_post b s (j + 1) d w2 (uh Hs) (uh A2))
 rw [uh Hm] at C
 refine (uh C).mono ?_
 rintro e w3 ⟨b3, v, rfl, rfl, a3⟩
 have HR3 := hide (Blk.but (uh HR2) b3 (by omega))
 have G3 := Blk.but (uh HG2) b3 (by omega)
 have R3 : Blk w3 w.heap.size #[.int .i64 0, .string ⟨#[]⟩, .int .i64 0, .int .i64 0, .string ⟨#[]⟩] 207 := uh HR3
 obtain ⟨p0, p1, p2, p3, p4⟩ := R3.five
 obtain ⟨q0, q1, q2, q3, q4⟩ := G3.five
 have zp := R3.fz
 have zq := G3.fz
 have tz := G3.lt
 have tz' : w.heap.size < w3.heap.size := by omega
 have A3 := hide a3
 have B3 := hide (But.trans (uh B2) b3)
 clear a3 b3 R3 G3
 unfold nmv
 go_wp2
 refine bodyPost_ret (v := .tuple #[grv ⟨TT s i, PP s i, 2, TT s (j + 1), PP s (j + 1)⟩, .nilIface]) (res_cc Tryz.results277 _ _ w.heap.size _ 207 _ _ rfl rfl ?hB Tryz.underlying207 rfl (by kernel_rfl)) rfl ?post
 case hB => exact ⟨_, (by repeat (first | with_reducible exact uh HR3 | with_reducible apply Blk.alloc | with_reducible apply Blk.drew | with_reducible apply Blk.set | (with_reducible apply Blk.other; case ha => exact (by first | omega | (simp; omega) | simp | (simp; done))))), by rfl⟩
 case post => exact ⟨(by repeat (first | with_reducible exact uh B3 | with_reducible refine But.alloc ?_ _ | with_reducible refine But.drew ?_ | (with_reducible refine But.setNew ?_ ?_ _; rotate_left; exact (by first | omega | (simp; omega) | simp | (simp; done))))), _, rfl, rfl, (by repeat (first | with_reducible exact uh A3 | with_reducible refine At.alloc ?_ _ | with_reducible refine At.drew ?_ | (with_reducible refine At.setNew ?_ ?_ _; rotate_left; exact (by first | omega | (simp; omega) | simp | (simp; done)))))⟩
set_option maxHeartbeats 1000000 in
set_option maxRecDepth 100000 in
theorem grant_rbad (b : Nat) (s : ByteArray) (i d : Nat) (w : World) (hs : s.size ≤ maxLen) (h : At w b s i d) (j c m : Nat) (hr : nameR (TT s) i = .ok ((), j)) (h1 : eqs (TT s j) (sg 42) = false) (h2 : eqs (TT s j) (sg 35) = true) (Hm : Hid (nameR (TT s) (j + 1) = .error (c, m))) :
  Calls Tryz.prog 277 #[.pointer (some ⟨b, 0, none⟩)] w (Post b s d w (.error (c, m) : Res Gr) (fun _ g v => v = grv g) IsGr) := by
 have hlt := h.lt
 have Hs := hide hs
 have C := hide (name_post b s i d _ hs ((h.alloc (.cells #[.int .i64 0, .string ⟨#[]⟩, .int .i64 0, .int .i64 0, .string ⟨#[]⟩] 207)).alloc (.cells #[.int .i64 0, .string ⟨#[]⟩, .int .i64 0, .int .i64 0, .string ⟨#[]⟩] 207)))
 rw [hr] at C
 clear hr
 go_enter Tryz.func277, Tryz.ntmps277
 go_wp2_with fail
 refine (uh C).mono ?_
 rintro e w1 ⟨b1, v, rfl, rfl, a1⟩
 have A1 := hide a1
 have B1 := hide (((But.refl b w).alloc _).alloc _ |>.trans b1)
 have R := ((Blk.new w #[.int .i64 0, .string ⟨#[]⟩, .int .i64 0, .int .i64 0, .string ⟨#[]⟩] 207).alloc _).but b1 (by omega)
 have G := (Blk.new (w.alloc (.cells #[.int .i64 0, .string ⟨#[]⟩, .int .i64 0, .int .i64 0, .string ⟨#[]⟩] 207)) #[.int .i64 0, .string ⟨#[]⟩, .int .i64 0, .int .i64 0, .string ⟨#[]⟩] 207).but b1 (by simp; omega)
 rw [show (w.alloc (.cells #[.int .i64 0, .string ⟨#[]⟩, .int .i64 0, .int .i64 0, .string ⟨#[]⟩] 207)).heap.size = w.heap.size + 1 by simp] at G
 have HR := hide R
 have HG := hide G
 obtain ⟨r0, r1, r2, r3, r4⟩ := R.five
 obtain ⟨g0, g1, g2, g3, g4⟩ := G.five
 have zr := R.fz
 have zg := G.fz
 have hsz := G.lt
 have hsz' : w.heap.size < w1.heap.size := by omega
 have hne : ¬ (w1.heap.size = w.heap.size) := by omega
 have hne' : ¬ (w1.heap.size = w.heap.size + 1) := by omega
 clear a1 b1 C h hs R G
 unfold nmv
 have H2 := hide h2
 go_wp2_with fail
 refine (ats b s j d _ _ (sg 42) _ ?_ ?_).mono ?_
 ·exact (by repeat (first | with_reducible exact uh A1 | with_reducible refine At.alloc ?_ _ | with_reducible refine At.drew ?_ | (with_reducible refine At.setNew ?_ ?_ _; rotate_left; exact (by first | omega | (simp; omega) | simp | (simp; done)))))
 ·exact cell_new1 _ _ _ _ (by simp)
 rintro e w2 ⟨rfl, rfl⟩
 rw [h1]
 go_wp2_with fail
 refine (ats b s j d _ _ (sg 35) _ ?_ ?_).mono ?_
 ·exact (by repeat (first | with_reducible exact uh A1 | with_reducible refine At.alloc ?_ _ | with_reducible refine At.drew ?_ | (with_reducible refine At.setNew ?_ ?_ _; rotate_left; exact (by first | omega | (simp; omega) | simp | (simp; done)))))
 ·exact cell_new1 _ _ _ _ (by simp)
 rintro e w2 ⟨rfl, rfl⟩
 rw [h2]
 clear h1 h2
 go_wp2_with fail
 refine (steps b s j d _ (uh Hs) ?_ ?_).mono ?_
 ·exact (by repeat (first | with_reducible exact uh A1 | with_reducible refine At.alloc ?_ _ | with_reducible refine At.drew ?_ | (with_reducible refine At.setNew ?_ ?_ _; rotate_left; exact (by first | omega | (simp; omega) | simp | (simp; done)))))
 ·exact eqs_pos (uh H2) (by decide)
 rintro e w2 ⟨rfl, a2, b2⟩
 have HR2 := hide (Blk.but (g := w.heap.size) (T := 207) (by repeat (first | with_reducible exact uh HR | with_reducible apply Blk.alloc | with_reducible apply Blk.drew | with_reducible apply Blk.set | (with_reducible apply Blk.other; case ha => exact (by first | omega | (simp; omega) | simp | (simp; done))))) b2 (by omega))
 have G2' := Blk.but (g := w.heap.size + 1) (T := 207) (by repeat (first | with_reducible exact uh HG | with_reducible apply Blk.alloc | with_reducible apply Blk.drew | with_reducible apply Blk.set | (with_reducible apply Blk.other; case ha => exact (by first | omega | (simp; omega) | simp | (simp; done))))) b2 (by omega)
 have G2 : Blk w2 (w.heap.size + 1) #[.int .i64 (tokP s (K s i)), .string (tokT s (K s i)), .int .i64 2, .int .i64 0, .string ⟨#[]⟩] 207 := G2'
 have R2 : Blk w2 w.heap.size #[.int .i64 0, .string ⟨#[]⟩, .int .i64 0, .int .i64 0, .string ⟨#[]⟩] 207 := uh HR2
 obtain ⟨p0, p1, p2, p3, p4⟩ := R2.five
 obtain ⟨q0, q1, q2, q3, q4⟩ := G2.five
 have zp := R2.fz
 have zq := G2.fz
 have tz := G2.lt
 have tz' : w.heap.size < w2.heap.size := by omega
 have HG2 := hide G2
 have A2 := hide a2
 have B2 := hide (But.trans (x := w) (by repeat (first | with_reducible exact uh B1 | with_reducible refine But.alloc ?_ _ | with_reducible refine But.drew ?_ | (with_reducible refine But.setNew ?_ ?_ _; rotate_left; exact (by first | omega | (simp; omega) | simp | (simp; done))))) b2)
 clear a2 b2 R2 G2 G2' r0 r1 r2 r3 r4 g0 g1 g2 g3 g4 zr zg hsz hsz' hne hne'
 go_wp2_with fail
 have C := hide (name_post b s (j + 1) d w2 (uh Hs) (uh A2))
 rw [uh Hm] at C
 refine (uh C).mono ?_
 rintro e w3 ⟨b3, v, d', rfl, rfl, a3⟩
 have HR3 := hide (Blk.but (uh HR2) b3 (by omega))
 have G3 := Blk.but (uh HG2) b3 (by omega)
 have R3 : Blk w3 w.heap.size #[.int .i64 0, .string ⟨#[]⟩, .int .i64 0, .int .i64 0, .string ⟨#[]⟩] 207 := uh HR3
 obtain ⟨p0, p1, p2, p3, p4⟩ := R3.five
 obtain ⟨q0, q1, q2, q3, q4⟩ := G3.five
 have zp := R3.fz
 have zq := G3.fz
 have tz := G3.lt
 have tz' : w.heap.size < w3.heap.size := by omega
 have A3 := hide a3
 have B3 := hide (But.trans (uh B2) b3)
 clear a3 b3 R3 G3
 unfold nm0 errv
 go_wp2
 refine bodyPost_ret (v := .tuple #[grv ⟨TT s i, PP s i, 2, em, 0⟩, errv c]) (res_cc Tryz.results277 _ _ w.heap.size _ 207 _ _ rfl rfl ?hB Tryz.underlying207 rfl (by kernel_rfl)) rfl ?post
 case hB => exact ⟨_, (by repeat (first | with_reducible exact uh HR3 | with_reducible apply Blk.alloc | with_reducible apply Blk.drew | with_reducible apply Blk.set | (with_reducible apply Blk.other; case ha => exact (by first | omega | (simp; omega) | simp | (simp; done))))), by rfl⟩
 case post => exact ⟨(by repeat (first | with_reducible exact uh B3 | with_reducible refine But.alloc ?_ _ | with_reducible refine But.drew ?_ | (with_reducible refine But.setNew ?_ ?_ _; rotate_left; exact (by first | omega | (simp; omega) | simp | (simp; done))))), _, d', rfl, ⟨_, rfl⟩, (by repeat (first | with_reducible exact uh A3 | with_reducible refine At.alloc ?_ _ | with_reducible refine At.drew ?_ | (with_reducible refine At.setNew ?_ ?_ _; rotate_left; exact (by first | omega | (simp; omega) | simp | (simp; done)))))⟩
theorem grant_post (b : Nat) (s : ByteArray) (i d : Nat) (w : World) (hs : s.size ≤ maxLen) (h : At w b s i d) :
  Calls Tryz.prog 277 #[.pointer (some ⟨b, 0, none⟩)] w (Post b s d w (grantR (TT s) (PP s) i) (fun _ g v => v = grv g) IsGr) := by
 unfold grantR
 cases hr : nameR (TT s) i with
 | error e => exact grant_bad b s i d w hs h e.1 e.2 hr
 | ok y =>
  obtain ⟨⟨⟩, j⟩ := y
  cases h1 : eqs (TT s j) (sg 42)
  ·cases h2 : eqs (TT s j) (sg 35)
   ·simp only [h1, h2]
    exact grant_plain b s i d w hs h j hr h1 h2
   ·cases hm : nameR (TT s) (j + 1) with
    | error e => simp only [h1, h2, hm]; exact grant_rbad b s i d w hs h j e.1 e.2 hr h1 h2 (hide hm)
    | ok y =>
     obtain ⟨⟨⟩, m⟩ := y
     simp only [h1, h2, hm]
     exact grant_rel b s i d w hs h j m hr h1 h2 (hide hm)
  ·simp only [h1]
   exact grant_all b s i d w hs h j hr h1
theorem Ex.ind (Q : Ex → Prop) (h0 : ∀ n r, Q ⟨n, none, r⟩) (h1 : ∀ n a, Q ⟨n, some a, none⟩) (h2 : ∀ n a b, Q a → Q b → Q ⟨n, some a, some b⟩) : ∀ e, Q e
 | ⟨n, none, r⟩ => h0 n r
 | ⟨n, some a, none⟩ => h1 n a
 | ⟨n, some a, some b⟩ => h2 n a b (Ex.ind Q h0 h1 h2 a) (Ex.ind Q h0 h1 h2 b)
def tyOf (k : Nat) : TypeId := if k = 3 then 244 else if k = 4 then 245 else 246
def gsCells (l : List Gr) : List Value := l.flatMap fun g => (grCells g).toList
def RepLeaf (b : Nat) (w : World) (n : Nd) (v : Value) : Prop :=
 (n.kind = 0 ∧ ∃ sv, v = .iface 236 (.agg #[.int .i64 n.place, sv]) ∧ w.ownsRow (b + 1) 207 5 sv n.gs.length (gsCells n.gs)) ∨
 (n.kind = 1 ∧ v = .iface 238 (.agg #[.int .i64 n.place, .string n.n1])) ∨
 (n.kind = 2 ∧ v = .iface 240 (.agg #[.int .i64 n.place, .int .i64 n.p1, .string n.n1, .int .i64 n.p2, .string n.n2]))
/-- The value is the expression: its lists of grants lie in memory behind block b. -/
def RepEx (b : Nat) (w : World) : Ex → Value → Prop
 | ⟨n, some x, some y⟩, v => ∃ vx vy, v = .iface (tyOf n.kind) (.agg #[.int .i64 n.place, vx, vy]) ∧ RepEx b w x vx ∧ RepEx b w y vy
 | ⟨n, none, _⟩, v => RepLeaf b w n v
 | ⟨_, some _, none⟩, _ => False
theorem ownsRow_frame {w w' : World} {base : Nat} {e : TypeId} {size : Nat} {v : Value} {n : Nat} {xs : List Value} (h : w.ownsRow base e size v n xs)
  (k : ∀ g cs f, base ≤ g → w.heap[g]? = some (.cells cs e f) → w'.heap[g]? = w.heap[g]?) : w'.ownsRow base e size v n xs := by
 obtain ⟨h1, h2⟩ := h
 refine ⟨h1, ?_⟩
 rcases h2 with h2 | ⟨g, cap, cur, hv, hg, hh, r⟩
 ·exact Or.inl h2
 ·exact Or.inr ⟨g, cap, cur, hv, hg, (k g cur (0, 0) hg hh).trans hh, r⟩
/-- All blocks of grants behind b are as they were. -/
def GKept (b : Nat) (w w' : World) : Prop := ∀ g cs f, b + 1 ≤ g → w.heap[g]? = some (.cells cs 207 f) → w'.heap[g]? = w.heap[g]?
theorem lt_of_some {w : World} {g : Nat} {o : Obj} (h : w.heap[g]? = some o) : g < w.heap.size := by
 rcases Nat.lt_or_ge g w.heap.size with k | k
 ·exact k
 ·rw [Array.getElem?_eq_none k] at h; cases h
theorem GKept.of_but {b : Nat} {w w' : World} (h : But b w w') : GKept b w w' := fun g cs f hg hh => h.block g (lt_of_some hh) (by omega)
theorem RepEx.frame {b : Nat} {w w' : World} (k : GKept b w w') : ∀ e v, RepEx b w e v → RepEx b w' e v := by
 intro e
 induction e using Ex.ind with
 | h0 n r =>
  intro v h
  rcases h with ⟨h1, sv, h2, h3⟩ | h | h
  ·exact Or.inl ⟨h1, sv, h2, ownsRow_frame h3 k⟩
  ·exact Or.inr (Or.inl h)
  ·exact Or.inr (Or.inr h)
 | h1 n a => intro v h; exact h
 | h2 n a c iha ihc =>
  rintro v ⟨vx, vy, h1, h2, h3⟩
  exact ⟨vx, vy, h1, iha _ h2, ihc _ h3⟩
theorem RepEx.but {b : Nat} {w w' : World} {e : Ex} {v : Value} (h : RepEx b w e v) (k : But b w w') : RepEx b w' e v := RepEx.frame (GKept.of_but k) e v h
theorem RepEx.isI {b : Nat} {w : World} {e : Ex} {v : Value} (h : RepEx b w e v) : ∃ t x, v = .iface t x := by
 match e, h with
 | ⟨n, some x, some y⟩, ⟨vx, vy, h1, _⟩ => exact ⟨_, _, h1⟩
 | ⟨n, none, _⟩, h =>
  rcases h with ⟨h1, sv, h2, h3⟩ | ⟨_, h⟩ | ⟨_, h⟩
  ·exact ⟨_, _, h2⟩
  ·exact ⟨_, _, h⟩
  ·exact ⟨_, _, h⟩
/-- The contract of what reads a part of an expression. -/
abbrev PostE (b : Nat) (s : ByteArray) (d : Nat) (w : World) (r : Res Ex) : Ending → World → Prop := Post b s d w r (RepEx b) IsI
set_option maxHeartbeats 1000000 in
set_option maxRecDepth 100000 in
theorem own_bad (b : Nat) (s : ByteArray) (i d : Nat) (w : World) (hs : s.size ≤ maxLen) (h : At w b s i d) (c j : Nat) (hr : nameR (TT s) i = .error (c, j)) :
  Calls Tryz.prog 273 #[.pointer (some ⟨b, 0, none⟩)] w (PostE b s d w (.error (c, j))) := by
 have hlt := h.lt
 have Hs := hide hs
 have C := hide (name_post b s i d w hs h)
 rw [hr] at C
 clear hr
 go_enter Tryz.func273, Tryz.ntmps273
 go_wp2_with fail
 refine (uh C).mono ?_
 rintro e w1 ⟨b1, v, d', rfl, rfl, a1⟩
 have A1 := hide a1
 have B1 := hide b1
 clear a1 b1 C h hs
 unfold nm0 errv
 go_wp2
 go_ret2
 exact ⟨(by repeat (first | with_reducible exact uh B1 | with_reducible refine But.alloc ?_ _ | with_reducible refine But.drew ?_ | (with_reducible refine But.setNew ?_ ?_ _; rotate_left; exact (by first | omega | (simp; omega) | simp | (simp; done))))), _, d', rfl, .inl rfl, (by repeat (first | with_reducible exact uh A1 | with_reducible refine At.alloc ?_ _ | with_reducible refine At.drew ?_ | (with_reducible refine At.setNew ?_ ?_ _; rotate_left; exact (by first | omega | (simp; omega) | simp | (simp; done)))))⟩
set_option maxHeartbeats 1000000 in
set_option maxRecDepth 100000 in
theorem own_own (b : Nat) (s : ByteArray) (i d : Nat) (w : World) (hs : s.size ≤ maxLen) (h : At w b s i d) (j : Nat) (hr : nameR (TT s) i = .ok ((), j)) (h1 : eqs (TT s j) (sg 46) = false) :
  Calls Tryz.prog 273 #[.pointer (some ⟨b, 0, none⟩)] w (PostE b s d w (.ok (⟨⟨1, PP s i, TT s i, PP s i, em, 0, []⟩, none, none⟩, j))) := by
 have hlt := h.lt
 have Hs := hide hs
 have C := hide (name_post b s i d w hs h)
 rw [hr] at C
 clear hr
 go_enter Tryz.func273, Tryz.ntmps273
 go_wp2_with fail
 refine (uh C).mono ?_
 rintro e w1 ⟨b1, v, rfl, rfl, a1⟩
 have A1 := hide a1
 have B1 := hide b1
 have hsz : b < w1.heap.size := Nat.lt_of_lt_of_le hlt b1.size
 clear a1 b1 C h hs
 unfold nmv
 go_wp2_with fail
 refine (ats b s j d _ _ (sg 46) _ ?_ ?_).mono ?_
 ·exact (by repeat (first | with_reducible exact uh A1 | with_reducible refine At.alloc ?_ _ | with_reducible refine At.drew ?_ | (with_reducible refine At.setNew ?_ ?_ _; rotate_left; exact (by first | omega | (simp; omega) | simp | (simp; done)))))
 ·exact cell_new1 _ _ _ _ (by simp)
 rintro e w2 ⟨rfl, rfl⟩
 rw [h1]
 go_wp2
 go_ret2
 exact ⟨(by repeat (first | with_reducible exact uh B1 | with_reducible refine But.alloc ?_ _ | with_reducible refine But.drew ?_ | (with_reducible refine But.setNew ?_ ?_ _; rotate_left; exact (by first | omega | (simp; omega) | simp | (simp; done))))), _, rfl, .inr (.inl ⟨rfl, rfl⟩), (by repeat (first | with_reducible exact uh A1 | with_reducible refine At.alloc ?_ _ | with_reducible refine At.drew ?_ | (with_reducible refine At.setNew ?_ ?_ _; rotate_left; exact (by first | omega | (simp; omega) | simp | (simp; done)))))⟩
set_option maxHeartbeats 1000000 in
set_option maxRecDepth 100000 in
theorem own_tie (b : Nat) (s : ByteArray) (i d : Nat) (w : World) (hs : s.size ≤ maxLen) (h : At w b s i d) (j m : Nat) (hr : nameR (TT s) i = .ok ((), j)) (h1 : eqs (TT s j) (sg 46) = true) (Hm : Hid (nameR (TT s) (j + 1) = .ok ((), m))) :
  Calls Tryz.prog 273 #[.pointer (some ⟨b, 0, none⟩)] w (PostE b s d w (.ok (⟨⟨2, PP s i, TT s i, PP s i, TT s (j + 1), PP s (j + 1), []⟩, none, none⟩, m))) := by
 have hlt := h.lt
 have Hs := hide hs
 have C := hide (name_post b s i d w hs h)
 rw [hr] at C
 clear hr
 go_enter Tryz.func273, Tryz.ntmps273
 go_wp2_with fail
 refine (uh C).mono ?_
 have H1 := hide h1
 rintro e w1 ⟨b1, v, rfl, rfl, a1⟩
 have A1 := hide a1
 have B1 := hide b1
 have hsz : b < w1.heap.size := Nat.lt_of_lt_of_le hlt b1.size
 clear a1 b1 C h hs
 unfold nmv
 go_wp2_with fail
 refine (ats b s j d _ _ (sg 46) _ ?_ ?_).mono ?_
 ·exact (by repeat (first | with_reducible exact uh A1 | with_reducible refine At.alloc ?_ _ | with_reducible refine At.drew ?_ | (with_reducible refine At.setNew ?_ ?_ _; rotate_left; exact (by first | omega | (simp; omega) | simp | (simp; done)))))
 ·exact cell_new1 _ _ _ _ (by simp)
 rintro e w2 ⟨rfl, rfl⟩
 rw [h1]
 clear h1
 go_wp2_with fail
 refine (steps b s j d _ (uh Hs) ?_ ?_).mono ?_
 ·exact (by repeat (first | with_reducible exact uh A1 | with_reducible refine At.alloc ?_ _ | with_reducible refine At.drew ?_ | (with_reducible refine At.setNew ?_ ?_ _; rotate_left; exact (by first | omega | (simp; omega) | simp | (simp; done)))))
 ·exact eqs_pos (uh H1) (by decide)
 rintro e w2 ⟨rfl, a2, b2⟩
 have N2 := Blk.but (g := w1.heap.size) (T := 107) (Blk.alloc (Blk.new w1 #[.int .i64 (tokP s (K s i)), .string (tokT s (K s i))] 107) _) b2 (by omega)
 have HN2 := hide N2
 have A2 := hide a2
 have B2 := hide (But.trans (x := w) (by repeat (first | with_reducible exact uh B1 | with_reducible refine But.alloc ?_ _ | with_reducible refine But.drew ?_ | (with_reducible refine But.setNew ?_ ?_ _; rotate_left; exact (by first | omega | (simp; omega) | simp | (simp; done))))) b2)
 clear a2 b2 N2
 go_wp2_with fail
 have C := hide (name_post b s (j + 1) d w2 (uh Hs) (uh A2))
 rw [uh Hm] at C
 refine (uh C).mono ?_
 rintro e w3 ⟨b3, v, rfl, rfl, a3⟩
 have N3 := Blk.but (uh HN2) b3 (by omega)
 obtain ⟨n0, n1⟩ := N3.two
 have hn := N3.lt
 have A3 := hide a3
 have B3 := hide (But.trans (uh B2) b3)
 clear a3 b3 N3
 unfold nmv
 go_wp2
 go_ret2
 exact ⟨(by repeat (first | with_reducible exact uh B3 | with_reducible refine But.alloc ?_ _ | with_reducible refine But.drew ?_ | (with_reducible refine But.setNew ?_ ?_ _; rotate_left; exact (by first | omega | (simp; omega) | simp | (simp; done))))), _, rfl, .inr (.inr ⟨rfl, rfl⟩), (by repeat (first | with_reducible exact uh A3 | with_reducible refine At.alloc ?_ _ | with_reducible refine At.drew ?_ | (with_reducible refine At.setNew ?_ ?_ _; rotate_left; exact (by first | omega | (simp; omega) | simp | (simp; done)))))⟩
set_option maxHeartbeats 1000000 in
set_option maxRecDepth 100000 in
theorem own_tbad (b : Nat) (s : ByteArray) (i d : Nat) (w : World) (hs : s.size ≤ maxLen) (h : At w b s i d) (j c m : Nat) (hr : nameR (TT s) i = .ok ((), j)) (h1 : eqs (TT s j) (sg 46) = true) (Hm : Hid (nameR (TT s) (j + 1) = .error (c, m))) :
  Calls Tryz.prog 273 #[.pointer (some ⟨b, 0, none⟩)] w (PostE b s d w (.error (c, m))) := by
 have hlt := h.lt
 have Hs := hide hs
 have C := hide (name_post b s i d w hs h)
 rw [hr] at C
 clear hr
 go_enter Tryz.func273, Tryz.ntmps273
 go_wp2_with fail
 refine (uh C).mono ?_
 have H1 := hide h1
 rintro e w1 ⟨b1, v, rfl, rfl, a1⟩
 have A1 := hide a1
 have B1 := hide b1
 have hsz : b < w1.heap.size := Nat.lt_of_lt_of_le hlt b1.size
 clear a1 b1 C h hs
 unfold nmv
 go_wp2_with fail
 refine (ats b s j d _ _ (sg 46) _ ?_ ?_).mono ?_
 ·exact (by repeat (first | with_reducible exact uh A1 | with_reducible refine At.alloc ?_ _ | with_reducible refine At.drew ?_ | (with_reducible refine At.setNew ?_ ?_ _; rotate_left; exact (by first | omega | (simp; omega) | simp | (simp; done)))))
 ·exact cell_new1 _ _ _ _ (by simp)
 rintro e w2 ⟨rfl, rfl⟩
 rw [h1]
 clear h1
 go_wp2_with fail
 refine (steps b s j d _ (uh Hs) ?_ ?_).mono ?_
 ·exact (by repeat (first | with_reducible exact uh A1 | with_reducible refine At.alloc ?_ _ | with_reducible refine At.drew ?_ | (with_reducible refine At.setNew ?_ ?_ _; rotate_left; exact (by first | omega | (simp; omega) | simp | (simp; done)))))
 ·exact eqs_pos (uh H1) (by decide)
 rintro e w2 ⟨rfl, a2, b2⟩
 have N2 := Blk.but (g := w1.heap.size) (T := 107) (Blk.alloc (Blk.new w1 #[.int .i64 (tokP s (K s i)), .string (tokT s (K s i))] 107) _) b2 (by omega)
 have HN2 := hide N2
 have A2 := hide a2
 have B2 := hide (But.trans (x := w) (by repeat (first | with_reducible exact uh B1 | with_reducible refine But.alloc ?_ _ | with_reducible refine But.drew ?_ | (with_reducible refine But.setNew ?_ ?_ _; rotate_left; exact (by first | omega | (simp; omega) | simp | (simp; done))))) b2)
 clear a2 b2 N2
 go_wp2_with fail
 have C := hide (name_post b s (j + 1) d w2 (uh Hs) (uh A2))
 rw [uh Hm] at C
 refine (uh C).mono ?_
 rintro e w3 ⟨b3, v, d', rfl, rfl, a3⟩
 have N3 := Blk.but (uh HN2) b3 (by omega)
 obtain ⟨n0, n1⟩ := N3.two
 have hn := N3.lt
 have A3 := hide a3
 have B3 := hide (But.trans (uh B2) b3)
 clear a3 b3 N3
 unfold nm0 errv
 go_wp2
 go_ret2
 exact ⟨(by repeat (first | with_reducible exact uh B3 | with_reducible refine But.alloc ?_ _ | with_reducible refine But.drew ?_ | (with_reducible refine But.setNew ?_ ?_ _; rotate_left; exact (by first | omega | (simp; omega) | simp | (simp; done))))), _, d', rfl, .inr ⟨_, _, rfl⟩, (by repeat (first | with_reducible exact uh A3 | with_reducible refine At.alloc ?_ _ | with_reducible refine At.drew ?_ | (with_reducible refine At.setNew ?_ ?_ _; rotate_left; exact (by first | omega | (simp; omega) | simp | (simp; done)))))⟩
theorem own_post (b : Nat) (s : ByteArray) (i d : Nat) (w : World) (hs : s.size ≤ maxLen) (h : At w b s i d) :
  Calls Tryz.prog 273 #[.pointer (some ⟨b, 0, none⟩)] w (PostE b s d w (ownTie (TT s) (PP s) i)) := by
 unfold ownTie
 cases hr : nameR (TT s) i with
 | error e => exact own_bad b s i d w hs h e.1 e.2 hr
 | ok y =>
  obtain ⟨⟨⟩, j⟩ := y
  cases h1 : eqs (TT s j) (sg 46)
  ·simp only [h1]
   exact own_own b s i d w hs h j hr h1
  ·cases hm : nameR (TT s) (j + 1) with
   | error e => simp only [h1, hm]; exact own_tbad b s i d w hs h j e.1 e.2 hr h1 (hide hm)
   | ok y =>
    obtain ⟨⟨⟩, m⟩ := y
    simp only [h1, hm]
    exact own_tie b s i d w hs h j m hr h1 (hide hm)
set_option maxHeartbeats 1000000 in
set_option maxRecDepth 100000 in
theorem join_any (p : Int) (t : ByteArray) (x y : Value) (hx : IsI x) (hy : IsI y) (w : World) :
  Calls Tryz.prog 263 #[.agg #[.int .i64 p, .string t], x, y] w fun e w' => e = .returned (.iface (tyOf (kindOf t)) (.agg #[.int .i64 p, x, y])) ∧ Below w.heap.size w w' := by
 have hk : ∀ a b, (t.toList == [124]) = a → (t.toList == [38]) = b → kindOf t = if a then 3 else if b then 4 else 5 := by
  intro a b h1 h2
  unfold kindOf eqs
  rw [← toList_lst, show lst (sg 124) = [124] from rfl, show lst (sg 38) = [38] from rfl, h1, h2]
 cases h1 : (t.toList == [124])
 ·cases h2 : (t.toList == [38])
  all_goals
   rw [hk _ _ h1 h2]
   clear hk
   rcases hx with rfl | ⟨tx, vx, rfl⟩ <;> rcases hy with rfl | ⟨ty, vy, rfl⟩
   all_goals
    go_enter Tryz.func263, Tryz.ntmps263
    go_wp2
    go_ret
    exact ⟨rfl, ((Below.refl _ _).alloc (Nat.le_refl _) _).alloc (by simp) _⟩
 ·rw [hk _ _ h1 rfl]
  clear hk
  rcases hx with rfl | ⟨tx, vx, rfl⟩ <;> rcases hy with rfl | ⟨ty, vy, rfl⟩
  all_goals
   go_enter Tryz.func263, Tryz.ntmps263
   go_wp2
   go_ret
   exact ⟨rfl, ((Below.refl _ _).alloc (Nat.le_refl _) _).alloc (by simp) _⟩
end Go.Proofs.YtlbpnlngckgcbaaGreatDoor
