import Derived.Test.YtlbpnlngckgcbaaGreatDoorGram
namespace Go.Proofs.YtlbpnlngckgcbaaGreatDoor
open Go.RowKit Go.PlainAid
set_option linter.unusedSimpArgs false
set_option linter.unusedVariables false

def grCells (g : Gr) : Array Value := #[.int .i64 g.tp, .string g.ty, .int .i64 g.reach, .int .i64 g.rp, .string g.rel]
def grv (g : Gr) : Value := .agg (grCells g)
def IsGr (v : Value) : Prop := ∃ g, v = grv g

theorem cell_new1 (W : World) (x : Value) (T n : Nat) (hn : n = W.heap.size) : (W.alloc (.cells #[x] T)).cell? ⟨n, 0, none⟩ = some x := by
  subst hn; exact (Blk.new W #[x] T).cell rfl

theorem res_cc {P : Program} {fn : Func} {p u : Tmp} {ty : TypeId} (h : fn.results = #[.cell p ty, .tmp u]) (tmps : Array Value) (w : World) (g : Nat) (cs' : Array Value) (t : TypeId) (e : Value) (d : TypeDesc)
    (hp : tmps.getD p undef = .pointer (some ⟨g, 0, none⟩)) (hq : tmps.getD u undef = e) (hb : ∃ cs, Blk w g cs t ∧ cs = cs')
    (hu : P.underlying ty = some d) (hd : (match d with | .struct _ | .array _ _ => true | _ => false) = true) (hi : (P.info? ty).map (·.size) = some cs'.size) :
    (results fn tmps).run P w = .ok (.tuple #[.agg cs', e]) w := by
  obtain ⟨cs, hb, rfl⟩ := hb
  exact res_ct h tmps w g cs t e d hp hq hb hu hd hi

set_option maxHeartbeats 1000000 in
set_option maxRecDepth 100000 in
theorem grant_bad (b : Nat) (s : ByteArray) (i d : Nat) (w : World) (hs : s.size ≤ maxLen) (h : At w b s i d) (c j : Nat) (hr : nameR (TT s) i = .error (c, j)) :
    Calls Tryz.prog 277 #[.pointer (some ⟨b, 0, none⟩)] w (Post b s d w (.error (c, j) : Res Gr) (fun _ g v => v = grv g) IsGr) := by
  have hlt := h.lt
  have C := hide (name_post b s i d _ hs ((h.alloc (.cells #[.int .i64 0, .string ⟨#[]⟩, .int .i64 0, .int .i64 0, .string ⟨#[]⟩] 207)).alloc (.cells #[.int .i64 0, .string ⟨#[]⟩, .int .i64 0, .int .i64 0, .string ⟨#[]⟩] 207)))
  rw [hr] at C
  clear hr
  go_enter Tryz.func277, Tryz.ntmps277
  go_wp2_with fail
  refine (unhide C).mono ?_
  rintro e w1 ⟨b1, v, d', rfl, rfl, a1⟩
  have A1 := hide a1
  have B1 := hide (((But.refl b w).alloc _).alloc _ |>.trans b1)
  have R := ((Blk.new w #[.int .i64 0, .string ⟨#[]⟩, .int .i64 0, .int .i64 0, .string ⟨#[]⟩] 207).alloc _).but b1 (by omega)
  have G := (Blk.new (w.alloc (.cells #[.int .i64 0, .string ⟨#[]⟩, .int .i64 0, .int .i64 0, .string ⟨#[]⟩] 207)) #[.int .i64 0, .string ⟨#[]⟩, .int .i64 0, .int .i64 0, .string ⟨#[]⟩] 207).but b1 (by simp; omega)
  rw [show (w.alloc (.cells #[.int .i64 0, .string ⟨#[]⟩, .int .i64 0, .int .i64 0, .string ⟨#[]⟩] 207)).heap.size = w.heap.size + 1 by simp] at G
  have HR := hide R
  have HG := hide G
  obtain ⟨r0, r1, r2, r3, r4⟩ := R.five
  obtain ⟨g0, g1, g2, g3, g4⟩ := G.five
  have zr := R.fz
  have zg := G.fz
  have hsz := G.lt
  have hsz' : w.heap.size < w1.heap.size := by omega
  clear a1 b1 C h hs R G
  unfold errv nm0
  go_wp2
  refine bodyPost_ret (v := .tuple #[.agg #[.int .i64 0, .string ⟨#[]⟩, .int .i64 0, .int .i64 0, .string ⟨#[]⟩], errv c]) (res_cc Tryz.results277 _ _ w.heap.size _ 207 _ _ rfl rfl ?hB Tryz.underlying207 rfl (by kernel_rfl)) rfl ?post
  case hB => exact ⟨_, (by repeat (first | with_reducible exact unhide HR | with_reducible apply Blk.alloc | with_reducible apply Blk.drew | with_reducible apply Blk.set | (with_reducible apply Blk.other; case ha => exact (by first | omega | (simp; omega) | simp | (simp; done))))), by rfl⟩
  case post => exact ⟨(by repeat (first | with_reducible exact unhide B1 | with_reducible refine But.alloc ?_ _ | with_reducible refine But.drew ?_ | (with_reducible refine But.setNew ?_ ?_ _; rotate_left; exact (by first | omega | (simp; omega) | simp | (simp; done))))), _, d', rfl, ⟨⟨⟨#[]⟩, 0, 0, ⟨#[]⟩, 0⟩, rfl⟩, (by repeat (first | with_reducible exact unhide A1 | with_reducible refine At.alloc ?_ _ | with_reducible refine At.drew ?_ | (with_reducible refine At.setNew ?_ ?_ _; rotate_left; exact (by first | omega | (simp; omega) | simp | (simp; done)))))⟩

set_option maxHeartbeats 1000000 in
set_option maxRecDepth 100000 in
theorem grant_plain (b : Nat) (s : ByteArray) (i d : Nat) (w : World) (hs : s.size ≤ maxLen) (h : At w b s i d) (j : Nat) (hr : nameR (TT s) i = .ok ((), j)) (h1 : eqs (TT s j) (sg 42) = false) (h2 : eqs (TT s j) (sg 35) = false) :
    Calls Tryz.prog 277 #[.pointer (some ⟨b, 0, none⟩)] w (Post b s d w (.ok (⟨TT s i, PP s i, 0, em, 0⟩, j) : Res Gr) (fun _ g v => v = grv g) IsGr) := by
  have hlt := h.lt
  have Hs := hide hs
  have C := hide (name_post b s i d _ hs ((h.alloc (.cells #[.int .i64 0, .string ⟨#[]⟩, .int .i64 0, .int .i64 0, .string ⟨#[]⟩] 207)).alloc (.cells #[.int .i64 0, .string ⟨#[]⟩, .int .i64 0, .int .i64 0, .string ⟨#[]⟩] 207)))
  rw [hr] at C
  clear hr
  go_enter Tryz.func277, Tryz.ntmps277
  go_wp2_with fail
  refine (unhide C).mono ?_
  rintro e w1 ⟨b1, v, rfl, rfl, a1⟩
  have A1 := hide a1
  have B1 := hide (((But.refl b w).alloc _).alloc _ |>.trans b1)
  have R := ((Blk.new w #[.int .i64 0, .string ⟨#[]⟩, .int .i64 0, .int .i64 0, .string ⟨#[]⟩] 207).alloc _).but b1 (by omega)
  have G := (Blk.new (w.alloc (.cells #[.int .i64 0, .string ⟨#[]⟩, .int .i64 0, .int .i64 0, .string ⟨#[]⟩] 207)) #[.int .i64 0, .string ⟨#[]⟩, .int .i64 0, .int .i64 0, .string ⟨#[]⟩] 207).but b1 (by simp; omega)
  rw [show (w.alloc (.cells #[.int .i64 0, .string ⟨#[]⟩, .int .i64 0, .int .i64 0, .string ⟨#[]⟩] 207)).heap.size = w.heap.size + 1 by simp] at G
  have HR := hide R
  have HG := hide G
  obtain ⟨r0, r1, r2, r3, r4⟩ := R.five
  obtain ⟨g0, g1, g2, g3, g4⟩ := G.five
  have zr := R.fz
  have zg := G.fz
  have hsz := G.lt
  have hsz' : w.heap.size < w1.heap.size := by omega
  have hne : ¬ (w1.heap.size = w.heap.size) := by omega
  have hne' : ¬ (w1.heap.size = w.heap.size + 1) := by omega
  clear a1 b1 C h hs R G
  unfold nmv
  go_wp2_with fail
  refine (ats b s j d _ _ (sg 42) _ ?_ ?_).mono ?_
  · exact (by repeat (first | with_reducible exact unhide A1 | with_reducible refine At.alloc ?_ _ | with_reducible refine At.drew ?_ | (with_reducible refine At.setNew ?_ ?_ _; rotate_left; exact (by first | omega | (simp; omega) | simp | (simp; done)))))
  · exact cell_new1 _ _ _ _ (by simp)
  rintro e w2 ⟨rfl, rfl⟩
  rw [h1]
  go_wp2_with fail
  refine (ats b s j d _ _ (sg 35) _ ?_ ?_).mono ?_
  · exact (by repeat (first | with_reducible exact unhide A1 | with_reducible refine At.alloc ?_ _ | with_reducible refine At.drew ?_ | (with_reducible refine At.setNew ?_ ?_ _; rotate_left; exact (by first | omega | (simp; omega) | simp | (simp; done)))))
  · exact cell_new1 _ _ _ _ (by simp)
  rintro e w2 ⟨rfl, rfl⟩
  rw [h2]
  go_wp2
  refine bodyPost_ret (v := .tuple #[grv ⟨TT s i, PP s i, 0, em, 0⟩, .nilIface]) (res_cc Tryz.results277 _ _ w.heap.size _ 207 _ _ rfl rfl ?hB Tryz.underlying207 rfl (by kernel_rfl)) rfl ?post
  case hB => exact ⟨_, (by repeat (first | with_reducible exact unhide HR | with_reducible apply Blk.alloc | with_reducible apply Blk.drew | with_reducible apply Blk.set | (with_reducible apply Blk.other; case ha => exact (by first | omega | (simp; omega) | simp | (simp; done))))), by rfl⟩
  case post => exact ⟨(by repeat (first | with_reducible exact unhide B1 | with_reducible refine But.alloc ?_ _ | with_reducible refine But.drew ?_ | (with_reducible refine But.setNew ?_ ?_ _; rotate_left; exact (by first | omega | (simp; omega) | simp | (simp; done))))), _, rfl, rfl, (by repeat (first | with_reducible exact unhide A1 | with_reducible refine At.alloc ?_ _ | with_reducible refine At.drew ?_ | (with_reducible refine At.setNew ?_ ?_ _; rotate_left; exact (by first | omega | (simp; omega) | simp | (simp; done)))))⟩

set_option maxHeartbeats 1000000 in
set_option maxRecDepth 100000 in
theorem grant_all (b : Nat) (s : ByteArray) (i d : Nat) (w : World) (hs : s.size ≤ maxLen) (h : At w b s i d) (j : Nat) (hr : nameR (TT s) i = .ok ((), j)) (h1 : eqs (TT s j) (sg 42) = true) :
    Calls Tryz.prog 277 #[.pointer (some ⟨b, 0, none⟩)] w (Post b s d w (.ok (⟨TT s i, PP s i, 1, em, 0⟩, j + 1) : Res Gr) (fun _ g v => v = grv g) IsGr) := by
  have hlt := h.lt
  have Hs := hide hs
  have C := hide (name_post b s i d _ hs ((h.alloc (.cells #[.int .i64 0, .string ⟨#[]⟩, .int .i64 0, .int .i64 0, .string ⟨#[]⟩] 207)).alloc (.cells #[.int .i64 0, .string ⟨#[]⟩, .int .i64 0, .int .i64 0, .string ⟨#[]⟩] 207)))
  rw [hr] at C
  clear hr
  go_enter Tryz.func277, Tryz.ntmps277
  go_wp2_with fail
  refine (unhide C).mono ?_
  rintro e w1 ⟨b1, v, rfl, rfl, a1⟩
  have A1 := hide a1
  have B1 := hide (((But.refl b w).alloc _).alloc _ |>.trans b1)
  have R := ((Blk.new w #[.int .i64 0, .string ⟨#[]⟩, .int .i64 0, .int .i64 0, .string ⟨#[]⟩] 207).alloc _).but b1 (by omega)
  have G := (Blk.new (w.alloc (.cells #[.int .i64 0, .string ⟨#[]⟩, .int .i64 0, .int .i64 0, .string ⟨#[]⟩] 207)) #[.int .i64 0, .string ⟨#[]⟩, .int .i64 0, .int .i64 0, .string ⟨#[]⟩] 207).but b1 (by simp; omega)
  rw [show (w.alloc (.cells #[.int .i64 0, .string ⟨#[]⟩, .int .i64 0, .int .i64 0, .string ⟨#[]⟩] 207)).heap.size = w.heap.size + 1 by simp] at G
  have HR := hide R
  have HG := hide G
  obtain ⟨r0, r1, r2, r3, r4⟩ := R.five
  obtain ⟨g0, g1, g2, g3, g4⟩ := G.five
  have zr := R.fz
  have zg := G.fz
  have hsz := G.lt
  have hsz' : w.heap.size < w1.heap.size := by omega
  have hne : ¬ (w1.heap.size = w.heap.size) := by omega
  have hne' : ¬ (w1.heap.size = w.heap.size + 1) := by omega
  clear a1 b1 C h hs R G
  unfold nmv
  have H1 := hide h1
  go_wp2_with fail
  refine (ats b s j d _ _ (sg 42) _ ?_ ?_).mono ?_
  · exact (by repeat (first | with_reducible exact unhide A1 | with_reducible refine At.alloc ?_ _ | with_reducible refine At.drew ?_ | (with_reducible refine At.setNew ?_ ?_ _; rotate_left; exact (by first | omega | (simp; omega) | simp | (simp; done)))))
  · exact cell_new1 _ _ _ _ (by simp)
  rintro e w2 ⟨rfl, rfl⟩
  rw [h1]
  go_wp2_with fail
  refine (steps b s j d _ (unhide Hs) ?_ ?_).mono ?_
  · exact (by repeat (first | with_reducible exact unhide A1 | with_reducible refine At.alloc ?_ _ | with_reducible refine At.drew ?_ | (with_reducible refine At.setNew ?_ ?_ _; rotate_left; exact (by first | omega | (simp; omega) | simp | (simp; done)))))
  · exact eqs_pos (unhide H1) (by decide)
  rintro e w2 ⟨rfl, a2, b2⟩
  have HR2 := hide (Blk.but (g := w.heap.size) (T := 207) (by repeat (first | with_reducible exact unhide HR | with_reducible apply Blk.alloc | with_reducible apply Blk.drew | with_reducible apply Blk.set | (with_reducible apply Blk.other; case ha => exact (by first | omega | (simp; omega) | simp | (simp; done))))) b2 (by omega))
  have G2' := Blk.but (g := w.heap.size + 1) (T := 207) (by repeat (first | with_reducible exact unhide HG | with_reducible apply Blk.alloc | with_reducible apply Blk.drew | with_reducible apply Blk.set | (with_reducible apply Blk.other; case ha => exact (by first | omega | (simp; omega) | simp | (simp; done))))) b2 (by omega)
  have G2 : Blk w2 (w.heap.size + 1) #[.int .i64 (tokP s (K s i)), .string (tokT s (K s i)), .int .i64 1, .int .i64 0, .string ⟨#[]⟩] 207 := G2'
  have R2 : Blk w2 w.heap.size #[.int .i64 0, .string ⟨#[]⟩, .int .i64 0, .int .i64 0, .string ⟨#[]⟩] 207 := unhide HR2
  obtain ⟨p0, p1, p2, p3, p4⟩ := R2.five
  obtain ⟨q0, q1, q2, q3, q4⟩ := G2.five
  have zp := R2.fz
  have zq := G2.fz
  have tz := G2.lt
  have tz' : w.heap.size < w2.heap.size := by omega
  have HG2 := hide G2
  have A2 := hide a2
  have B2 := hide (But.trans (x := w) (by repeat (first | with_reducible exact unhide B1 | with_reducible refine But.alloc ?_ _ | with_reducible refine But.drew ?_ | (with_reducible refine But.setNew ?_ ?_ _; rotate_left; exact (by first | omega | (simp; omega) | simp | (simp; done))))) b2)
  clear a2 b2 R2 G2 G2' r0 r1 r2 r3 r4 g0 g1 g2 g3 g4 zr zg hsz hsz' hne hne'
  go_wp2
  refine bodyPost_ret (v := .tuple #[grv ⟨TT s i, PP s i, 1, em, 0⟩, .nilIface]) (res_cc Tryz.results277 _ _ w.heap.size _ 207 _ _ rfl rfl ?hB Tryz.underlying207 rfl (by kernel_rfl)) rfl ?post
  case hB => exact ⟨_, (by repeat (first | with_reducible exact unhide HR2 | with_reducible apply Blk.alloc | with_reducible apply Blk.drew | with_reducible apply Blk.set | (with_reducible apply Blk.other; case ha => exact (by first | omega | (simp; omega) | simp | (simp; done))))), by rfl⟩
  case post => exact ⟨(by repeat (first | with_reducible exact unhide B2 | with_reducible refine But.alloc ?_ _ | with_reducible refine But.drew ?_ | (with_reducible refine But.setNew ?_ ?_ _; rotate_left; exact (by first | omega | (simp; omega) | simp | (simp; done))))), _, rfl, rfl, (by repeat (first | with_reducible exact unhide A2 | with_reducible refine At.alloc ?_ _ | with_reducible refine At.drew ?_ | (with_reducible refine At.setNew ?_ ?_ _; rotate_left; exact (by first | omega | (simp; omega) | simp | (simp; done)))))⟩

set_option maxHeartbeats 1000000 in
set_option maxRecDepth 100000 in
theorem grant_rel (b : Nat) (s : ByteArray) (i d : Nat) (w : World) (hs : s.size ≤ maxLen) (h : At w b s i d) (j m : Nat) (hr : nameR (TT s) i = .ok ((), j)) (h1 : eqs (TT s j) (sg 42) = false) (h2 : eqs (TT s j) (sg 35) = true) (Hm : Hid (nameR (TT s) (j + 1) = .ok ((), m))) :
    Calls Tryz.prog 277 #[.pointer (some ⟨b, 0, none⟩)] w (Post b s d w (.ok (⟨TT s i, PP s i, 2, TT s (j + 1), PP s (j + 1)⟩, m) : Res Gr) (fun _ g v => v = grv g) IsGr) := by
  have hlt := h.lt
  have Hs := hide hs
  have C := hide (name_post b s i d _ hs ((h.alloc (.cells #[.int .i64 0, .string ⟨#[]⟩, .int .i64 0, .int .i64 0, .string ⟨#[]⟩] 207)).alloc (.cells #[.int .i64 0, .string ⟨#[]⟩, .int .i64 0, .int .i64 0, .string ⟨#[]⟩] 207)))
  rw [hr] at C
  clear hr
  go_enter Tryz.func277, Tryz.ntmps277
  go_wp2_with fail
  refine (unhide C).mono ?_
  rintro e w1 ⟨b1, v, rfl, rfl, a1⟩
  have A1 := hide a1
  have B1 := hide (((But.refl b w).alloc _).alloc _ |>.trans b1)
  have R := ((Blk.new w #[.int .i64 0, .string ⟨#[]⟩, .int .i64 0, .int .i64 0, .string ⟨#[]⟩] 207).alloc _).but b1 (by omega)
  have G := (Blk.new (w.alloc (.cells #[.int .i64 0, .string ⟨#[]⟩, .int .i64 0, .int .i64 0, .string ⟨#[]⟩] 207)) #[.int .i64 0, .string ⟨#[]⟩, .int .i64 0, .int .i64 0, .string ⟨#[]⟩] 207).but b1 (by simp; omega)
  rw [show (w.alloc (.cells #[.int .i64 0, .string ⟨#[]⟩, .int .i64 0, .int .i64 0, .string ⟨#[]⟩] 207)).heap.size = w.heap.size + 1 by simp] at G
  have HR := hide R
  have HG := hide G
  obtain ⟨r0, r1, r2, r3, r4⟩ := R.five
  obtain ⟨g0, g1, g2, g3, g4⟩ := G.five
  have zr := R.fz
  have zg := G.fz
  have hsz := G.lt
  have hsz' : w.heap.size < w1.heap.size := by omega
  have hne : ¬ (w1.heap.size = w.heap.size) := by omega
  have hne' : ¬ (w1.heap.size = w.heap.size + 1) := by omega
  clear a1 b1 C h hs R G
  unfold nmv
  have H2 := hide h2
  go_wp2_with fail
  refine (ats b s j d _ _ (sg 42) _ ?_ ?_).mono ?_
  · exact (by repeat (first | with_reducible exact unhide A1 | with_reducible refine At.alloc ?_ _ | with_reducible refine At.drew ?_ | (with_reducible refine At.setNew ?_ ?_ _; rotate_left; exact (by first | omega | (simp; omega) | simp | (simp; done)))))
  · exact cell_new1 _ _ _ _ (by simp)
  rintro e w2 ⟨rfl, rfl⟩
  rw [h1]
  go_wp2_with fail
  refine (ats b s j d _ _ (sg 35) _ ?_ ?_).mono ?_
  · exact (by repeat (first | with_reducible exact unhide A1 | with_reducible refine At.alloc ?_ _ | with_reducible refine At.drew ?_ | (with_reducible refine At.setNew ?_ ?_ _; rotate_left; exact (by first | omega | (simp; omega) | simp | (simp; done)))))
  · exact cell_new1 _ _ _ _ (by simp)
  rintro e w2 ⟨rfl, rfl⟩
  rw [h2]
  clear h1 h2
  go_wp2_with fail
  refine (steps b s j d _ (unhide Hs) ?_ ?_).mono ?_
  · exact (by repeat (first | with_reducible exact unhide A1 | with_reducible refine At.alloc ?_ _ | with_reducible refine At.drew ?_ | (with_reducible refine At.setNew ?_ ?_ _; rotate_left; exact (by first | omega | (simp; omega) | simp | (simp; done)))))
  · exact eqs_pos (unhide H2) (by decide)
  rintro e w2 ⟨rfl, a2, b2⟩
  have HR2 := hide (Blk.but (g := w.heap.size) (T := 207) (by repeat (first | with_reducible exact unhide HR | with_reducible apply Blk.alloc | with_reducible apply Blk.drew | with_reducible apply Blk.set | (with_reducible apply Blk.other; case ha => exact (by first | omega | (simp; omega) | simp | (simp; done))))) b2 (by omega))
  have G2' := Blk.but (g := w.heap.size + 1) (T := 207) (by repeat (first | with_reducible exact unhide HG | with_reducible apply Blk.alloc | with_reducible apply Blk.drew | with_reducible apply Blk.set | (with_reducible apply Blk.other; case ha => exact (by first | omega | (simp; omega) | simp | (simp; done))))) b2 (by omega)
  have G2 : Blk w2 (w.heap.size + 1) #[.int .i64 (tokP s (K s i)), .string (tokT s (K s i)), .int .i64 2, .int .i64 0, .string ⟨#[]⟩] 207 := G2'
  have R2 : Blk w2 w.heap.size #[.int .i64 0, .string ⟨#[]⟩, .int .i64 0, .int .i64 0, .string ⟨#[]⟩] 207 := unhide HR2
  obtain ⟨p0, p1, p2, p3, p4⟩ := R2.five
  obtain ⟨q0, q1, q2, q3, q4⟩ := G2.five
  have zp := R2.fz
  have zq := G2.fz
  have tz := G2.lt
  have tz' : w.heap.size < w2.heap.size := by omega
  have HG2 := hide G2
  have A2 := hide a2
  have B2 := hide (But.trans (x := w) (by repeat (first | with_reducible exact unhide B1 | with_reducible refine But.alloc ?_ _ | with_reducible refine But.drew ?_ | (with_reducible refine But.setNew ?_ ?_ _; rotate_left; exact (by first | omega | (simp; omega) | simp | (simp; done))))) b2)
  clear a2 b2 R2 G2 G2' r0 r1 r2 r3 r4 g0 g1 g2 g3 g4 zr zg hsz hsz' hne hne'
  go_wp2_with fail
  have C := hide (name_post b s (j + 1) d w2 (unhide Hs) (unhide A2))
  rw [unhide Hm] at C
  refine (unhide C).mono ?_
  rintro e w3 ⟨b3, v, rfl, rfl, a3⟩
  have HR3 := hide (Blk.but (unhide HR2) b3 (by omega))
  have G3 := Blk.but (unhide HG2) b3 (by omega)
  have R3 : Blk w3 w.heap.size #[.int .i64 0, .string ⟨#[]⟩, .int .i64 0, .int .i64 0, .string ⟨#[]⟩] 207 := unhide HR3
  obtain ⟨p0, p1, p2, p3, p4⟩ := R3.five
  obtain ⟨q0, q1, q2, q3, q4⟩ := G3.five
  have zp := R3.fz
  have zq := G3.fz
  have tz := G3.lt
  have tz' : w.heap.size < w3.heap.size := by omega
  have A3 := hide a3
  have B3 := hide (But.trans (unhide B2) b3)
  clear a3 b3 R3 G3
  unfold nmv
  go_wp2
  refine bodyPost_ret (v := .tuple #[grv ⟨TT s i, PP s i, 2, TT s (j + 1), PP s (j + 1)⟩, .nilIface]) (res_cc Tryz.results277 _ _ w.heap.size _ 207 _ _ rfl rfl ?hB Tryz.underlying207 rfl (by kernel_rfl)) rfl ?post
  case hB => exact ⟨_, (by repeat (first | with_reducible exact unhide HR3 | with_reducible apply Blk.alloc | with_reducible apply Blk.drew | with_reducible apply Blk.set | (with_reducible apply Blk.other; case ha => exact (by first | omega | (simp; omega) | simp | (simp; done))))), by rfl⟩
  case post => exact ⟨(by repeat (first | with_reducible exact unhide B3 | with_reducible refine But.alloc ?_ _ | with_reducible refine But.drew ?_ | (with_reducible refine But.setNew ?_ ?_ _; rotate_left; exact (by first | omega | (simp; omega) | simp | (simp; done))))), _, rfl, rfl, (by repeat (first | with_reducible exact unhide A3 | with_reducible refine At.alloc ?_ _ | with_reducible refine At.drew ?_ | (with_reducible refine At.setNew ?_ ?_ _; rotate_left; exact (by first | omega | (simp; omega) | simp | (simp; done)))))⟩

set_option maxHeartbeats 1000000 in
set_option maxRecDepth 100000 in
theorem grant_rbad (b : Nat) (s : ByteArray) (i d : Nat) (w : World) (hs : s.size ≤ maxLen) (h : At w b s i d) (j c m : Nat) (hr : nameR (TT s) i = .ok ((), j)) (h1 : eqs (TT s j) (sg 42) = false) (h2 : eqs (TT s j) (sg 35) = true) (Hm : Hid (nameR (TT s) (j + 1) = .error (c, m))) :
    Calls Tryz.prog 277 #[.pointer (some ⟨b, 0, none⟩)] w (Post b s d w (.error (c, m) : Res Gr) (fun _ g v => v = grv g) IsGr) := by
  have hlt := h.lt
  have Hs := hide hs
  have C := hide (name_post b s i d _ hs ((h.alloc (.cells #[.int .i64 0, .string ⟨#[]⟩, .int .i64 0, .int .i64 0, .string ⟨#[]⟩] 207)).alloc (.cells #[.int .i64 0, .string ⟨#[]⟩, .int .i64 0, .int .i64 0, .string ⟨#[]⟩] 207)))
  rw [hr] at C
  clear hr
  go_enter Tryz.func277, Tryz.ntmps277
  go_wp2_with fail
  refine (unhide C).mono ?_
  rintro e w1 ⟨b1, v, rfl, rfl, a1⟩
  have A1 := hide a1
  have B1 := hide (((But.refl b w).alloc _).alloc _ |>.trans b1)
  have R := ((Blk.new w #[.int .i64 0, .string ⟨#[]⟩, .int .i64 0, .int .i64 0, .string ⟨#[]⟩] 207).alloc _).but b1 (by omega)
  have G := (Blk.new (w.alloc (.cells #[.int .i64 0, .string ⟨#[]⟩, .int .i64 0, .int .i64 0, .string ⟨#[]⟩] 207)) #[.int .i64 0, .string ⟨#[]⟩, .int .i64 0, .int .i64 0, .string ⟨#[]⟩] 207).but b1 (by simp; omega)
  rw [show (w.alloc (.cells #[.int .i64 0, .string ⟨#[]⟩, .int .i64 0, .int .i64 0, .string ⟨#[]⟩] 207)).heap.size = w.heap.size + 1 by simp] at G
  have HR := hide R
  have HG := hide G
  obtain ⟨r0, r1, r2, r3, r4⟩ := R.five
  obtain ⟨g0, g1, g2, g3, g4⟩ := G.five
  have zr := R.fz
  have zg := G.fz
  have hsz := G.lt
  have hsz' : w.heap.size < w1.heap.size := by omega
  have hne : ¬ (w1.heap.size = w.heap.size) := by omega
  have hne' : ¬ (w1.heap.size = w.heap.size + 1) := by omega
  clear a1 b1 C h hs R G
  unfold nmv
  have H2 := hide h2
  go_wp2_with fail
  refine (ats b s j d _ _ (sg 42) _ ?_ ?_).mono ?_
  · exact (by repeat (first | with_reducible exact unhide A1 | with_reducible refine At.alloc ?_ _ | with_reducible refine At.drew ?_ | (with_reducible refine At.setNew ?_ ?_ _; rotate_left; exact (by first | omega | (simp; omega) | simp | (simp; done)))))
  · exact cell_new1 _ _ _ _ (by simp)
  rintro e w2 ⟨rfl, rfl⟩
  rw [h1]
  go_wp2_with fail
  refine (ats b s j d _ _ (sg 35) _ ?_ ?_).mono ?_
  · exact (by repeat (first | with_reducible exact unhide A1 | with_reducible refine At.alloc ?_ _ | with_reducible refine At.drew ?_ | (with_reducible refine At.setNew ?_ ?_ _; rotate_left; exact (by first | omega | (simp; omega) | simp | (simp; done)))))
  · exact cell_new1 _ _ _ _ (by simp)
  rintro e w2 ⟨rfl, rfl⟩
  rw [h2]
  clear h1 h2
  go_wp2_with fail
  refine (steps b s j d _ (unhide Hs) ?_ ?_).mono ?_
  · exact (by repeat (first | with_reducible exact unhide A1 | with_reducible refine At.alloc ?_ _ | with_reducible refine At.drew ?_ | (with_reducible refine At.setNew ?_ ?_ _; rotate_left; exact (by first | omega | (simp; omega) | simp | (simp; done)))))
  · exact eqs_pos (unhide H2) (by decide)
  rintro e w2 ⟨rfl, a2, b2⟩
  have HR2 := hide (Blk.but (g := w.heap.size) (T := 207) (by repeat (first | with_reducible exact unhide HR | with_reducible apply Blk.alloc | with_reducible apply Blk.drew | with_reducible apply Blk.set | (with_reducible apply Blk.other; case ha => exact (by first | omega | (simp; omega) | simp | (simp; done))))) b2 (by omega))
  have G2' := Blk.but (g := w.heap.size + 1) (T := 207) (by repeat (first | with_reducible exact unhide HG | with_reducible apply Blk.alloc | with_reducible apply Blk.drew | with_reducible apply Blk.set | (with_reducible apply Blk.other; case ha => exact (by first | omega | (simp; omega) | simp | (simp; done))))) b2 (by omega)
  have G2 : Blk w2 (w.heap.size + 1) #[.int .i64 (tokP s (K s i)), .string (tokT s (K s i)), .int .i64 2, .int .i64 0, .string ⟨#[]⟩] 207 := G2'
  have R2 : Blk w2 w.heap.size #[.int .i64 0, .string ⟨#[]⟩, .int .i64 0, .int .i64 0, .string ⟨#[]⟩] 207 := unhide HR2
  obtain ⟨p0, p1, p2, p3, p4⟩ := R2.five
  obtain ⟨q0, q1, q2, q3, q4⟩ := G2.five
  have zp := R2.fz
  have zq := G2.fz
  have tz := G2.lt
  have tz' : w.heap.size < w2.heap.size := by omega
  have HG2 := hide G2
  have A2 := hide a2
  have B2 := hide (But.trans (x := w) (by repeat (first | with_reducible exact unhide B1 | with_reducible refine But.alloc ?_ _ | with_reducible refine But.drew ?_ | (with_reducible refine But.setNew ?_ ?_ _; rotate_left; exact (by first | omega | (simp; omega) | simp | (simp; done))))) b2)
  clear a2 b2 R2 G2 G2' r0 r1 r2 r3 r4 g0 g1 g2 g3 g4 zr zg hsz hsz' hne hne'
  go_wp2_with fail
  have C := hide (name_post b s (j + 1) d w2 (unhide Hs) (unhide A2))
  rw [unhide Hm] at C
  refine (unhide C).mono ?_
  rintro e w3 ⟨b3, v, d', rfl, rfl, a3⟩
  have HR3 := hide (Blk.but (unhide HR2) b3 (by omega))
  have G3 := Blk.but (unhide HG2) b3 (by omega)
  have R3 : Blk w3 w.heap.size #[.int .i64 0, .string ⟨#[]⟩, .int .i64 0, .int .i64 0, .string ⟨#[]⟩] 207 := unhide HR3
  obtain ⟨p0, p1, p2, p3, p4⟩ := R3.five
  obtain ⟨q0, q1, q2, q3, q4⟩ := G3.five
  have zp := R3.fz
  have zq := G3.fz
  have tz := G3.lt
  have tz' : w.heap.size < w3.heap.size := by omega
  have A3 := hide a3
  have B3 := hide (But.trans (unhide B2) b3)
  clear a3 b3 R3 G3
  unfold nm0 errv
  go_wp2
  refine bodyPost_ret (v := .tuple #[grv ⟨TT s i, PP s i, 2, em, 0⟩, errv c]) (res_cc Tryz.results277 _ _ w.heap.size _ 207 _ _ rfl rfl ?hB Tryz.underlying207 rfl (by kernel_rfl)) rfl ?post
  case hB => exact ⟨_, (by repeat (first | with_reducible exact unhide HR3 | with_reducible apply Blk.alloc | with_reducible apply Blk.drew | with_reducible apply Blk.set | (with_reducible apply Blk.other; case ha => exact (by first | omega | (simp; omega) | simp | (simp; done))))), by rfl⟩
  case post => exact ⟨(by repeat (first | with_reducible exact unhide B3 | with_reducible refine But.alloc ?_ _ | with_reducible refine But.drew ?_ | (with_reducible refine But.setNew ?_ ?_ _; rotate_left; exact (by first | omega | (simp; omega) | simp | (simp; done))))), _, d', rfl, ⟨_, rfl⟩, (by repeat (first | with_reducible exact unhide A3 | with_reducible refine At.alloc ?_ _ | with_reducible refine At.drew ?_ | (with_reducible refine At.setNew ?_ ?_ _; rotate_left; exact (by first | omega | (simp; omega) | simp | (simp; done)))))⟩

theorem grant_post (b : Nat) (s : ByteArray) (i d : Nat) (w : World) (hs : s.size ≤ maxLen) (h : At w b s i d) :
    Calls Tryz.prog 277 #[.pointer (some ⟨b, 0, none⟩)] w (Post b s d w (grantR (TT s) (PP s) i) (fun _ g v => v = grv g) IsGr) := by
  unfold grantR
  cases hr : nameR (TT s) i with
  | error e => exact grant_bad b s i d w hs h e.1 e.2 hr
  | ok y =>
    obtain ⟨⟨⟩, j⟩ := y
    cases h1 : eqs (TT s j) (sg 42)
    · cases h2 : eqs (TT s j) (sg 35)
      · simp only [h1, h2]
        exact grant_plain b s i d w hs h j hr h1 h2
      · cases hm : nameR (TT s) (j + 1) with
        | error e => simp only [h1, h2, hm]; exact grant_rbad b s i d w hs h j e.1 e.2 hr h1 h2 (hide hm)
        | ok y =>
          obtain ⟨⟨⟩, m⟩ := y
          simp only [h1, h2, hm]
          exact grant_rel b s i d w hs h j m hr h1 h2 (hide hm)
    · simp only [h1]
      exact grant_all b s i d w hs h j hr h1
end Go.Proofs.YtlbpnlngckgcbaaGreatDoor
