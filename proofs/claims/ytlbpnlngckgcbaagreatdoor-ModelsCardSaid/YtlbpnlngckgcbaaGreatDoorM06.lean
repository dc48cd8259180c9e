import Derived.Test.YtlbpnlngckgcbaaGreatDoorM05
namespace Go.Proofs.YtlbpnlngckgcbaaGreatDoor
open Go.RowKit Go.PlainAid
set_option linter.unusedSimpArgs false
set_option linter.unusedVariables false
theorem Post.form {α : Type} {b : Nat} {s : ByteArray} {d : Nat} {w w' : World} {r : Res α} {rep : World → α → Value → Prop} {bad : Value → Prop} {e : Ending} (h : Post b s d w r rep bad e w') : ∃ v er, e = .returned (.tuple #[v, er]) := by
 obtain ⟨_, h⟩ := h
 cases r with
 | error y => obtain ⟨c, j⟩ := y; obtain ⟨v, d', h, _⟩ := h; exact ⟨_, _, h⟩
 | ok y => obtain ⟨c, j⟩ := y; obtain ⟨v, h, _⟩ := h; exact ⟨_, _, h⟩
theorem Post.from {α : Type} {b : Nat} {s : ByteArray} {d : Nat} {w w1 w' : World} {r : Res α} {rep : World → α → Value → Prop} {bad : Value → Prop} {e : Ending} (k : But b w w1) (h : Post b s d w1 r rep bad e w') : Post b s d w r rep bad e w' := ⟨k.trans h.1, h.2⟩
theorem At.open {w : World} {b : Nat} {s : ByteArray} {i d : Nat} (h : At w b s i d) (d' : Nat) : At (w.setCell ⟨b, 3, none⟩ (.int .i64 d')) b s i d' :=
 ⟨⟨⟨by rw [heap_setCell_blk _ h.pos.rd.blk]; rfl⟩, h.pos.le⟩, h.good⟩
set_option maxHeartbeats 1000000 in
set_option maxRecDepth 100000 in
theorem brackets_full (b : Nat) (s : ByteArray) (i : Nat) (w : World) (h : At w b s i 4) :
  Calls Tryz.prog 272 #[.pointer (some ⟨b, 0, none⟩)] w (PostE b s 4 w (.error (3, i))) := by
 have c3 := h.pos.rd.c3
 have A0 := hide h
 clear h
 go_enter Tryz.func272, Tryz.ntmps272
 go_wp2
 go_ret2
 exact ⟨But.refl _ _, _, 4, rfl, .inl rfl, uh A0⟩
set_option maxHeartbeats 1000000 in
set_option maxRecDepth 100000 in
theorem brackets_bad (b : Nat) (s : ByteArray) (i d : Nat) (w : World) (hs : s.size ≤ 500) (h : At w b s i d) (hd : d < 4) (he : eqs (TT s i) (sg 40) = true) (inner : Nat → Res Ex)
  (hx : ∀ i w, At w b s i (d + 1) → Calls Tryz.prog 222 #[.pointer (some ⟨b, 0, none⟩)] w (PostE b s (d + 1) w (inner i))) (c j : Nat) (Hi : Hid (inner (i + 1) = .error (c, j))) :
  Calls Tryz.prog 272 #[.pointer (some ⟨b, 0, none⟩)] w (PostE b s d w (.error (c, j))) := by
 have hlt := h.lt
 have Hs : Hid (s.size ≤ maxLen) := hide (by unfold maxLen; omega)
 have He := hide (eqs_pos he (by decide))
 have c3 := h.pos.rd.c3
 have zb := h.pos.rd.fz
 have A0 := hide (At.open h (d + 1))
 have hd' : ((d : Int) == 4) = false := by rw [beq_eq_false_iff_ne]; omega
 have Hx := hide hx
 clear h he hx
 go_enter Tryz.func272, Tryz.ntmps272
 go_wp2_with fail
 rw [show ((d : Int) + 1) = ((d + 1 : Nat) : Int) by omega]
 refine (steps b s i (d + 1) _ (uh Hs) (uh A0) (uh He)).mono ?_
 rintro e w2 ⟨rfl, a2, b2⟩
 have B2 := hide (But.trans (x := w) ((But.refl b w).setCell 3 _) b2)
 have A2 := hide a2
 have lt2 := a2.lt
 clear a2 b2
 have C := hide (uh Hx (i + 1) w2 (uh A2))
 rw [uh Hi] at C
 go_wp2_with fail
 refine (uh C).mono ?_
 rintro e w3 ⟨b3, v3, d3, rfl, hv3, a3⟩
 have B3 := hide (But.trans (uh B2) b3)
 have A3 := hide a3
 clear a3 b3 hv3 c3 zb
 unfold errv
 go_wp2
 go_ret2
 exact ⟨uh B3, _, d3, rfl, .inl rfl, uh A3⟩
set_option maxHeartbeats 1000000 in
set_option maxRecDepth 100000 in
theorem brackets_no (b : Nat) (s : ByteArray) (i d : Nat) (w : World) (hs : s.size ≤ 500) (h : At w b s i d) (hd : d < 4) (he : eqs (TT s i) (sg 40) = true) (inner : Nat → Res Ex)
  (hx : ∀ i w, At w b s i (d + 1) → Calls Tryz.prog 222 #[.pointer (some ⟨b, 0, none⟩)] w (PostE b s (d + 1) w (inner i))) (x : Ex) (j : Nat) (Hi : Hid (inner (i + 1) = .ok (x, j))) (Hc : Hid (eqs (TT s j) (sg 41) = false)) :
  Calls Tryz.prog 272 #[.pointer (some ⟨b, 0, none⟩)] w (PostE b s d w (.error (2, j))) := by
 have hlt := h.lt
 have Hs : Hid (s.size ≤ maxLen) := hide (by unfold maxLen; omega)
 have He := hide (eqs_pos he (by decide))
 have c3 := h.pos.rd.c3
 have zb := h.pos.rd.fz
 have A0 := hide (At.open h (d + 1))
 have hd' : ((d : Int) == 4) = false := by rw [beq_eq_false_iff_ne]; omega
 have Hx := hide hx
 clear h he hx
 go_enter Tryz.func272, Tryz.ntmps272
 go_wp2_with fail
 rw [show ((d : Int) + 1) = ((d + 1 : Nat) : Int) by omega]
 refine (steps b s i (d + 1) _ (uh Hs) (uh A0) (uh He)).mono ?_
 rintro e w2 ⟨rfl, a2, b2⟩
 have B2 := hide (But.trans (x := w) ((But.refl b w).setCell 3 _) b2)
 have A2 := hide a2
 have lt2 := a2.lt
 clear a2 b2
 have C := hide (uh Hx (i + 1) w2 (uh A2))
 rw [uh Hi] at C
 go_wp2_with fail
 refine (uh C).mono ?_
 rintro e w3 ⟨b3, v3, rfl, hv3, a3⟩
 have B3 := hide (But.trans (uh B2) b3)
 have A3 := hide (At.open a3 d)
 have k3 := a3.pos.rd.c3
 have zk := a3.pos.rd.fz
 have V3 := hide hv3
 clear a3 b3 hv3 c3 zb
 go_wp2_with fail
 refine (takes_no b s j d (sg 41) _ (uh A3) (uh Hc)).mono ?_
 rintro e w4 ⟨rfl, a4, b4⟩
 have B4 := hide (But.trans ((uh B3).setCell 3 _) b4)
 have A4 := hide a4
 clear a4 b4
 go_wp2
 go_ret2
 exact ⟨uh B4, _, d, rfl, .inr (uh V3).isI, uh A4⟩
set_option maxHeartbeats 1000000 in
set_option maxRecDepth 100000 in
theorem brackets_yes (b : Nat) (s : ByteArray) (i d : Nat) (w : World) (hs : s.size ≤ 500) (h : At w b s i d) (hd : d < 4) (he : eqs (TT s i) (sg 40) = true) (inner : Nat → Res Ex)
  (hx : ∀ i w, At w b s i (d + 1) → Calls Tryz.prog 222 #[.pointer (some ⟨b, 0, none⟩)] w (PostE b s (d + 1) w (inner i))) (x : Ex) (j : Nat) (Hi : Hid (inner (i + 1) = .ok (x, j))) (Hc : Hid (eqs (TT s j) (sg 41) = true)) :
  Calls Tryz.prog 272 #[.pointer (some ⟨b, 0, none⟩)] w (PostE b s d w (.ok (x, j + 1))) := by
 have hlt := h.lt
 have Hs : Hid (s.size ≤ maxLen) := hide (by unfold maxLen; omega)
 have He := hide (eqs_pos he (by decide))
 have c3 := h.pos.rd.c3
 have zb := h.pos.rd.fz
 have A0 := hide (At.open h (d + 1))
 have hd' : ((d : Int) == 4) = false := by rw [beq_eq_false_iff_ne]; omega
 have Hx := hide hx
 clear h he hx
 go_enter Tryz.func272, Tryz.ntmps272
 go_wp2_with fail
 rw [show ((d : Int) + 1) = ((d + 1 : Nat) : Int) by omega]
 refine (steps b s i (d + 1) _ (uh Hs) (uh A0) (uh He)).mono ?_
 rintro e w2 ⟨rfl, a2, b2⟩
 have B2 := hide (But.trans (x := w) ((But.refl b w).setCell 3 _) b2)
 have A2 := hide a2
 have lt2 := a2.lt
 clear a2 b2
 have C := hide (uh Hx (i + 1) w2 (uh A2))
 rw [uh Hi] at C
 go_wp2_with fail
 refine (uh C).mono ?_
 rintro e w3 ⟨b3, v3, rfl, hv3, a3⟩
 have B3 := hide (But.trans (uh B2) b3)
 have A3 := hide (At.open a3 d)
 have k3 := a3.pos.rd.c3
 have zk := a3.pos.rd.fz
 have V3 := hide hv3
 clear a3 b3 hv3 c3 zb
 go_wp2_with fail
 refine (takes_yes b s j d (sg 41) _ (uh Hs) (uh A3) (uh Hc) (by decide)).mono ?_
 rintro e w4 ⟨rfl, a4, b4⟩
 have B4 := hide (But.trans ((uh B3).setCell 3 _) b4)
 have V4 := hide (RepEx.but (uh V3) (But.trans ((But.refl b w3).setCell 3 _) b4))
 have A4 := hide a4
 clear a4 b4
 go_wp2
 go_ret2
 exact ⟨uh B4, _, rfl, uh V4, uh A4⟩
set_option maxHeartbeats 1000000 in
set_option maxRecDepth 100000 in
theorem unit_any (b : Nat) (s : ByteArray) (i d : Nat) (w : World) (hs : s.size ≤ 500) (h : At w b s i d) (r : Res Ex)
  (hl : eqs (TT s i) (sg 91) = true → ∀ w, At w b s i d → Calls Tryz.prog 271 #[.pointer (some ⟨b, 0, none⟩)] w (PostE b s d w r))
  (hb : eqs (TT s i) (sg 91) = false → eqs (TT s i) (sg 40) = true → ∀ w, At w b s i d → Calls Tryz.prog 272 #[.pointer (some ⟨b, 0, none⟩)] w (PostE b s d w r))
  (ho : eqs (TT s i) (sg 91) = false → eqs (TT s i) (sg 40) = false → ∀ w, At w b s i d → Calls Tryz.prog 273 #[.pointer (some ⟨b, 0, none⟩)] w (PostE b s d w r)) :
  Calls Tryz.prog 264 #[.pointer (some ⟨b, 0, none⟩)] w (PostE b s d w r) := by
 have A0 := hide h
 have HL := hide hl
 have HB := hide hb
 have HO := hide ho
 have hlt := h.lt
 clear h hl hb ho
 cases h1 : eqs (TT s i) (sg 91)
 ·cases h2 : eqs (TT s i) (sg 40)
  ·go_enter Tryz.func264, Tryz.ntmps264
   go_wp2_with fail
   refine (ats b s i d _ _ (sg 91) _ ?_ ?_).mono ?_
   ·exact (by repeat (first | with_reducible exact uh A0 | with_reducible refine At.alloc ?_ _ | with_reducible refine At.drew ?_ | (with_reducible refine At.setNew ?_ ?_ _; rotate_left; exact (by first | omega | (simp; omega) | simp | (simp; done)))))
   ·exact cell_new1 _ _ _ _ (by simp)
   rintro e w2 ⟨rfl, rfl⟩
   rw [h1]
   go_wp2_with fail
   refine (ats b s i d _ _ (sg 40) _ ?_ ?_).mono ?_
   ·exact (by repeat (first | with_reducible exact uh A0 | with_reducible refine At.alloc ?_ _ | with_reducible refine At.drew ?_ | (with_reducible refine At.setNew ?_ ?_ _; rotate_left; exact (by first | omega | (simp; omega) | simp | (simp; done)))))
   ·exact cell_new1 _ _ _ _ (by simp)
   rintro e w2 ⟨rfl, rfl⟩
   rw [h2]
   go_wp2_with fail
   refine (uh HO h1 h2 _ (by repeat (first | with_reducible exact uh A0 | with_reducible refine At.alloc ?_ _ | with_reducible refine At.drew ?_ | (with_reducible refine At.setNew ?_ ?_ _; rotate_left; exact (by first | omega | (simp; omega) | simp | (simp; done)))))).mono ?_
   intro e w3 hp
   obtain ⟨v, er, rfl⟩ := Post.form hp
   have HP := hide hp
   clear hp
   go_wp2
   go_ret2
   have B0 := hide (But.refl b w)
   exact Post.from (w := w) (by repeat (first | with_reducible exact uh B0 | with_reducible refine But.alloc ?_ _ | with_reducible refine But.drew ?_ | (with_reducible refine But.setNew ?_ ?_ _; rotate_left; exact (by first | omega | (simp; omega) | simp | (simp; done))))) (uh HP)
  ·go_enter Tryz.func264, Tryz.ntmps264
   go_wp2_with fail
   refine (ats b s i d _ _ (sg 91) _ ?_ ?_).mono ?_
   ·exact (by repeat (first | with_reducible exact uh A0 | with_reducible refine At.alloc ?_ _ | with_reducible refine At.drew ?_ | (with_reducible refine At.setNew ?_ ?_ _; rotate_left; exact (by first | omega | (simp; omega) | simp | (simp; done)))))
   ·exact cell_new1 _ _ _ _ (by simp)
   rintro e w2 ⟨rfl, rfl⟩
   rw [h1]
   go_wp2_with fail
   refine (ats b s i d _ _ (sg 40) _ ?_ ?_).mono ?_
   ·exact (by repeat (first | with_reducible exact uh A0 | with_reducible refine At.alloc ?_ _ | with_reducible refine At.drew ?_ | (with_reducible refine At.setNew ?_ ?_ _; rotate_left; exact (by first | omega | (simp; omega) | simp | (simp; done)))))
   ·exact cell_new1 _ _ _ _ (by simp)
   rintro e w2 ⟨rfl, rfl⟩
   rw [h2]
   go_wp2_with fail
   refine (uh HB h1 h2 _ (by repeat (first | with_reducible exact uh A0 | with_reducible refine At.alloc ?_ _ | with_reducible refine At.drew ?_ | (with_reducible refine At.setNew ?_ ?_ _; rotate_left; exact (by first | omega | (simp; omega) | simp | (simp; done)))))).mono ?_
   intro e w3 hp
   obtain ⟨v, er, rfl⟩ := Post.form hp
   have HP := hide hp
   clear hp
   go_wp2
   go_ret2
   have B0 := hide (But.refl b w)
   exact Post.from (w := w) (by repeat (first | with_reducible exact uh B0 | with_reducible refine But.alloc ?_ _ | with_reducible refine But.drew ?_ | (with_reducible refine But.setNew ?_ ?_ _; rotate_left; exact (by first | omega | (simp; omega) | simp | (simp; done))))) (uh HP)
 ·go_enter Tryz.func264, Tryz.ntmps264
  go_wp2_with fail
  refine (ats b s i d _ _ (sg 91) _ ?_ ?_).mono ?_
  ·exact (by repeat (first | with_reducible exact uh A0 | with_reducible refine At.alloc ?_ _ | with_reducible refine At.drew ?_ | (with_reducible refine At.setNew ?_ ?_ _; rotate_left; exact (by first | omega | (simp; omega) | simp | (simp; done)))))
  ·exact cell_new1 _ _ _ _ (by simp)
  rintro e w2 ⟨rfl, rfl⟩
  rw [h1]
  go_wp2_with fail
  refine (uh HL h1 _ (by repeat (first | with_reducible exact uh A0 | with_reducible refine At.alloc ?_ _ | with_reducible refine At.drew ?_ | (with_reducible refine At.setNew ?_ ?_ _; rotate_left; exact (by first | omega | (simp; omega) | simp | (simp; done)))))).mono ?_
  intro e w3 hp
  obtain ⟨v, er, rfl⟩ := Post.form hp
  have HP := hide hp
  clear hp
  go_wp2
  go_ret2
  have B0 := hide (But.refl b w)
  exact Post.from (w := w) (by repeat (first | with_reducible exact uh B0 | with_reducible refine But.alloc ?_ _ | with_reducible refine But.drew ?_ | (with_reducible refine But.setNew ?_ ?_ _; rotate_left; exact (by first | omega | (simp; omega) | simp | (simp; done))))) (uh HP)
theorem unit_post (b : Nat) (s : ByteArray) (i d : Nat) (w : World) (hs : s.size ≤ 500) (h : At w b s i d) (room : Bool) (inner : Nat → Res Ex) (hd : d ≤ 4) (hr : room = true ↔ d < 4)
  (hx : room = true → ∀ i w, At w b s i (d + 1) → Calls Tryz.prog 222 #[.pointer (some ⟨b, 0, none⟩)] w (PostE b s (d + 1) w (inner i))) :
  Calls Tryz.prog 264 #[.pointer (some ⟨b, 0, none⟩)] w (PostE b s d w (unitR (TT s) (PP s) room inner i)) := by
 have hs' : s.size ≤ maxLen := by unfold maxLen; omega
 refine unit_any b s i d w hs h _ ?_ ?_ ?_
 ·intro h1 w h
  simp only [unitR, h1, if_true]
  exact list_post b s i d w hs h h1
 ·intro h1 h2 w h
  simp only [unitR, h1, h2, if_true, Bool.false_eq_true, if_false]
  cases room with
  | false =>
   have : d = 4 := by
    have : ¬ d < 4 := fun k => by have := hr.2 k; cases this
    omega
   subst this
   exact brackets_full b s i w h
  | true =>
   have hd4 := hr.1 rfl
   simp only [if_true]
   cases hi : inner (i + 1) with
   | error e => exact brackets_bad b s i d w hs h hd4 h2 inner (hx rfl) e.1 e.2 (hide hi)
   | ok y =>
    obtain ⟨x, j⟩ := y
    cases hc : eqs (TT s j) (sg 41)
    ·simp only [hc]
     exact brackets_no b s i d w hs h hd4 h2 inner (hx rfl) x j (hide hi) (hide hc)
    ·simp only [hc]
     exact brackets_yes b s i d w hs h hd4 h2 inner (hx rfl) x j (hide hi) (hide hc)
 ·intro h1 h2 w h
  simp only [unitR, h1, h2, Bool.false_eq_true, if_false]
  exact own_post b s i d w hs' h
set_option maxHeartbeats 1000000 in
set_option maxRecDepth 100000 in
theorem chain_post (b : Nat) (s : ByteArray) (i d : Nat) (w : World) (hs : s.size ≤ 500) (h : At w b s i d) (part : Nat → Res Ex) (hm : Mono part)
  (hp : ∀ i w, At w b s i d → Calls Tryz.prog 264 #[.pointer (some ⟨b, 0, none⟩)] w (PostE b s d w (part i))) :
  Calls Tryz.prog 249 #[.pointer (some ⟨b, 0, none⟩)] w (PostE b s d w (joinR (TT s) (PP s) [sg 38, sg 45] part i)) := by
 have A0 := hide h
 have hlt := h.lt
 have C := hide (joined_unit b s i d (w.alloc (.cells #[.string ⟨#[38]⟩, .string ⟨#[45]⟩] 9)) hs (h.alloc _) w.heap.size 2 [sg 38, sg 45] part hm hp (by simp [maxLen]) (by decide) (by omega) (by simp) (fun i hi => by
  match i, hi with
  | 0, _ => exact (Blk.new w _ _).cell rfl
  | 1, _ => exact (Blk.new w _ _).cell rfl
  | n + 2, hi => simp at hi; omega))
 generalize joinR (TT s) (PP s) [sg 38, sg 45] part i = r at *
 clear h hp hm
 go_enter Tryz.func249, Tryz.ntmps249
 go_wp2_with fail
 refine (uh C).mono ?_
 intro e w3 hp
 obtain ⟨v, er, rfl⟩ := Post.form hp
 have HP := hide hp
 clear hp
 go_wp2
 go_ret2
 have B0 := hide (But.refl b w)
 exact Post.from (w := w) (by repeat (first | with_reducible exact uh B0 | with_reducible refine But.alloc ?_ _ | with_reducible refine But.drew ?_ | (with_reducible refine But.setNew ?_ ?_ _; rotate_left; exact (by first | omega | (simp; omega) | simp | (simp; done))))) (uh HP)
set_option maxHeartbeats 1000000 in
set_option maxRecDepth 100000 in
theorem expr_of (b : Nat) (s : ByteArray) (i d : Nat) (w : World) (hs : s.size ≤ 500) (h : At w b s i d) (part : Nat → Res Ex) (hm : Mono part)
  (hp : ∀ i w, At w b s i d → Calls Tryz.prog 249 #[.pointer (some ⟨b, 0, none⟩)] w (PostE b s d w (part i))) :
  Calls Tryz.prog 222 #[.pointer (some ⟨b, 0, none⟩)] w (PostE b s d w (joinR (TT s) (PP s) [sg 124] part i)) := by
 have A0 := hide h
 have hlt := h.lt
 have C := hide (joined_chain b s i d (w.alloc (.cells #[.string ⟨#[124]⟩] 9)) hs (h.alloc _) w.heap.size 1 [sg 124] part hm hp (by simp [maxLen]) (by decide) (by omega) (by simp) (fun i hi => by
  match i, hi with
  | 0, _ => exact (Blk.new w _ _).cell rfl
  | n + 1, hi => simp at hi))
 generalize joinR (TT s) (PP s) [sg 124] part i = r at *
 clear h hp hm
 go_enter Tryz.func222, Tryz.ntmps222
 go_wp2_with fail
 refine (uh C).mono ?_
 intro e w3 hp
 obtain ⟨v, er, rfl⟩ := Post.form hp
 have HP := hide hp
 clear hp
 go_wp2
 go_ret2
 have B0 := hide (But.refl b w)
 exact Post.from (w := w) (by repeat (first | with_reducible exact uh B0 | with_reducible refine But.alloc ?_ _ | with_reducible refine But.drew ?_ | (with_reducible refine But.setNew ?_ ?_ _; rotate_left; exact (by first | omega | (simp; omega) | simp | (simp; done))))) (uh HP)
/-- The reader's expression, n brackets may still be opened. -/
theorem expr_post (b : Nat) (s : ByteArray) (hs : s.size ≤ 500) : ∀ n i d w, d + n = 4 → At w b s i d →
  Calls Tryz.prog 222 #[.pointer (some ⟨b, 0, none⟩)] w (PostE b s d w (exprR (TT s) (PP s) n i))
 | 0, i, d, w, hd, h => expr_of b s i d w hs h _ (chainR_mono _ _ false _ (fun i x j h => by simp at h)) (fun i w h =>
   chain_post b s i d w hs h _ (unitR_mono _ _ false _ (fun i x j h => by simp at h)) (fun i w h =>
    unit_post b s i d w hs h false _ (by omega) (by simp; omega) (fun h => by cases h)))
 | n + 1, i, d, w, hd, h => expr_of b s i d w hs h _ (chainR_mono _ _ true _ (exprR_mono _ _ n)) (fun i w h =>
   chain_post b s i d w hs h _ (unitR_mono _ _ true _ (exprR_mono _ _ n)) (fun i w h =>
    unit_post b s i d w hs h true _ (by omega) (by simp; omega) (fun _ i w h => expr_post b s hs n i (d + 1) w (by omega) h)))
theorem RepEx.set {b : Nat} {w : World} {e : Ex} {v : Value} {g : Nat} {cs : Array Value} {T : TypeId} (h : RepEx b w e v) (hb : Blk w g cs T) (ht : T ≠ 207) (o : Nat) (u : Value) : RepEx b (w.setCell ⟨g, o, none⟩ u) e v :=
 RepEx.frame (fun g' cs' f hg hh => Below.heap_setCell _ _ _ _ (fun (e' : g' = g) => by
  subst e'
  unfold Blk at hb
  rw [hb] at hh
  simp at hh
  exact ht hh.2.1)) e v h
def RepRl (b : Nat) (w : World) (r : Rl) (v : Value) : Prop := ∃ bv, v = .agg #[.int .i64 r.place, .string r.name, bv] ∧ RepEx b w r.body bv
def IsRl (v : Value) : Prop := ∃ (p : Nat) (t : ByteArray) (bv : Value), v = .agg #[.int .i64 p, .string t, bv] ∧ IsI bv
set_option maxHeartbeats 1000000 in
set_option maxRecDepth 100000 in
theorem rel_bad (b : Nat) (s : ByteArray) (i d : Nat) (w : World) (hs : s.size ≤ 500) (h : At w b s i d) (c j : Nat) (Hr : Hid (nameThenR (TT s) (sg 58) i = .error (c, j))) :
  Calls Tryz.prog 172 #[.pointer (some ⟨b, 0, none⟩)] w (Post b s d w (.error (c, j) : Res Rl) (RepRl b) IsRl) := by
 have hlt := h.lt
 have Hs : Hid (s.size ≤ maxLen) := hide (by unfold maxLen; omega)
 have C := hide (nameThen_post b s i d (sg 58) _ (uh Hs) ((h.alloc (.cells #[.int .i64 0, .string ⟨#[]⟩, .nilIface] 159)).alloc (.cells #[.int .i64 0, .string ⟨#[]⟩, .nilIface] 159)) (by decide))
 rw [uh Hr] at C
 clear h
 go_enter Tryz.func172, Tryz.ntmps172
 go_wp2_with fail
 refine (uh C).mono ?_
 rintro e w1 ⟨b1, v, d1, rfl, ⟨p, t, rfl⟩, a1⟩
 have B1 := hide (((But.refl b w).alloc _).alloc _ |>.trans b1)
 have R := ((Blk.new w #[.int .i64 0, .string ⟨#[]⟩, .nilIface] 159).alloc (.cells #[.int .i64 0, .string ⟨#[]⟩, .nilIface] 159)).but b1 (by omega)
 have G := (Blk.new' (w.alloc (.cells #[.int .i64 0, .string ⟨#[]⟩, .nilIface] 159)) #[.int .i64 0, .string ⟨#[]⟩, .nilIface] 159 (w.heap.size + 1) (by simp)).but b1 (by omega)
 have HR := hide R
 have HG := hide G
 obtain ⟨r0, r1, r2⟩ := R.three
 obtain ⟨g0, g1, g2⟩ := G.three
 have zr := R.fz
 have zg := G.fz
 have hsz := G.lt
 have hsz' : w.heap.size < w1.heap.size := by omega
 have A1 := hide a1
 clear a1 b1 R G C
 unfold errv
 go_wp2
 refine bodyPost_ret (v := .tuple #[.agg #[.int .i64 p, .string t, .nilIface], errv c]) (res_cc Tryz.results172 _ _ w.heap.size _ 159 _ _ rfl rfl ?hB Tryz.underlying159 rfl (by kernel_rfl)) rfl ?post
 case hB => exact ⟨_, (by repeat (first | with_reducible exact uh HR | with_reducible apply Blk.alloc | with_reducible apply Blk.drew | with_reducible apply Blk.set | (with_reducible apply Blk.other; case ha => exact (by first | omega | (simp; omega) | simp | (simp; done))))), by rfl⟩
 case post => exact ⟨(by repeat (first | with_reducible exact uh B1 | with_reducible refine But.alloc ?_ _ | with_reducible refine But.drew ?_ | (with_reducible refine But.setNew ?_ ?_ _; rotate_left; exact (by first | omega | (simp; omega) | simp | (simp; done))))), _, d1, rfl, ⟨p, t, _, rfl, .inl rfl⟩, (by repeat (first | with_reducible exact uh A1 | with_reducible refine At.alloc ?_ _ | with_reducible refine At.drew ?_ | (with_reducible refine At.setNew ?_ ?_ _; rotate_left; exact (by first | omega | (simp; omega) | simp | (simp; done)))))⟩
set_option maxHeartbeats 1000000 in
set_option maxRecDepth 100000 in
theorem rel_xbad (b : Nat) (s : ByteArray) (i d : Nat) (w : World) (hs : s.size ≤ 500) (h : At w b s i d) (hd : d + 4 = 4) (c j m : Nat) (Hr : Hid (nameThenR (TT s) (sg 58) i = .ok ((), j))) (Hx : Hid (exprR (TT s) (PP s) 4 j = .error (c, m))) :
  Calls Tryz.prog 172 #[.pointer (some ⟨b, 0, none⟩)] w (Post b s d w (.error (c, m) : Res Rl) (RepRl b) IsRl) := by
 have hlt := h.lt
 have Hs : Hid (s.size ≤ maxLen) := hide (by unfold maxLen; omega)
 have C := hide (nameThen_post b s i d (sg 58) _ (uh Hs) ((h.alloc (.cells #[.int .i64 0, .string ⟨#[]⟩, .nilIface] 159)).alloc (.cells #[.int .i64 0, .string ⟨#[]⟩, .nilIface] 159)) (by decide))
 rw [uh Hr] at C
 clear h
 go_enter Tryz.func172, Tryz.ntmps172
 go_wp2_with fail
 refine (uh C).mono ?_
 rintro e w1 ⟨b1, v, rfl, rfl, a1⟩
 have B1 := hide (((But.refl b w).alloc _).alloc _ |>.trans b1)
 have R := ((Blk.new w #[.int .i64 0, .string ⟨#[]⟩, .nilIface] 159).alloc (.cells #[.int .i64 0, .string ⟨#[]⟩, .nilIface] 159)).but b1 (by omega)
 have G := (Blk.new' (w.alloc (.cells #[.int .i64 0, .string ⟨#[]⟩, .nilIface] 159)) #[.int .i64 0, .string ⟨#[]⟩, .nilIface] 159 (w.heap.size + 1) (by simp)).but b1 (by omega)
 have HR := hide R
 have HG := hide G
 obtain ⟨r0, r1, r2⟩ := R.three
 obtain ⟨g0, g1, g2⟩ := G.three
 have zr := R.fz
 have zg := G.fz
 have hsz := G.lt
 have hsz' : w.heap.size < w1.heap.size := by omega
 have A1 := hide a1
 clear a1 b1 R G C
 unfold nmv
 go_wp2_with fail
 have C := hide (expr_post b s hs 4 j d _ hd (show At ((w1.setCell ⟨w.heap.size + 1, 0, none⟩ (.int .i64 (tokP s (K s i)))).setCell ⟨w.heap.size + 1, 1, none⟩ (.string (tokT s (K s i)))) b s j d from (by repeat (first | with_reducible exact uh A1 | with_reducible refine At.alloc ?_ _ | with_reducible refine At.drew ?_ | (with_reducible refine At.setNew ?_ ?_ _; rotate_left; exact (by first | omega | (simp; omega) | simp | (simp; done)))))))
 rw [uh Hx] at C
 refine (uh C).mono ?_
 rintro e w2 ⟨b2, v2, d2, rfl, hv2, a2⟩
 have B2 := hide (But.trans (x := w) (by repeat (first | with_reducible exact uh B1 | with_reducible refine But.alloc ?_ _ | with_reducible refine But.drew ?_ | (with_reducible refine But.setNew ?_ ?_ _; rotate_left; exact (by first | omega | (simp; omega) | simp | (simp; done))))) b2)
 have R2' := Blk.but (g := w.heap.size) (T := 159) (by repeat (first | with_reducible exact uh HR | with_reducible apply Blk.alloc | with_reducible apply Blk.drew | with_reducible apply Blk.set | (with_reducible apply Blk.other; case ha => exact (by first | omega | (simp; omega) | simp | (simp; done))))) b2 (by omega)
 have R2 : Blk w2 w.heap.size #[.int .i64 0, .string ⟨#[]⟩, .nilIface] 159 := R2'
 have G2' := Blk.but (g := w.heap.size + 1) (T := 159) (by repeat (first | with_reducible exact uh HG | with_reducible apply Blk.alloc | with_reducible apply Blk.drew | with_reducible apply Blk.set | (with_reducible apply Blk.other; case ha => exact (by first | omega | (simp; omega) | simp | (simp; done))))) b2 (by omega)
 have G2 : Blk w2 (w.heap.size + 1) #[.int .i64 (tokP s (K s i)), .string (tokT s (K s i)), .nilIface] 159 := G2'
 have HR2 := hide R2
 have HG2 := hide G2
 obtain ⟨p0, p1, p2⟩ := R2.three
 obtain ⟨q0, q1, q2⟩ := G2.three
 have zp := R2.fz
 have zq := G2.fz
 have tz := G2.lt
 have tz' : w.heap.size < w2.heap.size := by omega
 have A2 := hide a2
 clear a2 b2 R2 G2 R2' G2' r0 r1 r2 g0 g1 g2 zr zg hsz hsz'
 unfold errv
 rcases hv2 with rfl | ⟨tx, vx, rfl⟩
 ·go_wp2
  refine bodyPost_ret (v := .tuple #[.agg #[.int .i64 (tokP s (K s i)), .string (tokT s (K s i)), .nilIface], errv c]) (res_cc Tryz.results172 _ _ w.heap.size _ 159 _ _ rfl rfl ?hB Tryz.underlying159 rfl (by kernel_rfl)) rfl ?post
  case hB => exact ⟨_, (by repeat (first | with_reducible exact uh HR2 | with_reducible apply Blk.alloc | with_reducible apply Blk.drew | with_reducible apply Blk.set | (with_reducible apply Blk.other; case ha => exact (by first | omega | (simp; omega) | simp | (simp; done))))), by rfl⟩
  case post => exact ⟨(by repeat (first | with_reducible exact uh B2 | with_reducible refine But.alloc ?_ _ | with_reducible refine But.drew ?_ | (with_reducible refine But.setNew ?_ ?_ _; rotate_left; exact (by first | omega | (simp; omega) | simp | (simp; done))))), _, d2, rfl, ⟨_, _, _, rfl, .inl rfl⟩, (by repeat (first | with_reducible exact uh A2 | with_reducible refine At.alloc ?_ _ | with_reducible refine At.drew ?_ | (with_reducible refine At.setNew ?_ ?_ _; rotate_left; exact (by first | omega | (simp; omega) | simp | (simp; done)))))⟩
 ·go_wp2
  refine bodyPost_ret (v := .tuple #[.agg #[.int .i64 (tokP s (K s i)), .string (tokT s (K s i)), .iface tx vx], errv c]) (res_cc Tryz.results172 _ _ w.heap.size _ 159 _ _ rfl rfl ?hB Tryz.underlying159 rfl (by kernel_rfl)) rfl ?post
  case hB => exact ⟨_, (by repeat (first | with_reducible exact uh HR2 | with_reducible apply Blk.alloc | with_reducible apply Blk.drew | with_reducible apply Blk.set | (with_reducible apply Blk.other; case ha => exact (by first | omega | (simp; omega) | simp | (simp; done))))), by rfl⟩
  case post => exact ⟨(by repeat (first | with_reducible exact uh B2 | with_reducible refine But.alloc ?_ _ | with_reducible refine But.drew ?_ | (with_reducible refine But.setNew ?_ ?_ _; rotate_left; exact (by first | omega | (simp; omega) | simp | (simp; done))))), _, d2, rfl, ⟨_, _, _, rfl, .inr ⟨_, _, rfl⟩⟩, (by repeat (first | with_reducible exact uh A2 | with_reducible refine At.alloc ?_ _ | with_reducible refine At.drew ?_ | (with_reducible refine At.setNew ?_ ?_ _; rotate_left; exact (by first | omega | (simp; omega) | simp | (simp; done)))))⟩
set_option maxHeartbeats 1000000 in
set_option maxRecDepth 100000 in
theorem rel_yes (b : Nat) (s : ByteArray) (i d : Nat) (w : World) (hs : s.size ≤ 500) (h : At w b s i d) (hd : d + 4 = 4) (x : Ex) (j m : Nat) (Hr : Hid (nameThenR (TT s) (sg 58) i = .ok ((), j))) (Hx : Hid (exprR (TT s) (PP s) 4 j = .ok (x, m))) (He : Hid (eqs (TT s m) (sg 59) = true)) :
  Calls Tryz.prog 172 #[.pointer (some ⟨b, 0, none⟩)] w (Post b s d w (.ok (⟨TT s i, PP s i, x⟩, m + 1) : Res Rl) (RepRl b) IsRl) := by
 have hlt := h.lt
 have Hs : Hid (s.size ≤ maxLen) := hide (by unfold maxLen; omega)
 have C := hide (nameThen_post b s i d (sg 58) _ (uh Hs) ((h.alloc (.cells #[.int .i64 0, .string ⟨#[]⟩, .nilIface] 159)).alloc (.cells #[.int .i64 0, .string ⟨#[]⟩, .nilIface] 159)) (by decide))
 rw [uh Hr] at C
 clear h
 go_enter Tryz.func172, Tryz.ntmps172
 go_wp2_with fail
 refine (uh C).mono ?_
 rintro e w1 ⟨b1, v, rfl, rfl, a1⟩
 have B1 := hide (((But.refl b w).alloc _).alloc _ |>.trans b1)
 have R := ((Blk.new w #[.int .i64 0, .string ⟨#[]⟩, .nilIface] 159).alloc (.cells #[.int .i64 0, .string ⟨#[]⟩, .nilIface] 159)).but b1 (by omega)
 have G := (Blk.new' (w.alloc (.cells #[.int .i64 0, .string ⟨#[]⟩, .nilIface] 159)) #[.int .i64 0, .string ⟨#[]⟩, .nilIface] 159 (w.heap.size + 1) (by simp)).but b1 (by omega)
 have HR := hide R
 have HG := hide G
 obtain ⟨r0, r1, r2⟩ := R.three
 obtain ⟨g0, g1, g2⟩ := G.three
 have zr := R.fz
 have zg := G.fz
 have hsz := G.lt
 have hsz' : w.heap.size < w1.heap.size := by omega
 have A1 := hide a1
 clear a1 b1 R G C
 unfold nmv
 go_wp2_with fail
 have C := hide (expr_post b s hs 4 j d _ hd (show At ((w1.setCell ⟨w.heap.size + 1, 0, none⟩ (.int .i64 (tokP s (K s i)))).setCell ⟨w.heap.size + 1, 1, none⟩ (.string (tokT s (K s i)))) b s j d from (by repeat (first | with_reducible exact uh A1 | with_reducible refine At.alloc ?_ _ | with_reducible refine At.drew ?_ | (with_reducible refine At.setNew ?_ ?_ _; rotate_left; exact (by first | omega | (simp; omega) | simp | (simp; done)))))))
 rw [uh Hx] at C
 refine (uh C).mono ?_
 rintro e w2 ⟨b2, v2, rfl, hv2, a2⟩
 have B2 := hide (But.trans (x := w) (by repeat (first | with_reducible exact uh B1 | with_reducible refine But.alloc ?_ _ | with_reducible refine But.drew ?_ | (with_reducible refine But.setNew ?_ ?_ _; rotate_left; exact (by first | omega | (simp; omega) | simp | (simp; done))))) b2)
 have R2' := Blk.but (g := w.heap.size) (T := 159) (by repeat (first | with_reducible exact uh HR | with_reducible apply Blk.alloc | with_reducible apply Blk.drew | with_reducible apply Blk.set | (with_reducible apply Blk.other; case ha => exact (by first | omega | (simp; omega) | simp | (simp; done))))) b2 (by omega)
 have R2 : Blk w2 w.heap.size #[.int .i64 0, .string ⟨#[]⟩, .nilIface] 159 := R2'
 have G2' := Blk.but (g := w.heap.size + 1) (T := 159) (by repeat (first | with_reducible exact uh HG | with_reducible apply Blk.alloc | with_reducible apply Blk.drew | with_reducible apply Blk.set | (with_reducible apply Blk.other; case ha => exact (by first | omega | (simp; omega) | simp | (simp; done))))) b2 (by omega)
 have G2 : Blk w2 (w.heap.size + 1) #[.int .i64 (tokP s (K s i)), .string (tokT s (K s i)), .nilIface] 159 := G2'
 have HR2 := hide R2
 have HG2 := hide G2
 obtain ⟨p0, p1, p2⟩ := R2.three
 obtain ⟨q0, q1, q2⟩ := G2.three
 have zp := R2.fz
 have zq := G2.fz
 have tz := G2.lt
 have tz' : w.heap.size < w2.heap.size := by omega
 have A2 := hide a2
 clear a2 b2 R2 G2 R2' G2' r0 r1 r2 g0 g1 g2 zr zg hsz hsz'
 obtain ⟨tx, vx, rfl⟩ := hv2.isI
 have V2 := hide hv2
 clear hv2
 have hne : ¬ (w.heap.size + 1 = w.heap.size) := by omega
 go_wp2_with fail
 have A2' := hide (show At (w2.setCell ⟨w.heap.size + 1, 2, none⟩ (.iface tx vx)) b s m d from (by repeat (first | with_reducible exact uh A2 | with_reducible refine At.alloc ?_ _ | with_reducible refine At.drew ?_ | (with_reducible refine At.setNew ?_ ?_ _; rotate_left; exact (by first | omega | (simp; omega) | simp | (simp; done))))))
 have B2' := hide (show But b w (w2.setCell ⟨w.heap.size + 1, 2, none⟩ (.iface tx vx)) from (by repeat (first | with_reducible exact uh B2 | with_reducible refine But.alloc ?_ _ | with_reducible refine But.drew ?_ | (with_reducible refine But.setNew ?_ ?_ _; rotate_left; exact (by first | omega | (simp; omega) | simp | (simp; done))))))
 have V2' := hide (RepEx.set (uh V2) (uh HG2) (by decide) 2 (.iface tx vx))
 have G3 : Blk (w2.setCell ⟨w.heap.size + 1, 2, none⟩ (.iface tx vx)) (w.heap.size + 1) #[.int .i64 (tokP s (K s i)), .string (tokT s (K s i)), .iface tx vx] 159 := (uh HG2).set 2 _
 have R3 : Blk (w2.setCell ⟨w.heap.size + 1, 2, none⟩ (.iface tx vx)) w.heap.size #[.int .i64 0, .string ⟨#[]⟩, .nilIface] 159 := (uh HR2).other (by simp) _
 generalize w2.setCell ⟨w.heap.size + 1, 2, none⟩ (.iface tx vx) = W at *
 clear p0 p1 p2 q0 q1 q2 zp zq A2 B2 V2 HG2 HR2
 have HG3 := hide G3
 have HR3 := hide R3
 obtain ⟨q0, q1, q2⟩ := G3.three
 have zq := G3.fz
 have hW := G3.lt
 have hW' := R3.lt
 clear G3 R3
 go_region_held3 (fun w' => w'.cell? ⟨w.heap.size + 1, 0, none⟩ = some (.int .i64 (tokP s (K s i))) ∧ w'.cell? ⟨w.heap.size + 1, 1, none⟩ = some (.string (tokT s (K s i))) ∧ w'.cell? ⟨w.heap.size + 1, 2, none⟩ = some (.iface tx vx)) (go_keep)
  ((go_at_call 169; refine (takes_yes b s m d (sg 59) _ (uh Hs) ?_ (uh He) (by decide)).mono ?_; (exact (uh A2').drew); rintro e w3 ⟨rfl, a3, b3⟩; have G4 := (uh HG3).drew.but b3 (by omega); obtain ⟨n0, n1, n2⟩ := G4.three; have R4 := (uh HR3).drew.but b3 (by omega); obtain ⟨k0, k1, k2⟩ := R4.three; have zk := Blk.fz R4; have HR4 := hide R4; have A4 := hide a3; have V4 := hide (RepEx.but (uh V2') (But.trans ((But.refl b W).drew) b3)); have B4 := hide (But.trans (uh B2').drew b3); clear G4 R4 a3 b3))
 go_wp2
 refine bodyPost_ret (v := .tuple #[.agg #[.int .i64 (tokP s (K s i)), .string (tokT s (K s i)), .iface tx vx], .nilIface]) (res_cc Tryz.results172 _ _ w.heap.size _ 159 _ _ rfl rfl ?hB Tryz.underlying159 rfl (by kernel_rfl)) rfl ?post
 case hB => exact ⟨_, (by repeat (first | with_reducible exact uh HR4 | with_reducible apply Blk.alloc | with_reducible apply Blk.drew | with_reducible apply Blk.set | (with_reducible apply Blk.other; case ha => exact (by first | omega | (simp; omega) | simp | (simp; done))))), by rfl⟩
 case post => exact ⟨(by repeat (first | with_reducible exact uh B4 | with_reducible refine But.alloc ?_ _ | with_reducible refine But.drew ?_ | (with_reducible refine But.setNew ?_ ?_ _; rotate_left; exact (by first | omega | (simp; omega) | simp | (simp; done))))), _, rfl, ⟨_, rfl, RepEx.set (RepEx.set (RepEx.set (uh V4) (uh HR4) (by decide) 0 _) ((uh HR4).set 0 _) (by decide) 1 _) (((uh HR4).set 0 _).set 1 _) (by decide) 2 _⟩, (by repeat (first | with_reducible exact uh A4 | with_reducible refine At.alloc ?_ _ | with_reducible refine At.drew ?_ | (with_reducible refine At.setNew ?_ ?_ _; rotate_left; exact (by first | omega | (simp; omega) | simp | (simp; done)))))⟩
set_option maxHeartbeats 1000000 in
set_option maxRecDepth 100000 in
theorem rel_no (b : Nat) (s : ByteArray) (i d : Nat) (w : World) (hs : s.size ≤ 500) (h : At w b s i d) (hd : d + 4 = 4) (x : Ex) (j m : Nat) (Hr : Hid (nameThenR (TT s) (sg 58) i = .ok ((), j))) (Hx : Hid (exprR (TT s) (PP s) 4 j = .ok (x, m))) (He : Hid (eqs (TT s m) (sg 59) = false)) :
  Calls Tryz.prog 172 #[.pointer (some ⟨b, 0, none⟩)] w (Post b s d w (.error (2, m) : Res Rl) (RepRl b) IsRl) := by
 have hlt := h.lt
 have Hs : Hid (s.size ≤ maxLen) := hide (by unfold maxLen; omega)
 have C := hide (nameThen_post b s i d (sg 58) _ (uh Hs) ((h.alloc (.cells #[.int .i64 0, .string ⟨#[]⟩, .nilIface] 159)).alloc (.cells #[.int .i64 0, .string ⟨#[]⟩, .nilIface] 159)) (by decide))
 rw [uh Hr] at C
 clear h
 go_enter Tryz.func172, Tryz.ntmps172
 go_wp2_with fail
 refine (uh C).mono ?_
 rintro e w1 ⟨b1, v, rfl, rfl, a1⟩
 have B1 := hide (((But.refl b w).alloc _).alloc _ |>.trans b1)
 have R := ((Blk.new w #[.int .i64 0, .string ⟨#[]⟩, .nilIface] 159).alloc (.cells #[.int .i64 0, .string ⟨#[]⟩, .nilIface] 159)).but b1 (by omega)
 have G := (Blk.new' (w.alloc (.cells #[.int .i64 0, .string ⟨#[]⟩, .nilIface] 159)) #[.int .i64 0, .string ⟨#[]⟩, .nilIface] 159 (w.heap.size + 1) (by simp)).but b1 (by omega)
 have HR := hide R
 have HG := hide G
 obtain ⟨r0, r1, r2⟩ := R.three
 obtain ⟨g0, g1, g2⟩ := G.three
 have zr := R.fz
 have zg := G.fz
 have hsz := G.lt
 have hsz' : w.heap.size < w1.heap.size := by omega
 have A1 := hide a1
 clear a1 b1 R G C
 unfold nmv
 go_wp2_with fail
 have C := hide (expr_post b s hs 4 j d _ hd (show At ((w1.setCell ⟨w.heap.size + 1, 0, none⟩ (.int .i64 (tokP s (K s i)))).setCell ⟨w.heap.size + 1, 1, none⟩ (.string (tokT s (K s i)))) b s j d from (by repeat (first | with_reducible exact uh A1 | with_reducible refine At.alloc ?_ _ | with_reducible refine At.drew ?_ | (with_reducible refine At.setNew ?_ ?_ _; rotate_left; exact (by first | omega | (simp; omega) | simp | (simp; done)))))))
 rw [uh Hx] at C
 refine (uh C).mono ?_
 rintro e w2 ⟨b2, v2, rfl, hv2, a2⟩
 have B2 := hide (But.trans (x := w) (by repeat (first | with_reducible exact uh B1 | with_reducible refine But.alloc ?_ _ | with_reducible refine But.drew ?_ | (with_reducible refine But.setNew ?_ ?_ _; rotate_left; exact (by first | omega | (simp; omega) | simp | (simp; done))))) b2)
 have R2' := Blk.but (g := w.heap.size) (T := 159) (by repeat (first | with_reducible exact uh HR | with_reducible apply Blk.alloc | with_reducible apply Blk.drew | with_reducible apply Blk.set | (with_reducible apply Blk.other; case ha => exact (by first | omega | (simp; omega) | simp | (simp; done))))) b2 (by omega)
 have R2 : Blk w2 w.heap.size #[.int .i64 0, .string ⟨#[]⟩, .nilIface] 159 := R2'
 have G2' := Blk.but (g := w.heap.size + 1) (T := 159) (by repeat (first | with_reducible exact uh HG | with_reducible apply Blk.alloc | with_reducible apply Blk.drew | with_reducible apply Blk.set | (with_reducible apply Blk.other; case ha => exact (by first | omega | (simp; omega) | simp | (simp; done))))) b2 (by omega)
 have G2 : Blk w2 (w.heap.size + 1) #[.int .i64 (tokP s (K s i)), .string (tokT s (K s i)), .nilIface] 159 := G2'
 have HR2 := hide R2
 have HG2 := hide G2
 obtain ⟨p0, p1, p2⟩ := R2.three
 obtain ⟨q0, q1, q2⟩ := G2.three
 have zp := R2.fz
 have zq := G2.fz
 have tz := G2.lt
 have tz' : w.heap.size < w2.heap.size := by omega
 have A2 := hide a2
 clear a2 b2 R2 G2 R2' G2' r0 r1 r2 g0 g1 g2 zr zg hsz hsz'
 obtain ⟨tx, vx, rfl⟩ := hv2.isI
 have V2 := hide hv2
 clear hv2
 have hne : ¬ (w.heap.size + 1 = w.heap.size) := by omega
 go_wp2_with fail
 have A2' := hide (show At (w2.setCell ⟨w.heap.size + 1, 2, none⟩ (.iface tx vx)) b s m d from (by repeat (first | with_reducible exact uh A2 | with_reducible refine At.alloc ?_ _ | with_reducible refine At.drew ?_ | (with_reducible refine At.setNew ?_ ?_ _; rotate_left; exact (by first | omega | (simp; omega) | simp | (simp; done))))))
 have B2' := hide (show But b w (w2.setCell ⟨w.heap.size + 1, 2, none⟩ (.iface tx vx)) from (by repeat (first | with_reducible exact uh B2 | with_reducible refine But.alloc ?_ _ | with_reducible refine But.drew ?_ | (with_reducible refine But.setNew ?_ ?_ _; rotate_left; exact (by first | omega | (simp; omega) | simp | (simp; done))))))
 have V2' := hide (RepEx.set (uh V2) (uh HG2) (by decide) 2 (.iface tx vx))
 have G3 : Blk (w2.setCell ⟨w.heap.size + 1, 2, none⟩ (.iface tx vx)) (w.heap.size + 1) #[.int .i64 (tokP s (K s i)), .string (tokT s (K s i)), .iface tx vx] 159 := (uh HG2).set 2 _
 have R3 : Blk (w2.setCell ⟨w.heap.size + 1, 2, none⟩ (.iface tx vx)) w.heap.size #[.int .i64 0, .string ⟨#[]⟩, .nilIface] 159 := (uh HR2).other (by simp) _
 generalize w2.setCell ⟨w.heap.size + 1, 2, none⟩ (.iface tx vx) = W at *
 clear p0 p1 p2 q0 q1 q2 zp zq A2 B2 V2 HG2 HR2
 have HG3 := hide G3
 have HR3 := hide R3
 obtain ⟨q0, q1, q2⟩ := G3.three
 have zq := G3.fz
 have hW := G3.lt
 have hW' := R3.lt
 clear G3 R3
 go_region_held3 (fun w' => w'.cell? ⟨w.heap.size + 1, 0, none⟩ = some (.int .i64 (tokP s (K s i))) ∧ w'.cell? ⟨w.heap.size + 1, 1, none⟩ = some (.string (tokT s (K s i))) ∧ w'.cell? ⟨w.heap.size + 1, 2, none⟩ = some (.iface tx vx)) (go_keep)
  ((go_at_call 169; refine (takes_no b s m d (sg 59) _ ?_ (uh He)).mono ?_; (exact (uh A2').drew); rintro e w3 ⟨rfl, a3, b3⟩; have G4 := (uh HG3).drew.but b3 (by omega); obtain ⟨n0, n1, n2⟩ := G4.three; have R4 := (uh HR3).drew.but b3 (by omega); obtain ⟨k0, k1, k2⟩ := R4.three; have zk := Blk.fz R4; have HR4 := hide R4; have A4 := hide a3; have V4 := hide (RepEx.but (uh V2') (But.trans ((But.refl b W).drew) b3)); have B4 := hide (But.trans (uh B2').drew b3); clear G4 R4 a3 b3))
 go_wp2
 refine bodyPost_ret (v := .tuple #[.agg #[.int .i64 (tokP s (K s i)), .string (tokT s (K s i)), .iface tx vx], errv 2]) (res_cc Tryz.results172 _ _ w.heap.size _ 159 _ _ rfl rfl ?hB Tryz.underlying159 rfl (by kernel_rfl)) rfl ?post
 case hB => exact ⟨_, (by repeat (first | with_reducible exact uh HR4 | with_reducible apply Blk.alloc | with_reducible apply Blk.drew | with_reducible apply Blk.set | (with_reducible apply Blk.other; case ha => exact (by first | omega | (simp; omega) | simp | (simp; done))))), by rfl⟩
 case post => exact ⟨(by repeat (first | with_reducible exact uh B4 | with_reducible refine But.alloc ?_ _ | with_reducible refine But.drew ?_ | (with_reducible refine But.setNew ?_ ?_ _; rotate_left; exact (by first | omega | (simp; omega) | simp | (simp; done))))), _, d, rfl, ⟨_, _, _, rfl, .inr ⟨_, _, rfl⟩⟩, (by repeat (first | with_reducible exact uh A4 | with_reducible refine At.alloc ?_ _ | with_reducible refine At.drew ?_ | (with_reducible refine At.setNew ?_ ?_ _; rotate_left; exact (by first | omega | (simp; omega) | simp | (simp; done)))))⟩
theorem rel_post (b : Nat) (s : ByteArray) (i d : Nat) (w : World) (hs : s.size ≤ 500) (h : At w b s i d) (hd : d + 4 = 4) :
  Calls Tryz.prog 172 #[.pointer (some ⟨b, 0, none⟩)] w (Post b s d w (relR (TT s) (PP s) i) (RepRl b) IsRl) := by
 unfold relR
 cases hr : nameThenR (TT s) (sg 58) i with
 | error e => exact rel_bad b s i d w hs h e.1 e.2 (hide hr)
 | ok y =>
  obtain ⟨⟨⟩, j⟩ := y
  cases hx : exprR (TT s) (PP s) 4 j with
  | error e => simp only [hx]; exact rel_xbad b s i d w hs h hd e.1 j e.2 (hide hr) (hide hx)
  | ok y =>
   obtain ⟨x, m⟩ := y
   cases he : eqs (TT s m) (sg 59)
   ·simp only [hx, he]
    exact rel_no b s i d w hs h hd x j m (hide hr) (hide hx) (hide he)
   ·simp only [hx, he]
    exact rel_yes b s i d w hs h hd x j m (hide hr) (hide hx) (hide he)
end Go.Proofs.YtlbpnlngckgcbaaGreatDoor
