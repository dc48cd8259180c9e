import Derived.Test.YtlbpnlngckgcbaaGreatDoorList
namespace Go.Proofs.YtlbpnlngckgcbaaGreatDoor
open Go.RowKit Go.PlainAid
set_option linter.unusedSimpArgs false
set_option linter.unusedVariables false

theorem Post.form {α : Type} {b : Nat} {s : ByteArray} {d : Nat} {w w' : World} {r : Res α} {rep : World → α → Value → Prop} {bad : Value → Prop} {e : Ending} (h : Post b s d w r rep bad e w') : ∃ v er, e = .returned (.tuple #[v, er]) := by
  obtain ⟨_, h⟩ := h
  cases r with
  | error y => obtain ⟨c, j⟩ := y; obtain ⟨v, d', h, _⟩ := h; exact ⟨_, _, h⟩
  | ok y => obtain ⟨c, j⟩ := y; obtain ⟨v, h, _⟩ := h; exact ⟨_, _, h⟩
theorem Post.from {α : Type} {b : Nat} {s : ByteArray} {d : Nat} {w w1 w' : World} {r : Res α} {rep : World → α → Value → Prop} {bad : Value → Prop} {e : Ending} (k : But b w w1) (h : Post b s d w1 r rep bad e w') : Post b s d w r rep bad e w' := ⟨k.trans h.1, h.2⟩
theorem At.open {w : World} {b : Nat} {s : ByteArray} {i d : Nat} (h : At w b s i d) (d' : Nat) : At (w.setCell ⟨b, 3, none⟩ (.int .i64 d')) b s i d' :=
  ⟨⟨⟨by rw [heap_setCell_blk _ h.pos.rd.blk]; rfl⟩, h.pos.le⟩, h.good⟩

set_option maxHeartbeats 1000000 in
set_option maxRecDepth 100000 in
theorem brackets_full (b : Nat) (s : ByteArray) (i : Nat) (w : World) (h : At w b s i 4) :
    Calls Tryz.prog 272 #[.pointer (some ⟨b, 0, none⟩)] w (PostE b s 4 w (.error (3, i))) := by
  have c3 := h.pos.rd.c3
  have A0 := hide h
  clear h
  go_enter Tryz.func272, Tryz.ntmps272
  go_wp2
  go_ret2
  exact ⟨But.refl _ _, _, 4, rfl, .inl rfl, unhide A0⟩

set_option maxHeartbeats 1000000 in
set_option maxRecDepth 100000 in
theorem brackets_bad (b : Nat) (s : ByteArray) (i d : Nat) (w : World) (hs : s.size ≤ 500) (h : At w b s i d) (hd : d < 4) (he : eqs (TT s i) (sg 40) = true) (inner : Nat → Res Ex)
    (hx : ∀ i w, At w b s i (d + 1) → Calls Tryz.prog 222 #[.pointer (some ⟨b, 0, none⟩)] w (PostE b s (d + 1) w (inner i))) (c j : Nat) (Hi : Hid (inner (i + 1) = .error (c, j))) :
    Calls Tryz.prog 272 #[.pointer (some ⟨b, 0, none⟩)] w (PostE b s d w (.error (c, j))) := by
  have hlt := h.lt
  have Hs : Hid (s.size ≤ maxLen) := hide (by unfold maxLen; omega)
  have He := hide (eqs_pos he (by decide))
  have c3 := h.pos.rd.c3
  have zb := h.pos.rd.fz
  have A0 := hide (At.open h (d + 1))
  have hd' : ((d : Int) == 4) = false := by rw [beq_eq_false_iff_ne]; omega
  have Hx := hide hx
  clear h he hx
  go_enter Tryz.func272, Tryz.ntmps272
  go_wp2_with fail
  rw [show ((d : Int) + 1) = ((d + 1 : Nat) : Int) by omega]
  refine (steps b s i (d + 1) _ (unhide Hs) (unhide A0) (unhide He)).mono ?_
  rintro e w2 ⟨rfl, a2, b2⟩
  have B2 := hide (But.trans (x := w) ((But.refl b w).setCell 3 _) b2)
  have A2 := hide a2
  have lt2 := a2.lt
  clear a2 b2
  have C := hide (unhide Hx (i + 1) w2 (unhide A2))
  rw [unhide Hi] at C
  go_wp2_with fail
  refine (unhide C).mono ?_
  rintro e w3 ⟨b3, v3, d3, rfl, hv3, a3⟩
  have B3 := hide (But.trans (unhide B2) b3)
  have A3 := hide a3
  clear a3 b3 hv3 c3 zb
  unfold errv
  go_wp2
  go_ret2
  exact ⟨unhide B3, _, d3, rfl, .inl rfl, unhide A3⟩

set_option maxHeartbeats 1000000 in
set_option maxRecDepth 100000 in
theorem brackets_no (b : Nat) (s : ByteArray) (i d : Nat) (w : World) (hs : s.size ≤ 500) (h : At w b s i d) (hd : d < 4) (he : eqs (TT s i) (sg 40) = true) (inner : Nat → Res Ex)
    (hx : ∀ i w, At w b s i (d + 1) → Calls Tryz.prog 222 #[.pointer (some ⟨b, 0, none⟩)] w (PostE b s (d + 1) w (inner i))) (x : Ex) (j : Nat) (Hi : Hid (inner (i + 1) = .ok (x, j))) (Hc : Hid (eqs (TT s j) (sg 41) = false)) :
    Calls Tryz.prog 272 #[.pointer (some ⟨b, 0, none⟩)] w (PostE b s d w (.error (2, j))) := by
  have hlt := h.lt
  have Hs : Hid (s.size ≤ maxLen) := hide (by unfold maxLen; omega)
  have He := hide (eqs_pos he (by decide))
  have c3 := h.pos.rd.c3
  have zb := h.pos.rd.fz
  have A0 := hide (At.open h (d + 1))
  have hd' : ((d : Int) == 4) = false := by rw [beq_eq_false_iff_ne]; omega
  have Hx := hide hx
  clear h he hx
  go_enter Tryz.func272, Tryz.ntmps272
  go_wp2_with fail
  rw [show ((d : Int) + 1) = ((d + 1 : Nat) : Int) by omega]
  refine (steps b s i (d + 1) _ (unhide Hs) (unhide A0) (unhide He)).mono ?_
  rintro e w2 ⟨rfl, a2, b2⟩
  have B2 := hide (But.trans (x := w) ((But.refl b w).setCell 3 _) b2)
  have A2 := hide a2
  have lt2 := a2.lt
  clear a2 b2
  have C := hide (unhide Hx (i + 1) w2 (unhide A2))
  rw [unhide Hi] at C
  go_wp2_with fail
  refine (unhide C).mono ?_
  rintro e w3 ⟨b3, v3, rfl, hv3, a3⟩
  have B3 := hide (But.trans (unhide B2) b3)
  have A3 := hide (At.open a3 d)
  have k3 := a3.pos.rd.c3
  have zk := a3.pos.rd.fz
  have V3 := hide hv3
  clear a3 b3 hv3 c3 zb
  go_wp2_with fail
  refine (takes_no b s j d (sg 41) _ (unhide A3) (unhide Hc)).mono ?_
  rintro e w4 ⟨rfl, a4, b4⟩
  have B4 := hide (But.trans ((unhide B3).setCell 3 _) b4)
  have A4 := hide a4
  clear a4 b4
  go_wp2
  go_ret2
  exact ⟨unhide B4, _, d, rfl, .inr (unhide V3).isI, unhide A4⟩

set_option maxHeartbeats 1000000 in
set_option maxRecDepth 100000 in
theorem brackets_yes (b : Nat) (s : ByteArray) (i d : Nat) (w : World) (hs : s.size ≤ 500) (h : At w b s i d) (hd : d < 4) (he : eqs (TT s i) (sg 40) = true) (inner : Nat → Res Ex)
    (hx : ∀ i w, At w b s i (d + 1) → Calls Tryz.prog 222 #[.pointer (some ⟨b, 0, none⟩)] w (PostE b s (d + 1) w (inner i))) (x : Ex) (j : Nat) (Hi : Hid (inner (i + 1) = .ok (x, j))) (Hc : Hid (eqs (TT s j) (sg 41) = true)) :
    Calls Tryz.prog 272 #[.pointer (some ⟨b, 0, none⟩)] w (PostE b s d w (.ok (x, j + 1))) := by
  have hlt := h.lt
  have Hs : Hid (s.size ≤ maxLen) := hide (by unfold maxLen; omega)
  have He := hide (eqs_pos he (by decide))
  have c3 := h.pos.rd.c3
  have zb := h.pos.rd.fz
  have A0 := hide (At.open h (d + 1))
  have hd' : ((d : Int) == 4) = false := by rw [beq_eq_false_iff_ne]; omega
  have Hx := hide hx
  clear h he hx
  go_enter Tryz.func272, Tryz.ntmps272
  go_wp2_with fail
  rw [show ((d : Int) + 1) = ((d + 1 : Nat) : Int) by omega]
  refine (steps b s i (d + 1) _ (unhide Hs) (unhide A0) (unhide He)).mono ?_
  rintro e w2 ⟨rfl, a2, b2⟩
  have B2 := hide (But.trans (x := w) ((But.refl b w).setCell 3 _) b2)
  have A2 := hide a2
  have lt2 := a2.lt
  clear a2 b2
  have C := hide (unhide Hx (i + 1) w2 (unhide A2))
  rw [unhide Hi] at C
  go_wp2_with fail
  refine (unhide C).mono ?_
  rintro e w3 ⟨b3, v3, rfl, hv3, a3⟩
  have B3 := hide (But.trans (unhide B2) b3)
  have A3 := hide (At.open a3 d)
  have k3 := a3.pos.rd.c3
  have zk := a3.pos.rd.fz
  have V3 := hide hv3
  clear a3 b3 hv3 c3 zb
  go_wp2_with fail
  refine (takes_yes b s j d (sg 41) _ (unhide Hs) (unhide A3) (unhide Hc) (by decide)).mono ?_
  rintro e w4 ⟨rfl, a4, b4⟩
  have B4 := hide (But.trans ((unhide B3).setCell 3 _) b4)
  have V4 := hide (RepEx.but (unhide V3) (But.trans ((But.refl b w3).setCell 3 _) b4))
  have A4 := hide a4
  clear a4 b4
  go_wp2
  go_ret2
  exact ⟨unhide B4, _, rfl, unhide V4, unhide A4⟩

set_option maxHeartbeats 1000000 in
set_option maxRecDepth 100000 in
theorem unit_any (b : Nat) (s : ByteArray) (i d : Nat) (w : World) (hs : s.size ≤ 500) (h : At w b s i d) (r : Res Ex)
    (hl : eqs (TT s i) (sg 91) = true → ∀ w, At w b s i d → Calls Tryz.prog 271 #[.pointer (some ⟨b, 0, none⟩)] w (PostE b s d w r))
    (hb : eqs (TT s i) (sg 91) = false → eqs (TT s i) (sg 40) = true → ∀ w, At w b s i d → Calls Tryz.prog 272 #[.pointer (some ⟨b, 0, none⟩)] w (PostE b s d w r))
    (ho : eqs (TT s i) (sg 91) = false → eqs (TT s i) (sg 40) = false → ∀ w, At w b s i d → Calls Tryz.prog 273 #[.pointer (some ⟨b, 0, none⟩)] w (PostE b s d w r)) :
    Calls Tryz.prog 264 #[.pointer (some ⟨b, 0, none⟩)] w (PostE b s d w r) := by
  have A0 := hide h
  have HL := hide hl
  have HB := hide hb
  have HO := hide ho
  have hlt := h.lt
  clear h hl hb ho
  cases h1 : eqs (TT s i) (sg 91)
  · cases h2 : eqs (TT s i) (sg 40)
    · go_enter Tryz.func264, Tryz.ntmps264
      go_wp2_with fail
      refine (ats b s i d _ _ (sg 91) _ ?_ ?_).mono ?_
      · exact (by repeat (first | with_reducible exact unhide A0 | with_reducible refine At.alloc ?_ _ | with_reducible refine At.drew ?_ | (with_reducible refine At.setNew ?_ ?_ _; rotate_left; exact (by first | omega | (simp; omega) | simp | (simp; done)))))
      · exact cell_new1 _ _ _ _ (by simp)
      rintro e w2 ⟨rfl, rfl⟩
      rw [h1]
      go_wp2_with fail
      refine (ats b s i d _ _ (sg 40) _ ?_ ?_).mono ?_
      · exact (by repeat (first | with_reducible exact unhide A0 | with_reducible refine At.alloc ?_ _ | with_reducible refine At.drew ?_ | (with_reducible refine At.setNew ?_ ?_ _; rotate_left; exact (by first | omega | (simp; omega) | simp | (simp; done)))))
      · exact cell_new1 _ _ _ _ (by simp)
      rintro e w2 ⟨rfl, rfl⟩
      rw [h2]
      go_wp2_with fail
      refine (unhide HO h1 h2 _ (by repeat (first | with_reducible exact unhide A0 | with_reducible refine At.alloc ?_ _ | with_reducible refine At.drew ?_ | (with_reducible refine At.setNew ?_ ?_ _; rotate_left; exact (by first | omega | (simp; omega) | simp | (simp; done)))))).mono ?_
      intro e w3 hp
      obtain ⟨v, er, rfl⟩ := Post.form hp
      have HP := hide hp
      clear hp
      go_wp2
      go_ret2
      have B0 := hide (But.refl b w)
      exact Post.from (w := w) (by repeat (first | with_reducible exact unhide B0 | with_reducible refine But.alloc ?_ _ | with_reducible refine But.drew ?_ | (with_reducible refine But.setNew ?_ ?_ _; rotate_left; exact (by first | omega | (simp; omega) | simp | (simp; done))))) (unhide HP)
    · go_enter Tryz.func264, Tryz.ntmps264
      go_wp2_with fail
      refine (ats b s i d _ _ (sg 91) _ ?_ ?_).mono ?_
      · exact (by repeat (first | with_reducible exact unhide A0 | with_reducible refine At.alloc ?_ _ | with_reducible refine At.drew ?_ | (with_reducible refine At.setNew ?_ ?_ _; rotate_left; exact (by first | omega | (simp; omega) | simp | (simp; done)))))
      · exact cell_new1 _ _ _ _ (by simp)
      rintro e w2 ⟨rfl, rfl⟩
      rw [h1]
      go_wp2_with fail
      refine (ats b s i d _ _ (sg 40) _ ?_ ?_).mono ?_
      · exact (by repeat (first | with_reducible exact unhide A0 | with_reducible refine At.alloc ?_ _ | with_reducible refine At.drew ?_ | (with_reducible refine At.setNew ?_ ?_ _; rotate_left; exact (by first | omega | (simp; omega) | simp | (simp; done)))))
      · exact cell_new1 _ _ _ _ (by simp)
      rintro e w2 ⟨rfl, rfl⟩
      rw [h2]
      go_wp2_with fail
      refine (unhide HB h1 h2 _ (by repeat (first | with_reducible exact unhide A0 | with_reducible refine At.alloc ?_ _ | with_reducible refine At.drew ?_ | (with_reducible refine At.setNew ?_ ?_ _; rotate_left; exact (by first | omega | (simp; omega) | simp | (simp; done)))))).mono ?_
      intro e w3 hp
      obtain ⟨v, er, rfl⟩ := Post.form hp
      have HP := hide hp
      clear hp
      go_wp2
      go_ret2
      have B0 := hide (But.refl b w)
      exact Post.from (w := w) (by repeat (first | with_reducible exact unhide B0 | with_reducible refine But.alloc ?_ _ | with_reducible refine But.drew ?_ | (with_reducible refine But.setNew ?_ ?_ _; rotate_left; exact (by first | omega | (simp; omega) | simp | (simp; done))))) (unhide HP)
  · go_enter Tryz.func264, Tryz.ntmps264
    go_wp2_with fail
    refine (ats b s i d _ _ (sg 91) _ ?_ ?_).mono ?_
    · exact (by repeat (first | with_reducible exact unhide A0 | with_reducible refine At.alloc ?_ _ | with_reducible refine At.drew ?_ | (with_reducible refine At.setNew ?_ ?_ _; rotate_left; exact (by first | omega | (simp; omega) | simp | (simp; done)))))
    · exact cell_new1 _ _ _ _ (by simp)
    rintro e w2 ⟨rfl, rfl⟩
    rw [h1]
    go_wp2_with fail
    refine (unhide HL h1 _ (by repeat (first | with_reducible exact unhide A0 | with_reducible refine At.alloc ?_ _ | with_reducible refine At.drew ?_ | (with_reducible refine At.setNew ?_ ?_ _; rotate_left; exact (by first | omega | (simp; omega) | simp | (simp; done)))))).mono ?_
    intro e w3 hp
    obtain ⟨v, er, rfl⟩ := Post.form hp
    have HP := hide hp
    clear hp
    go_wp2
    go_ret2
    have B0 := hide (But.refl b w)
    exact Post.from (w := w) (by repeat (first | with_reducible exact unhide B0 | with_reducible refine But.alloc ?_ _ | with_reducible refine But.drew ?_ | (with_reducible refine But.setNew ?_ ?_ _; rotate_left; exact (by first | omega | (simp; omega) | simp | (simp; done))))) (unhide HP)

theorem unit_post (b : Nat) (s : ByteArray) (i d : Nat) (w : World) (hs : s.size ≤ 500) (h : At w b s i d) (room : Bool) (inner : Nat → Res Ex) (hd : d ≤ 4) (hr : room = true ↔ d < 4)
    (hx : room = true → ∀ i w, At w b s i (d + 1) → Calls Tryz.prog 222 #[.pointer (some ⟨b, 0, none⟩)] w (PostE b s (d + 1) w (inner i))) :
    Calls Tryz.prog 264 #[.pointer (some ⟨b, 0, none⟩)] w (PostE b s d w (unitR (TT s) (PP s) room inner i)) := by
  have hs' : s.size ≤ maxLen := by unfold maxLen; omega
  refine unit_any b s i d w hs h _ ?_ ?_ ?_
  · intro h1 w h
    simp only [unitR, h1, if_true]
    exact list_post b s i d w hs h h1
  · intro h1 h2 w h
    simp only [unitR, h1, h2, if_true, Bool.false_eq_true, if_false]
    cases room with
    | false =>
      have : d = 4 := by
        have : ¬ d < 4 := fun k => by have := hr.2 k; cases this
        omega
      subst this
      exact brackets_full b s i w h
    | true =>
      have hd4 := hr.1 rfl
      simp only [if_true]
      cases hi : inner (i + 1) with
      | error e => exact brackets_bad b s i d w hs h hd4 h2 inner (hx rfl) e.1 e.2 (hide hi)
      | ok y =>
        obtain ⟨x, j⟩ := y
        cases hc : eqs (TT s j) (sg 41)
        · simp only [hc]
          exact brackets_no b s i d w hs h hd4 h2 inner (hx rfl) x j (hide hi) (hide hc)
        · simp only [hc]
          exact brackets_yes b s i d w hs h hd4 h2 inner (hx rfl) x j (hide hi) (hide hc)
  · intro h1 h2 w h
    simp only [unitR, h1, h2, Bool.false_eq_true, if_false]
    exact own_post b s i d w hs' h

set_option maxHeartbeats 1000000 in
set_option maxRecDepth 100000 in
theorem chain_post (b : Nat) (s : ByteArray) (i d : Nat) (w : World) (hs : s.size ≤ 500) (h : At w b s i d) (part : Nat → Res Ex) (hm : Mono part)
    (hp : ∀ i w, At w b s i d → Calls Tryz.prog 264 #[.pointer (some ⟨b, 0, none⟩)] w (PostE b s d w (part i))) :
    Calls Tryz.prog 249 #[.pointer (some ⟨b, 0, none⟩)] w (PostE b s d w (joinR (TT s) (PP s) [sg 38, sg 45] part i)) := by
  have A0 := hide h
  have hlt := h.lt
  have C := hide (joined_unit b s i d (w.alloc (.cells #[.string ⟨#[38]⟩, .string ⟨#[45]⟩] 9)) hs (h.alloc _) w.heap.size 2 [sg 38, sg 45] part hm hp (by simp [maxLen]) (by decide) (by omega) (by simp) (fun i hi => by
    match i, hi with
    | 0, _ => exact (Blk.new w _ _).cell rfl
    | 1, _ => exact (Blk.new w _ _).cell rfl
    | n + 2, hi => simp at hi; omega))
  generalize joinR (TT s) (PP s) [sg 38, sg 45] part i = r at *
  clear h hp hm
  go_enter Tryz.func249, Tryz.ntmps249
  go_wp2_with fail
  refine (unhide C).mono ?_
  intro e w3 hp
  obtain ⟨v, er, rfl⟩ := Post.form hp
  have HP := hide hp
  clear hp
  go_wp2
  go_ret2
  have B0 := hide (But.refl b w)
  exact Post.from (w := w) (by repeat (first | with_reducible exact unhide B0 | with_reducible refine But.alloc ?_ _ | with_reducible refine But.drew ?_ | (with_reducible refine But.setNew ?_ ?_ _; rotate_left; exact (by first | omega | (simp; omega) | simp | (simp; done))))) (unhide HP)

set_option maxHeartbeats 1000000 in
set_option maxRecDepth 100000 in
theorem expr_of (b : Nat) (s : ByteArray) (i d : Nat) (w : World) (hs : s.size ≤ 500) (h : At w b s i d) (part : Nat → Res Ex) (hm : Mono part)
    (hp : ∀ i w, At w b s i d → Calls Tryz.prog 249 #[.pointer (some ⟨b, 0, none⟩)] w (PostE b s d w (part i))) :
    Calls Tryz.prog 222 #[.pointer (some ⟨b, 0, none⟩)] w (PostE b s d w (joinR (TT s) (PP s) [sg 124] part i)) := by
  have A0 := hide h
  have hlt := h.lt
  have C := hide (joined_chain b s i d (w.alloc (.cells #[.string ⟨#[124]⟩] 9)) hs (h.alloc _) w.heap.size 1 [sg 124] part hm hp (by simp [maxLen]) (by decide) (by omega) (by simp) (fun i hi => by
    match i, hi with
    | 0, _ => exact (Blk.new w _ _).cell rfl
    | n + 1, hi => simp at hi))
  generalize joinR (TT s) (PP s) [sg 124] part i = r at *
  clear h hp hm
  go_enter Tryz.func222, Tryz.ntmps222
  go_wp2_with fail
  refine (unhide C).mono ?_
  intro e w3 hp
  obtain ⟨v, er, rfl⟩ := Post.form hp
  have HP := hide hp
  clear hp
  go_wp2
  go_ret2
  have B0 := hide (But.refl b w)
  exact Post.from (w := w) (by repeat (first | with_reducible exact unhide B0 | with_reducible refine But.alloc ?_ _ | with_reducible refine But.drew ?_ | (with_reducible refine But.setNew ?_ ?_ _; rotate_left; exact (by first | omega | (simp; omega) | simp | (simp; done))))) (unhide HP)

/-- The reader's expression, n brackets may still be opened. -/
theorem expr_post (b : Nat) (s : ByteArray) (hs : s.size ≤ 500) : ∀ n i d w, d + n = 4 → At w b s i d →
    Calls Tryz.prog 222 #[.pointer (some ⟨b, 0, none⟩)] w (PostE b s d w (exprR (TT s) (PP s) n i))
  | 0, i, d, w, hd, h => expr_of b s i d w hs h _ (chainR_mono _ _ false _ (fun i x j h => by simp at h)) (fun i w h =>
      chain_post b s i d w hs h _ (unitR_mono _ _ false _ (fun i x j h => by simp at h)) (fun i w h =>
        unit_post b s i d w hs h false _ (by omega) (by simp; omega) (fun h => by cases h)))
  | n + 1, i, d, w, hd, h => expr_of b s i d w hs h _ (chainR_mono _ _ true _ (exprR_mono _ _ n)) (fun i w h =>
      chain_post b s i d w hs h _ (unitR_mono _ _ true _ (exprR_mono _ _ n)) (fun i w h =>
        unit_post b s i d w hs h true _ (by omega) (by simp; omega) (fun _ i w h => expr_post b s hs n i (d + 1) w (by omega) h)))
end Go.Proofs.YtlbpnlngckgcbaaGreatDoor
