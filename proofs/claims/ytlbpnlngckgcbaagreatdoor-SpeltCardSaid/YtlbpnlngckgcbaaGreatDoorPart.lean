import Derived.Test.YtlbpnlngckgcbaaGreatDoorGran
namespace Go.Proofs.YtlbpnlngckgcbaaGreatDoor
open Go.RowKit Go.PlainAid
set_option linter.unusedSimpArgs false
set_option linter.unusedVariables false

theorem Ex.ind (Q : Ex → Prop) (h0 : ∀ n r, Q ⟨n, none, r⟩) (h1 : ∀ n a, Q ⟨n, some a, none⟩) (h2 : ∀ n a b, Q a → Q b → Q ⟨n, some a, some b⟩) : ∀ e, Q e
  | ⟨n, none, r⟩ => h0 n r
  | ⟨n, some a, none⟩ => h1 n a
  | ⟨n, some a, some b⟩ => h2 n a b (Ex.ind Q h0 h1 h2 a) (Ex.ind Q h0 h1 h2 b)

def tyOf (k : Nat) : TypeId := if k = 3 then 244 else if k = 4 then 245 else 246
def gsCells (l : List Gr) : List Value := l.flatMap fun g => (grCells g).toList
def RepLeaf (b : Nat) (w : World) (n : Nd) (v : Value) : Prop :=
  (n.kind = 0 ∧ ∃ sv, v = .iface 236 (.agg #[.int .i64 n.place, sv]) ∧ w.ownsRow (b + 1) 207 5 sv n.gs.length (gsCells n.gs)) ∨
  (n.kind = 1 ∧ v = .iface 238 (.agg #[.int .i64 n.place, .string n.n1])) ∨
  (n.kind = 2 ∧ v = .iface 240 (.agg #[.int .i64 n.place, .int .i64 n.p1, .string n.n1, .int .i64 n.p2, .string n.n2]))
/-- The value is the expression: its lists of grants lie in memory behind block b. -/
def RepEx (b : Nat) (w : World) : Ex → Value → Prop
  | ⟨n, some x, some y⟩, v => ∃ vx vy, v = .iface (tyOf n.kind) (.agg #[.int .i64 n.place, vx, vy]) ∧ RepEx b w x vx ∧ RepEx b w y vy
  | ⟨n, none, _⟩, v => RepLeaf b w n v
  | ⟨_, some _, none⟩, _ => False

theorem ownsRow_frame {w w' : World} {base : Nat} {e : TypeId} {size : Nat} {v : Value} {n : Nat} {xs : List Value} (h : w.ownsRow base e size v n xs)
    (k : ∀ g cs f, base ≤ g → w.heap[g]? = some (.cells cs e f) → w'.heap[g]? = w.heap[g]?) : w'.ownsRow base e size v n xs := by
  obtain ⟨h1, h2⟩ := h
  refine ⟨h1, ?_⟩
  rcases h2 with h2 | ⟨g, cap, cur, hv, hg, hh, r⟩
  · exact Or.inl h2
  · exact Or.inr ⟨g, cap, cur, hv, hg, (k g cur (0, 0) hg hh).trans hh, r⟩
/-- All blocks of grants behind b are as they were. -/
def GKept (b : Nat) (w w' : World) : Prop := ∀ g cs f, b + 1 ≤ g → w.heap[g]? = some (.cells cs 207 f) → w'.heap[g]? = w.heap[g]?
theorem lt_of_some {w : World} {g : Nat} {o : Obj} (h : w.heap[g]? = some o) : g < w.heap.size := by
  rcases Nat.lt_or_ge g w.heap.size with k | k
  · exact k
  · rw [Array.getElem?_eq_none k] at h; cases h
theorem GKept.of_but {b : Nat} {w w' : World} (h : But b w w') : GKept b w w' := fun g cs f hg hh => h.block g (lt_of_some hh) (by omega)
theorem RepEx.frame {b : Nat} {w w' : World} (k : GKept b w w') : ∀ e v, RepEx b w e v → RepEx b w' e v := by
  intro e
  induction e using Ex.ind with
  | h0 n r =>
    intro v h
    rcases h with ⟨h1, sv, h2, h3⟩ | h | h
    · exact Or.inl ⟨h1, sv, h2, ownsRow_frame h3 k⟩
    · exact Or.inr (Or.inl h)
    · exact Or.inr (Or.inr h)
  | h1 n a => intro v h; exact h
  | h2 n a c iha ihc =>
    rintro v ⟨vx, vy, h1, h2, h3⟩
    exact ⟨vx, vy, h1, iha _ h2, ihc _ h3⟩
theorem RepEx.but {b : Nat} {w w' : World} {e : Ex} {v : Value} (h : RepEx b w e v) (k : But b w w') : RepEx b w' e v := RepEx.frame (GKept.of_but k) e v h
theorem RepEx.isI {b : Nat} {w : World} {e : Ex} {v : Value} (h : RepEx b w e v) : ∃ t x, v = .iface t x := by
  match e, h with
  | ⟨n, some x, some y⟩, ⟨vx, vy, h1, _⟩ => exact ⟨_, _, h1⟩
  | ⟨n, none, _⟩, h =>
    rcases h with ⟨h1, sv, h2, h3⟩ | ⟨_, h⟩ | ⟨_, h⟩
    · exact ⟨_, _, h2⟩
    · exact ⟨_, _, h⟩
    · exact ⟨_, _, h⟩

/-- The contract of what reads a part of an expression. -/
abbrev PostE (b : Nat) (s : ByteArray) (d : Nat) (w : World) (r : Res Ex) : Ending → World → Prop := Post b s d w r (RepEx b) IsI

set_option maxHeartbeats 1000000 in
set_option maxRecDepth 100000 in
theorem own_bad (b : Nat) (s : ByteArray) (i d : Nat) (w : World) (hs : s.size ≤ maxLen) (h : At w b s i d) (c j : Nat) (hr : nameR (TT s) i = .error (c, j)) :
    Calls Tryz.prog 273 #[.pointer (some ⟨b, 0, none⟩)] w (PostE b s d w (.error (c, j))) := by
  have hlt := h.lt
  have Hs := hide hs
  have C := hide (name_post b s i d w hs h)
  rw [hr] at C
  clear hr
  go_enter Tryz.func273, Tryz.ntmps273
  go_wp2_with fail
  refine (unhide C).mono ?_
  rintro e w1 ⟨b1, v, d', rfl, rfl, a1⟩
  have A1 := hide a1
  have B1 := hide b1
  clear a1 b1 C h hs
  unfold nm0 errv
  go_wp2
  go_ret2
  exact ⟨(by repeat (first | with_reducible exact unhide B1 | with_reducible refine But.alloc ?_ _ | with_reducible refine But.drew ?_ | (with_reducible refine But.setNew ?_ ?_ _; rotate_left; exact (by first | omega | (simp; omega) | simp | (simp; done))))), _, d', rfl, .inl rfl, (by repeat (first | with_reducible exact unhide A1 | with_reducible refine At.alloc ?_ _ | with_reducible refine At.drew ?_ | (with_reducible refine At.setNew ?_ ?_ _; rotate_left; exact (by first | omega | (simp; omega) | simp | (simp; done)))))⟩

set_option maxHeartbeats 1000000 in
set_option maxRecDepth 100000 in
theorem own_own (b : Nat) (s : ByteArray) (i d : Nat) (w : World) (hs : s.size ≤ maxLen) (h : At w b s i d) (j : Nat) (hr : nameR (TT s) i = .ok ((), j)) (h1 : eqs (TT s j) (sg 46) = false) :
    Calls Tryz.prog 273 #[.pointer (some ⟨b, 0, none⟩)] w (PostE b s d w (.ok (⟨⟨1, PP s i, TT s i, PP s i, em, 0, []⟩, none, none⟩, j))) := by
  have hlt := h.lt
  have Hs := hide hs
  have C := hide (name_post b s i d w hs h)
  rw [hr] at C
  clear hr
  go_enter Tryz.func273, Tryz.ntmps273
  go_wp2_with fail
  refine (unhide C).mono ?_
  rintro e w1 ⟨b1, v, rfl, rfl, a1⟩
  have A1 := hide a1
  have B1 := hide b1
  have hsz : b < w1.heap.size := Nat.lt_of_lt_of_le hlt b1.size
  clear a1 b1 C h hs
  unfold nmv
  go_wp2_with fail
  refine (ats b s j d _ _ (sg 46) _ ?_ ?_).mono ?_
  · exact (by repeat (first | with_reducible exact unhide A1 | with_reducible refine At.alloc ?_ _ | with_reducible refine At.drew ?_ | (with_reducible refine At.setNew ?_ ?_ _; rotate_left; exact (by first | omega | (simp; omega) | simp | (simp; done)))))
  · exact cell_new1 _ _ _ _ (by simp)
  rintro e w2 ⟨rfl, rfl⟩
  rw [h1]
  go_wp2
  go_ret2
  exact ⟨(by repeat (first | with_reducible exact unhide B1 | with_reducible refine But.alloc ?_ _ | with_reducible refine But.drew ?_ | (with_reducible refine But.setNew ?_ ?_ _; rotate_left; exact (by first | omega | (simp; omega) | simp | (simp; done))))), _, rfl, .inr (.inl ⟨rfl, rfl⟩), (by repeat (first | with_reducible exact unhide A1 | with_reducible refine At.alloc ?_ _ | with_reducible refine At.drew ?_ | (with_reducible refine At.setNew ?_ ?_ _; rotate_left; exact (by first | omega | (simp; omega) | simp | (simp; done)))))⟩

set_option maxHeartbeats 1000000 in
set_option maxRecDepth 100000 in
theorem own_tie (b : Nat) (s : ByteArray) (i d : Nat) (w : World) (hs : s.size ≤ maxLen) (h : At w b s i d) (j m : Nat) (hr : nameR (TT s) i = .ok ((), j)) (h1 : eqs (TT s j) (sg 46) = true) (Hm : Hid (nameR (TT s) (j + 1) = .ok ((), m))) :
    Calls Tryz.prog 273 #[.pointer (some ⟨b, 0, none⟩)] w (PostE b s d w (.ok (⟨⟨2, PP s i, TT s i, PP s i, TT s (j + 1), PP s (j + 1), []⟩, none, none⟩, m))) := by
  have hlt := h.lt
  have Hs := hide hs
  have C := hide (name_post b s i d w hs h)
  rw [hr] at C
  clear hr
  go_enter Tryz.func273, Tryz.ntmps273
  go_wp2_with fail
  refine (unhide C).mono ?_
  have H1 := hide h1
  rintro e w1 ⟨b1, v, rfl, rfl, a1⟩
  have A1 := hide a1
  have B1 := hide b1
  have hsz : b < w1.heap.size := Nat.lt_of_lt_of_le hlt b1.size
  clear a1 b1 C h hs
  unfold nmv
  go_wp2_with fail
  refine (ats b s j d _ _ (sg 46) _ ?_ ?_).mono ?_
  · exact (by repeat (first | with_reducible exact unhide A1 | with_reducible refine At.alloc ?_ _ | with_reducible refine At.drew ?_ | (with_reducible refine At.setNew ?_ ?_ _; rotate_left; exact (by first | omega | (simp; omega) | simp | (simp; done)))))
  · exact cell_new1 _ _ _ _ (by simp)
  rintro e w2 ⟨rfl, rfl⟩
  rw [h1]
  clear h1
  go_wp2_with fail
  refine (steps b s j d _ (unhide Hs) ?_ ?_).mono ?_
  · exact (by repeat (first | with_reducible exact unhide A1 | with_reducible refine At.alloc ?_ _ | with_reducible refine At.drew ?_ | (with_reducible refine At.setNew ?_ ?_ _; rotate_left; exact (by first | omega | (simp; omega) | simp | (simp; done)))))
  · exact eqs_pos (unhide H1) (by decide)
  rintro e w2 ⟨rfl, a2, b2⟩
  have N2 := Blk.but (g := w1.heap.size) (T := 107) (Blk.alloc (Blk.new w1 #[.int .i64 (tokP s (K s i)), .string (tokT s (K s i))] 107) _) b2 (by omega)
  have HN2 := hide N2
  have A2 := hide a2
  have B2 := hide (But.trans (x := w) (by repeat (first | with_reducible exact unhide B1 | with_reducible refine But.alloc ?_ _ | with_reducible refine But.drew ?_ | (with_reducible refine But.setNew ?_ ?_ _; rotate_left; exact (by first | omega | (simp; omega) | simp | (simp; done))))) b2)
  clear a2 b2 N2
  go_wp2_with fail
  have C := hide (name_post b s (j + 1) d w2 (unhide Hs) (unhide A2))
  rw [unhide Hm] at C
  refine (unhide C).mono ?_
  rintro e w3 ⟨b3, v, rfl, rfl, a3⟩
  have N3 := Blk.but (unhide HN2) b3 (by omega)
  obtain ⟨n0, n1⟩ := N3.two
  have hn := N3.lt
  have A3 := hide a3
  have B3 := hide (But.trans (unhide B2) b3)
  clear a3 b3 N3
  unfold nmv
  go_wp2
  go_ret2
  exact ⟨(by repeat (first | with_reducible exact unhide B3 | with_reducible refine But.alloc ?_ _ | with_reducible refine But.drew ?_ | (with_reducible refine But.setNew ?_ ?_ _; rotate_left; exact (by first | omega | (simp; omega) | simp | (simp; done))))), _, rfl, .inr (.inr ⟨rfl, rfl⟩), (by repeat (first | with_reducible exact unhide A3 | with_reducible refine At.alloc ?_ _ | with_reducible refine At.drew ?_ | (with_reducible refine At.setNew ?_ ?_ _; rotate_left; exact (by first | omega | (simp; omega) | simp | (simp; done)))))⟩
set_option maxHeartbeats 1000000 in
set_option maxRecDepth 100000 in
theorem own_tbad (b : Nat) (s : ByteArray) (i d : Nat) (w : World) (hs : s.size ≤ maxLen) (h : At w b s i d) (j c m : Nat) (hr : nameR (TT s) i = .ok ((), j)) (h1 : eqs (TT s j) (sg 46) = true) (Hm : Hid (nameR (TT s) (j + 1) = .error (c, m))) :
    Calls Tryz.prog 273 #[.pointer (some ⟨b, 0, none⟩)] w (PostE b s d w (.error (c, m))) := by
  have hlt := h.lt
  have Hs := hide hs
  have C := hide (name_post b s i d w hs h)
  rw [hr] at C
  clear hr
  go_enter Tryz.func273, Tryz.ntmps273
  go_wp2_with fail
  refine (unhide C).mono ?_
  have H1 := hide h1
  rintro e w1 ⟨b1, v, rfl, rfl, a1⟩
  have A1 := hide a1
  have B1 := hide b1
  have hsz : b < w1.heap.size := Nat.lt_of_lt_of_le hlt b1.size
  clear a1 b1 C h hs
  unfold nmv
  go_wp2_with fail
  refine (ats b s j d _ _ (sg 46) _ ?_ ?_).mono ?_
  · exact (by repeat (first | with_reducible exact unhide A1 | with_reducible refine At.alloc ?_ _ | with_reducible refine At.drew ?_ | (with_reducible refine At.setNew ?_ ?_ _; rotate_left; exact (by first | omega | (simp; omega) | simp | (simp; done)))))
  · exact cell_new1 _ _ _ _ (by simp)
  rintro e w2 ⟨rfl, rfl⟩
  rw [h1]
  clear h1
  go_wp2_with fail
  refine (steps b s j d _ (unhide Hs) ?_ ?_).mono ?_
  · exact (by repeat (first | with_reducible exact unhide A1 | with_reducible refine At.alloc ?_ _ | with_reducible refine At.drew ?_ | (with_reducible refine At.setNew ?_ ?_ _; rotate_left; exact (by first | omega | (simp; omega) | simp | (simp; done)))))
  · exact eqs_pos (unhide H1) (by decide)
  rintro e w2 ⟨rfl, a2, b2⟩
  have N2 := Blk.but (g := w1.heap.size) (T := 107) (Blk.alloc (Blk.new w1 #[.int .i64 (tokP s (K s i)), .string (tokT s (K s i))] 107) _) b2 (by omega)
  have HN2 := hide N2
  have A2 := hide a2
  have B2 := hide (But.trans (x := w) (by repeat (first | with_reducible exact unhide B1 | with_reducible refine But.alloc ?_ _ | with_reducible refine But.drew ?_ | (with_reducible refine But.setNew ?_ ?_ _; rotate_left; exact (by first | omega | (simp; omega) | simp | (simp; done))))) b2)
  clear a2 b2 N2
  go_wp2_with fail
  have C := hide (name_post b s (j + 1) d w2 (unhide Hs) (unhide A2))
  rw [unhide Hm] at C
  refine (unhide C).mono ?_
  rintro e w3 ⟨b3, v, d', rfl, rfl, a3⟩
  have N3 := Blk.but (unhide HN2) b3 (by omega)
  obtain ⟨n0, n1⟩ := N3.two
  have hn := N3.lt
  have A3 := hide a3
  have B3 := hide (But.trans (unhide B2) b3)
  clear a3 b3 N3
  unfold nm0 errv
  go_wp2
  go_ret2
  exact ⟨(by repeat (first | with_reducible exact unhide B3 | with_reducible refine But.alloc ?_ _ | with_reducible refine But.drew ?_ | (with_reducible refine But.setNew ?_ ?_ _; rotate_left; exact (by first | omega | (simp; omega) | simp | (simp; done))))), _, d', rfl, .inr ⟨_, _, rfl⟩, (by repeat (first | with_reducible exact unhide A3 | with_reducible refine At.alloc ?_ _ | with_reducible refine At.drew ?_ | (with_reducible refine At.setNew ?_ ?_ _; rotate_left; exact (by first | omega | (simp; omega) | simp | (simp; done)))))⟩

theorem own_post (b : Nat) (s : ByteArray) (i d : Nat) (w : World) (hs : s.size ≤ maxLen) (h : At w b s i d) :
    Calls Tryz.prog 273 #[.pointer (some ⟨b, 0, none⟩)] w (PostE b s d w (ownTie (TT s) (PP s) i)) := by
  unfold ownTie
  cases hr : nameR (TT s) i with
  | error e => exact own_bad b s i d w hs h e.1 e.2 hr
  | ok y =>
    obtain ⟨⟨⟩, j⟩ := y
    cases h1 : eqs (TT s j) (sg 46)
    · simp only [h1]
      exact own_own b s i d w hs h j hr h1
    · cases hm : nameR (TT s) (j + 1) with
      | error e => simp only [h1, hm]; exact own_tbad b s i d w hs h j e.1 e.2 hr h1 (hide hm)
      | ok y =>
        obtain ⟨⟨⟩, m⟩ := y
        simp only [h1, hm]
        exact own_tie b s i d w hs h j m hr h1 (hide hm)
end Go.Proofs.YtlbpnlngckgcbaaGreatDoor
