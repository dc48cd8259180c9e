import Derived.Test.YtlbpnlngckgcbaaGreatDoorCheck
namespace Go.Proofs.YtlbpnlngckgcbaaGreatDoor
open Go.RowKit Go.PlainAid
set_option linter.unusedSimpArgs false
set_option linter.unusedVariables false

/-- An expression of at most n parts and grants; no list is empty. -/
structure Bn (x : Ex) (n : Nat) : Prop where
  p : (partsE x).length ≤ n
  g : (allG x).length ≤ n
  wf : WF x
theorem Bn.le {x : Ex} {n m : Nat} (h : Bn x n) (hm : n ≤ m) : Bn x m := ⟨Nat.le_trans h.p hm, Nat.le_trans h.g hm, h.wf⟩
theorem Bn.leaf (nd : Nd) (r : Option Ex) (n : Nat) (h1 : 1 ≤ n) (h2 : nd.kind = 0 → nd.gs.length ≤ n ∧ nd.gs ≠ []) : Bn ⟨nd, none, r⟩ n := by
  refine ⟨by simp [partsE]; omega, ?_, ?_⟩
  · simp only [allG, partsE, List.flatMap_cons, List.flatMap_nil, List.append_nil, gsOf]
    split
    · rename_i hk; exact (h2 hk).1
    · simp
  · intro p hp hl hk
    simp only [partsE, List.mem_singleton] at hp
    subst hp
    exact (h2 hk).2
theorem Bn.join {x y : Ex} {n m : Nat} (t : ByteArray) (p : Nat) (hx : Bn x n) (hy : Bn y m) : Bn (joinE t p x y) (n + 1 + m) := by
  refine ⟨?_, ?_, ?_⟩
  · have h1 := hx.p
    have h2 := hy.p
    simp only [joinE, partsE, List.length_append, List.length_cons, List.length_nil]
    omega
  · have h1 := hx.g
    have h2 := hy.g
    unfold allG at *
    simp only [joinE, partsE, List.flatMap_append, List.flatMap_cons, List.flatMap_nil, List.append_nil, gsOf, List.length_append, List.length_nil, Nat.add_zero]
    omega
  · intro q hq hl hk
    simp only [joinE, partsE, List.mem_append, List.mem_singleton] at hq
    rcases hq with (hq | hq) | hq
    · exact hx.wf q hq hl hk
    · subst hq; simp at hl
    · exact hy.wf q hq hl hk
def BN (r : Nat → Res Ex) : Prop := ∀ i x j, r i = .ok (x, j) → i < j ∧ Bn x (j - i)
theorem listL_bn (T : Nat → ByteArray) (P : Nat → Nat) : ∀ f acc i gs j, listL T P f acc i = .ok (gs, j) → gs ≠ [] ∧ gs.length + i < acc.length + j
  | 0, _, i, x, j, h => by simp [listL] at h
  | f + 1, acc, i, x, j, h => by
    unfold listL at h
    split at h
    · simp at h
    · rename_i hm
      have := grantR_mono T P _ _ _ hm
      split at h
      · have := listL_bn T P f _ _ _ _ h
        refine ⟨this.1, ?_⟩
        have h2 := this.2
        simp only [List.length_append, List.length_cons, List.length_nil] at h2
        omega
      · split at h <;> simp at h
        obtain ⟨rfl, rfl⟩ := h
        simp
        omega
theorem listR_bn (T : Nat → ByteArray) (P : Nat → Nat) : BN (listR T P) := by
  intro i x j h
  refine ⟨listR_mono T P _ _ _ h, ?_⟩
  unfold listR at h
  split at h
  · simp at h
  · rename_i hm
    have := listL_bn T P _ _ _ _ _ hm
    simp at h
    obtain ⟨rfl, rfl⟩ := h
    have h2 := this.2
    simp only [List.length_nil] at h2
    exact Bn.leaf _ _ _ (by omega) (fun _ => ⟨by simp only; omega, this.1⟩)
theorem ownTie_bn (T : Nat → ByteArray) (P : Nat → Nat) : BN (ownTie T P) := by
  intro i x j h
  have hm := ownTie_mono T P _ _ _ h
  refine ⟨hm, ?_⟩
  unfold ownTie at h
  split at h
  · simp at h
  · split at h
    · split at h
      · simp at h
      · simp at h
        obtain ⟨rfl, rfl⟩ := h
        exact Bn.leaf _ _ _ (by omega) (fun h => by simp at h)
    · simp at h
      obtain ⟨rfl, rfl⟩ := h
      exact Bn.leaf _ _ _ (by omega) (fun h => by simp at h)
theorem unitR_bn (T : Nat → ByteArray) (P : Nat → Nat) (room : Bool) (inner : Nat → Res Ex) (hi : BN inner) : BN (unitR T P room inner) := by
  intro i x j h
  unfold unitR at h
  split at h
  · exact listR_bn T P _ _ _ h
  · split at h
    · split at h
      · split at h
        · simp at h
        · rename_i hm
          have := hi _ _ _ hm
          split at h <;> simp at h
          obtain ⟨rfl, rfl⟩ := h
          exact ⟨by omega, this.2.le (by omega)⟩
      · simp at h
    · exact ownTie_bn T P _ _ _ h
theorem joinL_bn (T : Nat → ByteArray) (P : Nat → Nat) (l : List ByteArray) (part : Nat → Res Ex) (hp : BN part) (i0 : Nat) : ∀ f y i x j, i0 ≤ i → Bn y (i - i0) → joinL T P l part f y i = .ok (x, j) → i ≤ j ∧ Bn x (j - i0)
  | 0, _, i, x, j, h0, hb, h => by simp [joinL] at h
  | f + 1, y, i, x, j, h0, hb, h => by
    unfold joinL at h
    split at h
    · split at h
      · simp at h
      · rename_i hm
        obtain ⟨h1, h2⟩ := hp _ _ _ hm
        have := joinL_bn T P l part hp i0 f _ _ _ _ (by omega) ((hb.join _ _ h2).le (by omega)) h
        exact ⟨by omega, this.2⟩
    · simp at h
      obtain ⟨rfl, rfl⟩ := h
      exact ⟨Nat.le_refl _, hb⟩
theorem joinR_bn (T : Nat → ByteArray) (P : Nat → Nat) (l : List ByteArray) (part : Nat → Res Ex) (hp : BN part) : BN (joinR T P l part) := by
  intro i x j h
  unfold joinR at h
  split at h
  · simp at h
  · rename_i hm
    obtain ⟨h1, h2⟩ := hp _ _ _ hm
    have := joinL_bn T P l part hp i _ _ _ _ _ (by omega) h2 h
    exact ⟨by omega, this.2⟩
theorem exprR_bn (T : Nat → ByteArray) (P : Nat → Nat) : ∀ n, BN (exprR T P n)
  | 0 => joinR_bn T P _ _ (joinR_bn T P _ _ (unitR_bn T P false _ (fun i x j h => by simp at h)))
  | n + 1 => joinR_bn T P _ _ (joinR_bn T P _ _ (unitR_bn T P true _ (exprR_bn T P n)))
theorem relR_bn (T : Nat → ByteArray) (P : Nat → Nat) (i : Nat) (r : Rl) (j : Nat) (h : relR T P i = .ok (r, j)) : Bn r.body j := by
  unfold relR at h
  split at h
  · simp at h
  · split at h
    · simp at h
    · rename_i hk
      have := exprR_bn T P _ _ _ _ hk
      split at h <;> simp at h
      obtain ⟨rfl, rfl⟩ := h
      exact this.2.le (by omega)
theorem relsL_bn (T : Nat → ByteArray) (P : Nat → Nat) : ∀ f acc i rs j, (∀ r ∈ acc, Bn r.body i) → relsL T P f acc i = .ok (rs, j) → (∀ r ∈ rs, Bn r.body j) ∧ rs.length + i ≤ acc.length + j ∧ i < j
  | 0, _, i, x, j, _, h => by simp [relsL] at h
  | f + 1, acc, i, x, j, ha, h => by
    unfold relsL at h
    split at h
    · simp at h
      obtain ⟨rfl, rfl⟩ := h
      exact ⟨fun r hr => (ha r hr).le (by omega), by omega, by omega⟩
    · split at h
      · simp at h
      · split at h
        · simp at h
        · rename_i hm
          have h1 := relR_mono T P _ _ _ hm
          have h2 := relR_bn T P _ _ _ hm
          have := relsL_bn T P f _ _ _ _ (by
            intro r hr
            rw [List.mem_append, List.mem_singleton] at hr
            rcases hr with hr | rfl
            · exact (ha r hr).le (by omega)
            · exact h2) h
          obtain ⟨g1, g2, g3⟩ := this
          simp only [List.length_append, List.length_cons, List.length_nil] at g2
          exact ⟨g1, by omega, by omega⟩
theorem typeR_bn (T : Nat → ByteArray) (P : Nat → Nat) (i : Nat) (t : Ty) (j : Nat) (h : typeR T P i = .ok (t, j)) : (∀ r ∈ t.rels, Bn r.body j) ∧ t.rels.length ≤ j := by
  unfold typeR at h
  split at h
  · split at h
    · simp at h
    · split at h
      · simp at h
      · rename_i hk
        have := relsL_bn T P _ _ _ _ _ (by simp) hk
        simp at h
        obtain ⟨rfl, rfl⟩ := h
        refine ⟨this.1, ?_⟩
        have h2 := this.2.1
        simp only [List.length_nil] at h2
        simp only
        omega
  · simp at h
def TB (t : Ty) (n : Nat) : Prop := (∀ r ∈ t.rels, Bn r.body n) ∧ t.rels.length ≤ n
theorem TB.le {t : Ty} {n m : Nat} (h : TB t n) (hm : n ≤ m) : TB t m := ⟨fun r hr => (h.1 r hr).le hm, Nat.le_trans h.2 hm⟩
theorem modelL_bn (T : Nat → ByteArray) (P : Nat → Nat) : ∀ f acc i ts j, (∀ t ∈ acc, TB t i) → modelL T P f acc i = .ok (ts, j) → (∀ t ∈ ts, TB t j) ∧ ts.length + i ≤ acc.length + j ∧ i ≤ j
  | 0, _, i, x, j, _, h => by simp [modelL] at h
  | f + 1, acc, i, x, j, ha, h => by
    unfold modelL at h
    split at h
    · simp at h
      obtain ⟨rfl, rfl⟩ := h
      exact ⟨ha, Nat.le_refl _, Nat.le_refl _⟩
    · split at h
      · simp at h
      · split at h
        · simp at h
        · rename_i hm
          have h1 := typeR_mono T P _ _ _ hm
          have h2 := typeR_bn T P _ _ _ hm
          have := modelL_bn T P f _ _ _ _ (by
            intro t ht
            rw [List.mem_append, List.mem_singleton] at ht
            rcases ht with ht | rfl
            · exact (ha t ht).le (by omega)
            · exact h2) h
          obtain ⟨g1, g2, g3⟩ := this
          simp only [List.length_append, List.length_cons, List.length_nil] at g2
          exact ⟨g1, by omega, by omega⟩
theorem modelR_bn (T : Nat → ByteArray) (P : Nat → Nat) (ts : List Ty) (j : Nat) (h : modelR T P = .ok (ts, j)) : (∀ t ∈ ts, TB t j) ∧ ts.length ≤ j := by
  have := modelL_bn T P _ _ _ _ _ (by simp) h
  refine ⟨this.1, ?_⟩
  have h2 := this.2.1
  simp only [List.length_nil] at h2
  omega
theorem RC.of_rep {b : Nat} {w : World} {sv : Value} {rs : List Rl} {n : Nat} (h : RepRls (b + 1) b w sv rs) (hb : ∀ r ∈ rs, Bn r.body n) (hl : rs.length ≤ n) (hn : n ≤ 500) : ∃ rl, RC b w sv rs rl := by
  obtain ⟨l, h1, h2, h3⟩ := h
  refine ⟨l, h1, ?_, h2, by omega, fun r hr => Nat.le_trans (hb r hr).p (by omega), fun r hr => Nat.le_trans (hb r hr).g (by omega), fun r hr => (hb r hr).wf⟩
  unfold Row3
  rw [c3_r3, List.length_map, show l.length = rs.length by rw [← h1, List.length_map]]
  exact ownsRow_base h3 (Nat.zero_le _)
theorem MC.of_rep {b : Nat} {w : World} {sv : Value} {ts : List Ty} {n : Nat} (h : RepTys (b + 1) b w sv ts) (hb : ∀ t ∈ ts, TB t n) (hl : ts.length ≤ n) (hn : n ≤ 500) (hlt : b < w.heap.size) : ∃ tl, MC b w sv ts tl := by
  obtain ⟨l, h1, h2, h3⟩ := h
  refine ⟨l, h1, ?_, ?_, by omega, hlt⟩
  · unfold Row3
    rw [c3_t3, List.length_map, show l.length = ts.length by rw [← h1, List.length_map]]
    exact ownsRow_base h3 (Nat.zero_le _)
  · intro p hp
    have hm : p.1 ∈ ts := by rw [← h1]; exact List.mem_map_of_mem hp
    exact RC.of_rep (h2 p hp) (hb p.1 hm).1 (hb p.1 hm).2 hn
end Go.Proofs.YtlbpnlngckgcbaaGreatDoor
