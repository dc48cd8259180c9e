import Derived.Test.YtlbpnlngckgcbaaGreatDoorMS
namespace Go.Proofs.YtlbpnlngckgcbaaGreatDoor
open Go.RowKit Go.PlainAid
set_option linter.unusedSimpArgs false
set_option linter.unusedVariables false

theorem nameR_sz (T : Nat → ByteArray) (i j : Nat) (u : Unit) (h : nameR T i = .ok (u, j)) : (T i).size ≤ 8 := by
  unfold nameR at h
  split at h
  · split at h
    · simp at h
    · omega
  · simp at h
theorem nameThenR_sz (T : Nat → ByteArray) (y : ByteArray) (i j : Nat) (u : Unit) (h : nameThenR T y i = .ok (u, j)) : (T i).size ≤ 8 := by
  unfold nameThenR at h
  split at h
  · simp at h
  · rename_i hm
    exact nameR_sz T _ _ _ hm
theorem em_sz : em.size = 0 := rfl
theorem grantR_sz (T : Nat → ByteArray) (P : Nat → Nat) (i j : Nat) (g : Gr) (h : grantR T P i = .ok (g, j)) : GOk g := by
  unfold grantR at h
  split at h
  · simp at h
  · rename_i hm
    have h1 := nameR_sz T _ _ _ hm
    split at h
    · simp at h; rw [← h.1]; exact ⟨h1, by simp only [em_sz]; omega⟩
    · split at h
      · split at h
        · simp at h
        · rename_i hk
          have h2 := nameR_sz T _ _ _ hk
          simp at h; rw [← h.1]; exact ⟨h1, h2⟩
      · simp at h; rw [← h.1]; exact ⟨h1, by simp only [em_sz]; omega⟩
theorem listL_sz (T : Nat → ByteArray) (P : Nat → Nat) : ∀ f acc i gs j, (∀ g ∈ acc, GOk g) → listL T P f acc i = .ok (gs, j) → ∀ g ∈ gs, GOk g
  | 0, _, i, x, j, _, h => by simp [listL] at h
  | f + 1, acc, i, x, j, ha, h => by
    unfold listL at h
    split at h
    · simp at h
    · rename_i g0 j0 hm
      have hg := grantR_sz T P _ _ _ hm
      have ha' : ∀ g ∈ acc ++ [g0], GOk g := by
        intro g hx
        rw [List.mem_append, List.mem_singleton] at hx
        rcases hx with hx | rfl
        · exact ha g hx
        · exact hg
      split at h
      · exact listL_sz T P f _ _ _ _ ha' h
      · split at h <;> simp at h
        rw [← h.1]
        exact ha'
def SZ (r : Nat → Res Ex) : Prop := ∀ i x j, r i = .ok (x, j) → Sz x
theorem Sz.leaf (nd : Nd) (r : Option Ex) (h1 : nd.n1.size ≤ 8) (h2 : nd.n2.size ≤ 8) (h3 : ∀ g ∈ nd.gs, GOk g) : Sz ⟨nd, none, r⟩ := by
  intro p hp _
  simp only [partsE, List.mem_singleton] at hp
  subst hp
  exact ⟨h1, h2, h3⟩
theorem Sz.join {x y : Ex} (t : ByteArray) (p : Nat) (hx : Sz x) (hy : Sz y) : Sz (joinE t p x y) := by
  intro q hq hl
  simp only [joinE, partsE, List.mem_append, List.mem_singleton] at hq
  rcases hq with (hq | hq) | hq
  · exact hx q hq hl
  · subst hq; simp at hl
  · exact hy q hq hl
theorem listR_sz (T : Nat → ByteArray) (P : Nat → Nat) : SZ (listR T P) := by
  intro i x j h
  unfold listR at h
  split at h
  · simp at h
  · rename_i hm
    have := listL_sz T P _ _ _ _ _ (by simp) hm
    simp at h
    rw [← h.1]
    exact Sz.leaf _ _ (by simp only [em_sz]; omega) (by simp only [em_sz]; omega) this
theorem ownTie_sz (T : Nat → ByteArray) (P : Nat → Nat) : SZ (ownTie T P) := by
  intro i x j h
  unfold ownTie at h
  split at h
  · simp at h
  · rename_i hm
    have h1 := nameR_sz T _ _ _ hm
    split at h
    · split at h
      · simp at h
      · rename_i hk
        have h2 := nameR_sz T _ _ _ hk
        simp at h
        rw [← h.1]
        exact Sz.leaf _ _ h1 h2 (by simp)
    · simp at h
      rw [← h.1]
      exact Sz.leaf _ _ h1 (by simp only [em_sz]; omega) (by simp)
theorem unitR_sz (T : Nat → ByteArray) (P : Nat → Nat) (room : Bool) (inner : Nat → Res Ex) (hi : SZ inner) : SZ (unitR T P room inner) := by
  intro i x j h
  unfold unitR at h
  split at h
  · exact listR_sz T P _ _ _ h
  · split at h
    · split at h
      · split at h
        · simp at h
        · rename_i hm
          have := hi _ _ _ hm
          split at h <;> simp at h
          rw [← h.1]
          exact this
      · simp at h
    · exact ownTie_sz T P _ _ _ h
theorem joinL_sz (T : Nat → ByteArray) (P : Nat → Nat) (l : List ByteArray) (part : Nat → Res Ex) (hp : SZ part) : ∀ f y i x j, Sz y → joinL T P l part f y i = .ok (x, j) → Sz x
  | 0, _, i, x, j, hb, h => by simp [joinL] at h
  | f + 1, y, i, x, j, hb, h => by
    unfold joinL at h
    split at h
    · split at h
      · simp at h
      · rename_i hm
        exact joinL_sz T P l part hp f _ _ _ _ (hb.join _ _ (hp _ _ _ hm)) h
    · simp at h
      rw [← h.1]
      exact hb
theorem joinR_sz (T : Nat → ByteArray) (P : Nat → Nat) (l : List ByteArray) (part : Nat → Res Ex) (hp : SZ part) : SZ (joinR T P l part) := by
  intro i x j h
  unfold joinR at h
  split at h
  · simp at h
  · rename_i hm
    exact joinL_sz T P l part hp _ _ _ _ _ (hp _ _ _ hm) h
theorem exprR_sz (T : Nat → ByteArray) (P : Nat → Nat) : ∀ n, SZ (exprR T P n)
  | 0 => joinR_sz T P _ _ (joinR_sz T P _ _ (unitR_sz T P false _ (fun i x j h => by simp at h)))
  | n + 1 => joinR_sz T P _ _ (joinR_sz T P _ _ (unitR_sz T P true _ (exprR_sz T P n)))
def RSz (r : Rl) : Prop := r.name.size ≤ 8 ∧ Sz r.body
theorem relR_sz (T : Nat → ByteArray) (P : Nat → Nat) (i : Nat) (r : Rl) (j : Nat) (h : relR T P i = .ok (r, j)) : RSz r := by
  unfold relR at h
  split at h
  · simp at h
  · rename_i hm
    have h1 := nameThenR_sz T _ _ _ _ hm
    split at h
    · simp at h
    · rename_i hk
      have h2 := exprR_sz T P _ _ _ _ hk
      split at h <;> simp at h
      rw [← h.1]
      exact ⟨h1, h2⟩
theorem relsL_sz (T : Nat → ByteArray) (P : Nat → Nat) : ∀ f acc i rs j, (∀ r ∈ acc, RSz r) → relsL T P f acc i = .ok (rs, j) → ∀ r ∈ rs, RSz r
  | 0, _, i, x, j, _, h => by simp [relsL] at h
  | f + 1, acc, i, x, j, ha, h => by
    unfold relsL at h
    split at h
    · simp at h
      rw [← h.1]
      exact ha
    · split at h
      · simp at h
      · split at h
        · simp at h
        · rename_i hm
          have h2 := relR_sz T P _ _ _ hm
          refine relsL_sz T P f _ _ _ _ ?_ h
          intro r hr
          rw [List.mem_append, List.mem_singleton] at hr
          rcases hr with hr | rfl
          · exact ha r hr
          · exact h2
theorem typeR_sz (T : Nat → ByteArray) (P : Nat → Nat) (i : Nat) (t : Ty) (j : Nat) (h : typeR T P i = .ok (t, j)) : SzT t := by
  unfold typeR at h
  split at h
  · split at h
    · simp at h
    · rename_i hm
      have h1 := nameThenR_sz T _ _ _ _ hm
      split at h
      · simp at h
      · rename_i hk
        have := relsL_sz T P _ _ _ _ _ (by simp) hk
        simp at h
        rw [← h.1]
        exact ⟨h1, this⟩
  · simp at h
theorem modelL_sz (T : Nat → ByteArray) (P : Nat → Nat) : ∀ f acc i ts j, (∀ t ∈ acc, SzT t) → modelL T P f acc i = .ok (ts, j) → ∀ t ∈ ts, SzT t
  | 0, _, i, x, j, _, h => by simp [modelL] at h
  | f + 1, acc, i, x, j, ha, h => by
    unfold modelL at h
    split at h
    · simp at h
      rw [← h.1]
      exact ha
    · split at h
      · simp at h
      · split at h
        · simp at h
        · rename_i hm
          have h2 := typeR_sz T P _ _ _ hm
          refine modelL_sz T P f _ _ _ _ ?_ h
          intro r hr
          rw [List.mem_append, List.mem_singleton] at hr
          rcases hr with hr | rfl
          · exact ha r hr
          · exact h2
theorem readP_sz (s : ByteArray) (ts : List Ty) (h : readP s = .ok ts) : ∀ t ∈ ts, SzT t := by
  unfold readP at h
  split at h
  · simp at h
  · split at h
    · simp at h
    · rename_i hm
      split at h
      · simp at h
      · simp at h
        rw [← h]
        exact modelL_sz _ _ _ _ _ _ _ (by simp) hm

set_option maxHeartbeats 1000000 in
set_option maxRecDepth 100000 in
theorem print_ok (s : ByteArray) (ts : List Ty) (hr : readP s = .ok ts) (w : World) (hg : Laid w) :
    Calls Tryz.prog 14 #[.string s] w fun e w' => e = .returned (.tuple #[.string (mk (modelT ts)), .int .i64 0, .int .i64 0]) ∧ Below w.heap.size w w' := by
  have HSZ := hide (readP_sz s ts hr)
  have C := hide (read_any s w)
  rw [hr] at C
  have HG := hide hg
  clear hr hg
  go_enter Tryz.func14, Tryz.ntmps14
  go_wp2_with fail
  refine (unhide C).mono ?_
  rintro e w2 ⟨hb2, sv, tl, b, rfl, hmc⟩
  obtain ⟨ma, mn, mc, rfl⟩ := hmc.form
  have B2 := hide hb2
  have MB := hide (Blk.new w2 #[.slice ma mn mc] 75)
  have M2 := hide (hmc.below ((Below.refl _ _).alloc (Nat.le_refl _) (.cells #[.slice ma mn mc] 75)))
  have B2x := hide (hb2.alloc hb2.size (.cells #[.slice ma mn mc] 75))
  clear hb2 hmc C
  go_wp2_with fail
  refine (told_nil _).mono ?_
  rintro e w3 ⟨rfl, hb3⟩
  have B3 := hide ((unhide B2x).trans (hb3.mono (unhide B2x).size))
  have k0 : w3.cell? ⟨w2.heap.size, 0, none⟩ = some (.slice ma mn mc) := ((unhide MB).below hb3).cell rfl
  have M3 := hide ((unhide M2).below hb3)
  clear hb3
  go_wp2_with fail
  refine (string_any b _ ts tl _ (unhide M3) (unhide HSZ)).mono ?_
  rintro e w4 ⟨rfl, hb4⟩
  have B4 := hide ((unhide B3).trans (hb4.mono (unhide B3).size))
  clear hb4
  go_wp2
  go_ret3
  exact ⟨rfl, unhide B4⟩

set_option maxHeartbeats 1000000 in
set_option maxRecDepth 100000 in
theorem print_bad (s : ByteArray) (p c : Nat) (hr : readP s = .error (some p, c)) (hc : c ≠ 0) (w : World) (hg : Laid w) :
    Calls Tryz.prog 14 #[.string s] w fun e w' => e = .returned (.tuple #[.string ⟨#[]⟩, .int .i64 c, .int .i64 p]) ∧ Below w.heap.size w w' := by
  have C := hide (read_any s w)
  rw [hr] at C
  have HG := hide hg
  have hl := hg.lt
  have hc' : ((c : Int) == 0) = false := by rw [beq_eq_false_iff_ne]; omega
  clear hr hg
  go_enter Tryz.func14, Tryz.ntmps14
  go_wp2_with fail
  refine (unhide C).mono ?_
  rintro e w2 ⟨hb2, rfl⟩
  have B2x := hide (hb2.alloc hb2.size (.cells #[.slice none 0 0] 75))
  have L2 := hide ((unhide HG).below (unhide B2x) hl)
  clear hb2 C
  unfold errR placed errv
  go_wp2_with fail
  refine (told_placed p c _ (unhide L2)).mono ?_
  rintro e w3 ⟨rfl, hb3⟩
  have B3 := hide ((unhide B2x).trans (hb3.mono (unhide B2x).size))
  clear hb3
  go_wp2
  go_ret3
  exact ⟨rfl, unhide B3⟩
end Go.Proofs.YtlbpnlngckgcbaaGreatDoor
