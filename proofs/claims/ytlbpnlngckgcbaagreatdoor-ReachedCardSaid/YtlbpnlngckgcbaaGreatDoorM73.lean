import Derived.Test.YtlbpnlngckgcbaaGreatDoorM72
set_option linter.all false
set_option maxHeartbeats 20000000
set_option maxRecDepth 100000
namespace Go.Proofs.YtlbpnlngckgcbaaGreatDoor
open Go.RowKit Go.PlainAid
def gnB (d : Nat) : ByteArray := (ax (jr d) 58).2.1
def ledB (M : Nat → Nat → Bool) : Nat → Nat → Nat → Bool
  | 0, i, j => M i j
  | k + 1, i, j => ledB M k i j || (ledB M k i k && ledB M k k j)
theorem led_row (M : Nat → Nat → Bool) (k i : Nat) : ledB M (k + 1) i k = ledB M k i k := by
  rw [ledB]
  cases ledB M k i k <;> simp
theorem led_col (M : Nat → Nat → Bool) (k j : Nat) : ledB M (k + 1) k j = ledB M k k j := by
  rw [ledB]
  cases ledB M k k j <;> simp
def midB (M : Nat → Nat → Bool) (k i j : Nat) (q : Nat) : Bool := if q < i * 4 + j then ledB M (k + 1) (q / 4) (q % 4) else ledB M k (q / 4) (q % 4)
theorem mid_row (M : Nat → Nat → Bool) (k i j a : Nat) (hk : k < 4) : midB M k i j (a * 4 + k) = ledB M k a k := by
  unfold midB
  rw [show (a * 4 + k) / 4 = a by omega, show (a * 4 + k) % 4 = k by omega, led_row]
  split <;> rfl
theorem mid_col (M : Nat → Nat → Bool) (k i j b : Nat) (hb : b < 4) : midB M k i j (k * 4 + b) = ledB M k k b := by
  unfold midB
  rw [show (k * 4 + b) / 4 = k by omega, show (k * 4 + b) % 4 = b by omega, led_col]
  split <;> rfl
theorem mid_at (M : Nat → Nat → Bool) (k i j : Nat) (hj : j < 4) : midB M k i j (i * 4 + j) = ledB M k i j := by
  unfold midB
  rw [if_neg (by omega), show (i * 4 + j) / 4 = i by omega, show (i * 4 + j) % 4 = j by omega]
theorem mid_step (M : Nat → Nat → Bool) (k i j : Nat) (hj : j < 4) : (fun q => if q = i * 4 + j then ledB M k i j || (ledB M k i k && ledB M k k j) else midB M k i j q) = midB M k i (j + 1) := by
  funext q
  unfold midB
  by_cases h : q = i * 4 + j
  · subst h
    rw [if_pos rfl, if_pos (by omega), show (i * 4 + j) / 4 = i by omega, show (i * 4 + j) % 4 = j by omega, ledB]
  · rw [if_neg h]
    by_cases h2 : q < i * 4 + j
    · rw [if_pos h2, if_pos (by omega)]
    · rw [if_neg h2, if_neg (by omega)]
theorem mid_line (M : Nat → Nat → Bool) (k i : Nat) : midB M k i 4 = midB M k (i + 1) 0 := by
  funext q
  unfold midB
  rw [show i * 4 + 4 = (i + 1) * 4 + 0 by omega]
theorem mid_end (M : Nat → Nat → Bool) (k : Nat) : ∀ q, q < 16 → midB M k 4 0 q = midB M (k + 1) 0 0 q := fun q hq => by
  unfold midB
  rw [if_pos (by omega), if_neg (by omega)]
theorem led_up (M : Nat → Nat → Bool) {i j : Nat} (h : M i j = true) : ∀ k, ledB M k i j = true
  | 0 => h
  | k + 1 => by rw [ledB, led_up M h k, Bool.true_or]
theorem led_trans (M : Nat → Nat → Bool) : ∀ (k i a j : Nat), a < k → ledB M k i a = true → ledB M k a j = true → ledB M k i j = true
  | 0, i, a, j, h, _, _ => by omega
  | k + 1, i, a, j, h, h1, h2 => by
    by_cases e : a = k
    · subst e
      rw [led_row] at h1
      rw [led_col] at h2
      rw [ledB, h1, h2]
      simp
    · have ih := led_trans M k
      rw [ledB] at h1 h2 ⊢
      simp only [Bool.or_eq_true, Bool.and_eq_true] at h1 h2 ⊢
      rcases h1 with h1 | ⟨h1, h1'⟩
      · rcases h2 with h2 | ⟨h2, h2'⟩
        · exact .inl (ih i a j (by omega) h1 h2)
        · exact .inr ⟨ih i a k (by omega) h1 h2, h2'⟩
      · rcases h2 with h2 | ⟨h2, h2'⟩
        · exact .inr ⟨h1, ih k a j (by omega) h1' h2⟩
        · exact .inr ⟨h1, h2'⟩
theorem led_back (M : Nat → Nat → Bool) (S : Nat → Prop) (h : ∀ a b, a < 4 → b < 4 → M a b = true → S b → S a) : ∀ (k i j : Nat), k ≤ 4 → i < 4 → j < 4 → ledB M k i j = true → S j → S i
  | 0, i, j, _, hi, hj, h1, h2 => h i j hi hj h1 h2
  | k + 1, i, j, hk, hi, hj, h1, h2 => by
    have ih := led_back M S h k
    rw [ledB] at h1
    simp only [Bool.or_eq_true, Bool.and_eq_true] at h1
    rcases h1 with h1 | ⟨h1, h1'⟩
    · exact ih i j (by omega) hi hj h1 h2
    · exact ih i k (by omega) hi (by omega) h1 (ih k j (by omega) (by omega) hj h1' h2)
def tuB (k a b : Nat) : Tu := match k with
  | 0 => ⟨G9, gnB a, BQ, dP, NI b, ⟨#[]⟩⟩
  | 1 => ⟨G9, gnB a, BQ, G9, gnB b, BQ⟩
  | 2 => ⟨eP, qa a, lw, eP, qa b, ⟨#[]⟩⟩
  | 3 => ⟨eP, qa a, bH, dP, NI b, ⟨#[]⟩⟩
  | 4 => ⟨eP, qa a, dM, dP, NI b, ⟨#[]⟩⟩
  | 5 => ⟨eP, qa a, dM, G9, gnB b, BQ⟩
  | 6 => ⟨eP, qa a, vS, dP, bAll, ⟨#[]⟩⟩
  | 7 => ⟨eP, qa a, qj, dP, bAll, ⟨#[]⟩⟩
  | _ => ⟨eP, qa a, qj, dP, NI b, ⟨#[]⟩⟩
theorem gr_all : ((List.range 9).all fun k => (List.range 4).all fun a => (List.range 4).all fun b => qW (tt (Io k a b)) (tuB k a b)) = true := by kernel_rfl
theorem gr_tup {k a b : Nat} (hk : k < 9) (ha : a < 4) (hb : b < 4) : tt (Io k a b) = tuB k a b := (eqTu_iff _ _).1 (List.all_eq_true.1 (List.all_eq_true.1 (List.all_eq_true.1 gr_all k (List.mem_range.2 hk)) a (List.mem_range.2 ha)) b (List.mem_range.2 hb))
theorem dn_inj {a b : Nat} (ha : a < 4) (hb : b < 4) (h : qa a = qa b) : a = b := by
  have k : ((List.range 4).all fun a => (List.range 4).all fun b => !decide (qa a = qa b) || decide (a = b)) = true := by kernel_rfl
  have := List.all_eq_true.1 (List.all_eq_true.1 k a (List.mem_range.2 ha)) b (List.mem_range.2 hb)
  simpa [h] using this
theorem gn_inj {a b : Nat} (ha : a < 4) (hb : b < 4) (h : gnB a = gnB b) : a = b := by
  have k : ((List.range 4).all fun a => (List.range 4).all fun b => !decide (gnB a = gnB b) || decide (a = b)) = true := by kernel_rfl
  have := List.all_eq_true.1 (List.all_eq_true.1 k a (List.mem_range.2 ha)) b (List.mem_range.2 hb)
  simpa [h] using this
def hdB (ss : List ByteArray) (k a b : Nat) : Bool := ss.any fun s => decide (s = Io k a b)
theorem hd_iff {ss : List ByteArray} {k a b : Nat} : hdB ss k a b = true ↔ Io k a b ∈ ss := by
  unfold hdB
  rw [List.any_eq_true]
  constructor
  · rintro ⟨s, hs, e⟩
    rw [← of_decide_eq_true e]
    exact hs
  · intro h
    exact ⟨_, h, decide_eq_true rfl⟩
theorem held_iff {ss : List ByteArray} (hss : ∀ s ∈ ss, s ∈ pO) (t : Tu) : t ∈ ss.map tt ↔ ∃ k a b, k < 9 ∧ a < 4 ∧ b < 4 ∧ hdB ss k a b = true ∧ t = tuB k a b := by
  rw [List.mem_map]
  constructor
  · rintro ⟨s, hs, rfl⟩
    have := hss s hs
    unfold pO at this
    simp only [List.mem_flatMap, List.mem_range, List.mem_map] at this
    obtain ⟨k, hk, a, ha, b, hb, rfl⟩ := this
    exact ⟨k, a, b, hk, ha, hb, hd_iff.2 hs, gr_tup hk ha hb⟩
  · rintro ⟨k, a, b, hk, ha, hb, h, rfl⟩
    exact ⟨_, hd_iff.1 h, gr_tup hk ha hb⟩
def anyG (gs : List Tu) (kd id c : ByteArray) (p : Tu → Bool) : Bool := gs.any fun t => decide (t.kind = kd ∧ t.id = id ∧ t.rel = c) && p t
theorem anyG_iff {gs : List Tu} {kd id c : ByteArray} {p : Tu → Bool} : anyG gs kd id c p = true ↔ ∃ t ∈ gs, (t.kind = kd ∧ t.id = id ∧ t.rel = c) ∧ p t = true := by
  unfold anyG
  rw [List.any_eq_true]
  simp only [Bool.and_eq_true, decide_eq_true_eq]
theorem hold_any (gs : List Tu) (kd id : ByteArray) : (∃ y ∈ bF gs, y.kd = kd ∧ y.id = id ∧ ∀ c p, y.ts.any (fun t => decide (t.rel = c) && p t) = anyG gs kd id c p) ∨ ((∀ y ∈ bF gs, ¬ (y.kd = kd ∧ y.id = id)) ∧ ∀ c p, anyG gs kd id c p = false) := by
  by_cases h : ∃ y ∈ bF gs, y.kd = kd ∧ y.id = id
  · obtain ⟨y, hy, e1, e2⟩ := h
    refine .inl ⟨y, hy, e1, e2, fun c p => ?_⟩
    rw [Bool.eq_iff_iff, anyG_iff, List.any_eq_true, ((jd gs).ts y hy).1]
    simp only [List.mem_filter, Bool.and_eq_true, decide_eq_true_eq, dn, e1, e2]
    constructor
    · rintro ⟨t, ⟨h1, h2, h3⟩, h4, h5⟩
      exact ⟨t, h1, ⟨h2.symm, h3.symm, h4⟩, h5⟩
    · rintro ⟨t, h1, ⟨h2, h3, h4⟩, h5⟩
      exact ⟨t, ⟨h1, h2.symm, h3.symm⟩, h4, h5⟩
  · refine .inr ⟨fun y hy e => h ⟨y, hy, e⟩, fun c p => ?_⟩
    cases e : anyG gs kd id c p
    · rfl
    · obtain ⟨t, ht, ⟨h1, h2, h3⟩, h4⟩ := anyG_iff.1 e
      obtain ⟨y, hy, q⟩ := (jd gs).all t ht
      obtain ⟨q1, q2⟩ := dn.1 q
      exact absurd ⟨y, hy, q1.trans h1, q2.trans h2⟩ h
theorem no_tgt {g : List R3} {hs : List Hp} {kd id c : ByteArray} (h : ∀ y ∈ hs, ¬ (y.kd = kd ∧ y.id = id)) : ¬ sM g hs ⟨kd, id, c⟩ := by
  rintro ⟨x, hx, y, hy, _, e⟩
  exact h y hy ⟨(congrArg Sj.kind e).symm, (congrArg Sj.id e).symm⟩
section
variable {who : Tg} {gs : List Tu} {g : List R3} {k0 k1 kb : Sj → Bool}
theorem at_list {kd c : ByteArray} (h : Gu who (bF gs) g k0 k1) (hx : (⟨kd, c, gp⟩ : R3) ∈ g) (id : ByteArray) (h0 : k0 ⟨kd, id, c⟩ = false) : k1 ⟨kd, id, c⟩ = anyG gs kd id c (fun t => gV k1 who (ed t)) := by
  rcases hold_any gs kd id with ⟨y, hy, rfl, rfl, hp⟩ | ⟨hn, hp⟩
  · rw [← h.fix _ hx y hy rfl, ← hp]
    simp [gp, eu]
  · rw [hp, h.old _ (no_tgt hn), h0]
theorem at_ed (h : Gu who (bF gs) [⟨eP, dM, Nb⟩] k0 k1) (id : ByteArray) (h0 : k0 ⟨eP, id, dM⟩ = false) (h2 : k0 ⟨eP, id, bH⟩ = anyG gs eP id bH (fun t => gV k0 who (ed t))) :
    k1 ⟨eP, id, dM⟩ = ((anyG gs eP id dM (fun t => gV k1 who (ed t)) || anyG gs eP id bH (fun t => gV k0 who (ed t))) || anyG gs eP id lw (fun t => x9 k1 (ed t) dM)) := by
  rcases hold_any gs eP id with ⟨y, hy, e, rfl, hp⟩ | ⟨hn, hp⟩
  · have f := h.fix _ (List.mem_singleton.2 rfl) y hy e
    have q2 : k1 ⟨eP, y.id, bH⟩ = k0 ⟨eP, y.id, bH⟩ := h.old _ (Hg (fun x hx => by
      rw [List.mem_singleton] at hx
      subst hx
      decide))
    rw [e] at f
    rw [← f]
    simp only [Nb, gP, gp, rO, yA, eu, if_true]
    simp only [Nat.reduceEqDiff, if_false, if_true]
    rw [q2, h2, hp, hp]
  · rw [hp, hp, hp, h.old _ (no_tgt hn), h0]
    rfl
theorem at_view (h : Gu who (bF gs) vT k0 k1) (id : ByteArray) (h0 : k0 ⟨eP, id, vS⟩ = false) (h3 : (∀ c p, anyG gs eP id c p = false) → k0 ⟨eP, id, dM⟩ = false) :
    k1 ⟨eP, id, vS⟩ = ((anyG gs eP id vS (fun t => gV k1 who (ed t)) || k0 ⟨eP, id, dM⟩) && !k0 ⟨eP, id, qj⟩) := by
  rcases hold_any gs eP id with ⟨y, hy, e, rfl, hp⟩ | ⟨hn, hp⟩
  · have f := h.fix _ (List.mem_singleton.2 rfl) y hy e
    have q : ∀ c, c ≠ vS → k1 ⟨eP, y.id, c⟩ = k0 ⟨eP, y.id, c⟩ := fun c hc => h.old _ (Hg (fun x hx => by
      simp only [vT, List.mem_singleton] at hx
      subst hx
      exact hc.symm))
    rw [e] at f
    rw [← f]
    simp only [rP, gP, gp, rO, eu, if_true]
    simp only [Nat.reduceEqDiff, if_false, if_true]
    rw [q _ (by decide), q _ (by decide), hp]
  · rw [hp, h3 hp, h.old _ (no_tgt hn), h0]
    rfl
theorem doc_open (h : oM who (bF gs) (p9 ++ [vT]) (fun _ => false) kb) : ∃ k1 k3, Gu who (bF gs) [⟨G9, BQ, gp⟩, ⟨eP, lw, gp⟩, ⟨eP, bH, gp⟩, ⟨eP, qj, gp⟩] (fun _ => false) k1 ∧ Gu who (bF gs) [⟨eP, dM, Nb⟩] k1 k3 ∧ Gu who (bF gs) vT k3 kb := by
  obtain ⟨k4, hA, k5, h5, e5⟩ := mU h
  have Rz : kb = k5 := e5
  subst Rz
  obtain ⟨k1, h1, k2, h2, k3, h3, k4', h4, e4⟩ := hA
  have e4' : k4 = k4' := e4
  subst e4'
  obtain rfl := BS h2
  obtain rfl := BS h4
  exact ⟨_, _, h1, h3, h5⟩
end
section
variable {ss : List ByteArray} {i : Nat} {p : Tu → Bool}
theorem any_member (hss : ∀ s ∈ ss, s ∈ pO) (hi : i < 4) : anyG (ss.map tt) G9 (gnB i) BQ p = true ↔ ∃ b, b < 4 ∧ ((hdB ss 0 i b = true ∧ p (tuB 0 i b) = true) ∨ (hdB ss 1 i b = true ∧ p (tuB 1 i b) = true)) := by
  rw [anyG_iff]
  constructor
  · rintro ⟨t, ht, ⟨e1, e2, e3⟩, hp⟩
    obtain ⟨k, a, b, hk, ha, hb, hd, rfl⟩ := (held_iff hss t).1 ht
    rcases k with _ | _ | _ | _ | _ | _ | _ | _ | _ | k
    · obtain rfl := gn_inj ha hi e2
      exact ⟨b, hb, .inl ⟨hd, hp⟩⟩
    · obtain rfl := gn_inj ha hi e2
      exact ⟨b, hb, .inr ⟨hd, hp⟩⟩
    all_goals first | omega | exact absurd e1 (show ¬ (eP = G9) by decide)
  · rintro ⟨b, hb, ⟨h1, h2⟩ | ⟨h1, h2⟩⟩
    · exact ⟨tuB 0 i b, (held_iff hss _).2 ⟨0, i, b, by omega, hi, hb, h1, rfl⟩, ⟨rfl, rfl, rfl⟩, h2⟩
    · exact ⟨tuB 1 i b, (held_iff hss _).2 ⟨1, i, b, by omega, hi, hb, h1, rfl⟩, ⟨rfl, rfl, rfl⟩, h2⟩
theorem any_one (hss : ∀ s ∈ ss, s ∈ pO) (hi : i < 4) (c : ByteArray) (n : Nat) (hn : n < 9) (h2n : ∀ a b, (tuB n a b).kind = eP ∧ (tuB n a b).id = qa a ∧ (tuB n a b).rel = c) (ho : ∀ k, k < 9 → k ≠ n → ∀ a b, ¬ ((tuB k a b).kind = eP ∧ (tuB k a b).rel = c)) : anyG (ss.map tt) eP (qa i) c p = true ↔ ∃ b, b < 4 ∧ hdB ss n i b = true ∧ p (tuB n i b) = true := by
  rw [anyG_iff]
  constructor
  · rintro ⟨t, ht, ⟨e1, e2, e3⟩, hp⟩
    obtain ⟨k, a, b, hk, ha, hb, hd, rfl⟩ := (held_iff hss t).1 ht
    by_cases e : k = n
    · subst e
      obtain rfl := dn_inj ha hi ((h2n a b).2.1.symm.trans e2)
      exact ⟨b, hb, hd, hp⟩
    · exact absurd ⟨e1, e3⟩ (ho k hk e a b)
  · rintro ⟨b, hb, h1, h2⟩
    obtain ⟨q1, q2, q3⟩ := h2n i b
    exact ⟨tuB n i b, (held_iff hss _).2 ⟨n, i, b, hn, hi, hb, h1, rfl⟩, ⟨q1, q2, q3⟩, h2⟩
theorem any_two (hss : ∀ s ∈ ss, s ∈ pO) (hi : i < 4) (c : ByteArray) (n m : Nat) (hn : n < 9) (hm : m < 9) (h2n : ∀ a b, (tuB n a b).kind = eP ∧ (tuB n a b).id = qa a ∧ (tuB n a b).rel = c) (h2m : ∀ a b, (tuB m a b).kind = eP ∧ (tuB m a b).id = qa a ∧ (tuB m a b).rel = c) (ho : ∀ k, k < 9 → k ≠ n → k ≠ m → ∀ a b, ¬ ((tuB k a b).kind = eP ∧ (tuB k a b).rel = c)) : anyG (ss.map tt) eP (qa i) c p = true ↔ ∃ b, b < 4 ∧ ((hdB ss n i b = true ∧ p (tuB n i b) = true) ∨ (hdB ss m i b = true ∧ p (tuB m i b) = true)) := by
  rw [anyG_iff]
  constructor
  · rintro ⟨t, ht, ⟨e1, e2, e3⟩, hp⟩
    obtain ⟨k, a, b, hk, ha, hb, hd, rfl⟩ := (held_iff hss t).1 ht
    by_cases e : k = n
    · subst e
      obtain rfl := dn_inj ha hi ((h2n a b).2.1.symm.trans e2)
      exact ⟨b, hb, .inl ⟨hd, hp⟩⟩
    · by_cases e' : k = m
      · subst e'
        obtain rfl := dn_inj ha hi ((h2m a b).2.1.symm.trans e2)
        exact ⟨b, hb, .inr ⟨hd, hp⟩⟩
      · exact absurd ⟨e1, e3⟩ (ho k hk e e' a b)
  · rintro ⟨b, hb, ⟨h1, h2⟩ | ⟨h1, h2⟩⟩
    · exact ⟨tuB n i b, (held_iff hss _).2 ⟨n, i, b, hn, hi, hb, h1, rfl⟩, h2n i b, h2⟩
    · exact ⟨tuB m i b, (held_iff hss _).2 ⟨m, i, b, hm, hi, hb, h1, rfl⟩, h2m i b, h2⟩
theorem oth {k : Nat} {c : ByteArray} (hk : k < 9) (h : (([BQ, BQ, lw, bH, dM, dM, vS, qj, qj] : List ByteArray)[k]?) ≠ some c) (a b : Nat) : (tuB k a b).rel ≠ c := by
  intro e
  rcases k with _ | _ | _ | _ | _ | _ | _ | _ | _ | k
  all_goals first | omega | exact h (congrArg some e)
theorem any_parent (hss : ∀ s ∈ ss, s ∈ pO) (hi : i < 4) : anyG (ss.map tt) eP (qa i) lw p = true ↔ ∃ b, b < 4 ∧ hdB ss 2 i b = true ∧ p (tuB 2 i b) = true :=
  any_one hss hi _ 2 (by omega) (fun _ _ => ⟨rfl, rfl, rfl⟩) (fun k hk hn a b e => oth hk (by
    rcases k with _ | _ | _ | _ | _ | _ | _ | _ | _ | k
    all_goals first | omega | decide) a b e.2)
theorem any_owner (hss : ∀ s ∈ ss, s ∈ pO) (hi : i < 4) : anyG (ss.map tt) eP (qa i) bH p = true ↔ ∃ b, b < 4 ∧ hdB ss 3 i b = true ∧ p (tuB 3 i b) = true :=
  any_one hss hi _ 3 (by omega) (fun _ _ => ⟨rfl, rfl, rfl⟩) (fun k hk hn a b e => oth hk (by
    rcases k with _ | _ | _ | _ | _ | _ | _ | _ | _ | k
    all_goals first | omega | decide) a b e.2)
theorem any_viewer (hss : ∀ s ∈ ss, s ∈ pO) (hi : i < 4) : anyG (ss.map tt) eP (qa i) vS p = true ↔ ∃ b, b < 4 ∧ hdB ss 6 i b = true ∧ p (tuB 6 i b) = true :=
  any_one hss hi _ 6 (by omega) (fun _ _ => ⟨rfl, rfl, rfl⟩) (fun k hk hn a b e => oth hk (by
    rcases k with _ | _ | _ | _ | _ | _ | _ | _ | _ | k
    all_goals first | omega | decide) a b e.2)
theorem any_editor (hss : ∀ s ∈ ss, s ∈ pO) (hi : i < 4) : anyG (ss.map tt) eP (qa i) dM p = true ↔ ∃ b, b < 4 ∧ ((hdB ss 4 i b = true ∧ p (tuB 4 i b) = true) ∨ (hdB ss 5 i b = true ∧ p (tuB 5 i b) = true)) :=
  any_two hss hi _ 4 5 (by omega) (by omega) (fun _ _ => ⟨rfl, rfl, rfl⟩) (fun _ _ => ⟨rfl, rfl, rfl⟩) (fun k hk hn hm a b e => oth hk (by
    rcases k with _ | _ | _ | _ | _ | _ | _ | _ | _ | k
    all_goals first | omega | decide) a b e.2)
theorem any_banned (hss : ∀ s ∈ ss, s ∈ pO) (hi : i < 4) : anyG (ss.map tt) eP (qa i) qj p = true ↔ ∃ b, b < 4 ∧ ((hdB ss 7 i b = true ∧ p (tuB 7 i b) = true) ∨ (hdB ss 8 i b = true ∧ p (tuB 8 i b) = true)) :=
  any_two hss hi _ 7 8 (by omega) (by omega) (fun _ _ => ⟨rfl, rfl, rfl⟩) (fun _ _ => ⟨rfl, rfl, rfl⟩) (fun k hk hn hm a b e => oth hk (by
    rcases k with _ | _ | _ | _ | _ | _ | _ | _ | _ | k
    all_goals first | omega | decide) a b e.2)
end
end Go.Proofs.YtlbpnlngckgcbaaGreatDoor

namespace Go.Proofs.YtlbpnlngckgcbaaGreatDoor
open Go.RowKit Go.PlainAid
structure HitQ (who : Tg) (m : Nat → Bool) : Prop where
  one : ∀ b, b < 4 → jF ⟨dP, NI b, ⟨#[]⟩⟩ who = m b
  all : jF ⟨dP, bAll, ⟨#[]⟩⟩ who = true
def in1 (ss : List ByteArray) (i j : Nat) : Bool := hdB ss 1 i j || decide (i = j)
def in2 (ss : List ByteArray) (i j : Nat) : Bool := hdB ss 2 i j || decide (i = j)
def MemP (ss : List ByteArray) (m : Nat → Bool) (i : Nat) : Prop := ∃ k, k < 4 ∧ ledB (in1 ss) 4 i k = true ∧ ∃ b, b < 4 ∧ hdB ss 0 k b = true ∧ m b = true
def EdP (ss : List ByteArray) (m : Nat → Bool) (i : Nat) : Prop := ∃ d, d < 4 ∧ ledB (in2 ss) 4 i d = true ∧ ((∃ b, b < 4 ∧ (hdB ss 3 d b = true ∨ hdB ss 4 d b = true) ∧ m b = true) ∨ ∃ g, g < 4 ∧ hdB ss 5 d g = true ∧ MemP ss m g)
def BanP (ss : List ByteArray) (m : Nat → Bool) (i : Nat) : Prop := hdB ss 7 i 0 = true ∨ ∃ b, b < 4 ∧ hdB ss 8 i b = true ∧ m b = true
theorem ts_any {gs : List Tu} {y : Hp} (hy : y ∈ bF gs) (c : ByteArray) (p : Tu → Bool) : y.ts.any (fun t => decide (t.rel = c) && p t) = anyG gs y.kd y.id c p := by
  rcases hold_any gs y.kd y.id with ⟨z, hz, e1, e2, hp⟩ | ⟨hn, _⟩
  · rw [← hp, ((jd gs).ts y hy).1, ((jd gs).ts z hz).1]
    have : ∀ t, lH y t = lH z t := fun t => by unfold lH; rw [e1, e2]
    simp only [this]
  · exact absurd ⟨rfl, rfl⟩ (hn y hy)
theorem anyG_mono {gs : List Tu} {kd id c : ByteArray} {p q : Tu → Bool} (h : ∀ t, p t = true → q t = true) (k : anyG gs kd id c p = true) : anyG gs kd id c q = true := by
  obtain ⟨t, h1, h2, h3⟩ := anyG_iff.1 k
  exact anyG_iff.2 ⟨t, h1, h2, h t h3⟩
theorem meant_mono {k k' : Sj → Bool} {who : Tg} (h : ∀ s, k s = true → k' s = true) (s : Sj) (e : gV k who s = true) : gV k' who s = true := by
  unfold gV at e ⊢
  split
  · rename_i h0
    rw [if_pos h0] at e
    exact e
  · rename_i h0
    rw [if_neg h0] at e
    exact h _ e
theorem bey_mono {k k' : Sj → Bool} {c : ByteArray} (h : ∀ s, k s = true → k' s = true) (s : Sj) (e : x9 k s c = true) : x9 k' s c = true := by
  unfold x9 at e ⊢
  split
  · rename_i h0
    rw [if_pos h0] at e
    exact h _ e
  · rename_i h0
    rw [if_neg h0] at e
    cases e
theorem cut_ex (k : Sj → Bool) (P : Sj → Prop) : ∃ K : Sj → Bool, ∀ s, K s = true ↔ k s = true ∧ P s := by
  classical exact ⟨fun s => k s && decide (P s), fun s => by simp⟩
section
variable {who : Tg} {m : Nat → Bool} {ss : List ByteArray} {k0 k1 k3 kb : Sj → Bool} {i : Nat}
theorem meant_u (hw : HitQ who m) {k : Sj → Bool} {n a b : Nat} (hb : b < 4) (hn : n = 0 ∨ n = 3 ∨ n = 4 ∨ n = 8) : gV k who (ed (tuB n a b)) = m b := by
  rw [← hw.one b hb]
  rcases hn with rfl | rfl | rfl | rfl <;> exact if_pos rfl
theorem meant_g {k : Sj → Bool} {n a b : Nat} (hn : n = 1 ∨ n = 5) : gV k who (ed (tuB n a b)) = k ⟨G9, gnB b, BQ⟩ := by
  rcases hn with rfl | rfl <;> exact if_neg (show ¬ (BQ.size = 0) by decide)
theorem meant_a (hw : HitQ who m) {k : Sj → Bool} {n a b : Nat} (hn : n = 6 ∨ n = 7) : gV k who (ed (tuB n a b)) = true := by
  rw [← hw.all]
  rcases hn with rfl | rfl <;> exact if_pos rfl
theorem bey_d {k : Sj → Bool} {a b : Nat} : x9 k (ed (tuB 2 a b)) dM = k ⟨eP, qa b, dM⟩ := if_pos rfl
theorem led_self {M : Nat → Nat → Bool} {i k : Nat} (h : M i i = true) : ledB M k i i = true := led_up M h k
theorem in1_self : in1 ss i i = true := by simp [in1]
theorem in2_self : in2 ss i i = true := by simp [in2]
def g1R : List R3 := [⟨G9, BQ, gp⟩, ⟨eP, lw, gp⟩, ⟨eP, bH, gp⟩, ⟨eP, qj, gp⟩]
theorem g1_list : ∀ x ∈ g1R, x.sh = gp := by
  intro x hx
  simp only [g1R, List.mem_cons, List.not_mem_nil, or_false] at hx
  rcases hx with rfl | rfl | rfl | rfl <;> rfl
theorem g1_no {c : ByteArray} (h : c = dM ∨ c = vS) : ∀ x ∈ g1R, x.nm ≠ c := by
  intro x hx
  simp only [g1R, List.mem_cons, List.not_mem_nil, or_false] at hx
  rcases h with rfl | rfl <;> rcases hx with rfl | rfl | rfl | rfl <;> decide
theorem mem_iff (hss : ∀ s ∈ ss, s ∈ pO) (hw : HitQ who m) (h : Gu who (bF (ss.map tt)) g1R (fun _ => false) k1) (hi : i < 4) : k1 ⟨G9, gnB i, BQ⟩ = true ↔ MemP ss m i := by
  have hat : ∀ id, k1 ⟨G9, id, BQ⟩ = anyG (ss.map tt) G9 id BQ (fun t => gV k1 who (ed t)) := fun id => at_list h (by simp [g1R]) id rfl
  constructor
  · intro hk
    obtain ⟨K, hK⟩ := cut_ex k1 (fun s => s.kind = G9 → s.rel = BQ → ∀ i, i < 4 → s.id = gnB i → MemP ss m i)
    have hle : ∀ s, K s = true → k1 s = true := fun s hs => ((hK s).1 hs).1
    have key := h.least K (fun s hs => by
      cases hq : K s
      · rfl
      · rw [← hle s hq, h.old s hs]) (fun x hx y hy e he => by
      rw [g1_list x hx] at he
      have he1 : anyG (ss.map tt) y.kd y.id x.nm (fun t => gV K who (ed t)) = true := by
        rw [← ts_any hy]
        simpa [gp, eu] using he
      have he2 : k1 ⟨y.kd, y.id, x.nm⟩ = true := by
        rw [← h.fix x hx y hy e, g1_list x hx]
        have := anyG_mono (fun t => meant_mono hle (ed t)) he1
        rw [← ts_any hy] at this
        simpa [gp, eu] using this
      refine (hK _).2 ⟨he2, fun e1 e2 i hi e3 => ?_⟩
      have e1' : y.kd = G9 := e1
      have e2' : x.nm = BQ := e2
      have e3' : y.id = gnB i := e3
      rw [e1', e2', e3'] at he1
      obtain ⟨b, hb, ⟨h1, h2⟩ | ⟨h1, h2⟩⟩ := (any_member hss hi).1 he1
      · rw [meant_u hw hb (.inl rfl)] at h2
        exact ⟨i, hi, led_self in1_self, b, hb, h1, h2⟩
      · rw [meant_g (.inl rfl)] at h2
        obtain ⟨k, hk, q1, q2⟩ := ((hK _).1 h2).2 rfl rfl b hb rfl
        exact ⟨k, hk, led_trans _ 4 i b k hb (led_up _ (by simp [in1, h1]) 4) q1, q2⟩) _ hk
    exact ((hK _).1 key).2 rfl rfl i hi rfl
  · rintro ⟨k, hk, h1, b, hb, h2, h3⟩
    refine led_back (in1 ss) (fun i => k1 ⟨G9, gnB i, BQ⟩ = true) (fun a c ha hc hac hS => ?_) 4 i k (by omega) hi hk h1 ?_
    · unfold in1 at hac
      rw [Bool.or_eq_true, decide_eq_true_eq] at hac
      rcases hac with q | rfl
      · rw [hat, any_member hss ha]
        exact ⟨c, hc, .inr ⟨q, by rw [meant_g (.inl rfl)]; exact hS⟩⟩
      · exact hS
    · show k1 ⟨G9, gnB k, BQ⟩ = true
      rw [hat, any_member hss hk]
      exact ⟨b, hb, .inl ⟨h2, by rw [meant_u hw hb (.inl rfl)]; exact h3⟩⟩
theorem k1_ed (h : Gu who (bF (ss.map tt)) g1R (fun _ => false) k1) {kd id c : ByteArray} (hc : c = dM ∨ c = vS) : k1 ⟨kd, id, c⟩ = false := h.old _ (Hg (g1_no hc))
theorem ed_iff (hss : ∀ s ∈ ss, s ∈ pO) (hw : HitQ who m) (h : Gu who (bF (ss.map tt)) g1R (fun _ => false) k1) (h3 : Gu who (bF (ss.map tt)) [⟨eP, dM, Nb⟩] k1 k3) (hi : i < 4) : k3 ⟨eP, qa i, dM⟩ = true ↔ EdP ss m i := by
  have hat : ∀ id, _ := fun id => at_ed h3 id (k1_ed h (.inl rfl)) (at_list h (by simp [g1R]) id rfl)
  have old : ∀ kd id c, c ≠ dM → k3 ⟨kd, id, c⟩ = k1 ⟨kd, id, c⟩ := fun kd id c hc => h3.old _ (Hg (fun x hx => by
    rw [List.mem_singleton] at hx
    subst hx
    exact hc.symm))
  have hown : ∀ d, d < 4 → (anyG (ss.map tt) eP (qa d) bH (fun t => gV k1 who (ed t)) = true ↔ ∃ b, b < 4 ∧ hdB ss 3 d b = true ∧ m b = true) := fun d hd => by
    rw [any_owner hss hd]
    constructor
    · rintro ⟨b, hb, q1, q2⟩
      rw [meant_u hw hb (.inr (.inl rfl))] at q2
      exact ⟨b, hb, q1, q2⟩
    · rintro ⟨b, hb, q1, q2⟩
      exact ⟨b, hb, q1, by rw [meant_u hw hb (.inr (.inl rfl))]; exact q2⟩
  constructor
  · intro hk
    obtain ⟨K, hK⟩ := cut_ex k3 (fun s => s.kind = eP → s.rel = dM → ∀ i, i < 4 → s.id = qa i → EdP ss m i)
    have hle' : ∀ s, K s = true → k3 s = true := fun s hs => ((hK s).1 hs).1
    have hK2 : ∀ i, i < 4 → K ⟨eP, qa i, dM⟩ = true → EdP ss m i := fun i hi hs => ((hK _).1 hs).2 rfl rfl i hi rfl
    refine hK2 i hi (h3.least K (fun s hs => ?_) (fun x hx y hy e he => ?_) _ hk)
    · rw [← h3.old s hs]
      cases hq : K s
      · cases vw : k3 s
        · rfl
        · rw [← hq]
          refine ((hK s).2 ⟨vw, fun e1 e2 => ?_⟩)
          rw [h3.old s hs] at vw
          obtain ⟨a, b, c⟩ := s
          have e2' : c = dM := e2
          rw [k1_ed h (.inl e2')] at vw
          cases vw
      · exact (hle' s hq).symm
    · rw [List.mem_singleton] at hx
      subst hx
      have e' : y.kd = eP := e
      simp only [Nb, gP, gp, rO, yA, eu, if_true] at he
      simp only [Nat.reduceEqDiff, if_false, if_true] at he
      rw [ts_any hy, ts_any hy, e'] at he
      simp only [Bool.or_eq_true] at he
      have he2 : k3 ⟨eP, y.id, dM⟩ = true := by
        rw [hat]
        simp only [Bool.or_eq_true]
        rcases he with (he | he) | he
        · exact .inl (.inl (anyG_mono (fun t => meant_mono hle' (ed t)) he))
        · refine .inl (.inr ?_)
          rw [← at_list h (by simp [g1R]) y.id rfl, ← old _ _ _ (by decide)]
          exact hle' _ he
        · exact .inr (anyG_mono (fun t => bey_mono hle' (ed t)) he)
      rw [e']
      refine (hK _).2 ⟨he2, fun _ _ i hi e3 => ?_⟩
      have e3' : y.id = qa i := e3
      rw [e3'] at he
      rcases he with (he | he) | he
      · obtain ⟨b, hb, ⟨q1, q2⟩ | ⟨q1, q2⟩⟩ := (any_editor hss hi).1 he
        · rw [meant_u hw hb (.inr (.inr (.inl rfl)))] at q2
          exact ⟨i, hi, led_self in2_self, .inl ⟨b, hb, .inr q1, q2⟩⟩
        · rw [meant_g (.inr rfl)] at q2
          have := hle' _ q2
          rw [old _ _ _ (by decide), mem_iff hss hw h hb] at this
          exact ⟨i, hi, led_self in2_self, .inr ⟨b, hb, q1, this⟩⟩
      · have := hle' _ he
        rw [old _ _ _ (by decide), at_list h (by simp [g1R]) (qa i) rfl, hown i hi] at this
        obtain ⟨b, hb, q1, q2⟩ := this
        exact ⟨i, hi, led_self in2_self, .inl ⟨b, hb, .inl q1, q2⟩⟩
      · obtain ⟨b, hb, q1, q2⟩ := (any_parent hss hi).1 he
        rw [bey_d] at q2
        obtain ⟨d, hd, r1, r2⟩ := hK2 b hb q2
        exact ⟨d, hd, led_trans _ 4 i b d hb (led_up _ (by simp [in2, q1]) 4) r1, r2⟩
  · rintro ⟨d, hd, h1, h2⟩
    refine led_back (in2 ss) (fun i => k3 ⟨eP, qa i, dM⟩ = true) (fun a c ha hc hac hS => ?_) 4 i d (by omega) hi hd h1 ?_
    · unfold in2 at hac
      rw [Bool.or_eq_true, decide_eq_true_eq] at hac
      rcases hac with q | rfl
      · rw [hat, Bool.or_eq_true]
        exact .inr ((any_parent hss ha).2 ⟨c, hc, q, by rw [bey_d]; exact hS⟩)
      · exact hS
    · show k3 ⟨eP, qa d, dM⟩ = true
      rw [hat, Bool.or_eq_true, Bool.or_eq_true]
      rcases h2 with ⟨b, hb, q1 | q1, q2⟩ | ⟨b, hb, q1, q2⟩
      · exact .inl (.inr ((hown d hd).2 ⟨b, hb, q1, q2⟩))
      · exact .inl (.inl ((any_editor hss hd).2 ⟨b, hb, .inl ⟨q1, by rw [meant_u hw hb (.inr (.inr (.inl rfl)))]; exact q2⟩⟩))
      · exact .inl (.inl ((any_editor hss hd).2 ⟨b, hb, .inr ⟨q1, by rw [meant_g (.inr rfl), old _ _ _ (by decide), mem_iff hss hw h hb]; exact q2⟩⟩))
theorem reach_all (hss : ∀ s ∈ ss, s ∈ pO) (hw : HitQ who m) (h : oM who (bF (ss.map tt)) (p9 ++ [vT]) (fun _ => false) kb) (hi : i < 4) :
    (kb ⟨G9, gnB i, BQ⟩ = true ↔ MemP ss m i) ∧ (kb ⟨eP, qa i, dM⟩ = true ↔ EdP ss m i) ∧ (kb ⟨eP, qa i, vS⟩ = true ↔ (hdB ss 6 i 0 = true ∨ EdP ss m i) ∧ ¬ BanP ss m i) := by
  obtain ⟨k1, k3, h1, h3, h5⟩ := doc_open h
  have h1' : Gu who (bF (ss.map tt)) g1R (fun _ => false) k1 := h1
  have old3 : ∀ kd id c, c ≠ dM → k3 ⟨kd, id, c⟩ = k1 ⟨kd, id, c⟩ := fun kd id c hc => h3.old _ (Hg (fun x hx => by
    rw [List.mem_singleton] at hx
    subst hx
    exact hc.symm))
  have old5 : ∀ kd id c, c ≠ vS → kb ⟨kd, id, c⟩ = k3 ⟨kd, id, c⟩ := fun kd id c hc => h5.old _ (Hg (fun x hx => by
    simp only [vT, List.mem_singleton] at hx
    subst hx
    exact hc.symm))
  refine ⟨?_, ?_, ?_⟩
  · rw [old5 _ _ _ (by decide), old3 _ _ _ (by decide)]
    exact mem_iff hss hw h1' hi
  · rw [old5 _ _ _ (by decide)]
    exact ed_iff hss hw h1' h3 hi
  · rw [at_view h5 (qa i) (by rw [old3 _ _ _ (by decide)]; exact k1_ed h1' (.inr rfl)) (fun hno => by
      rw [at_ed h3 (qa i) (k1_ed h1' (.inl rfl)) (at_list h1' (by simp [g1R]) _ rfl), hno, hno, hno]
      rfl)]
    have hb : k3 ⟨eP, qa i, qj⟩ = true ↔ BanP ss m i := by
      rw [old3 _ _ _ (by decide), at_list h1' (by simp [g1R]) (qa i) rfl, any_banned hss hi]
      constructor
      · rintro ⟨b, hb, ⟨q1, q2⟩ | ⟨q1, q2⟩⟩
        · exact .inl q1
        · rw [meant_u hw hb (.inr (.inr (.inr rfl)))] at q2
          exact .inr ⟨b, hb, q1, q2⟩
      · rintro (q | ⟨b, hb, q1, q2⟩)
        · exact ⟨0, by omega, .inl ⟨q, meant_a hw (.inr rfl)⟩⟩
        · exact ⟨b, hb, .inr ⟨q1, by rw [meant_u hw hb (.inr (.inr (.inr rfl)))]; exact q2⟩⟩
    have hv : anyG (ss.map tt) eP (qa i) vS (fun t => gV kb who (ed t)) = true ↔ hdB ss 6 i 0 = true := by
      rw [any_viewer hss hi]
      constructor
      · rintro ⟨b, hb, q1, q2⟩
        exact q1
      · intro q
        exact ⟨0, by omega, q, meant_a hw (.inl rfl)⟩
    rw [Bool.and_eq_true, Bool.or_eq_true, hv, ed_iff hss hw h1' h3 hi, ← hb]
    simp
end
def anyN : Nat → (Nat → Bool) → Bool
  | 0, _ => false
  | k + 1, f => anyN k f || f k
theorem anyN_iff {f : Nat → Bool} : ∀ {n : Nat}, anyN n f = true ↔ ∃ k, k < n ∧ f k = true
  | 0 => by
    constructor
    · intro h; cases h
    · rintro ⟨k, hk, _⟩; omega
  | n + 1 => by
    rw [anyN, Bool.or_eq_true, anyN_iff]
    constructor
    · rintro (⟨k, hk, h⟩ | h)
      · exact ⟨k, by omega, h⟩
      · exact ⟨n, by omega, h⟩
    · rintro ⟨k, hk, h⟩
      by_cases e : k = n
      · subst e; exact .inr h
      · exact .inl ⟨k, by omega, h⟩
def memX (ss : List ByteArray) (i j : Nat) : Bool := anyN 4 fun k => ledB (in1 ss) 4 i k && hdB ss 0 k j
def edtX (ss : List ByteArray) (d j : Nat) : Bool := (hdB ss 3 d j || hdB ss 4 d j) || anyN 4 fun g => hdB ss 5 d g && memX ss g j
def edX (ss : List ByteArray) (i j : Nat) : Bool := anyN 4 fun d => ledB (in2 ss) 4 i d && edtX ss d j
def banX (ss : List ByteArray) (i j : Nat) : Bool := hdB ss 8 i j || hdB ss 7 i 0
def viewX (ss : List ByteArray) (i j : Nat) : Bool := (hdB ss 6 i 0 || edX ss i j) && !banX ss i j
section
variable {ss : List ByteArray} {i j : Nat} {kb : Sj → Bool}
theorem mem_x (hj : j < 4) : MemP ss (fun b => decide (b = j)) i ↔ memX ss i j = true := by
  unfold MemP memX
  rw [anyN_iff]
  simp only [Bool.and_eq_true, decide_eq_true_eq]
  constructor
  · rintro ⟨k, hk, h1, b, hb, h2, rfl⟩
    exact ⟨k, hk, h1, h2⟩
  · rintro ⟨k, hk, h1, h2⟩
    exact ⟨k, hk, h1, j, hj, h2, rfl⟩
theorem ed_x (hj : j < 4) : EdP ss (fun b => decide (b = j)) i ↔ edX ss i j = true := by
  unfold EdP edX edtX
  rw [anyN_iff]
  simp only [Bool.and_eq_true, Bool.or_eq_true, decide_eq_true_eq, anyN_iff, ← mem_x hj]
  constructor
  · rintro ⟨d, hd, h1, ⟨b, hb, h2, rfl⟩ | h2⟩
    · exact ⟨d, hd, h1, .inl h2⟩
    · exact ⟨d, hd, h1, .inr h2⟩
  · rintro ⟨d, hd, h1, h2 | h2⟩
    · exact ⟨d, hd, h1, .inl ⟨j, hj, h2, rfl⟩⟩
    · exact ⟨d, hd, h1, .inr h2⟩
theorem ban_x (hj : j < 4) : BanP ss (fun b => decide (b = j)) i ↔ banX ss i j = true := by
  unfold BanP banX
  simp only [Bool.or_eq_true, decide_eq_true_eq]
  constructor
  · rintro (h | ⟨b, hb, h, rfl⟩)
    · exact .inr h
    · exact .inl h
  · rintro (h | h)
    · exact .inr ⟨j, hj, h, rfl⟩
    · exact .inl h
theorem hit_user (hj : j < 4) : HitQ ⟨dP, NI j⟩ (fun b => decide (b = j)) where
  one := fun b hb => by
    have k : ((List.range 4).all fun b => (List.range 4).all fun j => decide (jF ⟨dP, NI b, ⟨#[]⟩⟩ ⟨dP, NI j⟩ = decide (b = j))) = true := by kernel_rfl
    exact of_decide_eq_true (List.all_eq_true.1 (List.all_eq_true.1 k b (List.mem_range.2 hb)) j (List.mem_range.2 hj))
  all := by
    have k : ((List.range 4).all fun j => jF ⟨dP, bAll, ⟨#[]⟩⟩ ⟨dP, NI j⟩) = true := by kernel_rfl
    exact List.all_eq_true.1 k j (List.mem_range.2 hj)
theorem hit_new : HitQ ⟨dP, bNew⟩ (fun _ => false) where
  one := fun b hb => by
    have k : ((List.range 4).all fun b => !jF ⟨dP, NI b, ⟨#[]⟩⟩ ⟨dP, bNew⟩) = true := by kernel_rfl
    simpa using List.all_eq_true.1 k b (List.mem_range.2 hb)
  all := by kernel_rfl
theorem reach_user (hss : ∀ s ∈ ss, s ∈ pO) (hi : i < 4) (hj : j < 4) (h : oM ⟨dP, NI j⟩ (bF (ss.map tt)) (p9 ++ [vT]) (fun _ => false) kb) :
    kb ⟨G9, gnB i, BQ⟩ = memX ss i j ∧ kb ⟨eP, qa i, dM⟩ = edX ss i j ∧ kb ⟨eP, qa i, vS⟩ = viewX ss i j := by
  obtain ⟨h1, h2, h3⟩ := reach_all hss (hit_user hj) h hi
  rw [mem_x hj] at h1
  rw [ed_x hj] at h2
  rw [ed_x hj, ban_x hj] at h3
  refine ⟨Bool.eq_iff_iff.2 h1, Bool.eq_iff_iff.2 h2, Bool.eq_iff_iff.2 (h3.trans ?_)⟩
  unfold viewX
  simp
theorem reach_new (hss : ∀ s ∈ ss, s ∈ pO) (hi : i < 4) (h : oM ⟨dP, bNew⟩ (bF (ss.map tt)) (p9 ++ [vT]) (fun _ => false) kb) : kb ⟨eP, qa i, vS⟩ = (hdB ss 6 i 0 && !hdB ss 7 i 0) := by
  obtain ⟨h1, h2, h3⟩ := reach_all hss hit_new h hi
  rw [Bool.eq_iff_iff, h3]
  have no : ¬ EdP ss (fun _ => false) i := by
    rintro ⟨d, _, _, ⟨b, _, _, e⟩ | ⟨g, _, _, k, _, _, b, _, _, e⟩⟩ <;> cases e
  have nb : BanP ss (fun _ => false) i ↔ hdB ss 7 i 0 = true := by
    constructor
    · rintro (h | ⟨b, _, _, e⟩)
      · exact h
      · cases e
    · exact .inl
  rw [nb]
  simp [no]
end
theorem last_yes : viewX [Io 3 0 0] 0 0 = true := by kernel_rfl
theorem last_no : viewX [Io 3 0 0] 0 1 = false := by kernel_rfl
theorem grp_t : (match lM pM with | .ok ts => ((cu ts G9).bind fun t => aW t BQ).isSome | .error _ => false) = true := by kernel_rfl
theorem group_facts {d : Nat} (h : d < 4) : (ax (jr d) 58).1 = G9 ∧ dR (jr d) = true ∧ (jr d).size = 8 := by
  rcases d with _ | _ | _ | _ | d <;> first | omega | (refine ⟨?_, ?_, ?_⟩ <;> kernel_rfl)
theorem rc_checkG {x : Nat} {mv lv gv : Value} {w : World} {ts : List Ty} {gs : List Tu} (hu : UQ w x mv lv gv ts gs) (hE : yN w) (ht : EC ts) (hg : GdL gs) (hl : gs.length ≤ 24) {d : Nat} (hd : d < 4) {W id : ByteArray} (hw : (ax W 58).1 = dP ∧ dR W = true ∧ W.size ≤ 1000) (hid : (ax W 58).2.1 = id) :
    Calls Tryz.prog 26 #[.pointer (some ⟨x, 0, none⟩), .string (jr d), .string BQ, .string W] w (AgPost gs ⟨G9, gnB d, BQ⟩ ⟨dP, id⟩ w) := by
  obtain ⟨d1, d2, d3⟩ := group_facts hd
  obtain ⟨t, r, hf, hq⟩ : ∃ t r, cu ts G9 = some t ∧ aW t BQ = some r := by
    have := grp_t
    rw [ht.read] at this
    dsimp only at this
    cases hf : cu ts G9 with
    | none => rw [hf] at this; cases this
    | some t =>
      rw [hf] at this
      obtain ⟨r, hr⟩ := Option.isSome_iff_exists.1 this
      exact ⟨t, r, rfl, hr⟩
  obtain ⟨t', hf'⟩ : ∃ t', cu ts dP = some t' := by
    have := usr_t
    rw [ht.read] at this
    exact Option.isSome_iff_exists.1 this
  refine (check_ok x mv lv gv ts gs w hu (purL ht hg hl) (jr d) BQ W (by omega) d2 (by decide) (by kernel_rfl) t (by rw [d1]; exact hf) r hq hw.2.2 hw.2.1 t' (by rw [hw.1]; exact hf') hE.max (by have := hE.lt; omega)).mono ?_
  rintro e w' ⟨kb, rfl, hb, hr⟩
  rw [d1, hw.1, hid] at *
  rw [ht.grp] at hr
  exact ⟨kb, rfl, hb, hr⟩
end Go.Proofs.YtlbpnlngckgcbaaGreatDoor

namespace Go.Proofs.YtlbpnlngckgcbaaGreatDoor
open Go.RowKit Go.PlainAid
def mFzq (ss : List ByteArray) (i j : Nat) : Nat → Bool := fun k => ledB (in1 ss) 4 i k && hdB ss 0 k j
def eFzq (ss : List ByteArray) (i j : Nat) : Nat → Bool := fun d => ledB (in2 ss) 4 i d && edtX ss d j
def wFzq (ss : List ByteArray) (me mk a n b e d q : Nat) : Bool :=
  if q < 16 then (if q < me then memX ss (q / 4) (q % 4) else if q = me then anyN mk (mFzq ss (q / 4) (q % 4)) else false)
  else if q < 32 then (if q - 16 < e then edX ss ((q - 16) / 4) ((q - 16) % 4) else if q - 16 = e then anyN d (eFzq ss ((q - 16) / 4) ((q - 16) % 4)) else false)
  else if q < 36 then (decide (q - 32 < a) && hdB ss 6 (q - 32) 0)
  else if q < 40 then (decide (q - 36 < n) && hdB ss 7 (q - 36) 0)
  else (decide (q - 40 < b) && banX ss ((q - 40) / 4) ((q - 40) % 4))
section
variable {ss : List ByteArray} {me mk a n b e d i j : Nat}
theorem wF_start (q : Nat) : wFzq ss 0 0 0 0 0 0 0 q = false := by
  unfold wFzq
  simp [anyN]
theorem wF_mem (hj : j < 4) (hi : i < 4) : (fun q => if q = i * 4 + j then (anyN mk (mFzq ss i j) || mFzq ss i j mk) else wFzq ss (i * 4 + j) mk a n b e d q) = wFzq ss (i * 4 + j) (mk + 1) a n b e d := by
  funext q
  unfold wFzq
  by_cases h : q = i * 4 + j
  · subst h
    rw [if_pos rfl, if_pos (by omega), if_neg (by omega), if_pos rfl, show (i * 4 + j) / 4 = i by omega, show (i * 4 + j) % 4 = j by omega, anyN]
  · rw [if_neg h, if_neg h]
    simp only [if_neg h]
theorem wF_memnext (hme : me < 16) : wFzq ss me 4 a n b e d = wFzq ss (me + 1) 0 a n b e d := by
  funext q
  unfold wFzq
  by_cases h : q < 16
  · rw [if_pos h, if_pos h]
    by_cases h1 : q < me
    · rw [if_pos h1, if_pos (by omega)]
    · rw [if_neg h1]
      by_cases h2 : q = me
      · rw [if_pos h2, if_pos (by omega)]; rfl
      · rw [if_neg h2, if_neg (by omega)]
        simp [anyN]
  · rw [if_neg h, if_neg h]
theorem wF_memat (hj : j < 4) (hi : i < 4) : wFzq ss (i * 4 + j) mk a n b e d (i * 4 + j) = anyN mk (mFzq ss i j) := by
  unfold wFzq
  rw [if_pos (by omega), if_neg (by omega), if_pos rfl, show (i * 4 + j) / 4 = i by omega, show (i * 4 + j) % 4 = j by omega]
theorem wF_memof (hj : j < 4) (hi : i < 4) : wFzq ss 16 mk a n b e d (i * 4 + j) = memX ss i j := by
  unfold wFzq
  rw [if_pos (by omega), if_pos (by omega), show (i * 4 + j) / 4 = i by omega, show (i * 4 + j) % 4 = j by omega]
theorem wF_ed (hj : j < 4) (hi : i < 4) : (fun q => if q = 16 + (i * 4 + j) then (anyN d (eFzq ss i j) || eFzq ss i j d) else wFzq ss me mk a n b (i * 4 + j) d q) = wFzq ss me mk a n b (i * 4 + j) (d + 1) := by
  funext q
  unfold wFzq
  by_cases h : q = 16 + (i * 4 + j)
  · subst h
    rw [if_pos rfl, if_neg (by omega), if_pos (by omega), if_neg (by omega), if_pos (by omega), show (16 + (i * 4 + j) - 16) / 4 = i by omega, show (16 + (i * 4 + j) - 16) % 4 = j by omega, anyN]
  · rw [if_neg h]
    by_cases h2 : q < 16
    · rw [if_pos h2, if_pos h2]
    · rw [if_neg h2, if_neg h2, if_neg (show ¬ (q - 16 = i * 4 + j) by omega), if_neg (show ¬ (q - 16 = i * 4 + j) by omega)]
theorem wF_ednext (he : e < 16) : wFzq ss me mk a n b e 4 = wFzq ss me mk a n b (e + 1) 0 := by
  funext q
  unfold wFzq
  by_cases h0 : q < 16
  · rw [if_pos h0, if_pos h0]
  · rw [if_neg h0, if_neg h0]
    by_cases h : q < 32
    · rw [if_pos h, if_pos h]
      by_cases h1 : q - 16 < e
      · rw [if_pos h1, if_pos (by omega)]
      · rw [if_neg h1]
        by_cases h2 : q - 16 = e
        · rw [if_pos h2, if_pos (by omega)]; rfl
        · rw [if_neg h2, if_neg (by omega)]
          simp [anyN]
    · rw [if_neg h, if_neg h]
theorem wF_edat (hj : j < 4) (hi : i < 4) : wFzq ss me mk a n b (i * 4 + j) d (16 + (i * 4 + j)) = anyN d (eFzq ss i j) := by
  unfold wFzq
  rw [if_neg (by omega), if_pos (by omega), if_neg (by omega), if_pos (by omega), show (16 + (i * 4 + j) - 16) / 4 = i by omega, show (16 + (i * 4 + j) - 16) % 4 = j by omega]
theorem wF_edof (hj : j < 4) (hi : i < 4) : wFzq ss me mk a n b 16 d (16 + (i * 4 + j)) = edX ss i j := by
  unfold wFzq
  rw [if_neg (by omega), if_pos (by omega), if_pos (by omega), show (16 + (i * 4 + j) - 16) / 4 = i by omega, show (16 + (i * 4 + j) - 16) % 4 = j by omega]
theorem wF_all (ha : a < 4) : (fun q => if q = 32 + a then hdB ss 6 a 0 else wFzq ss me mk a n b e d q) = wFzq ss me mk (a + 1) n b e d := by
  funext q
  unfold wFzq
  by_cases h : q = 32 + a
  · subst h
    rw [if_pos rfl, if_neg (by omega), if_neg (by omega), if_pos (by omega), show 32 + a - 32 = a by omega, decide_eq_true (by omega), Bool.true_and]
  · rw [if_neg h]
    by_cases h1 : q < 16
    · rw [if_pos h1, if_pos h1]
    · rw [if_neg h1, if_neg h1]
      by_cases h2 : q < 32
      · rw [if_pos h2, if_pos h2]
      · rw [if_neg h2, if_neg h2, show decide (q - 32 < a + 1) = decide (q - 32 < a) from by rw [Bool.eq_iff_iff, decide_eq_true_eq, decide_eq_true_eq]; omega]
theorem wF_allof {q : Nat} (h : q < a) (ha : a ≤ 4) : wFzq ss me mk a n b e d (32 + q) = hdB ss 6 q 0 := by
  unfold wFzq
  rw [if_neg (by omega), if_neg (by omega), if_pos (by omega), show 32 + q - 32 = q by omega, decide_eq_true h, Bool.true_and]
theorem wF_none (hn : n < 4) : (fun q => if q = 36 + n then hdB ss 7 n 0 else wFzq ss me mk a n b e d q) = wFzq ss me mk a (n + 1) b e d := by
  funext q
  unfold wFzq
  by_cases h : q = 36 + n
  · subst h
    rw [if_pos rfl, if_neg (by omega), if_neg (by omega), if_neg (by omega), if_pos (by omega), show 36 + n - 36 = n by omega, decide_eq_true (by omega), Bool.true_and]
  · rw [if_neg h]
    by_cases h1 : q < 16
    · rw [if_pos h1, if_pos h1]
    · rw [if_neg h1, if_neg h1]
      by_cases h2 : q < 32
      · rw [if_pos h2, if_pos h2]
      · rw [if_neg h2, if_neg h2]
        by_cases h3 : q < 36
        · rw [if_pos h3, if_pos h3]
        · rw [if_neg h3, if_neg h3, show decide (q - 36 < n + 1) = decide (q - 36 < n) from by rw [Bool.eq_iff_iff, decide_eq_true_eq, decide_eq_true_eq]; omega]
theorem wF_noneof {q : Nat} (h : q < n) (hn : n ≤ 4) : wFzq ss me mk a n b e d (36 + q) = hdB ss 7 q 0 := by
  unfold wFzq
  rw [if_neg (by omega), if_neg (by omega), if_neg (by omega), if_pos (by omega), show 36 + q - 36 = q by omega, decide_eq_true h, Bool.true_and]
theorem wF_ban (hj : j < 4) (hi : i < 4) : (fun q => if q = 40 + (i * 4 + j) then banX ss i j else wFzq ss me mk a n (i * 4 + j) e d q) = wFzq ss me mk a n (i * 4 + j + 1) e d := by
  funext q
  unfold wFzq
  by_cases h : q = 40 + (i * 4 + j)
  · subst h
    rw [if_pos rfl, if_neg (by omega), if_neg (by omega), if_neg (by omega), if_neg (by omega), show 40 + (i * 4 + j) - 40 = i * 4 + j by omega, decide_eq_true (by omega), Bool.true_and, show (i * 4 + j) / 4 = i by omega, show (i * 4 + j) % 4 = j by omega]
  · rw [if_neg h]
    by_cases h1 : q < 16
    · rw [if_pos h1, if_pos h1]
    · rw [if_neg h1, if_neg h1]
      by_cases h2 : q < 32
      · rw [if_pos h2, if_pos h2]
      · rw [if_neg h2, if_neg h2]
        by_cases h3 : q < 36
        · rw [if_pos h3, if_pos h3]
        · rw [if_neg h3, if_neg h3]
          by_cases h4 : q < 40
          · rw [if_pos h4, if_pos h4]
          · rw [if_neg h4, if_neg h4, show decide (q - 40 < i * 4 + j + 1) = decide (q - 40 < i * 4 + j) from by rw [Bool.eq_iff_iff, decide_eq_true_eq, decide_eq_true_eq]; omega]
theorem wF_banof (hj : j < 4) (hi : i < 4) : wFzq ss me mk a n 16 e d (40 + (i * 4 + j)) = banX ss i j := by
  unfold wFzq
  rw [if_neg (by omega), if_neg (by omega), if_neg (by omega), if_neg (by omega), show 40 + (i * 4 + j) - 40 = i * 4 + j by omega, decide_eq_true (by omega), Bool.true_and, show (i * 4 + j) / 4 = i by omega, show (i * 4 + j) % 4 = j by omega]
end
def rwB (n : Nat) (f : Nat → Bool) : List Bool := (List.range n).map f
theorem rw_get {n i : Nat} (f : Nat → Bool) (h : i < (rwB n f).length) : (rwB n f)[i] = f i := by simp [rwB]
theorem rw_set {n i : Nat} (f : Nat → Bool) (v : Bool) : (rwB n f).set i v = rwB n (fun q => if q = i then v else f q) := by
  apply List.ext_getElem
  · simp [rwB]
  · intro q h1 h2
    rw [List.getElem_set, rw_get, rw_get]
    by_cases e : i = q
    · rw [if_pos e, if_pos e.symm]
    · rw [if_neg e, if_neg (fun e' => e e'.symm)]
theorem rw_congr {n : Nat} {f g : Nat → Bool} (h : ∀ q, q < n → f q = g q) : rwB n f = rwB n g := by
  unfold rwB
  exact List.map_congr_left (fun q hq => h q (List.mem_range.1 hq))
def BkF (w : World) (g n : Nat) (f : Nat → Bool) (T : TypeId) : Prop := ag w g ((rwB n f).map Value.bool).toArray T
section
variable {w w' : World} {g n : Nat} {f f' : Nat → Bool} {T : TypeId}
theorem BkF.cell (h : BkF w g n f T) {i : Nat} (hi : i < n) : w.cell? ⟨g, i, none⟩ = some (.bool (f i)) := ag.cell h (by simp [rwB, hi])
theorem BkF.set (h : BkF w g n f T) (i : Nat) (v : Bool) : BkF (w.setCell ⟨g, i, none⟩ (.bool v)) g n (fun q => if q = i then v else f q) T := by
  have := ag.set h i (.bool v)
  unfold BkF
  rw [← rw_set, List.map_set]
  simpa using this
theorem BkF.congr (h : BkF w g n f T) (e : ∀ q, q < n → f q = f' q) : BkF w g n f' T := by
  unfold BkF at h ⊢
  rw [← rw_congr e]
  exact h
theorem BkF.fz (h : BkF w g n f T) (o : Nat) : w.frozen? ⟨g, o, none⟩ = false := ag.fz h o
theorem BkF.lt (h : BkF w g n f T) : g < w.heap.size := ag.lt h
theorem BkF.below (h : BkF w g n f T) (k : Below w.heap.size w w') : BkF w' g n f T := ag.below h k
end
theorem closeQ_any (g : Nat) (M : Nat → Nat → Bool) (w : World) (h : BkF w g 16 (fun q => M (q / 4) (q % 4)) 96) :
    Calls Tryz.prog 53 #[.pointer (some ⟨g, 0, none⟩)] w fun e w' => e = .returned (.tuple #[]) ∧ aS (fun k => k = g) w w' ∧ BkF w' g 16 (fun q => ledB M 4 (q / 4) (q % 4)) 96 := by
  have H := ae h
  clear h
  go_enter Tryz.func53, Tryz.ntmps53
  go_wp2_with fail
  go_loopw [2] (fun u wr => ∃ k : Nat, u = .int .i64 k ∧ k ≤ 4 ∧ aS (fun k => k = g) w wr ∧ BkF wr g 16 (midB M k 0 0) 96) (fun u _ => 4 - (intOf u).toNat)
  case atStart => exact ⟨0, rfl, by omega, aS.refl _ _, (aa H).congr (fun q hq => by simp [midB, ledB])⟩
  case round =>
    obtain ⟨k, rfl, hk, hb, hm⟩ := hrel
    by_cases hk4 : k < 4
    · have hkn : (k : Int) < 4 := by omega
      have HB := ae hb
      have HM := ae hm
      clear hb hm
      go_wp2_with fail
      go_loopw [3] (fun u wr => ∃ i : Nat, u = .int .i64 i ∧ i ≤ 4 ∧ aS (fun k => k = g) w wr ∧ BkF wr g 16 (midB M k i 0) 96) (fun u _ => 4 - (intOf u).toNat)
      case atStart => exact ⟨0, rfl, by omega, aa HB, aa HM⟩
      case round =>
        obtain ⟨i, rfl, hi, hb, hm⟩ := hrel
        by_cases hi4 : i < 4
        · have hin : (i : Int) < 4 := by omega
          have iK := ae hb
          have QL := ae hm
          clear hb hm HB HM
          go_wp2_with fail
          go_loopw [4] (fun u wr => ∃ j : Nat, u = .int .i64 j ∧ j ≤ 4 ∧ aS (fun k => k = g) w wr ∧ BkF wr g 16 (midB M k i j) 96) (fun u _ => 4 - (intOf u).toNat)
          case atStart => exact ⟨0, rfl, by omega, aa iK, aa QL⟩
          case round =>
            obtain ⟨j, rfl, hj, hb, hm⟩ := hrel
            by_cases NM : j < 4
            · have hjn : (j : Int) < 4 := by omega
              have c1 := hm.cell (i := i * 4 + j) (by omega)
              have c2 := hm.cell (i := i * 4 + k) (by omega)
              have c3 := hm.cell (i := k * 4 + j) (by omega)
              have fz := hm.fz
              rw [mid_at M k i j NM] at c1
              rw [mid_row M k i j i hk4] at c2
              rw [mid_col M k i j j NM] at c3
              have HN := ae (show BkF (wr.setCell ⟨g, i * 4 + j, none⟩ (.bool (ledB M k i j || (ledB M k i k && ledB M k k j)))) g 16 (midB M k i (j + 1)) 96 from by
                have := hm.set (i * 4 + j) (ledB M k i j || (ledB M k i k && ledB M k k j))
                rw [mid_step M k i j NM] at this
                exact this)
              have HS := ae (hb.set (a := ⟨g, i * 4 + j, none⟩) rfl (.bool (ledB M k i j || (ledB M k i k && ledB M k k j))))
              generalize ledB M k i j = a at *
              generalize ledB M k i k = b at *
              generalize ledB M k k j = c at *
              clear hb hm iK QL
              cases a <;> cases b <;> cases c <;> (
                go_wp2_with fail
                go_region
                go_wp2_with fail
                exact ⟨⟨j + 1, by go_num, by omega, (aa HS).drew, ag.drew (aa HN)⟩, by simp [intOf]; omega⟩)
            · obtain rfl : j = 4 := by omega
              have hjn : ¬ ((4 : Int) < 4) := by omega
              have ww := ae hb
              have QC := ae hm
              clear hb hm iK QL
              go_wp2
              go_roundw
              case rel => exact ⟨i + 1, by go_num, by omega, aa ww, by rw [← mid_line]; exact aa QC⟩
              case measure => simp [intOf]; omega
        · obtain rfl : i = 4 := by omega
          have hin : ¬ ((4 : Int) < 4) := by omega
          have ww := ae hb
          have QC := ae hm
          clear hb hm HB HM
          go_wp2
          go_roundw
          case rel => exact ⟨k + 1, by go_num, by omega, aa ww, (aa QC).congr (fun q hq => mid_end M k q hq)⟩
          case measure => simp [intOf]; omega
    · obtain rfl : k = 4 := by omega
      have hkn : ¬ ((4 : Int) < 4) := by omega
      have ww := ae hb
      have QC := ae hm
      clear hb hm
      go_wp2
      go_end0
      exact ⟨rfl, aa ww, (aa QC).congr (fun q hq => by simp [midB])⟩
def fillF (F : Nat → Bool) (n q : Nat) : Bool := if q < n then F q else false
theorem fill_step (F : Nat → Bool) (n : Nat) : (fun q => if q = n then F n else fillF F n q) = fillF F (n + 1) := by
  funext q
  unfold fillF
  by_cases h : q = n
  · subst h
    rw [if_pos rfl, if_pos (by omega)]
  · rw [if_neg h]
    by_cases h2 : q < n
    · rw [if_pos h2, if_pos (by omega)]
    · rw [if_neg h2, if_neg (by omega)]
def ldF (H : Nat → Nat → Bool) (own : Bool) (q : Nat) : Bool := H (q / 4) (q % 4) || (own && decide (q / 4 = q % 4))
theorem ld_at (H : Nat → Nat → Bool) (own : Bool) (i j : Nat) (hj : j < 4) : ldF H own (i * 4 + j) = (H i j || (own && decide (i = j))) := by
  unfold ldF
  rw [show (i * 4 + j) / 4 = i by omega, show (i * 4 + j) % 4 = j by omega]
theorem leadsW (v : Value) (kd : Nat) (own : Bool) (H : Nat → Nat → Bool) (G : Nat → Nat → ByteArray) (w : World)
    (CG : ∀ a b : Nat, a < 4 → b < 4 → ∀ w', Calls Tryz.prog 34 #[.agg #[.int .i64 kd, .int .i64 a, .int .i64 b, .bool false]] w' fun e w'' => e = .returned (.string (G a b)) ∧ Below w'.heap.size w' w'')
    (CP : ∀ a b : Nat, a < 4 → b < 4 → ∀ w', Below w.heap.size w w' → Calls Tryz.prog 32 #[v, .string (G a b)] w' fun e w'' => ∃ r : Int, e = .returned (.int .i64 r) ∧ w'' = w' ∧ (r < 0 ↔ H a b = false)) :
    Calls Tryz.prog 52 #[v, .int .i64 kd, .bool own] w fun e w' => e = .returned (.pointer (some ⟨w.heap.size, 0, none⟩)) ∧ Below w.heap.size w w' ∧ BkF w' w.heap.size 16 (ldF H own) 96 := by
  have HG := ae CG
  have HP := ae CP
  clear CG CP
  go_enter Tryz.func52, Tryz.ntmps52
  go_wp2_with fail
  have HX := ae (show BkF (w.alloc (.cells #[.bool false, .bool false, .bool false, .bool false, .bool false, .bool false, .bool false, .bool false, .bool false, .bool false, .bool false, .bool false, .bool false, .bool false, .bool false, .bool false] 96)) w.heap.size 16 (fillF (ldF H own) 0) 96 from ag.new w _ _)
  have HA := ae ((Below.refl w.heap.size w).alloc (Nat.le_refl _) (.cells #[.bool false, .bool false, .bool false, .bool false, .bool false, .bool false, .bool false, .bool false, .bool false, .bool false, .bool false, .bool false, .bool false, .bool false, .bool false, .bool false] 96))
  go_loopw [8, 9, 10, 11] (fun u _ _ _ wr => ∃ i : Nat, u = .int .i64 i ∧ i ≤ 4 ∧ Below w.heap.size w wr ∧ BkF wr w.heap.size 16 (fillF (ldF H own) (i * 4)) 96) (fun u _ _ _ _ => 4 - (intOf u).toNat)
  case atStart => exact ⟨0, rfl, by omega, aa HA, aa HX⟩
  case round =>
    obtain ⟨i, rfl, hi, hb, hm⟩ := hrel
    by_cases hi4 : i < 4
    · have hin : (i : Int) < 4 := by omega
      have HB := ae hb
      have HM := ae hm
      clear hb hm HX HA
      go_wp2_with fail
      go_loopw [9, 10, 11] (fun u _ _ wr => ∃ j : Nat, u = .int .i64 j ∧ j ≤ 4 ∧ Below w.heap.size w wr ∧ BkF wr w.heap.size 16 (fillF (ldF H own) (i * 4 + j)) 96) (fun u _ _ _ => 4 - (intOf u).toNat)
      case atStart => exact ⟨0, rfl, by omega, aa HB, aa HM⟩
      case round =>
        obtain ⟨j, rfl, hj, hb, hm⟩ := hrel
        by_cases NM : j < 4
        · have hjn : (j : Int) < 4 := by omega
          have C1 := ae (aa HG i j hi4 NM wr)
          have C2 := ae (aa HP i j hi4 NM)
          generalize G i j = S at *
          have iK := ae hb
          have QL := ae hm
          clear hb hm HB HM
          go_wp2_with fail
          refine (aa C1).mono ?_
          rintro e w1 ⟨rfl, hb1⟩
          have B1 := ae ((aa iK).trans (hb1.mono (aa iK).size))
          have M1 := ae ((aa QL).below hb1)
          have C3 := ae (aa C2 w1 (aa B1))
          clear hb1 C1 C2 iK QL
          go_wp2_with fail
          refine (aa C3).mono ?_
          rintro e w2 ⟨r, rfl, hw2, hr⟩
          rw [hw2]
          clear hw2 w2 C3
          have c1 := (aa M1).cell (i := i * 4 + j) (by omega)
          have fz := (aa M1).fz
          have hlt := (aa M1).lt
          generalize fillF (ldF H own) (i * 4 + j) (i * 4 + j) = o1 at c1
          have HN := ae (show ∀ X : Bool, X = (H i j || (own && decide (i = j))) → BkF (w1.setCell ⟨w.heap.size, i * 4 + j, none⟩ (.bool X)) w.heap.size 16 (fillF (ldF H own) (i * 4 + (j + 1))) 96 from fun X hX => by
            have := (aa M1).set (i * 4 + j) (ldF H own (i * 4 + j))
            rw [fill_step, ld_at H own i j NM, ← hX] at this
            exact this)
          have HS := ae (fun X : Bool => (aa B1).setCell (p := ⟨w.heap.size, i * 4 + j, none⟩) (Nat.le_refl _) (.bool X))
          cases hH : H i j
          · have J8 : r < 0 := hr.2 hH
            have hr1 : ¬ ((0 : Int) ≤ r) := by omega
            rw [hH] at HN
            cases own
            · clear hr hH
              go_wp2
              go_roundw
              case rel => exact ⟨_ + 1, by go_num, by omega, aa HS _, aa HN _ (by simp [hr1])⟩
              case measure => simp [intOf]; omega
            · by_cases hij : i = j
              · rw [decide_eq_true hij] at HN
                subst hij
                clear hr hH
                go_wp2
                go_roundw
                case rel => exact ⟨_ + 1, by go_num, by omega, aa HS _, aa HN _ (by simp [hr1])⟩
                case measure => simp [intOf]; omega
              · have Ry : ((i : Int) == (j : Int)) = false := by rw [beq_eq_false_iff_ne]; omega
                have O8 : ¬ ((i : Int) = (j : Int)) := by omega
                rw [decide_eq_false hij] at HN
                clear hr hH hij
                go_wp2
                go_roundw
                case rel => exact ⟨_ + 1, by go_num, by omega, aa HS _, aa HN _ (by simp [hr1])⟩
                case measure => simp [intOf]; omega
          · have J8 : ¬ (r < 0) := fun h => by rw [hr.1 h] at hH; cases hH
            have hr1 : (0 : Int) ≤ r := by omega
            rw [hH, Bool.true_or] at HN
            clear hr hH
            go_wp2
            go_roundw
            case rel => exact ⟨_ + 1, by go_num, by omega, aa HS _, aa HN _ (by simp [hr1])⟩
            case measure => simp [intOf]; omega
        · obtain rfl : j = 4 := by omega
          have hjn : ¬ ((4 : Int) < 4) := by omega
          have ww := ae hb
          have QC := ae hm
          clear hb hm HB HM
          go_wp2
          go_roundw
          case rel => exact ⟨i + 1, by go_num, by omega, aa ww, by rw [show (i + 1) * 4 = i * 4 + 4 by omega]; exact aa QC⟩
          case measure => simp [intOf]; omega
    · obtain rfl : i = 4 := by omega
      have hin : ¬ ((4 : Int) < 4) := by omega
      have ww := ae hb
      have QC := ae hm
      clear hb hm
      go_wp2
      go_ret
      exact ⟨rfl, aa ww, (aa QC).congr (fun q hq => by unfold fillF; rw [if_pos hq])⟩
end Go.Proofs.YtlbpnlngckgcbaaGreatDoor

