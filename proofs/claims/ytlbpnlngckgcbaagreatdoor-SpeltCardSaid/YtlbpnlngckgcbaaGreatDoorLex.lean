import Derived.Test.YtlbpnlngckgcbaaGreatDoorShort
namespace Go.Proofs.YtlbpnlngckgcbaaGreatDoor
open Go.RowKit Go.PlainAid
set_option linter.unusedSimpArgs false
set_option linter.unusedVariables false

/-! The tokens of a text that is put together of blanks and tokens. -/
def flat (ps : List (List UInt8 × List UInt8)) : List UInt8 := ps.flatMap fun p => p.1 ++ p.2
/-- A word, or another byte that is no blank. -/
def TkB (t : List UInt8) : Bool := match t with
  | [] => false
  | c :: r => if letter c.toNat then r.all wordC else !blankC c && r.isEmpty
def isWd (t : List UInt8) : Bool := match t with
  | [] => false
  | c :: _ => letter c.toNat
def endW (l : List UInt8) : Bool := match l with
  | [] => true
  | c :: _ => !wordC c
/-- Every gap is of blanks, every token is one, and no word runs into what follows. -/
def GoodP (tl : List UInt8) : List (List UInt8 × List UInt8) → Bool
  | [] => tl.all blankC
  | (g, t) :: r => g.all blankC && TkB t && (!isWd t || endW (flat r ++ tl)) && GoodP tl r
theorem blank_word (c : UInt8) (h : blankC c = true) : wordC c = false := by
  unfold blankC blank at h
  unfold wordC letter digit
  simp only [Bool.or_eq_true, beq_iff_eq] at h
  rcases h with (h | h) | h <;> rw [h] <;> decide
theorem takeWhile_all {α : Type} (p : α → Bool) (a b : List α) (ha : a.all p = true) (hb : ∀ c r, b = c :: r → p c = false) : (a ++ b).takeWhile p = a := by
  induction a with
  | nil => cases b with
    | nil => rfl
    | cons c r => simp [List.takeWhile, hb c r rfl]
  | cons x a ih =>
    simp only [List.all_cons, Bool.and_eq_true] at ha
    simp [List.takeWhile, ha.1, ih ha.2]
theorem tk_head (t : List UInt8) (h : TkB t = true) : ∃ c r, t = c :: r ∧ blankC c = false := by
  cases t with
  | nil => simp [TkB] at h
  | cons c r =>
    refine ⟨c, r, rfl, ?_⟩
    unfold TkB at h
    cases hb : blankC c
    · rfl
    · have := blank_word c hb
      unfold wordC at this
      simp only [Bool.or_eq_false_iff] at this
      simp [this.1, hb] at h
theorem tokSize_tk (t rest : List UInt8) (h : TkB t = true) (he : isWd t = true → endW rest = true) : tokSize (t ++ rest) = t.length := by
  cases t with
  | nil => simp [TkB] at h
  | cons c r =>
    unfold TkB at h
    simp only [List.cons_append, tokSize]
    cases hl : letter c.toNat
    · simp [hl] at h
      simp [h.2]
    · simp [hl] at h
      simp only [if_true]
      rw [takeWhile_all wordC r rest (by simpa using h) (fun c' r' hr => by
        have := he (by simp [isWd, hl])
        rw [hr] at this
        simpa [endW] using this)]
      simp; omega
/-- One token further. -/
theorem tok_one (pre g t rest : List UInt8) (hg : g.all blankC = true) (ht : TkB t = true) (he : isWd t = true → endW rest = true) :
    skip (pre ++ (g ++ t ++ rest)) pre.length = pre.length + g.length ∧ tokText (pre ++ (g ++ t ++ rest)) (pre.length + g.length) = t := by
  obtain ⟨c, r, hc, hb⟩ := tk_head t ht
  constructor
  · unfold skip
    rw [List.drop_append_of_le_length (Nat.le_refl _), List.drop_length, List.nil_append, List.append_assoc, takeWhile_all blankC g (t ++ rest) hg (fun c' r' hr => by
      rw [hc] at hr
      simp only [List.cons_append, List.cons.injEq] at hr
      rw [← hr.1]
      exact hb)]
  · unfold tokText
    have hd : (pre ++ (g ++ t ++ rest)).drop (pre.length + g.length) = t ++ rest := by
      rw [← List.drop_drop, List.drop_append_of_le_length (Nat.le_refl _), List.drop_length, List.nil_append, List.append_assoc, List.drop_append_of_le_length (Nat.le_refl _), List.drop_length, List.nil_append]
    rw [hd, tokSize_tk t rest ht he]
    simp
theorem tok_end (pre tl : List UInt8) (h : tl.all blankC = true) : skip (pre ++ tl) pre.length = (pre ++ tl).length ∧ tokText (pre ++ tl) (pre ++ tl).length = [] := by
  constructor
  · unfold skip
    rw [List.drop_append_of_le_length (Nat.le_refl _), List.drop_length, List.nil_append]
    have := takeWhile_all blankC tl [] h (by simp)
    rw [List.append_nil] at this
    rw [this]
    simp
  · unfold tokText
    rw [List.drop_length]
    rfl
def toksOf (ps : List (List UInt8 × List UInt8)) : List ByteArray := ps.map fun p => mk p.2

theorem good_split (tl : List UInt8) : ∀ (a : List (List UInt8 × List UInt8)) (g t : List UInt8) (r : List (List UInt8 × List UInt8)), GoodP tl (a ++ (g, t) :: r) = true → g.all blankC = true ∧ TkB t = true ∧ (isWd t = true → endW (flat r ++ tl) = true)
  | [], g, t, r, h => by
    simp only [List.nil_append, GoodP, Bool.and_eq_true, Bool.or_eq_true, Bool.not_eq_true'] at h
    obtain ⟨⟨⟨h1, h2⟩, h3⟩, _⟩ := h
    refine ⟨h1, h2, fun hw => ?_⟩
    rcases h3 with h3 | h3
    · rw [hw] at h3; cases h3
    · exact h3
  | (g', t') :: a, g, t, r, h => by
    simp only [List.cons_append, GoodP, Bool.and_eq_true] at h
    exact good_split tl a g t r h.2
theorem good_tail (tl : List UInt8) : ∀ (a : List (List UInt8 × List UInt8)), GoodP tl a = true → tl.all blankC = true
  | [], h => h
  | (g, t) :: a, h => by
    simp only [GoodP, Bool.and_eq_true] at h
    exact good_tail tl a h.2

/-- Where the tokens stand, and which they are. -/
theorem lex_at (ps : List (List UInt8 × List UInt8)) (tl : List UInt8) (s : ByteArray) (hs : lst s = flat ps ++ tl) (hg : GoodP tl ps = true) : ∀ i, i ≤ ps.length → K s i = (flat (ps.take i)).length
  | 0, _ => by simp [K, flat]
  | i + 1, hi => by
    have ih := lex_at ps tl s hs hg i (by omega)
    have hlt : i < ps.length := by omega
    have hsp : ps = ps.take i ++ ps[i] :: ps.drop (i + 1) := by
      rw [← List.drop_eq_getElem_cons hlt, List.take_append_drop]
    generalize hq : ps[i] = q at *
    obtain ⟨g, t⟩ := q
    rw [hsp] at hg
    obtain ⟨h1, h2, h3⟩ := good_split tl _ g t _ hg
    have hl : lst s = flat (ps.take i) ++ (g ++ t ++ (flat (ps.drop (i + 1)) ++ tl)) := by
      rw [hs]
      conv => lhs; rw [hsp]
      simp [flat]
    obtain ⟨e1, e2⟩ := tok_one (flat (ps.take i)) g t _ h1 h2 h3
    show next s (K s i) = _
    rw [ih]
    unfold next
    unfold tokP tokT
    rw [hl, e1, e2]
    rw [List.take_succ_eq_append_getElem hlt, hq]
    simp [flat, mk, ByteArray.size]
    omega
theorem lex_tok (ps : List (List UInt8 × List UInt8)) (tl : List UInt8) (s : ByteArray) (hs : lst s = flat ps ++ tl) (hg : GoodP tl ps = true) (i : Nat) (hlt : i < ps.length) :
    TT s i = mk ps[i].2 ∧ PP s i = (flat (ps.take i)).length + ps[i].1.length := by
  have ih := lex_at ps tl s hs hg i (by omega)
  have hsp : ps = ps.take i ++ ps[i] :: ps.drop (i + 1) := by
    rw [← List.drop_eq_getElem_cons hlt, List.take_append_drop]
  generalize hq : ps[i] = q at *
  obtain ⟨g, t⟩ := q
  rw [hsp] at hg
  obtain ⟨h1, h2, h3⟩ := good_split tl _ g t _ hg
  have hl : lst s = flat (ps.take i) ++ (g ++ t ++ (flat (ps.drop (i + 1)) ++ tl)) := by
    rw [hs]
    conv => lhs; rw [hsp]
    simp [flat]
  obtain ⟨e1, e2⟩ := tok_one (flat (ps.take i)) g t _ h1 h2 h3
  unfold TT PP tokP tokT
  rw [ih, hl, e1, e2]
  exact ⟨rfl, rfl⟩
theorem lex_end (ps : List (List UInt8 × List UInt8)) (tl : List UInt8) (s : ByteArray) (hs : lst s = flat ps ++ tl) (hg : GoodP tl ps = true) : ∀ i, TT s (ps.length + i) = em ∧ (K s (ps.length + i) = (flat ps).length ∨ K s (ps.length + i) = (flat ps ++ tl).length)
  | 0 => by
    have ih := lex_at ps tl s hs hg ps.length (Nat.le_refl _)
    rw [List.take_length] at ih
    obtain ⟨e1, e2⟩ := tok_end (flat ps) tl (good_tail tl ps hg)
    refine ⟨?_, .inl ih⟩
    show tokT s (K s ps.length) = em
    unfold tokT
    rw [ih, hs, e1, e2]
    rfl
  | i + 1 => by
    obtain ⟨_, h⟩ := lex_end ps tl s hs hg i
    obtain ⟨e1, e2⟩ := tok_end (flat ps) tl (good_tail tl ps hg)
    obtain ⟨f1, f2⟩ := tok_end (flat ps ++ tl) [] rfl
    rw [List.append_nil] at f1 f2
    have hk : K s (ps.length + (i + 1)) = (flat ps ++ tl).length := by
      show next s (K s (ps.length + i)) = _
      unfold next tokP tokT
      rcases h with h | h
      · rw [h, hs, e1, e2]; rfl
      · rw [h, hs, f1, e2]; rfl
    refine ⟨?_, .inr hk⟩
    show tokT s (K s (ps.length + (i + 1))) = em
    unfold tokT
    rw [hk, hs, f1, e2]
    rfl
theorem lex_all (ps : List (List UInt8 × List UInt8)) (tl : List UInt8) (s : ByteArray) (hs : lst s = flat ps ++ tl) (hg : GoodP tl ps = true) : TT s = fun i => (toksOf ps).getD i em := by
  funext i
  rcases Nat.lt_or_ge i ps.length with h | h
  · rw [(lex_tok ps tl s hs hg i h).1]
    simp [toksOf, List.getD, List.getElem?_eq_getElem h]
  · obtain ⟨d, rfl⟩ : ∃ d, i = ps.length + d := ⟨i - ps.length, by omega⟩
    rw [(lex_end ps tl s hs hg d).1]
    simp [toksOf, List.getD]
end Go.Proofs.YtlbpnlngckgcbaaGreatDoor
