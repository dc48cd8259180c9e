import Derived.Test.YtlbpnlngckgcbaaGreatDoorM01
import Derived.Deep.AppendLies
import Derived.Laws.ResultCell
import Derived.Laws.Rows
namespace Go.Proofs.YtlbpnlngckgcbaaGreatDoor
open Go.RowKit Go.PlainAid
set_option linter.unusedSimpArgs false
set_option linter.unusedVariables false
/-! The program's reading of a model, as plain functions of the tokens: T i: the text of token i, P i: its place. -/
structure Gr where
 ty : ByteArray
 tp : Nat
 reach : Nat
 rel : ByteArray
 rp : Nat
structure Nd where
 kind : Nat
 place : Nat
 n1 : ByteArray
 p1 : Nat
 n2 : ByteArray
 p2 : Nat
 gs : List Gr
structure Ex where
 nd : Nd
 l : Option Ex
 r : Option Ex
structure Rl where
 name : ByteArray
 place : Nat
 body : Ex
structure Ty where
 name : ByteArray
 place : Nat
 rels : List Rl
abbrev Res (α : Type) := Except (Nat × Nat) (α × Nat)
def em : ByteArray := ⟨#[]⟩
def sg (c : UInt8) : ByteArray := ⟨#[c]⟩
def sType : ByteArray := ⟨#[116, 121, 112, 101]⟩
section
variable (T : Nat → ByteArray) (P : Nat → Nat)
def nameR (i : Nat) : Res Unit := if isNm (T i) then (if 8 < (T i).size then .error (3, i) else .ok ((), i + 1)) else .error (2, i)
def nameThenR (x : ByteArray) (i : Nat) : Res Unit := match nameR T i with
 | .error e => .error e
 | .ok (_, j) => if eqs (T j) x then .ok ((), j + 1) else .error (2, j)
def grantR (i : Nat) : Res Gr := match nameR T i with
 | .error e => .error e
 | .ok (_, j) => if eqs (T j) (sg 42) then .ok (⟨T i, P i, 1, em, 0⟩, j + 1)
  else if eqs (T j) (sg 35) then (match nameR T (j + 1) with
   | .error e => .error e
   | .ok (_, m) => .ok (⟨T i, P i, 2, T (j + 1), P (j + 1)⟩, m))
  else .ok (⟨T i, P i, 0, em, 0⟩, j)
def listL : Nat → List Gr → Nat → Res (List Gr)
 | 0, _, i => .error (0, i)
 | f + 1, acc, i => match grantR T P (i + 1) with
  | .error e => .error e
  | .ok (g, j) => if eqs (T j) (sg 44) then listL f (acc ++ [g]) j
   else if eqs (T j) (sg 93) then .ok (acc ++ [g], j + 1) else .error (2, j)
def listE (i : Nat) (gs : List Gr) : Ex := ⟨⟨0, P i, em, 0, em, 0, gs⟩, none, none⟩
def listR (i : Nat) : Res Ex := match listL T P 512 [] i with
 | .error e => .error e
 | .ok (gs, j) => .ok (listE P i gs, j)
def ownTie (i : Nat) : Res Ex := match nameR T i with
 | .error e => .error e
 | .ok (_, j) => if eqs (T j) (sg 46) then (match nameR T (j + 1) with
   | .error e => .error e
   | .ok (_, m) => .ok (⟨⟨2, P i, T i, P i, T (j + 1), P (j + 1), []⟩, none, none⟩, m))
  else .ok (⟨⟨1, P i, T i, P i, em, 0, []⟩, none, none⟩, j)
def unitR (room : Bool) (inner : Nat → Res Ex) (i : Nat) : Res Ex :=
 if eqs (T i) (sg 91) then listR T P i
 else if eqs (T i) (sg 40) then
  (if room then (match inner (i + 1) with
   | .error e => .error e
   | .ok (x, j) => if eqs (T j) (sg 41) then .ok (x, j + 1) else .error (2, j))
  else .error (3, i))
 else ownTie T P i
def kindOf (t : ByteArray) : Nat := if eqs t (sg 124) then 3 else if eqs t (sg 38) then 4 else 5
def joinE (t : ByteArray) (p : Nat) (x y : Ex) : Ex := ⟨⟨kindOf t, p, em, 0, em, 0, []⟩, some x, some y⟩
def joinL (signs : List ByteArray) (part : Nat → Res Ex) : Nat → Ex → Nat → Res Ex
 | 0, _, i => .error (0, i)
 | f + 1, x, i => if anyEq (T i) signs then (match part (i + 1) with
   | .error e => .error e
   | .ok (y, j) => joinL signs part f (joinE (T i) (P i) x y) j)
  else .ok (x, i)
def joinR (signs : List ByteArray) (part : Nat → Res Ex) (i : Nat) : Res Ex := match part i with
 | .error e => .error e
 | .ok (x, j) => joinL T P signs part 512 x j
def chainR (room : Bool) (inner : Nat → Res Ex) (i : Nat) : Res Ex := joinR T P [sg 38, sg 45] (unitR T P room inner) i
def exprR : Nat → Nat → Res Ex
 | 0, i => joinR T P [sg 124] (chainR T P false (fun _ => .error (0, 0))) i
 | n + 1, i => joinR T P [sg 124] (chainR T P true (exprR n)) i
def relR (i : Nat) : Res Rl := match nameThenR T (sg 58) i with
 | .error e => .error e
 | .ok (_, j) => match exprR T P 4 j with
  | .error e => .error e
  | .ok (x, m) => if eqs (T m) (sg 59) then .ok (⟨T i, P i, x⟩, m + 1) else .error (2, m)
def relsL : Nat → List Rl → Nat → Res (List Rl)
 | 0, _, i => .error (0, i)
 | f + 1, acc, i => if eqs (T i) (sg 125) then .ok (acc, i + 1)
  else if isNm (T i) && acc.length == 6 then .error (3, i)
  else match relR T P i with
   | .error e => .error e
   | .ok (r, j) => relsL f (acc ++ [r]) j
def typeR (i : Nat) : Res Ty := if eqs (T i) sType then (match nameThenR T (sg 123) (i + 1) with
  | .error e => .error e
  | .ok (_, j) => match relsL T P 512 [] j with
   | .error e => .error e
   | .ok (rs, m) => .ok (⟨T (i + 1), P (i + 1), rs⟩, m))
 else .error (2, i)
def modelL : Nat → List Ty → Nat → Res (List Ty)
 | 0, _, i => .error (0, i)
 | f + 1, acc, i => if eqs (T i) em then .ok (acc, i)
  else if eqs (T i) sType && acc.length == 5 then .error (3, i)
  else match typeR T P i with
   | .error e => .error e
   | .ok (t, j) => modelL f (acc ++ [t]) j
def modelR : Res (List Ty) := modelL T P 512 [] 0
end
/-! Where the tokens of a text stand. -/
def K (s : ByteArray) : Nat → Nat
 | 0 => 0
 | i + 1 => next s (K s i)
def TT (s : ByteArray) (i : Nat) : ByteArray := tokT s (K s i)
def PP (s : ByteArray) (i : Nat) : Nat := tokP s (K s i)
/-- The reader in block b stands at token i; every token ahead of it is no empty one. -/
structure At (w : World) (b : Nat) (s : ByteArray) (i d : Nat) : Prop where
 pos : Pos w b s (K s i) d
 good : i ≤ K s i
theorem At.le {w : World} {b : Nat} {s : ByteArray} {i d : Nat} (h : At w b s i d) : i ≤ s.size := Nat.le_trans h.good h.pos.le
theorem At.below {w w' : World} {b : Nat} {s : ByteArray} {i d : Nat} (h : At w b s i d) (k : Below w.heap.size w w') : At w' b s i d := ⟨h.pos.below k, h.good⟩
theorem At.alloc {w : World} {b : Nat} {s : ByteArray} {i d : Nat} (h : At w b s i d) (o : Obj) : At (w.alloc o) b s i d := ⟨h.pos.alloc o, h.good⟩
theorem At.drew {w : World} {b : Nat} {s : ByteArray} {i d : Nat} (h : At w b s i d) : At w.drew b s i d := ⟨h.pos.drew, h.good⟩
theorem At.setNew {w : World} {b : Nat} {s : ByteArray} {i d : Nat} (h : At w b s i d) {a : Addr} (ha : a.block ≠ b) (u : Value) : At (w.setCell a u) b s i d := ⟨h.pos.setNew ha u, h.good⟩
theorem At.lt {w : World} {b : Nat} {s : ByteArray} {i d : Nat} (h : At w b s i d) : b < w.heap.size := h.pos.rd.lt
theorem At.grown {w w' : World} {b : Nat} {s : ByteArray} {i d : Nat} {row : Option Nat} (h : At w b s i d) (k : w.grownBy w' row) (hb : some b ≠ row) : At w' b s i d := ⟨⟨h.pos.rd.of_block (k.block b h.lt hb), h.pos.le⟩, h.good⟩
theorem skip_ge (l : List UInt8) (k : Nat) : k ≤ skip l k := by unfold skip; omega
theorem good_succ {s : ByteArray} {i : Nat} (h : i ≤ K s i) (ht : 0 < (TT s i).size) : i + 1 ≤ K s (i + 1) := by
 show i + 1 ≤ tokP s (K s i) + (tokT s (K s i)).size
 have := skip_ge (lst s) (K s i)
 unfold TT at ht
 unfold tokP
 omega
theorem At.next {w : World} {b : Nat} {s : ByteArray} {i d : Nat} (h : Pos w b s (next s (K s i)) d) (hg : i ≤ K s i) (ht : 0 < (TT s i).size) : At w b s (i + 1) d := ⟨h, good_succ hg ht⟩
theorem isNm_pos {t : ByteArray} (h : isNm t = true) : 0 < t.size := by
 rw [← lst_length]
 unfold isNm at h
 generalize lst t = l at *
 cases l with
 | nil => simp at h
 | cons c r => simp
theorem eqs_pos {t x : ByteArray} (h : eqs t x = true) (hx : 0 < (lst x).length) : 0 < t.size := by
 rw [← lst_length]
 unfold eqs at h
 rw [beq_iff_eq] at h
 rw [h]; exact hx
/-- An interface value. -/
def IsI (v : Value) : Prop := v = .nilIface ∨ ∃ t x, v = .iface t x
/-- What a call that reads something leaves: what was read, or what is wrong, and where the reader stands. -/
def Post {α : Type} (b : Nat) (s : ByteArray) (d : Nat) (w : World) (r : Res α) (rep : World → α → Value → Prop) (bad : Value → Prop) (e : Ending) (w' : World) : Prop :=
 But b w w' ∧ match r with
  | .ok (x, j) => ∃ v, e = .returned (.tuple #[v, .nilIface]) ∧ rep w' x v ∧ At w' b s j d
  | .error (c, j) => ∃ v d', e = .returned (.tuple #[v, errv c]) ∧ bad v ∧ At w' b s j d'
theorem name_post (b : Nat) (s : ByteArray) (i d : Nat) (w : World) (hs : s.size ≤ maxLen) (h : At w b s i d) :
  Calls Tryz.prog 221 #[.pointer (some ⟨b, 0, none⟩)] w (Post b s d w (nameR (TT s) i) (fun _ _ v => v = nmv s (K s i)) (fun v => v = nm0)) := by
 unfold nameR
 cases hn : isNm (TT s i)
 ·refine (name_text b s (K s i) d w hs h.pos hn).mono ?_
  rintro e w' ⟨rfl, h1, h2⟩
  exact ⟨But.of_below h2, nm0, d, rfl, rfl, h1, h.good⟩
 ·by_cases hl : 8 < (TT s i).size
  ·simp only [hl, if_true]
   refine (name_size b s (K s i) d w hs h.pos hn hl).mono ?_
   rintro e w' ⟨rfl, h1, h2⟩
   exact ⟨But.of_below h2, nm0, d, rfl, rfl, h1, h.good⟩
  ·simp only [hl, if_true, if_false]
   refine (name_ok b s (K s i) d w hs h.pos hn (by unfold TT at hl; omega)).mono ?_
   rintro e w' ⟨rfl, h1, h2⟩
   exact ⟨h2, _, rfl, rfl, At.next h1 h.good (isNm_pos hn)⟩
/-! The tokens, as the document's own reader makes them. -/
structure Tk where
 text : List UInt8
 place : Nat
 word : Bool
def tkCells (t : Tk) : List Value := [.string (mk t.text), .int .i64 t.place, .bool t.word]
def tksCells (l : List Tk) : List Value := l.flatMap tkCells
def extT (l : List Tk) (c : UInt8) : List Tk := match l.getLast? with
 | none => l
 | some t => l.dropLast ++ [⟨t.text ++ [c], t.place, t.word⟩]
def stepT (i : Nat) (c : UInt8) (x : List Tk × Bool) : List Tk × Bool :=
 if blankC c then (x.1, false) else if x.2 && wordC c then (extT x.1 c, x.2) else (x.1 ++ [⟨[c], i, letter c.toNat⟩], letter c.toNat)
def foldT : Nat → List UInt8 → List Tk × Bool → List Tk × Bool
 | _, [], x => x
 | i, c :: r, x => foldT (i + 1) r (stepT i c x)
def endT (n : Nat) : Tk := ⟨[], n, false⟩
/-- The tokens from place k on. -/
def toksK (s : ByteArray) (k : Nat) : List Tk := (foldT k ((lst s).drop k) ([], false)).1 ++ [endT s.size]
theorem extT_last (l : List Tk) (t : Tk) (c : UInt8) : extT (l ++ [t]) c = l ++ [⟨t.text ++ [c], t.place, t.word⟩] := by
 simp [extT]
theorem foldT_pre : ∀ (r : List UInt8) (i : Nat) (l m : List Tk) (o : Bool), (o = true → m ≠ []) → (foldT i r (l ++ m, o)).1 = l ++ (foldT i r (m, o)).1 := by
 intro r
 induction r with
 | nil => intro i l m o _; rfl
 | cons c r ih =>
  intro i l m o ho
  simp only [foldT, stepT]
  split
  ·exact ih _ _ _ _ (by simp)
  ·split
   ·rename_i h
    rw [Bool.and_eq_true] at h
    have hm := ho h.1
    obtain ⟨m0, t, rfl⟩ : ∃ m0 t, m = m0 ++ [t] := ⟨m.dropLast, m.getLast hm, (List.dropLast_concat_getLast hm).symm⟩
    rw [← List.append_assoc, extT_last, extT_last, List.append_assoc]
    exact ih _ _ _ _ (by simp)
   ·rw [List.append_assoc]
    exact ih _ _ _ _ (by simp)
theorem foldT_blank : ∀ (r : List UInt8) (i : Nat) (l : List Tk), foldT i r (l, false) = foldT (i + (r.takeWhile blankC).length) (r.drop (r.takeWhile blankC).length) (l, false) := by
 intro r
 induction r with
 | nil => intro i l; rfl
 | cons c r ih =>
  intro i l
  cases h : blankC c
  ·simp [List.takeWhile_cons, h]
  ·simp only [List.takeWhile_cons, h, if_true, List.length_cons, List.drop_succ_cons]
   conv => lhs; simp only [foldT, stepT, h, if_true]
   rw [ih, show i + 1 + (r.takeWhile blankC).length = i + ((r.takeWhile blankC).length + 1) by omega]
theorem word_blankR (c : UInt8) (h : wordC c = true) : blankC c = false := by
 unfold wordC letter digit at h
 unfold blankC blank
 simp at h ⊢
 omega
theorem foldT_word : ∀ (r : List UInt8) (i : Nat) (l : List Tk) (t : Tk), (foldT i r (l ++ [t], true)).1 = l ++ ⟨t.text ++ r.takeWhile wordC, t.place, t.word⟩ :: (foldT (i + (r.takeWhile wordC).length) (r.drop (r.takeWhile wordC).length) ([], false)).1 := by
 intro r
 induction r with
 | nil => intro i l t; simp [foldT]
 | cons c r ih =>
  intro i l t
  cases h : wordC c
  ·simp only [List.takeWhile_cons, h, Bool.false_eq_true, if_false, List.length_nil, List.drop_zero, Nat.add_zero, List.append_nil]
   have e : foldT i (c :: r) (l ++ [t], true) = foldT i (c :: r) (l ++ [t], false) := by
    simp only [foldT, stepT, h, Bool.and_false, Bool.false_eq_true, if_false]
   rw [e]
   have := foldT_pre (c :: r) i (l ++ [t]) [] false (by simp)
   rw [List.append_nil] at this
   rw [this]
   simp
  ·have hb := word_blankR c h
   simp only [List.takeWhile_cons, h, if_true, List.length_cons, List.drop_succ_cons]
   conv => lhs; simp only [foldT, stepT, h, hb, Bool.false_eq_true, if_false, Bool.and_self, if_true, extT_last]
   rw [ih]
   simp only [List.append_assoc, List.cons_append, List.nil_append]
   rw [show i + 1 + (r.takeWhile wordC).length = i + ((r.takeWhile wordC).length + 1) by omega]
def wordT (t : ByteArray) : Bool := match lst t with
 | [] => false
 | c :: _ => letter c.toNat
/-- The token from k on. -/
def tkK (s : ByteArray) (k : Nat) : Tk := ⟨lst (tokT s k), tokP s k, wordT (tokT s k)⟩
theorem drop_skip (l : List UInt8) (k : Nat) (c : UInt8) (r : List UInt8) (h : l.drop (skip l k) = c :: r) : blankC c = false := by
 have : (l.drop k).drop ((l.drop k).takeWhile blankC).length = c :: r := by
  rw [List.drop_drop]; exact h
 generalize l.drop k = m at this
 clear h
 induction m with
 | nil => simp at this
 | cons a m ih =>
  cases ha : blankC a
  ·simp only [List.takeWhile_cons, ha, Bool.false_eq_true, if_false, List.length_nil, List.drop_zero, List.cons.injEq] at this
   rw [← this.1]; exact ha
  ·simp only [List.takeWhile_cons, ha, if_true, List.length_cons, List.drop_succ_cons] at this
   exact ih this
theorem toksK_end (s : ByteArray) (k : Nat) (hk : k ≤ s.size) (h : (tokT s k).size = 0) : toksK s k = [tkK s k] := by
 have hd : (lst s).drop (skip (lst s) k) = [] := by
  cases hc : (lst s).drop (skip (lst s) k) with
  | nil => rfl
  | cons c r =>
   exfalso
   rw [← lst_length] at h
   unfold tokT tokText at h
   rw [lst_mk, List.length_take] at h
   rw [hc] at h
   simp only [tokSize, List.length_cons] at h
   split at h <;> omega
 have hp : tokP s k = s.size := by
  have h1 : s.size ≤ skip (lst s) k := by rw [← lst_length]; exact List.drop_eq_nil_iff.1 hd
  have h2 := tok_fits s k hk
  unfold next tokP at *
  omega
 unfold toksK tkK
 rw [foldT_blank]
 have : ((lst s).drop k).drop (((lst s).drop k).takeWhile blankC).length = [] := by rw [List.drop_drop]; exact hd
 rw [this, hp]
 have ht : lst (tokT s k) = [] := List.eq_nil_of_length_eq_zero (by rw [lst_length]; exact h)
 simp only [foldT, List.nil_append, endT, ht]
 unfold wordT
 rw [ht]
theorem toksK_cons (s : ByteArray) (k : Nat) (h : 0 < (tokT s k).size) : toksK s k = tkK s k :: toksK s (next s k) := by
 cases hc : (lst s).drop (skip (lst s) k) with
 | nil =>
  exfalso
  rw [← lst_length] at h
  unfold tokT tokText at h
  rw [lst_mk, hc] at h
  simp at h
 | cons c r =>
  have hb := drop_skip _ _ _ _ hc
  have ht : lst (tokT s k) = (c :: r).take (tokSize (c :: r)) := by
   unfold tokT tokText
   rw [lst_mk, hc]
  have hn : next s k = skip (lst s) k + (lst (tokT s k)).length := by unfold next tokP; rw [lst_length]
  unfold toksK
  rw [foldT_blank]
  have e1 : ((lst s).drop k).drop (((lst s).drop k).takeWhile blankC).length = c :: r := by rw [List.drop_drop]; exact hc
  have e2 : k + (((lst s).drop k).takeWhile blankC).length = skip (lst s) k := rfl
  rw [e1, e2]
  have hw : wordT (tokT s k) = letter c.toNat := by
   obtain ⟨m, hm⟩ : ∃ m, tokSize (c :: r) = m + 1 := by
    simp only [tokSize]
    split
    ·exact ⟨_, Nat.add_comm 1 _⟩
    ·exact ⟨0, rfl⟩
   unfold wordT
   rw [ht, hm]
   rfl
  have hd : ∀ n, (lst s).drop (skip (lst s) k + n) = (c :: r).drop n := fun n => by rw [← List.drop_drop, hc]
  cases hl : letter c.toNat
  ·have hwc : wordC c = true ∨ wordC c = false := by cases wordC c <;> simp
   have hz : tokSize (c :: r) = 1 := by simp [tokSize, hl]
   have hlen : (lst (tokT s k)).length = 1 := by rw [ht, hz]; simp
   rw [hn, hlen, hd 1]
   conv => lhs; simp only [foldT, stepT, hb, hl, Bool.false_eq_true, if_false, Bool.false_and]
   have := foldT_pre r (skip (lst s) k + 1) [⟨[c], skip (lst s) k, false⟩] [] false (by simp)
   rw [List.append_nil] at this
   simp only [List.nil_append, this, List.cons_append]
   unfold tkK
   rw [hw, hl, ht, hz]
   rfl
  ·have hz : tokSize (c :: r) = 1 + (r.takeWhile wordC).length := by simp [tokSize, hl]
   have hlen : (lst (tokT s k)).length = 1 + (r.takeWhile wordC).length := by
    rw [ht, hz, List.length_take]
    have := (List.takeWhile_sublist wordC (l := r)).length_le
    simp
    omega
   rw [hn, hlen, hd]
   conv => lhs; simp only [foldT, stepT, hb, hl, Bool.false_eq_true, if_false, Bool.false_and]
   have := foldT_word r (skip (lst s) k + 1) [] ⟨[c], skip (lst s) k, true⟩
   simp only [List.nil_append] at this ⊢
   rw [this]
   unfold tkK
   rw [hw, hl, ht, hz]
   have hp : List.take (r.takeWhile wordC).length r = r.takeWhile wordC := (List.prefix_iff_eq_take.1 (List.takeWhile_prefix wordC)).symm
   rw [show skip (lst s) k + 1 + (r.takeWhile wordC).length = skip (lst s) k + (1 + (r.takeWhile wordC).length) by omega, show (c :: r).drop (1 + (r.takeWhile wordC).length) = r.drop (r.takeWhile wordC).length by rw [Nat.add_comm]; rfl, show (c :: r).take (1 + (r.takeWhile wordC).length) = c :: r.takeWhile wordC by rw [Nat.add_comm, List.take_succ_cons, hp]]
   rfl
/-- All tokens of a text, the end behind them. -/
def toks (s : ByteArray) : List Tk := toksK s 0
/-- No token ahead of the i-th is the end. -/
def Gd (s : ByteArray) (i : Nat) : Prop := ∀ j, j < i → 0 < (TT s j).size
theorem K_le (s : ByteArray) : ∀ i, K s i ≤ s.size
 | 0 => Nat.zero_le _
 | i + 1 => tok_fits s (K s i) (K_le s i)
theorem toks_drop (s : ByteArray) : ∀ i, Gd s i → (toks s).drop i = toksK s (K s i)
 | 0, _ => rfl
 | i + 1, h => by
  have ih := toks_drop s i (fun j hj => h j (by omega))
  rw [← List.drop_drop, ih, toksK_cons s (K s i) (h i (by omega))]
  rfl
theorem toks_at (s : ByteArray) (i : Nat) (h : Gd s i) : (toks s)[i]? = some ⟨lst (TT s i), PP s i, wordT (TT s i)⟩ := by
 have e : (toks s)[i]? = ((toks s).drop i)[0]? := by rw [List.getElem?_drop]; rfl
 rw [e, toks_drop s i h]
 by_cases hz : (tokT s (K s i)).size = 0
 ·rw [toksK_end s (K s i) (K_le s i) hz]; rfl
 ·rw [toksK_cons s (K s i) (by omega)]; rfl
theorem foldT_len : ∀ (r : List UInt8) (i : Nat) (x : List Tk × Bool), (foldT i r x).1.length ≤ x.1.length + r.length := by
 intro r
 induction r with
 | nil => intro i x; simp [foldT]
 | cons c r ih =>
  intro i x
  have := ih (i + 1) (stepT i c x)
  simp only [foldT]
  have h2 : (stepT i c x).1.length ≤ x.1.length + 1 := by
   unfold stepT
   split
   ·simp
   ·split
    ·unfold extT
     split
     ·simp
     ·simp
      try omega
    ·simp
  simp only [List.length_cons]
  omega
theorem toks_len (s : ByteArray) : (toks s).length ≤ s.size + 1 := by
 unfold toks toksK
 have := foldT_len ((lst s).drop 0) 0 ([], false)
 simp only [List.drop_zero, List.length_nil, lst_length] at this
 simp only [List.drop_zero, List.length_append, List.length_cons, List.length_nil]
 omega
def IsNm (v : Value) : Prop := ∃ (p : Nat) (t : ByteArray), v = .agg #[.int .i64 p, .string t]
theorem Blk.two {w : World} {g : Nat} {x y : Value} {T : TypeId} (h : Blk w g #[x, y] T) : w.cell? ⟨g, 0, none⟩ = some x ∧ w.cell? ⟨g, 1, none⟩ = some y := ⟨h.cell rfl, h.cell rfl⟩
theorem Blk.three {w : World} {g : Nat} {x y z : Value} {T : TypeId} (h : Blk w g #[x, y, z] T) : w.cell? ⟨g, 0, none⟩ = some x ∧ w.cell? ⟨g, 1, none⟩ = some y ∧ w.cell? ⟨g, 2, none⟩ = some z := ⟨h.cell rfl, h.cell rfl, h.cell rfl⟩
theorem Blk.five {w : World} {g : Nat} {x y z u v : Value} {T : TypeId} (h : Blk w g #[x, y, z, u, v] T) : w.cell? ⟨g, 0, none⟩ = some x ∧ w.cell? ⟨g, 1, none⟩ = some y ∧ w.cell? ⟨g, 2, none⟩ = some z ∧ w.cell? ⟨g, 3, none⟩ = some u ∧ w.cell? ⟨g, 4, none⟩ = some v := ⟨h.cell rfl, h.cell rfl, h.cell rfl, h.cell rfl, h.cell rfl⟩
theorem res_ct {P : Program} {fn : Func} {p u : Tmp} {ty : TypeId} (h : fn.results = #[.cell p ty, .tmp u]) (tmps : Array Value) (w : World) (g : Nat) (cs : Array Value) (t : TypeId) (e : Value) (d : TypeDesc)
  (hp : tmps.getD p undef = .pointer (some ⟨g, 0, none⟩)) (hq : tmps.getD u undef = e) (hb : Blk w g cs t)
  (hu : P.underlying ty = some d) (hd : (match d with | .struct _ | .array _ _ => true | _ => false) = true) (hi : (P.info? ty).map (·.size) = some cs.size) :
  (results fn tmps).run P w = .ok (.tuple #[.agg cs, e]) w := by
 rw [results_cell_tmp h, hp, hq]
 simp [asAddr, run_loadVar_row w g t ty cs (0, 0) d hb hu hd hi]
theorem takes_yes (b : Nat) (s : ByteArray) (i d : Nat) (x : ByteArray) (w : World) (hs : s.size ≤ maxLen) (h : At w b s i d) (he : eqs (TT s i) x = true) (hx : 0 < (lst x).length) :
  Calls Tryz.prog 169 #[.pointer (some ⟨b, 0, none⟩), .string x] w fun e w' => e = .returned .nilIface ∧ At w' b s (i + 1) d ∧ But b w w' := by
 refine (take_yes b s (K s i) d x w hs h.pos he).mono ?_
 rintro e w' ⟨rfl, h1, h2⟩
 exact ⟨rfl, At.next h1 h.good (eqs_pos he hx), h2⟩
theorem takes_no (b : Nat) (s : ByteArray) (i d : Nat) (x : ByteArray) (w : World) (h : At w b s i d) (he : eqs (TT s i) x = false) :
  Calls Tryz.prog 169 #[.pointer (some ⟨b, 0, none⟩), .string x] w fun e w' => e = .returned (errv 2) ∧ At w' b s i d ∧ But b w w' := by
 refine (take_no b s (K s i) d x w h.pos he).mono ?_
 rintro e w' ⟨rfl, h1, h2⟩
 exact ⟨rfl, ⟨h1, h.good⟩, But.of_below h2⟩
theorem steps (b : Nat) (s : ByteArray) (i d : Nat) (w : World) (hs : s.size ≤ maxLen) (h : At w b s i d) (ht : 0 < (TT s i).size) :
  Calls Tryz.prog 220 #[.pointer (some ⟨b, 0, none⟩)] w fun e w' => e = .returned (.tuple #[]) ∧ At w' b s (i + 1) d ∧ But b w w' := by
 refine (step_pos b s (K s i) d w hs h.pos).mono ?_
 rintro e w' ⟨rfl, h1, h2⟩
 exact ⟨rfl, At.next h1 h.good ht, h2⟩
theorem ats (b : Nat) (s : ByteArray) (i d g cap : Nat) (x : ByteArray) (w : World) (h : At w b s i d) (hc : w.cell? ⟨g, 0, none⟩ = some (.string x)) :
  Calls Tryz.prog 113 #[.pointer (some ⟨b, 0, none⟩), .slice (some ⟨g, 0, none⟩) 1 cap] w fun e w' => e = .returned (.bool (eqs (TT s i) x)) ∧ w' = w :=
 at1 b s (K s i) d g cap x w h.pos hc
set_option maxHeartbeats 1000000 in
set_option maxRecDepth 100000 in
theorem nameThen_bad (b : Nat) (s : ByteArray) (i d : Nat) (x : ByteArray) (w : World) (hs : s.size ≤ maxLen) (h : At w b s i d) (c j : Nat) (hr : nameR (TT s) i = .error (c, j)) :
  Calls Tryz.prog 170 #[.pointer (some ⟨b, 0, none⟩), .string x] w (Post b s d w (.error (c, j) : Res Unit) (fun _ _ v => v = nmv s (K s i)) IsNm) := by
 have hlt := h.lt
 have C := hide (name_post b s i d (w.alloc (.cells #[.int .i64 0, .string ⟨#[]⟩] 107)) hs (h.alloc _))
 rw [hr] at C
 clear hr
 go_enter Tryz.func170, Tryz.ntmps170
 go_wp2_with fail
 refine (uh C).mono ?_
 rintro e w1 ⟨b1, v, d', rfl, rfl, a1⟩
 have A1 := hide a1
 have B1 := hide (((But.refl b w).alloc _).trans b1)
 have R := (Blk.new w #[.int .i64 0, .string ⟨#[]⟩] 107).but b1 (by omega)
 obtain ⟨r0, r1⟩ := R.two
 have z := R.fz
 have hsz := R.lt
 have HR := hide R
 clear a1 b1 C h hs R
 unfold errv nm0
 go_wp2
 exact bodyPost_ret (v := .tuple #[nm0, errv c]) (res_ct Tryz.results170 _ _ w.heap.size #[.int .i64 0, .string ⟨#[]⟩] 107 _ _ rfl rfl ((((uh HR).set 0 _).set 1 _).alloc _) Tryz.underlying107 rfl (by kernel_rfl)) rfl
  ⟨(((uh B1).setNew (by simp) _).setNew (by simp) _).alloc _, nm0, d', rfl, ⟨0, _, rfl⟩, (((uh A1).setNew (by simp; omega) _).setNew (by simp; omega) _).alloc _⟩
set_option maxHeartbeats 1000000 in
set_option maxRecDepth 100000 in
theorem nameThen_yes (b : Nat) (s : ByteArray) (i d : Nat) (x : ByteArray) (w : World) (hs : s.size ≤ maxLen) (h : At w b s i d) (j : Nat) (hr : nameR (TT s) i = .ok ((), j)) (he : eqs (TT s j) x = true) (hx : 0 < (lst x).length) :
  Calls Tryz.prog 170 #[.pointer (some ⟨b, 0, none⟩), .string x] w (Post b s d w (.ok ((), j + 1) : Res Unit) (fun _ _ v => v = nmv s (K s i)) IsNm) := by
 have hlt := h.lt
 have Hs := hide hs
 have He := hide he
 have C := hide (name_post b s i d (w.alloc (.cells #[.int .i64 0, .string ⟨#[]⟩] 107)) hs (h.alloc _))
 rw [hr] at C
 clear hr he
 go_enter Tryz.func170, Tryz.ntmps170
 go_wp2_with fail
 refine (uh C).mono ?_
 rintro e w1 ⟨b1, v, rfl, rfl, a1⟩
 have A1 := hide a1
 have B1 := hide (((But.refl b w).alloc _).trans b1)
 have R := (Blk.new w #[.int .i64 0, .string ⟨#[]⟩] 107).but b1 (by omega)
 have HR := hide R
 obtain ⟨r0, r1⟩ := R.two
 have z := R.fz
 have hsz := R.lt
 have hne : ¬ (w1.heap.size = w.heap.size) := by omega
 have hne' : ¬ (w.heap.size = w1.heap.size) := by omega
 clear a1 b1 C h hs R
 unfold nmv
 go_wp2
 go_region_held3 (fun w' => w'.cell? ⟨w1.heap.size, 0, none⟩ = some (.int .i64 (tokP s (K s i))) ∧ w'.cell? ⟨w1.heap.size, 1, none⟩ = some (.string (tokT s (K s i))))
  (go_keep) ((go_at_call 169; refine (takes_yes b s j d x _ (uh Hs) ?_ (uh He) hx).mono ?_; (exact ((uh A1).alloc _).drew); rintro e w2 ⟨rfl, a2, b2⟩; have N2 := (Blk.new w1 #[.int .i64 (tokP s (K s i)), .string (tokT s (K s i))] 107).drew.but b2 (by omega); obtain ⟨n0, n1⟩ := N2.two; have R2 := ((uh HR).alloc (.cells #[.int .i64 (tokP s (K s i)), .string (tokT s (K s i))] 107)).drew.but b2 (by omega); obtain ⟨r0', r1'⟩ := R2.two; have z' := R2.fz; have HR2 := hide R2; have A2 := hide a2; have B2 := hide b2; clear N2 R2 a2 b2))
 go_wp2
 exact bodyPost_ret (v := .tuple #[nmv s (K s i), .nilIface]) (res_ct Tryz.results170 _ _ w.heap.size #[.int .i64 (tokP s (K s i)), .string (tokT s (K s i))] 107 _ _ rfl rfl (((uh HR2).set 0 _).set 1 _) Tryz.underlying107 rfl (by kernel_rfl)) rfl
  ⟨((((uh B1).alloc _).drew.trans (uh B2)).setNew (by simp) _).setNew (by simp) _, _, rfl, rfl, ((uh A2).setNew (by simp; omega) _).setNew (by simp; omega) _⟩
set_option maxHeartbeats 1000000 in
set_option maxRecDepth 100000 in
theorem nameThen_no (b : Nat) (s : ByteArray) (i d : Nat) (x : ByteArray) (w : World) (hs : s.size ≤ maxLen) (h : At w b s i d) (j : Nat) (hr : nameR (TT s) i = .ok ((), j)) (he : eqs (TT s j) x = false) :
  Calls Tryz.prog 170 #[.pointer (some ⟨b, 0, none⟩), .string x] w (Post b s d w (.error (2, j) : Res Unit) (fun _ _ v => v = nmv s (K s i)) IsNm) := by
 have hlt := h.lt
 have Hs := hide hs
 have He := hide he
 have C := hide (name_post b s i d (w.alloc (.cells #[.int .i64 0, .string ⟨#[]⟩] 107)) hs (h.alloc _))
 rw [hr] at C
 clear hr he
 go_enter Tryz.func170, Tryz.ntmps170
 go_wp2_with fail
 refine (uh C).mono ?_
 rintro e w1 ⟨b1, v, rfl, rfl, a1⟩
 have A1 := hide a1
 have B1 := hide (((But.refl b w).alloc _).trans b1)
 have R := (Blk.new w #[.int .i64 0, .string ⟨#[]⟩] 107).but b1 (by omega)
 have HR := hide R
 obtain ⟨r0, r1⟩ := R.two
 have z := R.fz
 have hsz := R.lt
 have hne : ¬ (w1.heap.size = w.heap.size) := by omega
 have hne' : ¬ (w.heap.size = w1.heap.size) := by omega
 clear a1 b1 C h hs R
 unfold nmv
 go_wp2
 go_region_held3 (fun w' => w'.cell? ⟨w1.heap.size, 0, none⟩ = some (.int .i64 (tokP s (K s i))) ∧ w'.cell? ⟨w1.heap.size, 1, none⟩ = some (.string (tokT s (K s i))))
  (go_keep) ((go_at_call 169; refine (takes_no b s j d x _ ?_ (uh He)).mono ?_; (exact ((uh A1).alloc _).drew); rintro e w2 ⟨rfl, a2, b2⟩; have N2 := (Blk.new w1 #[.int .i64 (tokP s (K s i)), .string (tokT s (K s i))] 107).drew.but b2 (by omega); obtain ⟨n0, n1⟩ := N2.two; have R2 := ((uh HR).alloc (.cells #[.int .i64 (tokP s (K s i)), .string (tokT s (K s i))] 107)).drew.but b2 (by omega); obtain ⟨r0', r1'⟩ := R2.two; have z' := R2.fz; have HR2 := hide R2; have A2 := hide a2; have B2 := hide b2; clear N2 R2 a2 b2))
 go_wp2
 exact bodyPost_ret (v := .tuple #[nmv s (K s i), errv 2]) (res_ct Tryz.results170 _ _ w.heap.size #[.int .i64 (tokP s (K s i)), .string (tokT s (K s i))] 107 _ _ rfl rfl (((uh HR2).set 0 _).set 1 _) Tryz.underlying107 rfl (by kernel_rfl)) rfl
  ⟨((((uh B1).alloc _).drew.trans (uh B2)).setNew (by simp) _).setNew (by simp) _, _, d, rfl, ⟨_, _, rfl⟩, ((uh A2).setNew (by simp; omega) _).setNew (by simp; omega) _⟩
theorem nameThen_post (b : Nat) (s : ByteArray) (i d : Nat) (x : ByteArray) (w : World) (hs : s.size ≤ maxLen) (h : At w b s i d) (hx : 0 < (lst x).length) :
  Calls Tryz.prog 170 #[.pointer (some ⟨b, 0, none⟩), .string x] w (Post b s d w (nameThenR (TT s) x i) (fun _ _ v => v = nmv s (K s i)) IsNm) := by
 unfold nameThenR
 cases hr : nameR (TT s) i with
 | error e => exact nameThen_bad b s i d x w hs h e.1 e.2 hr
 | ok y =>
  obtain ⟨⟨⟩, j⟩ := y
  cases he : eqs (TT s j) x
  ·simp only [he]
   exact nameThen_no b s i d x w hs h j hr he
  ·simp only [he]
   exact nameThen_yes b s i d x w hs h j hr he hx
end Go.Proofs.YtlbpnlngckgcbaaGreatDoor
