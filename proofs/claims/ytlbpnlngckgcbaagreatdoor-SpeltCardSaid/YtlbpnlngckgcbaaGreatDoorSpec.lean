import Derived.Test.YtlbpnlngckgcbaaGreatDoorNm
import Derived.Deep.AppendLies
namespace Go.Proofs.YtlbpnlngckgcbaaGreatDoor
open Go.RowKit Go.PlainAid
set_option linter.unusedSimpArgs false
set_option linter.unusedVariables false

/-! The program's reading of a model, as plain functions of the tokens: T i: the text of token i, P i: its place. -/
structure Gr where
  ty : ByteArray
  tp : Nat
  reach : Nat
  rel : ByteArray
  rp : Nat
structure Nd where
  kind : Nat
  place : Nat
  n1 : ByteArray
  p1 : Nat
  n2 : ByteArray
  p2 : Nat
  gs : List Gr
structure Ex where
  nd : Nd
  l : Option Ex
  r : Option Ex
structure Rl where
  name : ByteArray
  place : Nat
  body : Ex
structure Ty where
  name : ByteArray
  place : Nat
  rels : List Rl

abbrev Res (α : Type) := Except (Nat × Nat) (α × Nat)
def em : ByteArray := ⟨#[]⟩
def sg (c : UInt8) : ByteArray := ⟨#[c]⟩
def sType : ByteArray := ⟨#[116, 121, 112, 101]⟩

section
variable (T : Nat → ByteArray) (P : Nat → Nat)
def nameR (i : Nat) : Res Unit := if isNm (T i) then (if 8 < (T i).size then .error (3, i) else .ok ((), i + 1)) else .error (2, i)
def nameThenR (x : ByteArray) (i : Nat) : Res Unit := match nameR T i with
  | .error e => .error e
  | .ok (_, j) => if eqs (T j) x then .ok ((), j + 1) else .error (2, j)
def grantR (i : Nat) : Res Gr := match nameR T i with
  | .error e => .error e
  | .ok (_, j) => if eqs (T j) (sg 42) then .ok (⟨T i, P i, 1, em, 0⟩, j + 1)
    else if eqs (T j) (sg 35) then (match nameR T (j + 1) with
      | .error e => .error e
      | .ok (_, m) => .ok (⟨T i, P i, 2, T (j + 1), P (j + 1)⟩, m))
    else .ok (⟨T i, P i, 0, em, 0⟩, j)
def listL : Nat → List Gr → Nat → Res (List Gr)
  | 0, _, i => .error (0, i)
  | f + 1, acc, i => match grantR T P (i + 1) with
    | .error e => .error e
    | .ok (g, j) => if eqs (T j) (sg 44) then listL f (acc ++ [g]) j
      else if eqs (T j) (sg 93) then .ok (acc ++ [g], j + 1) else .error (2, j)
def listE (i : Nat) (gs : List Gr) : Ex := ⟨⟨0, P i, em, 0, em, 0, gs⟩, none, none⟩
def listR (i : Nat) : Res Ex := match listL T P 512 [] i with
  | .error e => .error e
  | .ok (gs, j) => .ok (listE P i gs, j)
def ownTie (i : Nat) : Res Ex := match nameR T i with
  | .error e => .error e
  | .ok (_, j) => if eqs (T j) (sg 46) then (match nameR T (j + 1) with
      | .error e => .error e
      | .ok (_, m) => .ok (⟨⟨2, P i, T i, P i, T (j + 1), P (j + 1), []⟩, none, none⟩, m))
    else .ok (⟨⟨1, P i, T i, P i, em, 0, []⟩, none, none⟩, j)
def unitR (room : Bool) (inner : Nat → Res Ex) (i : Nat) : Res Ex :=
  if eqs (T i) (sg 91) then listR T P i
  else if eqs (T i) (sg 40) then
    (if room then (match inner (i + 1) with
      | .error e => .error e
      | .ok (x, j) => if eqs (T j) (sg 41) then .ok (x, j + 1) else .error (2, j))
    else .error (3, i))
  else ownTie T P i
def kindOf (t : ByteArray) : Nat := if eqs t (sg 124) then 3 else if eqs t (sg 38) then 4 else 5
def joinE (t : ByteArray) (p : Nat) (x y : Ex) : Ex := ⟨⟨kindOf t, p, em, 0, em, 0, []⟩, some x, some y⟩
def joinL (signs : List ByteArray) (part : Nat → Res Ex) : Nat → Ex → Nat → Res Ex
  | 0, _, i => .error (0, i)
  | f + 1, x, i => if anyEq (T i) signs then (match part (i + 1) with
      | .error e => .error e
      | .ok (y, j) => joinL signs part f (joinE (T i) (P i) x y) j)
    else .ok (x, i)
def joinR (signs : List ByteArray) (part : Nat → Res Ex) (i : Nat) : Res Ex := match part i with
  | .error e => .error e
  | .ok (x, j) => joinL T P signs part 512 x j
def chainR (room : Bool) (inner : Nat → Res Ex) (i : Nat) : Res Ex := joinR T P [sg 38, sg 45] (unitR T P room inner) i
def exprR : Nat → Nat → Res Ex
  | 0, i => joinR T P [sg 124] (chainR T P false (fun _ => .error (0, 0))) i
  | n + 1, i => joinR T P [sg 124] (chainR T P true (exprR n)) i
def relR (i : Nat) : Res Rl := match nameThenR T (sg 58) i with
  | .error e => .error e
  | .ok (_, j) => match exprR T P 4 j with
    | .error e => .error e
    | .ok (x, m) => if eqs (T m) (sg 59) then .ok (⟨T i, P i, x⟩, m + 1) else .error (2, m)
def relsL : Nat → List Rl → Nat → Res (List Rl)
  | 0, _, i => .error (0, i)
  | f + 1, acc, i => if eqs (T i) (sg 125) then .ok (acc, i + 1)
    else if isNm (T i) && acc.length == 6 then .error (3, i)
    else match relR T P i with
      | .error e => .error e
      | .ok (r, j) => relsL f (acc ++ [r]) j
def typeR (i : Nat) : Res Ty := if eqs (T i) sType then (match nameThenR T (sg 123) (i + 1) with
    | .error e => .error e
    | .ok (_, j) => match relsL T P 512 [] j with
      | .error e => .error e
      | .ok (rs, m) => .ok (⟨T (i + 1), P (i + 1), rs⟩, m))
  else .error (2, i)
def modelL : Nat → List Ty → Nat → Res (List Ty)
  | 0, _, i => .error (0, i)
  | f + 1, acc, i => if eqs (T i) em then .ok (acc, i)
    else if eqs (T i) sType && acc.length == 5 then .error (3, i)
    else match typeR T P i with
      | .error e => .error e
      | .ok (t, j) => modelL f (acc ++ [t]) j
def modelR : Res (List Ty) := modelL T P 512 [] 0
end

/-! Where the tokens of a text stand. -/
def K (s : ByteArray) : Nat → Nat
  | 0 => 0
  | i + 1 => next s (K s i)
def TT (s : ByteArray) (i : Nat) : ByteArray := tokT s (K s i)
def PP (s : ByteArray) (i : Nat) : Nat := tokP s (K s i)

/-- The reader in block b stands at token i; every token ahead of it is no empty one. -/
structure At (w : World) (b : Nat) (s : ByteArray) (i d : Nat) : Prop where
  pos : Pos w b s (K s i) d
  good : i ≤ K s i
theorem At.le {w : World} {b : Nat} {s : ByteArray} {i d : Nat} (h : At w b s i d) : i ≤ s.size := Nat.le_trans h.good h.pos.le
theorem At.below {w w' : World} {b : Nat} {s : ByteArray} {i d : Nat} (h : At w b s i d) (k : Below w.heap.size w w') : At w' b s i d := ⟨h.pos.below k, h.good⟩
theorem At.alloc {w : World} {b : Nat} {s : ByteArray} {i d : Nat} (h : At w b s i d) (o : Obj) : At (w.alloc o) b s i d := ⟨h.pos.alloc o, h.good⟩
theorem At.drew {w : World} {b : Nat} {s : ByteArray} {i d : Nat} (h : At w b s i d) : At w.drew b s i d := ⟨h.pos.drew, h.good⟩
theorem At.setNew {w : World} {b : Nat} {s : ByteArray} {i d : Nat} (h : At w b s i d) {a : Addr} (ha : a.block ≠ b) (u : Value) : At (w.setCell a u) b s i d := ⟨h.pos.setNew ha u, h.good⟩
theorem At.lt {w : World} {b : Nat} {s : ByteArray} {i d : Nat} (h : At w b s i d) : b < w.heap.size := h.pos.rd.lt
theorem At.grown {w w' : World} {b : Nat} {s : ByteArray} {i d : Nat} {row : Option Nat} (h : At w b s i d) (k : w.grownBy w' row) (hb : some b ≠ row) : At w' b s i d := ⟨⟨h.pos.rd.of_block (k.block b h.lt hb), h.pos.le⟩, h.good⟩

theorem skip_ge (l : List UInt8) (k : Nat) : k ≤ skip l k := by unfold skip; omega
theorem good_succ {s : ByteArray} {i : Nat} (h : i ≤ K s i) (ht : 0 < (TT s i).size) : i + 1 ≤ K s (i + 1) := by
  show i + 1 ≤ tokP s (K s i) + (tokT s (K s i)).size
  have := skip_ge (lst s) (K s i)
  unfold TT at ht
  unfold tokP
  omega
theorem At.next {w : World} {b : Nat} {s : ByteArray} {i d : Nat} (h : Pos w b s (next s (K s i)) d) (hg : i ≤ K s i) (ht : 0 < (TT s i).size) : At w b s (i + 1) d := ⟨h, good_succ hg ht⟩
theorem isNm_pos {t : ByteArray} (h : isNm t = true) : 0 < t.size := by
  rw [← lst_length]
  unfold isNm at h
  generalize lst t = l at *
  cases l with
  | nil => simp at h
  | cons c r => simp
theorem eqs_pos {t x : ByteArray} (h : eqs t x = true) (hx : 0 < (lst x).length) : 0 < t.size := by
  rw [← lst_length]
  unfold eqs at h
  rw [beq_iff_eq] at h
  rw [h]; exact hx

/-- An interface value. -/
def IsI (v : Value) : Prop := v = .nilIface ∨ ∃ t x, v = .iface t x

/-- What a call that reads something leaves: what was read, or what is wrong, and where the reader stands. -/
def Post {α : Type} (b : Nat) (s : ByteArray) (d : Nat) (w : World) (r : Res α) (rep : World → α → Value → Prop) (bad : Value → Prop) (e : Ending) (w' : World) : Prop :=
  But b w w' ∧ match r with
    | .ok (x, j) => ∃ v, e = .returned (.tuple #[v, .nilIface]) ∧ rep w' x v ∧ At w' b s j d
    | .error (c, j) => ∃ v d', e = .returned (.tuple #[v, errv c]) ∧ bad v ∧ At w' b s j d'

theorem name_post (b : Nat) (s : ByteArray) (i d : Nat) (w : World) (hs : s.size ≤ maxLen) (h : At w b s i d) :
    Calls Tryz.prog 221 #[.pointer (some ⟨b, 0, none⟩)] w (Post b s d w (nameR (TT s) i) (fun _ _ v => v = nmv s (K s i)) (fun v => v = nm0)) := by
  unfold nameR
  cases hn : isNm (TT s i)
  · refine (name_text b s (K s i) d w hs h.pos hn).mono ?_
    rintro e w' ⟨rfl, h1, h2⟩
    exact ⟨But.of_below h2, nm0, d, rfl, rfl, h1, h.good⟩
  · by_cases hl : 8 < (TT s i).size
    · simp only [hl, if_true]
      refine (name_size b s (K s i) d w hs h.pos hn hl).mono ?_
      rintro e w' ⟨rfl, h1, h2⟩
      exact ⟨But.of_below h2, nm0, d, rfl, rfl, h1, h.good⟩
    · simp only [hl, if_true, if_false]
      refine (name_ok b s (K s i) d w hs h.pos hn (by unfold TT at hl; omega)).mono ?_
      rintro e w' ⟨rfl, h1, h2⟩
      exact ⟨h2, _, rfl, rfl, At.next h1 h.good (isNm_pos hn)⟩
end Go.Proofs.YtlbpnlngckgcbaaGreatDoor
