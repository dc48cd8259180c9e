import Derived.Test.YtlbpnlngckgcbaaGreatDoorProg
import Derived.WalkKit
import Derived.WalkLawsBesides
import Derived.WalkSpells
import Derived.BigQuiet
import Derived.PlainAid
import Derived.Lib.Strings
import Derived.Deep.RegionHeld3
import Derived.Deep.RegionWith
import Derived.Deep.DrawnRows
namespace Go.Proofs.YtlbpnlngckgcbaaGreatDoor
open Go.RowKit Go.PlainAid
set_option linter.unusedSimpArgs false
set_option linter.unusedVariables false
theorem hide {p : Prop} (h : p) : Hid p := h
theorem uh {p : Prop} (h : Hid p) : p := h
def blank (c : Int) : Bool := c == 32 || c == 9 || c == 10
def letter (c : Int) : Bool := decide (97 ≤ c) && decide (c ≤ 122)
def digit (c : Int) : Bool := decide (48 ≤ c) && decide (c ≤ 57)
set_option maxHeartbeats 400000 in
theorem isLetter_any (c : Int) (w : World) : Calls Tryz.prog 203 #[.int .u8 c] w fun e w' => e = .returned (.bool (letter c)) ∧ w' = w := by
 by_cases h1 : 97 ≤ c
 ·go_enter Tryz.func203, Tryz.ntmps203
  go_wp2
  go_ret
  exact ⟨by simp [letter, h1], rfl⟩
 ·go_enter Tryz.func203, Tryz.ntmps203
  go_wp2
  go_ret
  exact ⟨by simp [letter]; omega, rfl⟩
set_option maxHeartbeats 400000 in
theorem isDigit_any (c : Int) (w : World) : Calls Tryz.prog 204 #[.int .u8 c] w fun e w' => e = .returned (.bool (digit c)) ∧ w' = w := by
 by_cases h1 : 48 ≤ c
 ·go_enter Tryz.func204, Tryz.ntmps204
  go_wp2
  go_ret
  exact ⟨by simp [digit, h1], rfl⟩
 ·go_enter Tryz.func204, Tryz.ntmps204
  go_wp2
  go_ret
  exact ⟨by simp [digit]; omega, rfl⟩
set_option maxHeartbeats 400000 in
theorem isBlank_any (c : Int) (w : World) : Calls Tryz.prog 111 #[.int .u8 c] w fun e w' => e = .returned (.bool (blank c)) ∧ w' = w := by
 go_enter Tryz.func111, Tryz.ntmps111
 go_wp2
 all_goals
  go_ret
  exact ⟨by simp_all [blank], rfl⟩
def wordC (c : UInt8) : Bool := letter c.toNat || digit c.toNat
def blankC (c : UInt8) : Bool := blank c.toNat
def tokSize : List UInt8 → Nat
 | [] => 0
 | c :: r => if letter c.toNat then 1 + (r.takeWhile wordC).length else 1
def wSize : List UInt8 → Nat
 | [] => 0
 | c :: r => if letter c.toNat then 1 + (r.takeWhile wordC).length else 0
theorem tokSize_w (l : List UInt8) (h : l ≠ []) : ((tokSize l : Nat) : Int) = if (1 : Int) < (wSize l : Nat) then ((wSize l : Nat) : Int) else 1 := by
 cases l with
 | nil => exact absurd rfl h
 | cons c r =>
  simp only [tokSize, wSize]
  by_cases hc : letter c.toNat = true
  ·simp only [hc, if_true]
   split <;> omega
  ·simp [hc]
theorem takeWhile_len {α : Type} (p : α → Bool) : ∀ (l : List α) (k : Nat), (∀ j, (h : j < k) → (h' : j < l.length) → p l[j] = true) → k ≤ l.length → ((h : k < l.length) → p l[k] = false) → (l.takeWhile p).length = k
 | [], k, _, h2, _ => by simp at h2; simp [h2]
 | a :: r, 0, _, _, h3 => by
  have := h3 (by simp); simp at this; simp [List.takeWhile_cons, this]
 | a :: r, k + 1, h1, h2, h3 => by
  have ha := h1 0 (by omega) (by simp)
  simp at ha
  simp [List.takeWhile_cons, ha]
  exact takeWhile_len p r k (fun j h h' => by have := h1 (j + 1) (by omega) (by simp; omega); simpa using this) (by simpa using h2) (fun h => by have := h3 (by simp; omega); simpa using this)
def lst (s : ByteArray) : List UInt8 := s.data.toList
def mk (l : List UInt8) : ByteArray := ⟨l.toArray⟩
theorem lst_mk (l : List UInt8) : lst (mk l) = l := rfl
theorem mk_lst (s : ByteArray) : mk (lst s) = s := rfl
theorem lst_length (s : ByteArray) : (lst s).length = s.size := by show s.data.toList.length = s.data.size; exact Array.length_toList
theorem bt_lst (s : ByteArray) (k : Nat) (h : k < (lst s).length) : bt s k = ((lst s)[k].toNat : Int) := by
 rw [lst_length] at h
 unfold bt; rw [dif_pos h]; rfl
theorem toList_lst (s : ByteArray) : s.toList = lst s := ByteArray.toList_eq s
theorem wSize_at (s : ByteArray) (k : Nat) (h0 : 0 < s.size) (hl : letter (bt s 0) = true) (h1 : 1 ≤ k) (hk : k ≤ s.size)
  (hall : ∀ j, 1 ≤ j → j < k → (letter (bt s j) || digit (bt s j)) = true) (hend : k < s.size → (letter (bt s k) || digit (bt s k)) = false) : wSize (lst s) = k := by
 have hb := bt_lst s
 rw [← lst_length] at h0 hk hend
 generalize lst s = l at *
 cases l with
 | nil => simp at h0
 | cons c r =>
  have hl' := hb 0 (by simp)
  simp only [List.getElem_cons_zero] at hl'
  rw [hl'] at hl
  simp only [wSize, hl, if_true]
  simp only [List.length_cons] at hk hend
  have := takeWhile_len wordC r (k - 1) (fun j h h' => by
   have := hall (j + 1) (by omega) (by omega)
   rw [hb (j + 1) (by simp; omega)] at this
   simpa [wordC] using this) (by omega) (fun h => by
   obtain ⟨q, rfl⟩ : ∃ q, k = q + 1 := ⟨k - 1, by omega⟩
   have := hend (by omega)
   rw [hb (q + 1) (by simp; omega)] at this
   simpa [wordC] using this)
  omega
theorem wSize_none (s : ByteArray) (h0 : 0 < s.size) (hl : letter (bt s 0) = false) : wSize (lst s) = 0 := by
 have hb := bt_lst s
 rw [← lst_length] at h0
 generalize lst s = l at *
 cases l with
 | nil => simp at h0
 | cons c r =>
  have hl' := hb 0 (by simp)
  simp only [List.getElem_cons_zero] at hl'
  rw [hl'] at hl
  simp [wSize, hl]
theorem size_pos_of (s : ByteArray) (h : lst s ≠ []) : 0 < s.size := by
 rw [← lst_length]; exact List.length_pos_iff.2 h
set_option maxHeartbeats 400000 in
theorem size_any (s : ByteArray) (w : World) (hs : s.size ≤ maxLen) :
  Calls Tryz.prog 144 #[.string s] w fun e w' => e = .returned (.int .i64 (wSize (lst s))) ∧ w' = w := by
 unfold maxLen at hs
 by_cases hz : lst s = []
 ·have hz' : s.toList = [] := by rw [toList_lst]; exact hz
  have Hz := hide hz
  clear hz
  go_enter Tryz.func144, Tryz.ntmps144
  go_wp2
  go_ret
  exact ⟨by rw [uh Hz]; rfl, rfl⟩
 ·have h0 : 0 < s.size := size_pos_of s hz
  have hz' : s.toList.isEmpty = false := by rw [toList_lst]; simpa using hz
  clear hz
  have gb := get_bt s
  cases hl : letter (bt s 0)
  ·have Hfin := hide (wSize_none s h0 hl)
   go_enter Tryz.func144, Tryz.ntmps144
   go_wp2_with (go_at_call 203; refine (isLetter_any _ _).mono ?_; rintro e w' ⟨rfl, rfl⟩)
   go_ret
   exact ⟨by rw [uh Hfin]; rfl, rfl⟩
  ·have Hl := hide hl
   go_enter Tryz.func144, Tryz.ntmps144
   go_wp2_with (go_at_call 203; refine (isLetter_any _ _).mono ?_; rintro e w' ⟨rfl, rfl⟩)
   go_loop [3] (fun i => ∃ k : Nat, 1 ≤ k ∧ k ≤ s.size ∧ i = .int .i64 k ∧ Hid (∀ j, 1 ≤ j → j < k → (letter (bt s j) || digit (bt s j)) = true)) (fun i => s.size - (intOf i).toNat)
   case atStart => exact ⟨1, by omega, by omega, rfl, hide (fun j h h' => by omega)⟩
   case round =>
    obtain ⟨k, hk1, hk2, rfl, Hall⟩ := hrel
    by_cases hlt : k < s.size
    ·cases hlk : letter (bt s k)
     ·cases hdk : digit (bt s k)
      ·have Hfin := hide (wSize_at s k h0 hl hk1 hk2 (uh Hall) (fun _ => by simp [hlk, hdk]))
       go_wp2_with (first | (go_at_call 203; refine (isLetter_any _ _).mono ?_; rintro e w' ⟨rfl, rfl⟩) | (go_at_call 204; refine (isDigit_any _ _).mono ?_; rintro e w' ⟨rfl, rfl⟩))
       go_ret
       exact ⟨by rw [uh Hfin]; rfl, rfl⟩
      ·have Hn := hide (show ∀ j, 1 ≤ j → j < k + 1 → (letter (bt s j) || digit (bt s j)) = true from fun j h h' => by
        by_cases e : j = k
        ·rw [e, hdk]; simp
        ·exact uh Hall j h (by omega))
       go_wp2_with (first | (go_at_call 203; refine (isLetter_any _ _).mono ?_; rintro e w' ⟨rfl, rfl⟩) | (go_at_call 204; refine (isDigit_any _ _).mono ?_; rintro e w' ⟨rfl, rfl⟩))
       go_round
       case rel => exact ⟨k + 1, by omega, by omega, by go_num, Hn⟩
       case measure => simp [intOf]; omega
     ·have Hn := hide (show ∀ j, 1 ≤ j → j < k + 1 → (letter (bt s j) || digit (bt s j)) = true from fun j h h' => by
       by_cases e : j = k
       ·rw [e, hlk]; simp
       ·exact uh Hall j h (by omega))
      go_wp2_with (first | (go_at_call 203; refine (isLetter_any _ _).mono ?_; rintro e w' ⟨rfl, rfl⟩) | (go_at_call 204; refine (isDigit_any _ _).mono ?_; rintro e w' ⟨rfl, rfl⟩))
      go_round
      case rel => exact ⟨k + 1, by omega, by omega, by go_num, Hn⟩
      case measure => simp [intOf]; omega
    ·have Hfin := hide (wSize_at s k h0 hl hk1 hk2 (uh Hall) (fun h => absurd h hlt))
     go_wp2_with (first | (go_at_call 203; refine (isLetter_any _ _).mono ?_; rintro e w' ⟨rfl, rfl⟩) | (go_at_call 204; refine (isDigit_any _ _).mono ?_; rintro e w' ⟨rfl, rfl⟩))
     go_ret
     exact ⟨by rw [uh Hfin]; rfl, rfl⟩
set_option maxHeartbeats 400000 in
theorem tokenSize_any (s : ByteArray) (w : World) (hs : s.size ≤ maxLen) :
  Calls Tryz.prog 112 #[.string s] w fun e w' => e = .returned (.int .i64 (tokSize (lst s))) ∧ w' = w := by
 have HS := hide hs
 by_cases hz : lst s = []
 ·have hz' : s.toList = [] := by rw [toList_lst]; exact hz
  have Hz := hide hz
  clear hz
  go_enter Tryz.func112, Tryz.ntmps112
  go_wp2
  go_ret
  exact ⟨by rw [uh Hz]; rfl, rfl⟩
 ·have hz' : s.toList.isEmpty = false := by rw [toList_lst]; simpa using hz
  have Hw := hide (tokSize_w (lst s) hz)
  clear hz
  generalize hn : wSize (lst s) = n at Hw
  have Hn := hide hn
  clear hn
  by_cases h1 : (1 : Int) < (n : Int)
  ·go_enter Tryz.func112, Tryz.ntmps112
   go_wp2_with (go_at_call 144; refine (size_any _ _ (uh HS)).mono ?_; rintro e w' ⟨rfl, rfl⟩; rw [uh Hn])
   go_ret
   exact ⟨by rw [uh Hw, if_pos h1]; rfl, rfl⟩
  ·go_enter Tryz.func112, Tryz.ntmps112
   go_wp2_with (go_at_call 144; refine (size_any _ _ (uh HS)).mono ?_; rintro e w' ⟨rfl, rfl⟩; rw [uh Hn])
   go_ret
   exact ⟨by rw [uh Hw, if_neg (by omega)]; rfl, rfl⟩
/-- The place of the first token from 'k' on. -/
def skip (l : List UInt8) (k : Nat) : Nat := k + ((l.drop k).takeWhile blankC).length
/-- The text of the token that begins at 'p'. -/
def tokText (l : List UInt8) (p : Nat) : List UInt8 := (l.drop p).take (tokSize (l.drop p))
theorem skip_at (s : ByteArray) (a k : Nat) (h1 : a ≤ k) (hk : k ≤ s.size)
  (hall : ∀ j, a ≤ j → j < k → blank (bt s j) = true) (hend : k < s.size → blank (bt s k) = false) : skip (lst s) a = k := by
 have hb := bt_lst s
 rw [← lst_length] at hk hend
 generalize lst s = l at *
 unfold skip
 have := takeWhile_len blankC (l.drop a) (k - a) (fun j h h' => by
  simp at h'
  have := hall (a + j) (by omega) (by omega)
  rw [hb (a + j) (by omega)] at this
  simpa [blankC] using this) (by simp; omega) (fun h => by
  simp at h
  have := hend (by omega)
  rw [hb k (by omega)] at this
  simpa [blankC, show a + (k - a) = k by omega] using this)
 omega
theorem tokSize_le (l : List UInt8) : tokSize l ≤ l.length := by
 cases l with
 | nil => simp [tokSize]
 | cons c r =>
  simp only [tokSize]
  have := (List.takeWhile_sublist wordC (l := r)).length_le
  split <;> simp <;> omega
theorem lst_extract (s : ByteArray) (a b : Nat) : lst (s.extract a b) = ((lst s).drop a).take (b - a) := Lib.extract_data s a b
theorem extract_mk (s : ByteArray) (a b : Nat) : s.extract a b = mk (((lst s).drop a).take (b - a)) := Lib.extract_eq s a b
theorem lst_extract_end (s : ByteArray) (a : Nat) : lst (s.extract a s.size) = (lst s).drop a := by
 rw [lst_extract, List.take_of_length_le]
 rw [List.length_drop, lst_length]; omega
set_option maxHeartbeats 400000 in
theorem tokenFrom_any (s : ByteArray) (a : Nat) (w : World) (hs : s.size ≤ maxLen) (ha : a ≤ s.size) :
  Calls Tryz.prog 71 #[.string s, .int .i64 a] w fun e w' => e = .returned (.agg #[.int .i64 (skip (lst s) a), .string (mk (tokText (lst s) (skip (lst s) a)))]) ∧ Below w.heap.size w w' := by
 have Hs := hide hs
 unfold maxLen at hs
 have gb := get_bt s
 go_enter Tryz.func71, Tryz.ntmps71
 go_wp2
 go_loop [1] (fun i => ∃ k : Nat, a ≤ k ∧ k ≤ s.size ∧ i = .int .i64 k ∧ Hid (∀ j, a ≤ j → j < k → blank (bt s j) = true)) (fun i => s.size - (intOf i).toNat)
 case atStart => exact ⟨a, by omega, by omega, rfl, hide (fun j h h' => by omega)⟩
 case round =>
  obtain ⟨k, hk1, hk2, rfl, Hall⟩ := hrel
  by_cases hc : k < s.size ∧ blank (bt s k) = true
  ·obtain ⟨hlt, hbk⟩ := hc
   have Hn := hide (show ∀ j, a ≤ j → j < k + 1 → blank (bt s j) = true from fun j h h' => by
    by_cases e : j = k
    ·rw [e, hbk]
    ·exact uh Hall j h (by omega))
   go_wp2_with (first | (go_at_call 111; refine (isBlank_any _ _).mono ?_; rintro e w' ⟨rfl, rfl⟩))
   go_round
   case rel => exact ⟨k + 1, by omega, by omega, by go_num, Hn⟩
   case measure => simp [intOf]; omega
  ·have Hp := hide (skip_at s a k hk1 hk2 (uh Hall) (fun h => by
    cases hb : blank (bt s k)
    ·rfl
    ·exact absurd ⟨h, hb⟩ hc))
   have Ht := tokSize_le ((lst s).drop k)
   rw [List.length_drop, lst_length] at Ht
   have Hx := hide (show ∀ n, tokSize ((lst s).drop k) = n → s.extract k (k + n) = mk (tokText (lst s) k) from fun n hn => by
    rw [extract_mk, tokText, hn, show k + n - k = n by omega])
   have hsz : (s.extract k s.size).size ≤ maxLen := by rw [ByteArray.size_extract]; unfold maxLen; omega
   have Hsz := hide hsz
   clear hsz
   by_cases hlt : k < s.size
   ·have hbk : blank (bt s k) = false := by
     cases hb : blank (bt s k)
     ·rfl
     ·exact absurd ⟨hlt, hb⟩ hc
    clear hc
    go_wp2_with (first | (go_at_call 111; refine (isBlank_any _ _).mono ?_; rintro e w' ⟨rfl, rfl⟩))
    refine (tokenSize_any _ _ (uh Hsz)).mono ?_
    rintro e w' ⟨rfl, rfl⟩
    rw [lst_extract_end]
    generalize hn : tokSize ((lst s).drop k) = n at *
    have Hn := hide hn
    clear hn
    go_wp2
    exact bodyPost_ret (v := .agg #[.int .i64 k, .string (s.extract k (k + n))]) (by simp [results, Tryz.results71, go_sem]) rfl ⟨by rw [uh Hp, uh Hx n rfl], (Below.refl _ _).alloc (Nat.le_refl _) _⟩
   ·clear hc
    go_wp2_with (first | (go_at_call 111; refine (isBlank_any _ _).mono ?_; rintro e w' ⟨rfl, rfl⟩))
    refine (tokenSize_any _ _ (uh Hsz)).mono ?_
    rintro e w' ⟨rfl, rfl⟩
    rw [lst_extract_end]
    generalize hn : tokSize ((lst s).drop k) = n at *
    have Hn := hide hn
    clear hn
    go_wp2
    exact bodyPost_ret (v := .agg #[.int .i64 k, .string (s.extract k (k + n))]) (by simp [results, Tryz.results71, go_sem]) rfl ⟨by rw [uh Hp, uh Hx n rfl], (Below.refl _ _).alloc (Nat.le_refl _) _⟩
theorem bcell {W w1 : World} (hb : Below W.heap.size W w1) : (∀ b o, b < W.heap.size → w1.cell? ⟨b, o, none⟩ = W.cell? ⟨b, o, none⟩) ∧ (∀ b o, b < W.heap.size → w1.frozen? ⟨b, o, none⟩ = W.frozen? ⟨b, o, none⟩) :=
 ⟨fun b o h => hb.cell (p := ⟨b, o, none⟩) h, fun b o h => hb.frozen (p := ⟨b, o, none⟩) h⟩
/-- Every block that was there, but for block b, is as it was. -/
structure But (b : Nat) (w w' : World) : Prop where
 os : w'.os = w.os
 tape : w'.tape = w.tape
 output : w'.output = w.output
 size : w.heap.size ≤ w'.heap.size
 block : ∀ k, k < w.heap.size → k ≠ b → w'.heap[k]? = w.heap[k]?
theorem But.refl (b : Nat) (w : World) : But b w w := ⟨rfl, rfl, rfl, Nat.le_refl _, fun _ _ _ => rfl⟩
theorem But.trans {b : Nat} {x y z : World} (h : But b x y) (k : But b y z) : But b x z :=
 ⟨k.os.trans h.os, k.tape.trans h.tape, k.output.trans h.output, Nat.le_trans h.size k.size, fun i hi hb => (k.block i (Nat.lt_of_lt_of_le hi h.size) hb).trans (h.block i hi hb)⟩
theorem But.of_below {b : Nat} {x y : World} (h : Below x.heap.size x y) : But b x y := ⟨h.os, h.tape, h.output, h.size, fun k hk _ => h.block k hk⟩
theorem But.below {b B : Nat} {x y : World} (h : But b x y) (hB : B ≤ b) (hx : B ≤ x.heap.size) : Below B x y := ⟨h.os, h.tape, h.output, h.size, fun k hk => h.block k (by omega) (by omega)⟩
theorem But.drew {b : Nat} {x y : World} (h : But b x y) : But b x y.drew := ⟨h.os, h.tape, h.output, h.size, h.block⟩
theorem But.alloc {b : Nat} {x y : World} (h : But b x y) (o : Obj) : But b x (y.alloc o) :=
 h.trans (But.of_below ((Below.refl _ _).alloc (Nat.le_refl _) o))
theorem But.setCell {b : Nat} {x y : World} (h : But b x y) (o : Nat) (u : Value) : But b x (y.setCell ⟨b, o, none⟩ u) :=
 h.trans ⟨rfl, rfl, rfl, by simp [World.setCell], fun k hk hb => Below.heap_setCell _ _ _ _ (by simpa using hb)⟩
theorem But.setNew {b : Nat} {x y : World} (h : But b x y) {a : Addr} (ha : x.heap.size ≤ a.block) (u : Value) : But b x (y.setCell a u) :=
 ⟨h.os, h.tape, h.output, Nat.le_trans h.size (by simp [World.setCell]), fun k hk hb => (Below.heap_setCell _ _ _ _ (by omega)).trans (h.block k hk hb)⟩
theorem But.cell {b : Nat} {x y : World} (h : But b x y) {a : Addr} (ha : a.block < x.heap.size) (hb : a.block ≠ b) : y.cell? a = x.cell? a := World.cell?_of_block (w := x) (h.block a.block ha hb)
/-- The reader lies in block b: the text, the place and the text of the token at hand, how many brackets are open. -/
structure Rd (w : World) (b : Nat) (s : ByteArray) (p : Nat) (t : ByteArray) (d : Nat) : Prop where
 blk : w.heap[b]? = some (.cells #[.string s, .int .i64 p, .string t, .int .i64 d] 140)
theorem Rd.lt {w : World} {b : Nat} {s : ByteArray} {p : Nat} {t : ByteArray} {d : Nat} (h : Rd w b s p t d) : b < w.heap.size := by
 rcases Nat.lt_or_ge b w.heap.size with k | k
 ·exact k
 ·have := h.blk; rw [Array.getElem?_eq_none k] at this; cases this
theorem Rd.c0 {w : World} {b : Nat} {s : ByteArray} {p : Nat} {t : ByteArray} {d : Nat} (h : Rd w b s p t d) : w.cell? ⟨b, 0, none⟩ = some (.string s) := by simp [World.cell?, h.blk]
theorem Rd.c1 {w : World} {b : Nat} {s : ByteArray} {p : Nat} {t : ByteArray} {d : Nat} (h : Rd w b s p t d) : w.cell? ⟨b, 1, none⟩ = some (.int .i64 p) := by simp [World.cell?, h.blk]
theorem Rd.c2 {w : World} {b : Nat} {s : ByteArray} {p : Nat} {t : ByteArray} {d : Nat} (h : Rd w b s p t d) : w.cell? ⟨b, 2, none⟩ = some (.string t) := by simp [World.cell?, h.blk]
theorem Rd.c3 {w : World} {b : Nat} {s : ByteArray} {p : Nat} {t : ByteArray} {d : Nat} (h : Rd w b s p t d) : w.cell? ⟨b, 3, none⟩ = some (.int .i64 d) := by simp [World.cell?, h.blk]
theorem Rd.fz {w : World} {b : Nat} {s : ByteArray} {p : Nat} {t : ByteArray} {d : Nat} (h : Rd w b s p t d) (o : Nat) : w.frozen? ⟨b, o, none⟩ = false := by simp [World.frozen?, h.blk]
theorem Rd.of_block {w w' : World} {b : Nat} {s : ByteArray} {p : Nat} {t : ByteArray} {d : Nat} (h : Rd w b s p t d) (e : w'.heap[b]? = w.heap[b]?) : Rd w' b s p t d := ⟨e.trans h.blk⟩
theorem Rd.below {w w' : World} {b : Nat} {s : ByteArray} {p : Nat} {t : ByteArray} {d : Nat} (h : Rd w b s p t d) (k : Below w.heap.size w w') : Rd w' b s p t d := h.of_block (k.block b h.lt)
theorem Rd.drew {w : World} {b : Nat} {s : ByteArray} {p : Nat} {t : ByteArray} {d : Nat} (h : Rd w b s p t d) : Rd w.drew b s p t d := ⟨h.blk⟩
theorem Rd.alloc {w : World} {b : Nat} {s : ByteArray} {p : Nat} {t : ByteArray} {d : Nat} (h : Rd w b s p t d) (o : Obj) : Rd (w.alloc o) b s p t d := h.below ((Below.refl _ _).alloc (Nat.le_refl _) o)
theorem heap_setCell_blk {w : World} {b o : Nat} {c : Array Value} {T : TypeId} {f : Nat × Nat} (u : Value) (h : w.heap[b]? = some (.cells c T f)) :
  (w.setCell ⟨b, o, none⟩ u).heap[b]? = some (.cells (c.setIfInBounds o u) T f) := by
 simp [World.setCell, Array.getElem?_modify, h]
theorem Rd.now {w : World} {b : Nat} {s : ByteArray} {p : Nat} {t : ByteArray} {d : Nat} (h : Rd w b s p t d) (p' : Nat) (t' : ByteArray) :
  Rd ((w.setCell ⟨b, 1, none⟩ (.int .i64 p')).setCell ⟨b, 2, none⟩ (.string t')) b s p' t' d := by
 refine ⟨?_⟩
 rw [heap_setCell_blk _ (heap_setCell_blk _ h.blk)]
 rfl
/-- Block g is known whole: plain cells, none frozen. -/
def Blk (w : World) (g : Nat) (cs : Array Value) (T : TypeId) : Prop := w.heap[g]? = some (.cells cs T)
theorem Blk.new (w : World) (cs : Array Value) (T : TypeId) : Blk (w.alloc (.cells cs T)) w.heap.size cs T := by
 show (w.heap.push _)[w.heap.size]? = _
 simp
theorem Blk.lt {w : World} {g : Nat} {cs : Array Value} {T : TypeId} (h : Blk w g cs T) : g < w.heap.size := by
 rcases Nat.lt_or_ge g w.heap.size with k | k
 ·exact k
 ·unfold Blk at h; rw [Array.getElem?_eq_none k] at h; cases h
theorem Blk.below {w w' : World} {g : Nat} {cs : Array Value} {T : TypeId} (h : Blk w g cs T) (k : Below w.heap.size w w') : Blk w' g cs T := (k.block g h.lt).trans h
theorem Blk.but {w w' : World} {b g : Nat} {cs : Array Value} {T : TypeId} (h : Blk w g cs T) (k : But b w w') (hg : g ≠ b) : Blk w' g cs T := (k.block g h.lt hg).trans h
theorem Blk.alloc {w : World} {g : Nat} {cs : Array Value} {T : TypeId} (h : Blk w g cs T) (o : Obj) : Blk (w.alloc o) g cs T := h.below ((Below.refl _ _).alloc (Nat.le_refl _) o)
theorem Blk.drew {w : World} {g : Nat} {cs : Array Value} {T : TypeId} (h : Blk w g cs T) : Blk w.drew g cs T := h
theorem Blk.other {w : World} {g : Nat} {cs : Array Value} {T : TypeId} (h : Blk w g cs T) {a : Addr} (ha : g ≠ a.block) (u : Value) : Blk (w.setCell a u) g cs T := (Below.heap_setCell _ _ _ _ ha).trans h
theorem Blk.set {w : World} {g : Nat} {cs : Array Value} {T : TypeId} (h : Blk w g cs T) (o : Nat) (u : Value) : Blk (w.setCell ⟨g, o, none⟩ u) g (cs.setIfInBounds o u) T := heap_setCell_blk u h
theorem Blk.cell {w : World} {g : Nat} {cs : Array Value} {T : TypeId} (h : Blk w g cs T) {o : Nat} {v : Value} (hv : cs[o]? = some v) : w.cell? ⟨g, o, none⟩ = some v := by unfold Blk at h; simp [World.cell?, h, hv]
theorem Blk.fz {w : World} {g : Nat} {cs : Array Value} {T : TypeId} (h : Blk w g cs T) (o : Nat) : w.frozen? ⟨g, o, none⟩ = false := by unfold Blk at h; simp [World.frozen?, h]
theorem Rd.blk' {w : World} {b : Nat} {s : ByteArray} {p : Nat} {t : ByteArray} {d : Nat} (h : Rd w b s p t d) : Blk w b #[.string s, .int .i64 p, .string t, .int .i64 d] 140 := h.blk
/-- The token at hand, when the reader has come to the token from k on. -/
def tokP (s : ByteArray) (k : Nat) : Nat := skip (lst s) k
def tokT (s : ByteArray) (k : Nat) : ByteArray := mk (tokText (lst s) (skip (lst s) k))
theorem skip_le (l : List UInt8) (k : Nat) (h : k ≤ l.length) : skip l k ≤ l.length := by
 unfold skip
 have := (List.takeWhile_sublist blankC (l := l.drop k)).length_le
 rw [List.length_drop] at this; omega
theorem tokText_length (l : List UInt8) (p : Nat) (h : p ≤ l.length) : p + (tokText l p).length ≤ l.length := by
 unfold tokText
 have := tokSize_le (l.drop p)
 rw [List.length_take, List.length_drop] at *
 omega
theorem mk_size (l : List UInt8) : (mk l).size = l.length := by simp [mk, ByteArray.size]
theorem tok_fits (s : ByteArray) (k : Nat) (h : k ≤ s.size) : tokP s k + (tokT s k).size ≤ s.size := by
 unfold tokP tokT
 rw [mk_size, ← lst_length]
 rw [← lst_length] at h
 exact tokText_length _ _ (skip_le _ _ h)
set_option maxHeartbeats 400000 in
theorem at_any (n : Int) (w : World) : Calls Tryz.prog 76 #[.int .i64 n] w fun e w' => e = .returned (.int .i64 n) ∧ w' = w := by
 go_enter Tryz.func76, Tryz.ntmps76
 go_wp2
 go_ret
 exact ⟨rfl, rfl⟩
theorem tokenFrom_int (s : ByteArray) (k : Nat) (a : Int) (w : World) (hs : s.size ≤ maxLen) (ha : k ≤ s.size) (hk : a = (k : Int)) :
  Calls Tryz.prog 71 #[.string s, .int .i64 a] w fun e w' => e = .returned (.agg #[.int .i64 (tokP s k), .string (tokT s k)]) ∧ Below w.heap.size w w' := by
 subst hk
 exact tokenFrom_any s k w hs ha
attribute [local go_sem ↓] Go.wp_at_zero Go.wp_at_succ
set_option maxRecDepth 100000 in
set_option maxHeartbeats 4000000 in
theorem step_any (b : Nat) (s : ByteArray) (p : Nat) (t : ByteArray) (d : Nat) (w : World) (hs : s.size ≤ maxLen) (h : Rd w b s p t d) (hf : p + t.size ≤ s.size) :
  Calls Tryz.prog 220 #[.pointer (some ⟨b, 0, none⟩)] w fun e w' => e = .returned (.tuple #[]) ∧ Rd w' b s (tokP s (p + t.size)) (tokT s (p + t.size)) d ∧ But b w w' := by
 have Hs := hide hs
 unfold maxLen at hs
 have H := hide h
 have h0 := h.c0
 have h1 := h.c1
 have h2 := h.c2
 have hz := h.fz
 have hlt := h.lt
 clear h
 have hwr : IntKind.i64.wrap ((p : Int) + (t.size : Int)) = (p : Int) + (t.size : Int) := IntWalk.i64_in _ ⟨by omega, by omega⟩
 go_enter Tryz.func220, Tryz.ntmps220
 go_wp2
 go_region_with
  (first | (go_at_call 76; refine (at_any _ _).mono ?_; rintro e w' ⟨rfl, rfl⟩) | (go_at_call 71; refine (tokenFrom_int s (p + t.size) _ _ (uh Hs) hf ?_).mono ?_; (omega); rintro e w' ⟨rfl, hb⟩; have R' := (uh H).drew.below hb; have k0 := R'.c0; have k1 := R'.c1; have k2 := R'.c2; have kz := R'.fz; have HR := hide R'; clear R'))
 all_goals (go_end0; exact ⟨rfl, (uh HR).now _ _, (((But.refl b w).drew.trans (But.of_below hb)).setCell 1 _).setCell 2 _⟩)
def eqs (a b : ByteArray) : Bool := lst a == lst b
def anyEq (t : ByteArray) (l : List ByteArray) : Bool := l.any fun x => eqs t x
theorem anyEq_false (t : ByteArray) (l : List ByteArray) (h : ∀ j, j < l.length → eqs t (l.getD j ByteArray.empty) = false) : anyEq t l = false := by
 unfold anyEq
 rw [List.any_eq_false]
 intro x hx
 obtain ⟨j, hj, rfl⟩ := List.getElem_of_mem hx
 have := h j hj
 simp [List.getD_eq_getElem?_getD, List.getElem?_eq_getElem hj] at this
 simp [this]
theorem anyEq_true (t : ByteArray) (l : List ByteArray) (j : Nat) (hj : j < l.length) (h : eqs t (l.getD j ByteArray.empty) = true) : anyEq t l = true := by
 unfold anyEq
 rw [List.any_eq_true]
 refine ⟨l[j], List.getElem_mem _, ?_⟩
 simpa [List.getD_eq_getElem?_getD, List.getElem?_eq_getElem hj] using h
set_option maxHeartbeats 400000 in
theorem index_any (g cap : Nat) (l : List ByteArray) (t : ByteArray) (w : World) (hn : l.length ≤ maxLen)
  (hc : ∀ i, i < l.length → w.cell? ⟨g, i, none⟩ = some (.string (l.getD i ByteArray.empty))) :
  Calls Tryz.prog 219 #[.slice (some ⟨g, 0, none⟩) l.length cap, .string t] w fun e w' => (∃ n : Int, e = .returned (.int .i64 n) ∧ decide (0 ≤ n) = anyEq t l) ∧ w' = w := by
 unfold maxLen at hn
 generalize hN : l.length = N at *
 have HN := hide hN
 clear hN
 generalize hL : (fun i => l.getD i ByteArray.empty) = L at *
 have HL := hide hL
 have hc' : ∀ i, i < N → w.cell? ⟨g, i, none⟩ = some (.string (L i)) := fun i hi => by rw [hc i hi, ← hL]
 clear hc hL
 go_enter Tryz.func219, Tryz.ntmps219
 go_wp2
 go_loop [5, 8] (fun u i => ∃ k : Nat, k ≤ N ∧ i = .int .i64 k ∧ Hid (∀ j, j < k → eqs t (L j) = false)) (fun _ i => N - (intOf i).toNat)
 case atStart => exact ⟨0, by omega, rfl, hide (fun j h => by omega)⟩
 case round =>
  obtain ⟨k, hk, rfl, Hall⟩ := hrel
  by_cases hlt : k < N
  ·have hck := hc' k hlt
   cases he : eqs t (L k)
   ·have he' : (t.toList == (L k).toList) = false := by rw [toList_lst, toList_lst]; exact he
    have Hn := hide (show ∀ j, j < k + 1 → eqs t (L j) = false from fun j h => by
     by_cases e : j = k
     ·rw [e, he]
     ·exact uh Hall j (by omega))
    clear he
    go_wp2
    go_round
    case rel => exact ⟨k + 1, by omega, by go_num, Hn⟩
    case measure => simp [intOf]; omega
   ·have he' : (t.toList == (L k).toList) = true := by rw [toList_lst, toList_lst]; exact he
    have Hfin := hide (anyEq_true t l k (by rw [uh HN]; exact hlt) (by have this : l.getD k ByteArray.empty = L k := congrFun (uh HL) k; rw [this]; exact he))
    clear he
    go_wp2
    go_ret
    exact ⟨⟨k, rfl, by rw [uh Hfin]; simp⟩, rfl⟩
  ·have Hfin := hide (anyEq_false t l (fun j hj => by have this : l.getD j ByteArray.empty = L j := congrFun (uh HL) j; rw [this]; exact uh Hall j (by rw [uh HN] at hj; omega)))
   go_wp2
   go_ret
   exact ⟨⟨-1, rfl, by rw [uh Hfin]; decide⟩, rfl⟩
set_option maxHeartbeats 400000 in
theorem contains_any (g cap : Nat) (l : List ByteArray) (t : ByteArray) (w : World) (hn : l.length ≤ maxLen)
  (hc : ∀ i, i < l.length → w.cell? ⟨g, i, none⟩ = some (.string (l.getD i ByteArray.empty))) :
  Calls Tryz.prog 168 #[.slice (some ⟨g, 0, none⟩) l.length cap, .string t] w fun e w' => e = .returned (.bool (anyEq t l)) ∧ w' = w := by
 have h := index_any g cap l t w hn hc
 have H := hide h
 clear h hc
 go_enter Tryz.func168, Tryz.ntmps168
 go_wp2_with fail
 refine (uh H).mono ?_
 rintro e w' ⟨⟨n, rfl, hn⟩, rfl⟩
 have HN := hide hn
 clear hn
 go_wp2
 go_ret
 exact ⟨by rw [← uh HN]; rfl, rfl⟩
set_option maxHeartbeats 400000 in
theorem rat_any (b : Nat) (s : ByteArray) (p : Nat) (t : ByteArray) (d : Nat) (g cap : Nat) (l : List ByteArray) (w : World) (h : Rd w b s p t d) (hn : l.length ≤ maxLen)
  (hc : ∀ i, i < l.length → w.cell? ⟨g, i, none⟩ = some (.string (l.getD i ByteArray.empty))) :
  Calls Tryz.prog 113 #[.pointer (some ⟨b, 0, none⟩), .slice (some ⟨g, 0, none⟩) l.length cap] w fun e w' => e = .returned (.bool (anyEq t l)) ∧ w' = w := by
 have H := hide (contains_any g cap l t w hn hc)
 clear hc
 have h2 := h.c2
 clear h
 go_enter Tryz.func113, Tryz.ntmps113
 go_wp2_with fail
 refine (uh H).mono ?_
 rintro e w' ⟨rfl, rfl⟩
 go_wp2
 go_ret
 exact ⟨rfl, rfl⟩
def isNm (t : ByteArray) : Bool := match lst t with
 | [] => false
 | c :: r => letter c.toNat && !(c :: r == [116, 121, 112, 101])
def next (s : ByteArray) (k : Nat) : Nat := tokP s k + (tokT s k).size
def errv (c : Nat) : Value := .iface 134 (.int .i64 c)
/-- The reader in block b has come to the token from k on. -/
structure Pos (w : World) (b : Nat) (s : ByteArray) (k d : Nat) : Prop where
 rd : Rd w b s (tokP s k) (tokT s k) d
 le : k ≤ s.size
theorem Pos.of_rd {w : World} {b : Nat} {s : ByteArray} {k d : Nat} (h : Rd w b s (tokP s (next s k)) (tokT s (next s k)) d) (hk : k ≤ s.size) : Pos w b s (next s k) d := ⟨h, tok_fits s k hk⟩
theorem Pos.below {w w' : World} {b : Nat} {s : ByteArray} {k d : Nat} (h : Pos w b s k d) (hb : Below w.heap.size w w') : Pos w' b s k d := ⟨h.rd.below hb, h.le⟩
theorem Pos.alloc {w : World} {b : Nat} {s : ByteArray} {k d : Nat} (h : Pos w b s k d) (o : Obj) : Pos (w.alloc o) b s k d := ⟨h.rd.alloc o, h.le⟩
theorem Pos.drew {w : World} {b : Nat} {s : ByteArray} {k d : Nat} (h : Pos w b s k d) : Pos w.drew b s k d := ⟨h.rd.drew, h.le⟩
theorem Pos.setNew {w : World} {b : Nat} {s : ByteArray} {k d : Nat} (h : Pos w b s k d) {a : Addr} (ha : a.block ≠ b) (u : Value) : Pos (w.setCell a u) b s k d :=
 ⟨h.rd.of_block (Below.heap_setCell _ _ _ _ (Ne.symm ha)), h.le⟩
theorem step_pos (b : Nat) (s : ByteArray) (k d : Nat) (w : World) (hs : s.size ≤ maxLen) (h : Pos w b s k d) :
  Calls Tryz.prog 220 #[.pointer (some ⟨b, 0, none⟩)] w fun e w' => e = .returned (.tuple #[]) ∧ Pos w' b s (next s k) d ∧ But b w w' := by
 refine (step_any b s _ _ d w hs h.rd (tok_fits s k h.le)).mono ?_
 rintro e w' ⟨rfl, h1, h2⟩
 exact ⟨rfl, Pos.of_rd h1 h.le, h2⟩
theorem isNm_w (t : ByteArray) : isNm t = (decide ((0 : Int) < (wSize (lst t) : Nat)) && !(t.toList == [116, 121, 112, 101])) := by
 rw [toList_lst]
 unfold isNm
 cases lst t with
 | nil => rfl
 | cons c r =>
  simp only [wSize]
  by_cases hc : letter c.toNat = true
  rotate_left
  ·simp [hc]
  ·simp only [hc, if_true]
   rw [show decide ((0 : Int) < ((1 + (r.takeWhile wordC).length : Nat) : Int)) = true from decide_eq_true (by omega)]
theorem tokT_max (s : ByteArray) (k : Nat) (hs : s.size ≤ maxLen) (hk : k ≤ s.size) : (tokT s k).size ≤ maxLen := by
 have := tok_fits s k hk
 unfold maxLen at *
 omega
set_option maxHeartbeats 400000 in
theorem isName_any (p : Int) (t : ByteArray) (w : World) (ht : t.size ≤ maxLen) :
  Calls Tryz.prog 171 #[.agg #[.int .i64 p, .string t]] w fun e w' => e = .returned (.bool (isNm t)) ∧ Below w.heap.size w w' := by
 have HT := hide ht
 clear ht
 have Hfin := hide (isNm_w t)
 generalize hn : wSize (lst t) = n at Hfin
 have Hn := hide hn
 clear hn
 by_cases h0 : (0 : Int) < (n : Int)
 ·rw [decide_eq_true h0] at Hfin
  cases ht : (t.toList == [116, 121, 112, 101])
  all_goals
   rw [ht] at Hfin
   go_enter Tryz.func171, Tryz.ntmps171
   go_wp2_with (go_at_call 144; refine (size_any _ _ (uh HT)).mono ?_; rintro e w' ⟨rfl, rfl⟩; rw [uh Hn])
   go_ret
   exact ⟨by rw [uh Hfin]; rfl, (Below.refl _ _).alloc (Nat.le_refl _) _⟩
 ·rw [decide_eq_false h0] at Hfin
  go_enter Tryz.func171, Tryz.ntmps171
  go_wp2_with (go_at_call 144; refine (size_any _ _ (uh HT)).mono ?_; rintro e w' ⟨rfl, rfl⟩; rw [uh Hn])
  go_ret
  exact ⟨by rw [uh Hfin]; rfl, (Below.refl _ _).alloc (Nat.le_refl _) _⟩
theorem at1 (b : Nat) (s : ByteArray) (k d g cap : Nat) (x : ByteArray) (w : World) (h : Pos w b s k d) (hc : w.cell? ⟨g, 0, none⟩ = some (.string x)) :
  Calls Tryz.prog 113 #[.pointer (some ⟨b, 0, none⟩), .slice (some ⟨g, 0, none⟩) 1 cap] w fun e w' => e = .returned (.bool (eqs (tokT s k) x)) ∧ w' = w :=
 (rat_any b s _ _ d g cap [x] w h.rd (by simp [maxLen]) (fun i hi => by
  have e : i = 0 := by simp at hi; exact hi
  subst e; exact hc)).mono fun e w' ⟨h1, h2⟩ => ⟨by rw [h1]; simp [anyEq], h2⟩
theorem at2 (b : Nat) (s : ByteArray) (k d g cap : Nat) (x y : ByteArray) (w : World) (h : Pos w b s k d) (hc : w.cell? ⟨g, 0, none⟩ = some (.string x)) (hc' : w.cell? ⟨g, 1, none⟩ = some (.string y)) :
  Calls Tryz.prog 113 #[.pointer (some ⟨b, 0, none⟩), .slice (some ⟨g, 0, none⟩) 2 cap] w fun e w' => e = .returned (.bool (eqs (tokT s k) x || eqs (tokT s k) y)) ∧ w' = w :=
 (rat_any b s _ _ d g cap [x, y] w h.rd (by simp [maxLen]) (fun i hi => by
  match i, hi with
  | 0, _ => exact hc
  | 1, _ => exact hc'
  | n + 2, hi => simp at hi; omega)).mono fun e w' ⟨h1, h2⟩ => ⟨by rw [h1]; simp [anyEq], h2⟩
set_option maxHeartbeats 400000 in
theorem take_yes (b : Nat) (s : ByteArray) (k d : Nat) (x : ByteArray) (w : World) (hs : s.size ≤ maxLen) (h : Pos w b s k d) (he : eqs (tokT s k) x = true) :
  Calls Tryz.prog 169 #[.pointer (some ⟨b, 0, none⟩), .string x] w fun e w' => e = .returned .nilIface ∧ Pos w' b s (next s k) d ∧ But b w w' := by
 have H := hide h
 have Hs := hide hs
 clear h hs
 go_enter Tryz.func169, Tryz.ntmps169
 go_wp2_with fail
 refine (at1 b s k d _ _ x _ ((uh H).alloc _) (by simp)).mono ?_
 rintro e w' ⟨rfl, rfl⟩
 rw [he]
 go_wp2_with fail
 refine (step_pos b s k d _ (uh Hs) ((uh H).alloc _)).mono ?_
 rintro e w' ⟨rfl, h1, h2⟩
 have H1 := hide h1
 have H2 := hide (((But.refl b w).alloc _).trans h2)
 clear h1 h2
 go_wp2
 go_ret
 exact ⟨rfl, uh H1, uh H2⟩
set_option maxHeartbeats 400000 in
theorem take_no (b : Nat) (s : ByteArray) (k d : Nat) (x : ByteArray) (w : World) (h : Pos w b s k d) (he : eqs (tokT s k) x = false) :
  Calls Tryz.prog 169 #[.pointer (some ⟨b, 0, none⟩), .string x] w fun e w' => e = .returned (errv 2) ∧ Pos w' b s k d ∧ Below w.heap.size w w' := by
 have H := hide h
 clear h
 go_enter Tryz.func169, Tryz.ntmps169
 go_wp2_with fail
 refine (at1 b s k d _ _ x _ ((uh H).alloc _) (by simp)).mono ?_
 rintro e w' ⟨rfl, rfl⟩
 rw [he]
 go_wp2
 go_ret
 exact ⟨rfl, (uh H).alloc _, (Below.refl _ _).alloc (Nat.le_refl _) _⟩
/-- The name at hand. -/
def nmv (s : ByteArray) (k : Nat) : Value := .agg #[.int .i64 (tokP s k), .string (tokT s k)]
def nm0 : Value := .agg #[.int .i64 0, .string ⟨#[]⟩]
set_option maxHeartbeats 400000 in
theorem name_text (b : Nat) (s : ByteArray) (k d : Nat) (w : World) (hs : s.size ≤ maxLen) (h : Pos w b s k d) (he : isNm (tokT s k) = false) :
  Calls Tryz.prog 221 #[.pointer (some ⟨b, 0, none⟩)] w fun e w' => e = .returned (.tuple #[nm0, errv 2]) ∧ Pos w' b s k d ∧ Below w.heap.size w w' := by
 have H := hide h
 have HT := hide (tokT_max s k hs h.le)
 have h1 := h.rd.c1
 have h2 := h.rd.c2
 have hlt := h.rd.lt
 clear h hs
 go_enter Tryz.func221, Tryz.ntmps221
 go_wp2_with (go_at_call 171; refine (isName_any _ _ _ (uh HT)).mono ?_; rintro e w' ⟨rfl, hb⟩; rw [he]; obtain ⟨hcb, hfb⟩ := bcell hb)
 have hB : Below w.heap.size w w' := ((Below.refl _ _).alloc (Nat.le_refl _) _).trans (hb.mono (by simp))
 exact bodyPost_ret (v := .tuple #[nm0, errv 2]) (by simp [results, Tryz.results221, go_sem, nm0, errv, hcb]) rfl ⟨rfl, (((uh H).below hB).setNew (by simp; omega) _).setNew (by simp; omega) _, (hB.setCell (by simp) _).setCell (by simp) _⟩
set_option maxHeartbeats 400000 in
theorem name_size (b : Nat) (s : ByteArray) (k d : Nat) (w : World) (hs : s.size ≤ maxLen) (h : Pos w b s k d) (he : isNm (tokT s k) = true) (hl : 8 < (tokT s k).size) :
  Calls Tryz.prog 221 #[.pointer (some ⟨b, 0, none⟩)] w fun e w' => e = .returned (.tuple #[nm0, errv 3]) ∧ Pos w' b s k d ∧ Below w.heap.size w w' := by
 have H := hide h
 have HT := hide (tokT_max s k hs h.le)
 have h1 := h.rd.c1
 have h2 := h.rd.c2
 have hlt := h.rd.lt
 have hl' : (8 : Int) < ((tokT s k).size : Int) := by omega
 have hdl : decide ((8 : Int) < ((tokT s k).size : Int)) = true := by simpa using hl'
 clear h hs
 go_enter Tryz.func221, Tryz.ntmps221
 go_wp2_with (go_at_call 171; refine (isName_any _ _ _ (uh HT)).mono ?_; rintro e w' ⟨rfl, hb⟩; rw [he]; obtain ⟨hcb, hfb⟩ := bcell hb)
 have hB : Below w.heap.size w w' := ((Below.refl _ _).alloc (Nat.le_refl _) _).trans (hb.mono (by simp))
 exact bodyPost_ret (v := .tuple #[nm0, errv 3]) (by simp [results, Tryz.results221, go_sem, nm0, errv, hcb]) rfl ⟨rfl, (((uh H).below hB).setNew (by simp; omega) _).setNew (by simp; omega) _, (hB.setCell (by simp) _).setCell (by simp) _⟩
set_option maxHeartbeats 1000000 in
set_option maxRecDepth 100000 in
theorem name_ok (b : Nat) (s : ByteArray) (k d : Nat) (w : World) (hs : s.size ≤ maxLen) (h : Pos w b s k d) (he : isNm (tokT s k) = true) (hl : (tokT s k).size ≤ 8) :
  Calls Tryz.prog 221 #[.pointer (some ⟨b, 0, none⟩)] w fun e w' => e = .returned (.tuple #[nmv s k, .nilIface]) ∧ Pos w' b s (next s k) d ∧ But b w w' := by
 have H := hide h
 have HT := hide (tokT_max s k hs h.le)
 have Hs := hide hs
 clear hs
 have h1 := h.rd.c1
 have h2 := h.rd.c2
 have hlt := h.rd.lt
 have hl' : ((tokT s k).size : Int) ≤ (8 : Int) := by omega
 clear h
 go_enter Tryz.func221, Tryz.ntmps221
 go_wp2_with (go_at_call 171; refine (isName_any _ _ _ (uh HT)).mono ?_; rintro e w' ⟨rfl, hb⟩; rw [he]; obtain ⟨hcb, hfb⟩ := bcell hb)
 have hB : Below w.heap.size w w' := ((Below.refl _ _).alloc (Nat.le_refl _) _).trans (hb.mono (by simp))
 have hsz : w.heap.size < w'.heap.size := by have := hb.size; simp at this; omega
 have k1 : w'.cell? ⟨b, 1, none⟩ = some (.int .i64 (tokP s k)) := (hB.cell hlt).trans h1
 have k2 : w'.cell? ⟨b, 2, none⟩ = some (.string (tokT s k)) := (hB.cell hlt).trans h2
 have HB := hide hB
 have P1 := hide ((uh H).below hB)
 have R1 := hide ((Blk.new w #[.int .i64 0, .string ⟨#[]⟩] 107).below hb)
 clear hcb hfb hb hB h1 h2
 have n1 := World.new_ne w' _ k1
 have n2 := World.new_ne w' _ k2
 go_region_held3 (fun w' => w'.cell? ⟨b, 1, none⟩ = some (.int .i64 (tokP s k)) ∧ w'.cell? ⟨b, 2, none⟩ = some (.string (tokT s k))) (go_keep) (fail)
 rename_i hh
 clear hh
 go_wp2_with fail
 refine (step_pos b s k d _ (uh Hs) ((uh P1).alloc _).drew).mono ?_
 rintro e w2 ⟨rfl, p2, b2⟩
 have P2 := hide p2
 have B2 := hide ((But.of_below (b := b) (uh HB)).trans (((But.refl b w').alloc _).drew.trans b2))
 have N2 := (Blk.new w' #[.int .i64 (tokP s k), .string (tokT s k)] 107).drew.but b2 (by omega)
 have R2 := ((uh R1).alloc _).drew.but b2 (by omega)
 have q0 := N2.cell (o := 0) rfl
 have q1 := N2.cell (o := 1) rfl
 have r0 := R2.cell (o := 0) rfl
 have r1 := R2.cell (o := 1) rfl
 have z1 := R2.fz
 clear p2 b2 k1 k2 n1 n2 N2 R2
 go_wp2
 exact bodyPost_ret (v := .tuple #[nmv s k, .nilIface]) (by simp [results, Tryz.results221, go_sem, nmv, r0, r1]) rfl ⟨rfl, ((uh P2).setNew (by simp; omega) _).setNew (by simp; omega) _, ((uh B2).setNew (by simp) _).setNew (by simp) _⟩
end Go.Proofs.YtlbpnlngckgcbaaGreatDoor
