import Derived.Test.YtlbpnlngckgcbaaGreatDoorProg
import Derived.WalkKit
import Derived.WalkLawsBesides
import Derived.WalkSpells
import Derived.BigQuiet
import Derived.PlainAid
namespace Go.Proofs.YtlbpnlngckgcbaaGreatDoor
open Go.RowKit Go.PlainAid
set_option linter.unusedSimpArgs false
set_option linter.unusedVariables false

theorem hide {p : Prop} (h : p) : Hid p := h
theorem unhide {p : Prop} (h : Hid p) : p := h

def blank (c : Int) : Bool := c == 32 || c == 9 || c == 10
def letter (c : Int) : Bool := decide (97 ≤ c) && decide (c ≤ 122)
def digit (c : Int) : Bool := decide (48 ≤ c) && decide (c ≤ 57)

set_option maxHeartbeats 400000 in
theorem isLetter_any (c : Int) (w : World) : Calls Tryz.prog 203 #[.int .u8 c] w fun e w' => e = .returned (.bool (letter c)) ∧ w' = w := by
  by_cases h1 : 97 ≤ c
  · go_enter Tryz.func203, Tryz.ntmps203
    go_wp2
    go_ret
    exact ⟨by simp [letter, h1], rfl⟩
  · go_enter Tryz.func203, Tryz.ntmps203
    go_wp2
    go_ret
    exact ⟨by simp [letter]; omega, rfl⟩

set_option maxHeartbeats 400000 in
theorem isDigit_any (c : Int) (w : World) : Calls Tryz.prog 204 #[.int .u8 c] w fun e w' => e = .returned (.bool (digit c)) ∧ w' = w := by
  by_cases h1 : 48 ≤ c
  · go_enter Tryz.func204, Tryz.ntmps204
    go_wp2
    go_ret
    exact ⟨by simp [digit, h1], rfl⟩
  · go_enter Tryz.func204, Tryz.ntmps204
    go_wp2
    go_ret
    exact ⟨by simp [digit]; omega, rfl⟩

set_option maxHeartbeats 400000 in
theorem isBlank_any (c : Int) (w : World) : Calls Tryz.prog 111 #[.int .u8 c] w fun e w' => e = .returned (.bool (blank c)) ∧ w' = w := by
  go_enter Tryz.func111, Tryz.ntmps111
  go_wp2
  all_goals
    go_ret
    exact ⟨by simp_all [blank], rfl⟩

def wordC (c : UInt8) : Bool := letter c.toNat || digit c.toNat
def blankC (c : UInt8) : Bool := blank c.toNat
def tokSize : List UInt8 → Nat
  | [] => 0
  | c :: r => if letter c.toNat then 1 + (r.takeWhile wordC).length else 1

def wSize : List UInt8 → Nat
  | [] => 0
  | c :: r => if letter c.toNat then 1 + (r.takeWhile wordC).length else 0
theorem tokSize_w (l : List UInt8) (h : l ≠ []) : ((tokSize l : Nat) : Int) = if (1 : Int) < (wSize l : Nat) then ((wSize l : Nat) : Int) else 1 := by
  cases l with
  | nil => exact absurd rfl h
  | cons c r =>
    simp only [tokSize, wSize]
    by_cases hc : letter c.toNat = true
    · simp only [hc, if_true]
      split <;> omega
    · simp [hc]

theorem takeWhile_len {α : Type} (p : α → Bool) : ∀ (l : List α) (k : Nat), (∀ j, (h : j < k) → (h' : j < l.length) → p l[j] = true) → k ≤ l.length → ((h : k < l.length) → p l[k] = false) → (l.takeWhile p).length = k
  | [], k, _, h2, _ => by simp at h2; simp [h2]
  | a :: r, 0, _, _, h3 => by
    have := h3 (by simp); simp at this; simp [List.takeWhile_cons, this]
  | a :: r, k + 1, h1, h2, h3 => by
    have ha := h1 0 (by omega) (by simp)
    simp at ha
    simp [List.takeWhile_cons, ha]
    exact takeWhile_len p r k (fun j h h' => by have := h1 (j + 1) (by omega) (by simp; omega); simpa using this) (by simpa using h2) (fun h => by have := h3 (by simp; omega); simpa using this)

def lst (s : ByteArray) : List UInt8 := s.data.toList
def mk (l : List UInt8) : ByteArray := ⟨l.toArray⟩
theorem lst_mk (l : List UInt8) : lst (mk l) = l := rfl
theorem mk_lst (s : ByteArray) : mk (lst s) = s := rfl
theorem lst_length (s : ByteArray) : (lst s).length = s.size := by show s.data.toList.length = s.data.size; exact Array.length_toList
theorem bt_lst (s : ByteArray) (k : Nat) (h : k < (lst s).length) : bt s k = ((lst s)[k].toNat : Int) := by
  rw [lst_length] at h
  unfold bt; rw [dif_pos h]; rfl
theorem toList_lst (s : ByteArray) : s.toList = lst s := ByteArray.toList_eq s

theorem wSize_at (s : ByteArray) (k : Nat) (h0 : 0 < s.size) (hl : letter (bt s 0) = true) (h1 : 1 ≤ k) (hk : k ≤ s.size)
    (hall : ∀ j, 1 ≤ j → j < k → (letter (bt s j) || digit (bt s j)) = true) (hend : k < s.size → (letter (bt s k) || digit (bt s k)) = false) : wSize (lst s) = k := by
  have hb := bt_lst s
  rw [← lst_length] at h0 hk hend
  generalize lst s = l at *
  cases l with
  | nil => simp at h0
  | cons c r =>
    have hl' := hb 0 (by simp)
    simp only [List.getElem_cons_zero] at hl'
    rw [hl'] at hl
    simp only [wSize, hl, if_true]
    simp only [List.length_cons] at hk hend
    have := takeWhile_len wordC r (k - 1) (fun j h h' => by
      have := hall (j + 1) (by omega) (by omega)
      rw [hb (j + 1) (by simp; omega)] at this
      simpa [wordC] using this) (by omega) (fun h => by
      obtain ⟨q, rfl⟩ : ∃ q, k = q + 1 := ⟨k - 1, by omega⟩
      have := hend (by omega)
      rw [hb (q + 1) (by simp; omega)] at this
      simpa [wordC] using this)
    omega

theorem wSize_none (s : ByteArray) (h0 : 0 < s.size) (hl : letter (bt s 0) = false) : wSize (lst s) = 0 := by
  have hb := bt_lst s
  rw [← lst_length] at h0
  generalize lst s = l at *
  cases l with
  | nil => simp at h0
  | cons c r =>
    have hl' := hb 0 (by simp)
    simp only [List.getElem_cons_zero] at hl'
    rw [hl'] at hl
    simp [wSize, hl]

theorem size_pos_of (s : ByteArray) (h : lst s ≠ []) : 0 < s.size := by
  rw [← lst_length]; exact List.length_pos_iff.2 h

set_option maxHeartbeats 400000 in
theorem size_any (s : ByteArray) (w : World) (hs : s.size ≤ maxLen) :
    Calls Tryz.prog 144 #[.string s] w fun e w' => e = .returned (.int .i64 (wSize (lst s))) ∧ w' = w := by
  unfold maxLen at hs
  by_cases hz : lst s = []
  · have hz' : s.toList = [] := by rw [toList_lst]; exact hz
    have Hz := hide hz
    clear hz
    go_enter Tryz.func144, Tryz.ntmps144
    go_wp2
    go_ret
    exact ⟨by rw [unhide Hz]; rfl, rfl⟩
  · have h0 : 0 < s.size := size_pos_of s hz
    have hz' : s.toList.isEmpty = false := by rw [toList_lst]; simpa using hz
    clear hz
    have gb := get_bt s
    cases hl : letter (bt s 0)
    · have Hfin := hide (wSize_none s h0 hl)
      go_enter Tryz.func144, Tryz.ntmps144
      go_wp2_with (go_at_call 203; refine (isLetter_any _ _).mono ?_; rintro e w' ⟨rfl, rfl⟩)
      go_ret
      exact ⟨by rw [unhide Hfin]; rfl, rfl⟩
    · have Hl := hide hl
      go_enter Tryz.func144, Tryz.ntmps144
      go_wp2_with (go_at_call 203; refine (isLetter_any _ _).mono ?_; rintro e w' ⟨rfl, rfl⟩)
      go_loop [3] (fun i => ∃ k : Nat, 1 ≤ k ∧ k ≤ s.size ∧ i = .int .i64 k ∧ Hid (∀ j, 1 ≤ j → j < k → (letter (bt s j) || digit (bt s j)) = true)) (fun i => s.size - (intOf i).toNat)
      case atStart => exact ⟨1, by omega, by omega, rfl, hide (fun j h h' => by omega)⟩
      case round =>
        obtain ⟨k, hk1, hk2, rfl, Hall⟩ := hrel
        by_cases hlt : k < s.size
        · cases hlk : letter (bt s k)
          · cases hdk : digit (bt s k)
            · have Hfin := hide (wSize_at s k h0 hl hk1 hk2 (unhide Hall) (fun _ => by simp [hlk, hdk]))
              go_wp2_with (first | (go_at_call 203; refine (isLetter_any _ _).mono ?_; rintro e w' ⟨rfl, rfl⟩) | (go_at_call 204; refine (isDigit_any _ _).mono ?_; rintro e w' ⟨rfl, rfl⟩))
              go_ret
              exact ⟨by rw [unhide Hfin]; rfl, rfl⟩
            · have Hn := hide (show ∀ j, 1 ≤ j → j < k + 1 → (letter (bt s j) || digit (bt s j)) = true from fun j h h' => by
                by_cases e : j = k
                · rw [e, hdk]; simp
                · exact unhide Hall j h (by omega))
              go_wp2_with (first | (go_at_call 203; refine (isLetter_any _ _).mono ?_; rintro e w' ⟨rfl, rfl⟩) | (go_at_call 204; refine (isDigit_any _ _).mono ?_; rintro e w' ⟨rfl, rfl⟩))
              go_round
              case rel => exact ⟨k + 1, by omega, by omega, by go_num, Hn⟩
              case measure => simp [intOf]; omega
          · have Hn := hide (show ∀ j, 1 ≤ j → j < k + 1 → (letter (bt s j) || digit (bt s j)) = true from fun j h h' => by
              by_cases e : j = k
              · rw [e, hlk]; simp
              · exact unhide Hall j h (by omega))
            go_wp2_with (first | (go_at_call 203; refine (isLetter_any _ _).mono ?_; rintro e w' ⟨rfl, rfl⟩) | (go_at_call 204; refine (isDigit_any _ _).mono ?_; rintro e w' ⟨rfl, rfl⟩))
            go_round
            case rel => exact ⟨k + 1, by omega, by omega, by go_num, Hn⟩
            case measure => simp [intOf]; omega
        · have Hfin := hide (wSize_at s k h0 hl hk1 hk2 (unhide Hall) (fun h => absurd h hlt))
          go_wp2_with (first | (go_at_call 203; refine (isLetter_any _ _).mono ?_; rintro e w' ⟨rfl, rfl⟩) | (go_at_call 204; refine (isDigit_any _ _).mono ?_; rintro e w' ⟨rfl, rfl⟩))
          go_ret
          exact ⟨by rw [unhide Hfin]; rfl, rfl⟩

set_option maxHeartbeats 400000 in
theorem tokenSize_any (s : ByteArray) (w : World) (hs : s.size ≤ maxLen) :
    Calls Tryz.prog 112 #[.string s] w fun e w' => e = .returned (.int .i64 (tokSize (lst s))) ∧ w' = w := by
  have HS := hide hs
  by_cases hz : lst s = []
  · have hz' : s.toList = [] := by rw [toList_lst]; exact hz
    have Hz := hide hz
    clear hz
    go_enter Tryz.func112, Tryz.ntmps112
    go_wp2
    go_ret
    exact ⟨by rw [unhide Hz]; rfl, rfl⟩
  · have hz' : s.toList.isEmpty = false := by rw [toList_lst]; simpa using hz
    have Hw := hide (tokSize_w (lst s) hz)
    clear hz
    generalize hn : wSize (lst s) = n at Hw
    have Hn := hide hn
    clear hn
    by_cases h1 : (1 : Int) < (n : Int)
    · go_enter Tryz.func112, Tryz.ntmps112
      go_wp2_with (go_at_call 144; refine (size_any _ _ (unhide HS)).mono ?_; rintro e w' ⟨rfl, rfl⟩; rw [unhide Hn])
      go_ret
      exact ⟨by rw [unhide Hw, if_pos h1]; rfl, rfl⟩
    · go_enter Tryz.func112, Tryz.ntmps112
      go_wp2_with (go_at_call 144; refine (size_any _ _ (unhide HS)).mono ?_; rintro e w' ⟨rfl, rfl⟩; rw [unhide Hn])
      go_ret
      exact ⟨by rw [unhide Hw, if_neg (by omega)]; rfl, rfl⟩
end Go.Proofs.YtlbpnlngckgcbaaGreatDoor
