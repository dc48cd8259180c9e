import Derived.Test.YtlbpnlngckgcbaaGreatDoorTok
import Derived.Lib.Strings
namespace Go.Proofs.YtlbpnlngckgcbaaGreatDoor
open Go.RowKit Go.PlainAid
set_option linter.unusedSimpArgs false
set_option linter.unusedVariables false

/-- The place of the first token from 'k' on. -/
def skip (l : List UInt8) (k : Nat) : Nat := k + ((l.drop k).takeWhile blankC).length
/-- The text of the token that begins at 'p'. -/
def tokText (l : List UInt8) (p : Nat) : List UInt8 := (l.drop p).take (tokSize (l.drop p))

theorem skip_at (s : ByteArray) (a k : Nat) (h1 : a ≤ k) (hk : k ≤ s.size)
    (hall : ∀ j, a ≤ j → j < k → blank (bt s j) = true) (hend : k < s.size → blank (bt s k) = false) : skip (lst s) a = k := by
  have hb := bt_lst s
  rw [← lst_length] at hk hend
  generalize lst s = l at *
  unfold skip
  have := takeWhile_len blankC (l.drop a) (k - a) (fun j h h' => by
    simp at h'
    have := hall (a + j) (by omega) (by omega)
    rw [hb (a + j) (by omega)] at this
    simpa [blankC] using this) (by simp; omega) (fun h => by
    simp at h
    have := hend (by omega)
    rw [hb k (by omega)] at this
    simpa [blankC, show a + (k - a) = k by omega] using this)
  omega

theorem tokSize_le (l : List UInt8) : tokSize l ≤ l.length := by
  cases l with
  | nil => simp [tokSize]
  | cons c r =>
    simp only [tokSize]
    have := (List.takeWhile_sublist wordC (l := r)).length_le
    split <;> simp <;> omega

theorem lst_extract (s : ByteArray) (a b : Nat) : lst (s.extract a b) = ((lst s).drop a).take (b - a) := Lib.extract_data s a b
theorem extract_mk (s : ByteArray) (a b : Nat) : s.extract a b = mk (((lst s).drop a).take (b - a)) := Lib.extract_eq s a b
theorem lst_extract_end (s : ByteArray) (a : Nat) : lst (s.extract a s.size) = (lst s).drop a := by
  rw [lst_extract, List.take_of_length_le]
  rw [List.length_drop, lst_length]; omega

set_option maxHeartbeats 400000 in
theorem tokenFrom_any (s : ByteArray) (a : Nat) (w : World) (hs : s.size ≤ maxLen) (ha : a ≤ s.size) :
    Calls Tryz.prog 71 #[.string s, .int .i64 a] w fun e w' => e = .returned (.agg #[.int .i64 (skip (lst s) a), .string (mk (tokText (lst s) (skip (lst s) a)))]) ∧ Below w.heap.size w w' := by
  have Hs := hide hs
  unfold maxLen at hs
  have gb := get_bt s
  go_enter Tryz.func71, Tryz.ntmps71
  go_wp2
  go_loop [1] (fun i => ∃ k : Nat, a ≤ k ∧ k ≤ s.size ∧ i = .int .i64 k ∧ Hid (∀ j, a ≤ j → j < k → blank (bt s j) = true)) (fun i => s.size - (intOf i).toNat)
  case atStart => exact ⟨a, by omega, by omega, rfl, hide (fun j h h' => by omega)⟩
  case round =>
    obtain ⟨k, hk1, hk2, rfl, Hall⟩ := hrel
    by_cases hc : k < s.size ∧ blank (bt s k) = true
    · obtain ⟨hlt, hbk⟩ := hc
      have Hn := hide (show ∀ j, a ≤ j → j < k + 1 → blank (bt s j) = true from fun j h h' => by
        by_cases e : j = k
        · rw [e, hbk]
        · exact unhide Hall j h (by omega))
      go_wp2_with (first | (go_at_call 111; refine (isBlank_any _ _).mono ?_; rintro e w' ⟨rfl, rfl⟩))
      go_round
      case rel => exact ⟨k + 1, by omega, by omega, by go_num, Hn⟩
      case measure => simp [intOf]; omega
    · have Hp := hide (skip_at s a k hk1 hk2 (unhide Hall) (fun h => by
        cases hb : blank (bt s k)
        · rfl
        · exact absurd ⟨h, hb⟩ hc))
      have Ht := tokSize_le ((lst s).drop k)
      rw [List.length_drop, lst_length] at Ht
      have Hx := hide (show ∀ n, tokSize ((lst s).drop k) = n → s.extract k (k + n) = mk (tokText (lst s) k) from fun n hn => by
        rw [extract_mk, tokText, hn, show k + n - k = n by omega])
      have hsz : (s.extract k s.size).size ≤ maxLen := by rw [ByteArray.size_extract]; unfold maxLen; omega
      have Hsz := hide hsz
      clear hsz
      by_cases hlt : k < s.size
      · have hbk : blank (bt s k) = false := by
          cases hb : blank (bt s k)
          · rfl
          · exact absurd ⟨hlt, hb⟩ hc
        clear hc
        go_wp2_with (first | (go_at_call 111; refine (isBlank_any _ _).mono ?_; rintro e w' ⟨rfl, rfl⟩))
        refine (tokenSize_any _ _ (unhide Hsz)).mono ?_
        rintro e w' ⟨rfl, rfl⟩
        rw [lst_extract_end]
        generalize hn : tokSize ((lst s).drop k) = n at *
        have Hn := hide hn
        clear hn
        go_wp2
        exact bodyPost_ret (v := .agg #[.int .i64 k, .string (s.extract k (k + n))]) (by simp [results, Tryz.results71, go_sem]) rfl ⟨by rw [unhide Hp, unhide Hx n rfl], (Below.refl _ _).alloc (Nat.le_refl _) _⟩
      · clear hc
        go_wp2_with (first | (go_at_call 111; refine (isBlank_any _ _).mono ?_; rintro e w' ⟨rfl, rfl⟩))
        refine (tokenSize_any _ _ (unhide Hsz)).mono ?_
        rintro e w' ⟨rfl, rfl⟩
        rw [lst_extract_end]
        generalize hn : tokSize ((lst s).drop k) = n at *
        have Hn := hide hn
        clear hn
        go_wp2
        exact bodyPost_ret (v := .agg #[.int .i64 k, .string (s.extract k (k + n))]) (by simp [results, Tryz.results71, go_sem]) rfl ⟨by rw [unhide Hp, unhide Hx n rfl], (Below.refl _ _).alloc (Nat.le_refl _) _⟩
end Go.Proofs.YtlbpnlngckgcbaaGreatDoor
