import Derived.Test.YtlbpnlngckgcbaaGreatDoorEval
namespace Go.Proofs.YtlbpnlngckgcbaaGreatDoor
open Go.RowKit Go.PlainAid
set_option linter.unusedSimpArgs false
set_option linter.unusedVariables false

set_option maxHeartbeats 400000 in
theorem pick_any (n : Int) (m : Nat) (h1 : -9223372036854775808 ≤ n) (h2 : n ≤ 9223372036854775807) (hm : 0 < m) (hm2 : m ≤ 1000) (w : World) :
    Calls Tryz.prog 19 #[.int .i64 n, .int .i64 m] w fun e w' => (∃ k : Nat, k < m ∧ e = .returned (.int .i64 k)) ∧ w' = w := by
  have hm' : ((m : Int) == 0) = false := by rw [beq_eq_false_iff_ne]; omega
  have hm3 : ¬ ((m : Int) = 0) := by omega
  by_cases h : n < 0
  · go_enter Tryz.func19, Tryz.ntmps19
    go_wp2
    go_ret
    refine ⟨⟨(-(n + 1)).toNat % m, Nat.mod_lt _ hm, ?_⟩, rfl⟩
    show Ending.returned (.int .i64 (-(n + 1).tmod ↑m)) = _
    have e : -(n + 1).tmod (m : Int) = (((-(n + 1)).toNat % m : Nat) : Int) := by
      rw [← Int.neg_tmod, Int.tmod_eq_emod_of_nonneg (by omega)]
      have : ((-(n + 1)).toNat : Int) = -(n + 1) := by omega
      rw [Int.natCast_emod, this]
    rw [e]
  · go_enter Tryz.func19, Tryz.ntmps19
    go_wp2
    go_ret
    refine ⟨⟨n.toNat % m, Nat.mod_lt _ hm, ?_⟩, rfl⟩
    show Ending.returned (.int .i64 (n % ↑m)) = _
    have e : n % (m : Int) = ((n.toNat % m : Nat) : Int) := by
      have : (n.toNat : Int) = n := by omega
      rw [Int.natCast_emod, this]
    rw [e]
theorem wr64 (e : Int) : -9223372036854775808 ≤ IntKind.i64.wrap e ∧ IntKind.i64.wrap e ≤ 9223372036854775807 := by
  have h := wrap_within .i64 e
  have e1 : IntKind.i64.min = -9223372036854775808 := by decide
  have e2 : IntKind.i64.max = 9223372036854775807 := by decide
  rw [e1, e2] at h
  exact h
theorem pick9 (n : Int) (h1 : -9223372036854775808 ≤ n) (h2 : n ≤ 9223372036854775807) (w : World) :
    Calls Tryz.prog 19 #[.int .i64 n, .int .i64 9] w fun e w' => (∃ k : Nat, k < 9 ∧ e = .returned (.int .i64 k)) ∧ w' = w := pick_any n 9 h1 h2 (by omega) (by omega) w
/-- A slice of integers that came in. -/
def Raw (w : World) (v : Value) (n : Nat) : Prop := (v = .slice none 0 0 ∧ n = 0) ∨ ∃ (ad : Addr) (c : Nat) (z : Nat → Int), v = .slice (some ad) n c ∧ n ≤ c ∧ c ≤ maxLen ∧ ∀ j, j < n → w.cell? (ad.add j) = some (.int .i64 (z j)) ∧ -9223372036854775808 ≤ z j ∧ z j ≤ 9223372036854775807
def Blanks (s : ByteArray) : Prop := (lst s).all blankC = true ∧ s.size ≤ 2

set_option maxHeartbeats 1000000 in
set_option maxRecDepth 100000 in
theorem gap_any (v : Value) (n i : Nat) (w : World) (h : Raw w v n) (hi : i ≤ 1000) :
    Calls Tryz.prog 49 #[v, .int .i64 i] w fun e w' => (∃ s : ByteArray, Blanks s ∧ e = .returned (.string s)) ∧ Below w.heap.size w w' := by
  rcases h with ⟨rfl, rfl⟩ | ⟨ad, c, z, rfl, hc1, hc2, hz⟩
  · go_enter Tryz.func49, Tryz.ntmps49
    go_wp2
    go_ret
    exact ⟨⟨⟨#[]⟩, ⟨rfl, by decide⟩, rfl⟩, Below.refl _ _⟩
  · by_cases hn : n = 0
    · subst hn
      go_enter Tryz.func49, Tryz.ntmps49
      go_wp2
      go_ret
      exact ⟨⟨⟨#[]⟩, ⟨rfl, by decide⟩, rfl⟩, Below.refl _ _⟩
    · have hlt : i % n < n := Nat.mod_lt _ (by omega)
      obtain ⟨k0, z1, z2⟩ := hz (i % n) hlt
      have hn' : ((n : Int) == 0) = false := by rw [beq_eq_false_iff_ne]; omega
      have hn3 : ¬ ((n : Int) = 0) := by omega
      have e1 : (i : Int) % (n : Int) = ((i % n : Nat) : Int) := (Int.natCast_emod i n).symm
      have e2 : (i : Int).tmod (n : Int) = ((i % n : Nat) : Int) := by rw [Int.tmod_eq_emod_of_nonneg (by omega)]; exact e1
      have e3 : (i : Int) / (n : Int) = ((i / n : Nat) : Int) := (Int.natCast_ediv i n).symm
      have e4 : (i : Int).tdiv (n : Int) = ((i / n : Nat) : Int) := by rw [Int.tdiv_eq_ediv_of_nonneg (by omega)]; exact e3
      have hml : n ≤ 9223372036854775807 := by unfold maxLen at hc2; omega
      generalize i % n = r at *
      generalize i / n = q at *
      have b1 : (0 : Int) ≤ (r : Int) := by omega
      have b2 : (r : Int) < (n : Int) := by omega
      clear hz
      go_enter Tryz.func49, Tryz.ntmps49
      go_wp2_with fail
      go_region_held3 (fun w' => w'.cell? (ad.add r) = some (.int .i64 (z r))) (go_keep)
        ((go_at_call 19; refine (pick9 _ (wr64 _).1 (wr64 _).2 _).mono ?_; rintro e w' ⟨⟨k, hk, rfl⟩, rfl⟩))
      have B0 := hide (show Below w.heap.size w w.drew from (Below.refl _ _).drew)
      have hk9 : k = 0 ∨ k = 1 ∨ k = 2 ∨ k = 3 ∨ k = 4 ∨ k = 5 ∨ k = 6 ∨ k = 7 ∨ k = 8 := by omega
      rcases hk9 with rfl | rfl | rfl | rfl | rfl | rfl | rfl | rfl | rfl
      · go_wp2
        go_ret
        exact ⟨⟨⟨#[]⟩, ⟨rfl, by decide⟩, rfl⟩, unhide B0⟩
      · go_wp2
        go_ret
        exact ⟨⟨⟨#[]⟩, ⟨rfl, by decide⟩, rfl⟩, unhide B0⟩
      · go_wp2
        go_ret
        exact ⟨⟨⟨#[]⟩, ⟨rfl, by decide⟩, rfl⟩, unhide B0⟩
      · go_wp2
        go_ret
        exact ⟨⟨⟨#[32]⟩, ⟨rfl, by decide⟩, rfl⟩, unhide B0⟩
      · go_wp2
        go_ret
        exact ⟨⟨⟨#[9]⟩, ⟨rfl, by decide⟩, rfl⟩, unhide B0⟩
      · go_wp2
        go_ret
        exact ⟨⟨⟨#[10]⟩, ⟨rfl, by decide⟩, rfl⟩, unhide B0⟩
      · go_wp2
        go_ret
        exact ⟨⟨⟨#[32, 32]⟩, ⟨rfl, by decide⟩, rfl⟩, unhide B0⟩
      · go_wp2
        go_ret
        exact ⟨⟨⟨#[9, 32]⟩, ⟨rfl, by decide⟩, rfl⟩, unhide B0⟩
      · go_wp2
        go_ret
        exact ⟨⟨⟨#[10, 32]⟩, ⟨rfl, by decide⟩, rfl⟩, unhide B0⟩
end Go.Proofs.YtlbpnlngckgcbaaGreatDoor

namespace Go.Proofs.YtlbpnlngckgcbaaGreatDoor
open Go.RowKit Go.PlainAid
set_option linter.unusedSimpArgs false
set_option linter.unusedVariables false

def tokV (m : Bool) : List Value := strs ((tokM m).map mk)

set_option maxHeartbeats 2000000 in
set_option maxRecDepth 100000 in
theorem tokens_more (w : World) : Calls Tryz.prog 18 #[.bool true] w fun e w' => (∃ sa sc, e = .returned (.slice sa 61 sc) ∧ w'.ownsRow w.heap.size 9 1 (.slice sa 61 sc) 61 (tokV true)) ∧ Below w.heap.size w w' := by
  obtain ⟨i0, hi, hz0, hz1, hz2⟩ := info_parts Tryz.info9'
  have HI := hide hi
  have HZ0 := hide hz0
  have HZ1 := hide hz1
  have HZ2 := hide hz2
  clear hi hz0 hz1 hz2
  have O1 := hide (show (w.alloc (.cells #[.string ⟨#[116, 121, 112, 101]⟩, .string ⟨#[117, 115, 101, 114]⟩, .string ⟨#[123]⟩, .string ⟨#[125]⟩, .string ⟨#[116, 121, 112, 101]⟩, .string ⟨#[100, 111, 99]⟩, .string ⟨#[123]⟩, .string ⟨#[111, 119, 110, 101, 114]⟩, .string ⟨#[58]⟩, .string ⟨#[91]⟩, .string ⟨#[117, 115, 101, 114]⟩, .string ⟨#[44]⟩, .string ⟨#[117, 115, 101, 114]⟩, .string ⟨#[42]⟩, .string ⟨#[44]⟩, .string ⟨#[100, 111, 99]⟩, .string ⟨#[35]⟩, .string ⟨#[111, 119, 110, 101, 114]⟩, .string ⟨#[93]⟩, .string ⟨#[59]⟩, .string ⟨#[117, 112]⟩, .string ⟨#[58]⟩, .string ⟨#[91]⟩, .string ⟨#[100, 111, 99]⟩, .string ⟨#[93]⟩, .string ⟨#[59]⟩, .string ⟨#[101, 100, 105, 116]⟩, .string ⟨#[58]⟩] 9)).ownsRow w.heap.size 9 1 (.slice (some ⟨w.heap.size, 0, none⟩) 28 28) 28 (strs (tokA.map mk)) from ⟨rfl, .inr ⟨w.heap.size, 28, _, rfl, Nat.le_refl _, Blk.new w _ _, Nat.le_refl _, by unfold maxLen; omega, rfl, rfl⟩⟩)
  have B1 := hide ((Below.refl w.heap.size w).alloc (Nat.le_refl _) (.cells #[.string ⟨#[116, 121, 112, 101]⟩, .string ⟨#[117, 115, 101, 114]⟩, .string ⟨#[123]⟩, .string ⟨#[125]⟩, .string ⟨#[116, 121, 112, 101]⟩, .string ⟨#[100, 111, 99]⟩, .string ⟨#[123]⟩, .string ⟨#[111, 119, 110, 101, 114]⟩, .string ⟨#[58]⟩, .string ⟨#[91]⟩, .string ⟨#[117, 115, 101, 114]⟩, .string ⟨#[44]⟩, .string ⟨#[117, 115, 101, 114]⟩, .string ⟨#[42]⟩, .string ⟨#[44]⟩, .string ⟨#[100, 111, 99]⟩, .string ⟨#[35]⟩, .string ⟨#[111, 119, 110, 101, 114]⟩, .string ⟨#[93]⟩, .string ⟨#[59]⟩, .string ⟨#[117, 112]⟩, .string ⟨#[58]⟩, .string ⟨#[91]⟩, .string ⟨#[100, 111, 99]⟩, .string ⟨#[93]⟩, .string ⟨#[59]⟩, .string ⟨#[101, 100, 105, 116]⟩, .string ⟨#[58]⟩] 9))
  go_enter Tryz.func18, Tryz.ntmps18
  go_wp2_with (at_builtin; go_must (refine wpList_append_lies _ rfl _ _ 22 rfl w.heap.size 9 i0 _ 1 16 Tryz.underlying22 (unhide HI) (unhide HZ0) (unhide HZ1) (unhide HZ2) rfl (by decide) (.slice (some ⟨w.heap.size, 0, none⟩) 28 28) 28 (strs (tokA.map mk)) rfl ?hown ⟨w.heap.size + 1, 0, none⟩ 33 33 (strs (tokMore.map mk)) rfl rfl ?hnews ?hone (by decide) ?h63 ?hbytes ?hbase (w.heap.size + 2) ?hH ?hrest))
  case hown => exact (unhide O1).alloc _
  case hnews => exact World.news_of_block (B := w.heap.size + 1) (cs := #[.string ⟨#[40]⟩, .string ⟨#[111, 119, 110, 101, 114]⟩, .string ⟨#[124]⟩, .string ⟨#[40]⟩, .string ⟨#[117, 112]⟩, .string ⟨#[46]⟩, .string ⟨#[101, 100, 105, 116]⟩, .string ⟨#[41]⟩, .string ⟨#[41]⟩, .string ⟨#[59]⟩, .string ⟨#[115, 101, 101]⟩, .string ⟨#[58]⟩, .string ⟨#[40]⟩, .string ⟨#[40]⟩, .string ⟨#[111, 119, 110, 101, 114]⟩, .string ⟨#[124]⟩, .string ⟨#[101, 100, 105, 116]⟩, .string ⟨#[41]⟩, .string ⟨#[38]⟩, .string ⟨#[101, 100, 105, 116]⟩, .string ⟨#[41]⟩, .string ⟨#[45]⟩, .string ⟨#[40]⟩, .string ⟨#[40]⟩, .string ⟨#[117, 112]⟩, .string ⟨#[46]⟩, .string ⟨#[111, 119, 110, 101, 114]⟩, .string ⟨#[41]⟩, .string ⟨#[38]⟩, .string ⟨#[111, 119, 110, 101, 114]⟩, .string ⟨#[41]⟩, .string ⟨#[59]⟩, .string ⟨#[125]⟩]) (t := 9) (fr := (0, 0)) (Blk.new' (w.alloc _) _ _ _ (by simp))
  case hone =>
    intro z hz
    unfold strs at hz
    rw [List.mem_map] at hz
    obtain ⟨y, _, rfl⟩ := hz
    rfl
  case h63 => unfold maxLen; omega
  case hbytes => omega
  case hbase => simp; omega
  case hH => simp
  case hrest =>
    intro g6 cap6 w6 hown6 hgrow6 hat6 hgl6
    have O5' := (unhide O1).alloc (.cells #[.string ⟨#[40]⟩, .string ⟨#[111, 119, 110, 101, 114]⟩, .string ⟨#[124]⟩, .string ⟨#[40]⟩, .string ⟨#[117, 112]⟩, .string ⟨#[46]⟩, .string ⟨#[101, 100, 105, 116]⟩, .string ⟨#[41]⟩, .string ⟨#[41]⟩, .string ⟨#[59]⟩, .string ⟨#[115, 101, 101]⟩, .string ⟨#[58]⟩, .string ⟨#[40]⟩, .string ⟨#[40]⟩, .string ⟨#[111, 119, 110, 101, 114]⟩, .string ⟨#[124]⟩, .string ⟨#[101, 100, 105, 116]⟩, .string ⟨#[41]⟩, .string ⟨#[38]⟩, .string ⟨#[101, 100, 105, 116]⟩, .string ⟨#[41]⟩, .string ⟨#[45]⟩, .string ⟨#[40]⟩, .string ⟨#[40]⟩, .string ⟨#[117, 112]⟩, .string ⟨#[46]⟩, .string ⟨#[111, 119, 110, 101, 114]⟩, .string ⟨#[41]⟩, .string ⟨#[38]⟩, .string ⟨#[111, 119, 110, 101, 114]⟩, .string ⟨#[41]⟩, .string ⟨#[59]⟩, .string ⟨#[125]⟩] 9)
    have B6 := hide (Below.grown ((unhide B1).alloc (unhide B1).size (.cells #[.string ⟨#[40]⟩, .string ⟨#[111, 119, 110, 101, 114]⟩, .string ⟨#[124]⟩, .string ⟨#[40]⟩, .string ⟨#[117, 112]⟩, .string ⟨#[46]⟩, .string ⟨#[101, 100, 105, 116]⟩, .string ⟨#[41]⟩, .string ⟨#[41]⟩, .string ⟨#[59]⟩, .string ⟨#[115, 101, 101]⟩, .string ⟨#[58]⟩, .string ⟨#[40]⟩, .string ⟨#[40]⟩, .string ⟨#[111, 119, 110, 101, 114]⟩, .string ⟨#[124]⟩, .string ⟨#[101, 100, 105, 116]⟩, .string ⟨#[41]⟩, .string ⟨#[38]⟩, .string ⟨#[101, 100, 105, 116]⟩, .string ⟨#[41]⟩, .string ⟨#[45]⟩, .string ⟨#[40]⟩, .string ⟨#[40]⟩, .string ⟨#[117, 112]⟩, .string ⟨#[46]⟩, .string ⟨#[111, 119, 110, 101, 114]⟩, .string ⟨#[41]⟩, .string ⟨#[38]⟩, .string ⟨#[111, 119, 110, 101, 114]⟩, .string ⟨#[41]⟩, .string ⟨#[59]⟩, .string ⟨#[125]⟩] 9)) hgrow6 (by simp; omega) (fun k hk => (O5'.lt k hk).1))
    have O6 := hide (show w6.ownsRow w.heap.size 9 1 (.slice (some ⟨g6, 0, none⟩) 61 cap6) 61 (tokV true) from hown6)
    clear hown6 hgrow6 hat6 O5'
    go_wp2
    go_ret
    exact ⟨⟨_, cap6, rfl, unhide O6⟩, unhide B6⟩

set_option maxHeartbeats 2000000 in
set_option maxRecDepth 100000 in
theorem tokens_less (w : World) : Calls Tryz.prog 18 #[.bool false] w fun e w' => (∃ sa sc, e = .returned (.slice sa 53 sc) ∧ w'.ownsRow w.heap.size 9 1 (.slice sa 53 sc) 53 (tokV false)) ∧ Below w.heap.size w w' := by
  obtain ⟨i0, hi, hz0, hz1, hz2⟩ := info_parts Tryz.info9'
  have HI := hide hi
  have HZ0 := hide hz0
  have HZ1 := hide hz1
  have HZ2 := hide hz2
  clear hi hz0 hz1 hz2
  have O1 := hide (show (w.alloc (.cells #[.string ⟨#[116, 121, 112, 101]⟩, .string ⟨#[117, 115, 101, 114]⟩, .string ⟨#[123]⟩, .string ⟨#[125]⟩, .string ⟨#[116, 121, 112, 101]⟩, .string ⟨#[100, 111, 99]⟩, .string ⟨#[123]⟩, .string ⟨#[111, 119, 110, 101, 114]⟩, .string ⟨#[58]⟩, .string ⟨#[91]⟩, .string ⟨#[117, 115, 101, 114]⟩, .string ⟨#[44]⟩, .string ⟨#[117, 115, 101, 114]⟩, .string ⟨#[42]⟩, .string ⟨#[44]⟩, .string ⟨#[100, 111, 99]⟩, .string ⟨#[35]⟩, .string ⟨#[111, 119, 110, 101, 114]⟩, .string ⟨#[93]⟩, .string ⟨#[59]⟩, .string ⟨#[117, 112]⟩, .string ⟨#[58]⟩, .string ⟨#[91]⟩, .string ⟨#[100, 111, 99]⟩, .string ⟨#[93]⟩, .string ⟨#[59]⟩, .string ⟨#[101, 100, 105, 116]⟩, .string ⟨#[58]⟩] 9)).ownsRow w.heap.size 9 1 (.slice (some ⟨w.heap.size, 0, none⟩) 28 28) 28 (strs (tokA.map mk)) from ⟨rfl, .inr ⟨w.heap.size, 28, _, rfl, Nat.le_refl _, Blk.new w _ _, Nat.le_refl _, by unfold maxLen; omega, rfl, rfl⟩⟩)
  have B1 := hide ((Below.refl w.heap.size w).alloc (Nat.le_refl _) (.cells #[.string ⟨#[116, 121, 112, 101]⟩, .string ⟨#[117, 115, 101, 114]⟩, .string ⟨#[123]⟩, .string ⟨#[125]⟩, .string ⟨#[116, 121, 112, 101]⟩, .string ⟨#[100, 111, 99]⟩, .string ⟨#[123]⟩, .string ⟨#[111, 119, 110, 101, 114]⟩, .string ⟨#[58]⟩, .string ⟨#[91]⟩, .string ⟨#[117, 115, 101, 114]⟩, .string ⟨#[44]⟩, .string ⟨#[117, 115, 101, 114]⟩, .string ⟨#[42]⟩, .string ⟨#[44]⟩, .string ⟨#[100, 111, 99]⟩, .string ⟨#[35]⟩, .string ⟨#[111, 119, 110, 101, 114]⟩, .string ⟨#[93]⟩, .string ⟨#[59]⟩, .string ⟨#[117, 112]⟩, .string ⟨#[58]⟩, .string ⟨#[91]⟩, .string ⟨#[100, 111, 99]⟩, .string ⟨#[93]⟩, .string ⟨#[59]⟩, .string ⟨#[101, 100, 105, 116]⟩, .string ⟨#[58]⟩] 9))
  go_enter Tryz.func18, Tryz.ntmps18
  go_wp2_with (at_builtin; go_must (refine wpList_append_lies _ rfl _ _ 22 rfl w.heap.size 9 i0 _ 1 16 Tryz.underlying22 (unhide HI) (unhide HZ0) (unhide HZ1) (unhide HZ2) rfl (by decide) (.slice (some ⟨w.heap.size, 0, none⟩) 28 28) 28 (strs (tokA.map mk)) rfl ?hown ⟨w.heap.size + 1, 0, none⟩ 25 25 (strs (tokLess.map mk)) rfl rfl ?hnews ?hone (by decide) ?h63 ?hbytes ?hbase (w.heap.size + 2) ?hH ?hrest))
  case hown => exact (unhide O1).alloc _
  case hnews => exact World.news_of_block (B := w.heap.size + 1) (cs := #[.string ⟨#[111, 119, 110, 101, 114]⟩, .string ⟨#[124]⟩, .string ⟨#[117, 112]⟩, .string ⟨#[46]⟩, .string ⟨#[101, 100, 105, 116]⟩, .string ⟨#[59]⟩, .string ⟨#[115, 101, 101]⟩, .string ⟨#[58]⟩, .string ⟨#[40]⟩, .string ⟨#[111, 119, 110, 101, 114]⟩, .string ⟨#[124]⟩, .string ⟨#[101, 100, 105, 116]⟩, .string ⟨#[41]⟩, .string ⟨#[38]⟩, .string ⟨#[101, 100, 105, 116]⟩, .string ⟨#[45]⟩, .string ⟨#[40]⟩, .string ⟨#[117, 112]⟩, .string ⟨#[46]⟩, .string ⟨#[111, 119, 110, 101, 114]⟩, .string ⟨#[38]⟩, .string ⟨#[111, 119, 110, 101, 114]⟩, .string ⟨#[41]⟩, .string ⟨#[59]⟩, .string ⟨#[125]⟩]) (t := 9) (fr := (0, 0)) (Blk.new' (w.alloc _) _ _ _ (by simp))
  case hone =>
    intro z hz
    unfold strs at hz
    rw [List.mem_map] at hz
    obtain ⟨y, _, rfl⟩ := hz
    rfl
  case h63 => unfold maxLen; omega
  case hbytes => omega
  case hbase => simp; omega
  case hH => simp
  case hrest =>
    intro g6 cap6 w6 hown6 hgrow6 hat6 hgl6
    have O5' := (unhide O1).alloc (.cells #[.string ⟨#[111, 119, 110, 101, 114]⟩, .string ⟨#[124]⟩, .string ⟨#[117, 112]⟩, .string ⟨#[46]⟩, .string ⟨#[101, 100, 105, 116]⟩, .string ⟨#[59]⟩, .string ⟨#[115, 101, 101]⟩, .string ⟨#[58]⟩, .string ⟨#[40]⟩, .string ⟨#[111, 119, 110, 101, 114]⟩, .string ⟨#[124]⟩, .string ⟨#[101, 100, 105, 116]⟩, .string ⟨#[41]⟩, .string ⟨#[38]⟩, .string ⟨#[101, 100, 105, 116]⟩, .string ⟨#[45]⟩, .string ⟨#[40]⟩, .string ⟨#[117, 112]⟩, .string ⟨#[46]⟩, .string ⟨#[111, 119, 110, 101, 114]⟩, .string ⟨#[38]⟩, .string ⟨#[111, 119, 110, 101, 114]⟩, .string ⟨#[41]⟩, .string ⟨#[59]⟩, .string ⟨#[125]⟩] 9)
    have B6 := hide (Below.grown ((unhide B1).alloc (unhide B1).size (.cells #[.string ⟨#[111, 119, 110, 101, 114]⟩, .string ⟨#[124]⟩, .string ⟨#[117, 112]⟩, .string ⟨#[46]⟩, .string ⟨#[101, 100, 105, 116]⟩, .string ⟨#[59]⟩, .string ⟨#[115, 101, 101]⟩, .string ⟨#[58]⟩, .string ⟨#[40]⟩, .string ⟨#[111, 119, 110, 101, 114]⟩, .string ⟨#[124]⟩, .string ⟨#[101, 100, 105, 116]⟩, .string ⟨#[41]⟩, .string ⟨#[38]⟩, .string ⟨#[101, 100, 105, 116]⟩, .string ⟨#[45]⟩, .string ⟨#[40]⟩, .string ⟨#[117, 112]⟩, .string ⟨#[46]⟩, .string ⟨#[111, 119, 110, 101, 114]⟩, .string ⟨#[38]⟩, .string ⟨#[111, 119, 110, 101, 114]⟩, .string ⟨#[41]⟩, .string ⟨#[59]⟩, .string ⟨#[125]⟩] 9)) hgrow6 (by simp; omega) (fun k hk => (O5'.lt k hk).1))
    have O6 := hide (show w6.ownsRow w.heap.size 9 1 (.slice (some ⟨g6, 0, none⟩) 53 cap6) 53 (tokV false) from hown6)
    clear hown6 hgrow6 hat6 O5'
    go_wp2
    go_ret
    exact ⟨⟨_, cap6, rfl, unhide O6⟩, unhide B6⟩

def tokN (m : Bool) : Nat := if m then 61 else 53
theorem tokens_any (m : Bool) (w : World) : Calls Tryz.prog 18 #[.bool m] w fun e w' => (∃ sa sc, e = .returned (.slice sa (tokN m) sc) ∧ w'.ownsRow w.heap.size 9 1 (.slice sa (tokN m) sc) (tokN m) (tokV m)) ∧ Below w.heap.size w w' := by
  cases m
  · exact tokens_less w
  · exact tokens_more w
end Go.Proofs.YtlbpnlngckgcbaaGreatDoor

namespace Go.Proofs.YtlbpnlngckgcbaaGreatDoor
open Go.RowKit Go.PlainAid
set_option linter.unusedSimpArgs false
set_option linter.unusedVariables false

def typeL : List UInt8 := [116, 121, 112, 101]
/-- As GoodP, looked at from one pair to the next. -/
def adjP : List (List UInt8 × List UInt8) → Bool
  | [] => true
  | [(g, t)] => g.all blankC && TkB t
  | (g, t) :: (g2, t2) :: r => g.all blankC && TkB t && (!isWd t || !g2.isEmpty || endW t2) && adjP ((g2, t2) :: r)
theorem adj_good : ∀ (ps : List (List UInt8 × List UInt8)), adjP ps = true → GoodP [] ps = true
  | [], _ => rfl
  | [(g, t)], h => by
    simp only [adjP, Bool.and_eq_true] at h
    simp [GoodP, h.1, h.2, flat, endW]
  | (g, t) :: (g2, t2) :: r, h => by
    simp only [adjP, Bool.and_eq_true] at h
    obtain ⟨⟨⟨h1, h2⟩, h3⟩, h4⟩ := h
    have ih := adj_good ((g2, t2) :: r) h4
    rw [GoodP, ih, h1, h2]
    simp only [Bool.and_true, Bool.true_and]
    simp only [Bool.or_eq_true, Bool.not_eq_true'] at h3 ⊢
    rcases h3 with (h3 | h3) | h3
    · exact .inl h3
    · right
      have hb : g2.all blankC = true := by
        cases r with
        | nil => simp only [adjP, Bool.and_eq_true] at h4; exact h4.1
        | cons q r => obtain ⟨a, c⟩ := q; simp only [adjP, Bool.and_eq_true] at h4; exact h4.1.1.1
      cases g2 with
      | nil => simp at h3
      | cons c g2 =>
        simp only [List.all_cons, Bool.and_eq_true] at hb
        simp [flat, endW, blank_word c hb.1]
    · right
      have hb : g2.all blankC = true ∧ TkB t2 = true := by
        cases r with
        | nil => simp only [adjP, Bool.and_eq_true] at h4; exact h4
        | cons q r => obtain ⟨a, c⟩ := q; simp only [adjP, Bool.and_eq_true] at h4; exact h4.1.1
      cases g2 with
      | nil =>
        obtain ⟨c, r', rfl, _⟩ := tk_head t2 hb.2
        simpa [flat, endW] using h3
      | cons c g2 =>
        simp only [List.all_cons, Bool.and_eq_true] at hb
        simp [flat, endW, blank_word c hb.1.1]
theorem adj_snoc : ∀ (ps : List (List UInt8 × List UInt8)) (g t : List UInt8), adjP ps = true → g.all blankC = true → TkB t = true → (∀ q, ps.getLast? = some q → isWd q.2 = true → g.isEmpty = false ∨ endW t = true) → adjP (ps ++ [(g, t)]) = true
  | [], g, t, _, hg, ht, _ => by simp only [List.nil_append, adjP, hg, ht, Bool.and_self]
  | [(a, c)], g, t, h, hg, ht, hl => by
    simp only [adjP, Bool.and_eq_true] at h
    have := hl (a, c) rfl
    simp only [List.cons_append, List.nil_append, adjP, h.1, h.2, hg, ht, Bool.and_true, Bool.true_and]
    cases hw : isWd c
    · rfl
    · rcases this hw with h | h <;> simp [h]
  | (a, c) :: (a2, c2) :: r, g, t, h, hg, ht, hl => by
    simp only [adjP, Bool.and_eq_true] at h
    have ih := adj_snoc ((a2, c2) :: r) g t h.2 hg ht (fun q hq => hl q (by simpa using hq))
    simp only [List.cons_append] at ih ⊢
    simp only [adjP, Bool.and_eq_true]
    exact ⟨h.1, ih⟩
def cum (l : List (List UInt8)) : Nat → Nat
  | 0 => 0
  | i + 1 => cum l i + 3 + (l.getD i []).length
def sepOk (a c : List UInt8) : Bool := !isWd a || endW c || a == typeL || c == typeL
theorem tok_facts (m : Bool) : (tokM m).length = tokN m ∧ cum (tokM m) (tokN m) ≤ 400 ∧ (tokM m).all TkB = true ∧ (List.range 61).all (fun i => sepOk ((tokM m).getD i []) ((tokM m).getD (i + 1) [])) = true := by
  cases m
  · exact ⟨by kernel_rfl, of_decide_eq_true (by kernel_rfl), by kernel_rfl, by kernel_rfl⟩
  · exact ⟨by kernel_rfl, of_decide_eq_true (by kernel_rfl), by kernel_rfl, by kernel_rfl⟩
theorem cum_le (l : List (List UInt8)) : ∀ i j, i ≤ j → cum l i ≤ cum l j
  | i, 0, h => by obtain rfl : i = 0 := by omega
                  exact Nat.le_refl _
  | i, j + 1, h => by
    rcases Nat.lt_or_ge i (j + 1) with hl | hl
    · have := cum_le l i j (by omega)
      simp only [cum]
      omega
    · obtain rfl : i = j + 1 := by omega
      exact Nat.le_refl _

/-- The tokens so far, with the byte that can stand nowhere. -/
def toksI (l : List (List UInt8)) (bad : Int) (i : Nat) : List (List UInt8) := if 0 ≤ bad ∧ bad < i then tokB (l.take i) bad.toNat else l.take i
/-- How it stands ahead of token i. -/
def SpI (l : List (List UInt8)) (bad : Int) (i : Nat) (S : List UInt8) (pl : Int) : Prop := ∃ ps, S = flat ps ∧ adjP ps = true ∧ ps.map Prod.snd = toksI l bad i ∧ (∀ q, ps.getLast? = some q → 0 < i ∧ q.2 = l.getD (i - 1) []) ∧
  S.length ≤ cum l i + (if 0 ≤ bad ∧ bad < i then 1 else 0) ∧ (0 ≤ bad ∧ bad < i → ∃ pre g post, ps = pre ++ (g, [37]) :: post ∧ pre.length = bad.toNat ∧ pl = (((flat pre).length + g.length : Nat) : Int))
theorem SpI.zero (l : List (List UInt8)) (bad pl : Int) : SpI l bad 0 [] pl := ⟨[], rfl, rfl, by simp [toksI]; omega, by simp, by simp, by omega⟩
theorem flat_snoc (ps : List (List UInt8 × List UInt8)) (g t : List UInt8) : flat (ps ++ [(g, t)]) = flat ps ++ g ++ t := by simp [flat]
theorem take_get (l : List (List UInt8)) (i : Nat) (h : i < l.length) : l.take (i + 1) = l.take i ++ [l.getD i []] := by
  rw [List.take_succ_eq_append_getElem h, List.getD, List.getElem?_eq_getElem h]; rfl
/-- A token is written. -/
theorem SpI.norm {l : List (List UInt8)} {bad : Int} {i : Nat} {S : List UInt8} {pl : Int} (h : SpI l bad i S pl) (hi : i < l.length) (hne : bad ≠ i) (hT : l.all TkB = true) (g : List UInt8) (hg : g.all blankC = true) (hgl : g.length ≤ 3)
    (hs : 0 < i → isWd (l.getD (i - 1) []) = true → g.isEmpty = false ∨ endW (l.getD i []) = true) : SpI l bad (i + 1) (S ++ g ++ l.getD i []) pl := by
  obtain ⟨ps, rfl, h2, h3, h4, h5, h6⟩ := h
  have ht : TkB (l.getD i []) = true := by
    rw [List.all_eq_true] at hT
    apply hT
    rw [List.getD, List.getElem?_eq_getElem hi]
    exact List.getElem_mem hi
  have hq : (0 ≤ bad ∧ bad < ((i + 1 : Nat) : Int)) ↔ (0 ≤ bad ∧ bad < (i : Int)) := by omega
  refine ⟨ps ++ [(g, l.getD i [])], (flat_snoc ps g _).symm, ?_, ?_, ?_, ?_, ?_⟩
  · refine adj_snoc ps g _ h2 hg ht (fun q hq hw => ?_)
    obtain ⟨a, c⟩ := h4 q hq
    rw [c] at hw
    exact hs a hw
  · rw [List.map_append, h3]
    unfold toksI
    simp only [hq]
    split
    · rename_i hb
      unfold tokB
      have e1 : (l.take (i + 1)).take bad.toNat = (l.take i).take bad.toNat := by
        rw [List.take_take, List.take_take]; congr 1; omega
      have e2 : (l.take (i + 1)).drop bad.toNat = (l.take i).drop bad.toNat ++ [l.getD i []] := by
        rw [take_get l i hi, List.drop_append_of_le_length (by rw [List.length_take]; omega)]
      rw [e1, e2]
      simp
    · rw [take_get l i hi]
      rfl
  · intro q hq'
    simp only [List.getLast?_append, List.getLast?_singleton, Option.some_or, Option.some.injEq] at hq'
    subst hq'
    exact ⟨by omega, by simp⟩
  · simp only [hq, List.length_append, cum]
    omega
  · intro hb
    obtain ⟨pre, g', post, a, c, d⟩ := h6 (hq.1 hb)
    exact ⟨pre, g', post ++ [(g, l.getD i [])], by rw [a]; simp, c, d⟩
/-- The byte that can stand nowhere is written, and the token. -/
theorem SpI.bad {l : List (List UInt8)} {bad : Int} {i : Nat} {S : List UInt8} {pl : Int} (h : SpI l bad i S pl) (hi : i < l.length) (hne : bad = i) (hT : l.all TkB = true) (g : List UInt8) (hg : g.all blankC = true) (hgl : g.length ≤ 3) :
    SpI l bad (i + 1) (S ++ g ++ [37] ++ l.getD i []) ((S ++ g).length : Nat) := by
  obtain ⟨ps, rfl, h2, h3, h4, h5, h6⟩ := h
  have ht : TkB (l.getD i []) = true := by
    rw [List.all_eq_true] at hT
    apply hT
    rw [List.getD, List.getElem?_eq_getElem hi]
    exact List.getElem_mem hi
  subst hne
  have hq : (0 ≤ (i : Int) ∧ (i : Int) < ((i + 1 : Nat) : Int)) := by omega
  have hq' : ¬ (0 ≤ (i : Int) ∧ (i : Int) < (i : Int)) := by omega
  unfold toksI at h3
  rw [if_neg hq'] at h3 h5
  have hlen : ps.length = i := by
    have := congrArg List.length h3
    rw [List.length_map, List.length_take] at this
    omega
  have ha : adjP (ps ++ [(g, [37])]) = true := adj_snoc ps g [37] h2 hg (by decide) (fun q _ _ => .inr (by decide))
  refine ⟨ps ++ [(g, [37])] ++ [([], l.getD i [])], ?_, ?_, ?_, ?_, ?_, ?_⟩
  · rw [flat_snoc, flat_snoc]; simp
  · refine adj_snoc _ [] _ ha rfl ht (fun q hq hw => ?_)
    simp only [List.getLast?_append, List.getLast?_singleton, Option.some_or, Option.some.injEq] at hq
    subst hq
    exact absurd hw (by show ¬ isWd [37] = true; decide)
  · unfold toksI
    rw [if_pos hq, List.map_append, List.map_append, h3]
    unfold tokB
    rw [take_get l i hi]
    have e0 : (l.take i).length = i := by rw [List.length_take]; omega
    simp only [Int.toNat_natCast]
    generalize l.take i = A at *
    generalize l.getD i [] = x at *
    subst e0
    rw [List.take_append_of_le_length (Nat.le_refl _), List.drop_append_of_le_length (Nat.le_refl _), List.take_length, List.drop_length]
    simp
  · intro q hq
    simp only [List.getLast?_append, List.getLast?_singleton, Option.some_or, Option.some.injEq] at hq
    subst hq
    exact ⟨by omega, by simp⟩
  · rw [if_pos hq]
    simp only [List.length_append, cum, List.length_cons, List.length_nil]
    omega
  · intro _
    exact ⟨ps, g, [([], l.getD i [])], by simp, by rw [hlen]; simp, by rw [List.length_append]⟩
theorem SpI.le {l : List (List UInt8)} {bad : Int} {i : Nat} {S : List UInt8} {pl : Int} (h : SpI l bad i S pl) : S.length ≤ cum l i + 1 := by
  obtain ⟨ps, rfl, h2, h3, h4, h5, h6⟩ := h
  split at h5 <;> omega
theorem lst_app (a b : ByteArray) : lst (a ++ b) = lst a ++ lst b := by
  unfold lst
  rw [ByteArray.data_append, Array.toList_append]
end Go.Proofs.YtlbpnlngckgcbaaGreatDoor

namespace Go.Proofs.YtlbpnlngckgcbaaGreatDoor
open Go.RowKit Go.PlainAid
set_option linter.unusedSimpArgs false
set_option linter.unusedVariables false

theorem lt_of_cell' {w : World} {a : Addr} {v : Value} (hc : w.cell? a = some v) : a.block < w.heap.size := by
  rcases Nat.lt_or_ge a.block w.heap.size with h | h
  · exact h
  · simp [World.cell?, Array.getElem?_eq_none h] at hc
theorem Raw.below {w w' : World} {v : Value} {n : Nat} (h : Raw w v n) (k : Below w.heap.size w w') : Raw w' v n := by
  rcases h with h | ⟨ad, c, z, h1, h2, h3, h5⟩
  · exact .inl h
  · refine .inr ⟨ad, c, z, h1, h2, h3, fun j hj => ⟨?_, (h5 j hj).2⟩⟩
    exact (World.cell?_of_block (w := w) (k.block _ (lt_of_cell' (h5 j hj).1))).trans (h5 j hj).1
theorem getD_mem {l : List (List UInt8)} {i : Nat} (h : i < l.length) : l.getD i [] ∈ l := by
  rw [List.getD, List.getElem?_eq_getElem h]; exact List.getElem_mem h
theorem tk_len (t : List UInt8) (l : List (List UInt8)) (h : t ∈ l) (hl : l.all (fun t => decide (t.length ≤ 5)) = true) : t.length ≤ 5 := by
  rw [List.all_eq_true] at hl
  simpa using hl t h
theorem tok_len (m : Bool) : (tokM m).all (fun t => decide (t.length ≤ 5)) = true := by cases m <;> kernel_rfl
theorem sp_ok (m : Bool) (j : Nat) (hj : j < 61) (h1 : ((mk ((tokM m).getD j [])).toList == typeL) = false) (h2 : ((mk ((tokM m).getD (j + 1) [])).toList == typeL) = false) (hw : isWd ((tokM m).getD j []) = true) : endW ((tokM m).getD (j + 1) []) = true := by
  have := (tok_facts m).2.2.2
  rw [List.all_eq_true] at this
  have h := this j (by simpa using hj)
  rw [toList_lst, lst_mk] at h1 h2
  unfold sepOk at h
  rw [h1, h2, hw] at h
  simpa using h

set_option maxHeartbeats 2000000 in
set_option maxRecDepth 100000 in
theorem spelt_any (v : Value) (n : Nat) (m : Bool) (bad : Int) (hbl : -1 ≤ bad) (hbh : bad ≤ 1000) (w : World) (h : Raw w v n) :
    Calls Tryz.prog 17 #[v, .bool m, .int .i64 bad] w fun e w' => (∃ (s : ByteArray) (pl : Int), e = .returned (.tuple #[.string s, .int .i64 pl]) ∧ SpI (tokM m) bad (tokN m) (lst s) pl) ∧ Below w.heap.size w w' := by
  obtain ⟨f1, f2, f3, f4⟩ := tok_facts m
  have f5 := tok_len m
  have HN := hide (show tokN m ≤ 61 from by unfold tokN; split <;> omega)
  have HR := hide h
  have C0 := hide (tokens_any m w)
  go_enter Tryz.func17, Tryz.ntmps17
  go_wp2_with fail
  refine (unhide C0).mono ?_
  rintro e w2 ⟨⟨sa, sc, rfl, hrow⟩, hb2⟩
  have B2 := hide hb2
  have ROW := hide hrow
  have sz2 := hb2.size
  have HR2 := hide ((unhide HR).below hb2)
  have hN := unhide HN
  have hv : ∃ a k c, v = .slice a k c := by
    rcases h with ⟨rfl, _⟩ | ⟨ad, c, z, rfl, _⟩
    · exact ⟨_, _, _, rfl⟩
    · exact ⟨_, _, _, rfl⟩
  obtain ⟨ra, rk, rc, rfl⟩ := hv
  have FF := hide (And.intro f1 (And.intro f2 (And.intro f3 (And.intro f4 f5))))
  clear hb2 hrow h f1 f2 f3 f4 f5 C0
  generalize hNN : tokN m = N at *
  have HNN := hide hNN
  clear hNN
  go_wp2_with fail
  go_loopw [9, 10, 11] (fun u9 u10 u11 wr => ∃ (i : Nat) (s : ByteArray) (pl : Int), i ≤ N ∧ u11 = .int .i64 i ∧ u9 = .string s ∧ u10 = .int .i64 pl ∧ Below w2.heap.size w2 wr ∧ Hid (SpI (tokM m) bad i (lst s) pl)) (fun _ _ u _ => N - (intOf u).toNat)
  case atStart => exact ⟨0, ⟨#[]⟩, 0, by omega, rfl, rfl, rfl, Below.refl _ _, hide (SpI.zero _ _ _)⟩
  case round =>
    obtain ⟨i, s, pl, hi, rfl, rfl, rfl, hb, HQ⟩ := hrel
    have HB := hide hb
    have wrs := hb.size
    by_cases hlt : i < N
    · have hl : i < (tokM m).length := by rw [(unhide FF).1]; exact hlt
      have hcu : cum (tokM m) i ≤ 400 := Nat.le_trans (cum_le _ _ _ (Nat.le_of_lt hlt)) (unhide FF).2.1
      have hss : s.size ≤ 401 := by have := (unhide HQ).le; rw [lst_len] at this; omega
      have YS := hide (show (mk ((tokM m).getD i [])).size ≤ 5 from by rw [mk_size]; exact tk_len _ _ (getD_mem hl) (unhide FF).2.2.2.2)
      obtain ⟨q, c, e1, ky⟩ := own_cell (ownsRow_frame (w' := wr) (unhide ROW) (fun g cs f _ hh => hb.block g (lt_of_some hh))) i (.string (mk ((tokM m).getD i []))) (by
        unfold tokV strs
        rw [List.getElem?_map, List.getElem?_map, List.getD, List.getElem?_eq_getElem hl]; rfl)
      simp only [Value.slice.injEq] at e1
      obtain ⟨rfl, _, rfl⟩ := e1
      have hql : q < wr.heap.size := lt_of_cell ky
      have C := hide (gap_any _ n i wr ((unhide HR2).below hb) (by omega))
      have hkn : (i : Int) < (N : Int) := by omega
      have hk0 : (0 : Int) ≤ (i : Int) := by omega
      have hlN : (tokM m).length = N := (unhide FF).1
      cases i with
      | zero =>
        clear hb
        go_wp2_with fail
        refine (unhide C).mono ?_
        rintro e w3 ⟨⟨g, ⟨hg1, hg2⟩, rfl⟩, hb3⟩
        have B3 := hide ((unhide HB).trans (hb3.mono wrs))
        have ky3 := (hb3.cell (p := ⟨q, 0, none⟩) hql).trans ky
        clear hb3 ky C
        by_cases hbd : bad = ((0 : Nat) : Int)
        · skip
          have hbe : (((0 : Nat) : Int) == bad) = true := by rw [beq_iff_eq]; omega
          have FIN := hide ((unhide HQ).bad (by omega) (by omega) (unhide FF).2.2.1 (lst g) (by exact hg1) (by rw [lst_len]; omega))
          have ys := unhide YS
          clear hbd
          generalize hyy : mk ((tokM m).getD 0 []) = y at *
          have HYY := hide (show (tokM m).getD 0 [] = lst y from by rw [← hyy]; rfl)
          rw [unhide HYY] at FIN
          clear hyy
          skip
          go_wp2
          go_roundw
          case rel => exact ⟨0 + 1, _, _, by omega, by go_num, rfl, rfl, unhide B3, hide (by simpa [lst_app, lst, List.append_assoc, Int.add_assoc] using unhide FIN)⟩
          case measure => simp [intOf]; omega
        · skip
          have hbe : (((0 : Nat) : Int) == bad) = false := by rw [beq_eq_false_iff_ne]; omega
          have FIN := hide ((unhide HQ).norm (by omega) (by omega) (unhide FF).2.2.1 (lst g) (by exact hg1) (by rw [lst_len]; omega) (by omega))
          have ys := unhide YS
          clear hbd
          generalize hyy : mk ((tokM m).getD 0 []) = y at *
          have HYY := hide (show (tokM m).getD 0 [] = lst y from by rw [← hyy]; rfl)
          rw [unhide HYY] at FIN
          clear hyy
          skip
          go_wp2
          go_roundw
          case rel => exact ⟨0 + 1, _, _, by omega, by go_num, rfl, rfl, unhide B3, hide (by simpa [lst_app, lst, List.append_assoc, Int.add_assoc] using unhide FIN)⟩
          case measure => simp [intOf]; omega
      | succ j =>
        obtain ⟨q', c', e1, kx⟩ := own_cell (ownsRow_frame (w' := wr) (unhide ROW) (fun g cs f _ hh => hb.block g (lt_of_some hh))) j (.string (mk ((tokM m).getD j []))) (by
          unfold tokV strs
          rw [List.getElem?_map, List.getElem?_map, List.getD, List.getElem?_eq_getElem (show j < (tokM m).length by omega)]; rfl)
        simp only [Value.slice.injEq, Option.some.injEq, Addr.mk.injEq] at e1
        obtain ⟨⟨rfl, _⟩, _, rfl⟩ := e1
        have hj1 : (0 : Int) < ((j + 1 : Nat) : Int) := by omega
        have hj2 : (j : Int) < (N : Int) := by omega
        have hj3 : (0 : Int) ≤ (j : Int) := by omega
        clear hb
        go_wp2_with fail
        refine (unhide C).mono ?_
        rintro e w3 ⟨⟨g, ⟨hg1, hg2⟩, rfl⟩, hb3⟩
        have B3 := hide ((unhide HB).trans (hb3.mono wrs))
        have ky3 := (hb3.cell (p := ⟨q, j + 1, none⟩) hql).trans ky
        have kx3 := (hb3.cell (p := ⟨q, j, none⟩) hql).trans kx
        clear hb3 ky kx C
        cases hx : ((mk ((tokM m).getD j [])).toList == typeL)
        · cases hy : ((mk ((tokM m).getD (j + 1) [])).toList == typeL)
          · by_cases hbd : bad = ((j + 1 : Nat) : Int)
            · skip
              have hbe : ((((j + 1) : Nat) : Int) == bad) = true := by rw [beq_iff_eq]; omega
              have FIN := hide ((unhide HQ).bad (by omega) (by omega) (unhide FF).2.2.1 (lst g) (by exact hg1) (by rw [lst_len]; omega))
              have ys := unhide YS
              clear hbd
              generalize hyy : mk ((tokM m).getD (j + 1) []) = y at *
              generalize hxx : mk ((tokM m).getD j []) = x at *
              have HYY := hide (show (tokM m).getD (j + 1) [] = lst y from by rw [← hyy]; rfl)
              rw [unhide HYY] at FIN
              clear hyy hxx
              unfold typeL at *
              go_wp2
              go_roundw
              case rel => exact ⟨(j + 1) + 1, _, _, by omega, by go_num, rfl, rfl, unhide B3, hide (by simpa [lst_app, lst, List.append_assoc, Int.add_assoc] using unhide FIN)⟩
              case measure => simp [intOf]; omega
            · skip
              have hbe : ((((j + 1) : Nat) : Int) == bad) = false := by rw [beq_eq_false_iff_ne]; omega
              have FIN := hide ((unhide HQ).norm (by omega) (by omega) (unhide FF).2.2.1 (lst g) (by exact hg1) (by rw [lst_len]; omega) (fun _ hw => .inr (sp_ok m j (by omega) hx hy hw)))
              have ys := unhide YS
              clear hbd
              generalize hyy : mk ((tokM m).getD (j + 1) []) = y at *
              generalize hxx : mk ((tokM m).getD j []) = x at *
              have HYY := hide (show (tokM m).getD (j + 1) [] = lst y from by rw [← hyy]; rfl)
              rw [unhide HYY] at FIN
              clear hyy hxx
              unfold typeL at *
              go_wp2
              go_roundw
              case rel => exact ⟨(j + 1) + 1, _, _, by omega, by go_num, rfl, rfl, unhide B3, hide (by simpa [lst_app, lst, List.append_assoc, Int.add_assoc] using unhide FIN)⟩
              case measure => simp [intOf]; omega
          · by_cases hbd : bad = ((j + 1 : Nat) : Int)
            · skip
              have hbe : ((((j + 1) : Nat) : Int) == bad) = true := by rw [beq_iff_eq]; omega
              have FIN := hide ((unhide HQ).bad (by omega) (by omega) (unhide FF).2.2.1 (lst g ++ [32]) (by simp [hg1]; decide) (by simp only [List.length_append, List.length_cons, List.length_nil, lst_len]; omega))
              have ys := unhide YS
              clear hbd
              generalize hyy : mk ((tokM m).getD (j + 1) []) = y at *
              generalize hxx : mk ((tokM m).getD j []) = x at *
              have HYY := hide (show (tokM m).getD (j + 1) [] = lst y from by rw [← hyy]; rfl)
              rw [unhide HYY] at FIN
              clear hyy hxx
              unfold typeL at *
              go_wp2
              go_roundw
              case rel => exact ⟨(j + 1) + 1, _, _, by omega, by go_num, rfl, rfl, unhide B3, hide (by simpa [lst_app, lst, List.append_assoc, Int.add_assoc] using unhide FIN)⟩
              case measure => simp [intOf]; omega
            · skip
              have hbe : ((((j + 1) : Nat) : Int) == bad) = false := by rw [beq_eq_false_iff_ne]; omega
              have FIN := hide ((unhide HQ).norm (by omega) (by omega) (unhide FF).2.2.1 (lst g ++ [32]) (by simp [hg1]; decide) (by simp only [List.length_append, List.length_cons, List.length_nil, lst_len]; omega) (fun _ _ => .inl (by simp)))
              have ys := unhide YS
              clear hbd
              generalize hyy : mk ((tokM m).getD (j + 1) []) = y at *
              generalize hxx : mk ((tokM m).getD j []) = x at *
              have HYY := hide (show (tokM m).getD (j + 1) [] = lst y from by rw [← hyy]; rfl)
              rw [unhide HYY] at FIN
              clear hyy hxx
              unfold typeL at *
              go_wp2
              go_roundw
              case rel => exact ⟨(j + 1) + 1, _, _, by omega, by go_num, rfl, rfl, unhide B3, hide (by simpa [lst_app, lst, List.append_assoc, Int.add_assoc] using unhide FIN)⟩
              case measure => simp [intOf]; omega
        · by_cases hbd : bad = ((j + 1 : Nat) : Int)
          · skip
            have hbe : ((((j + 1) : Nat) : Int) == bad) = true := by rw [beq_iff_eq]; omega
            have FIN := hide ((unhide HQ).bad (by omega) (by omega) (unhide FF).2.2.1 (lst g ++ [32]) (by simp [hg1]; decide) (by simp only [List.length_append, List.length_cons, List.length_nil, lst_len]; omega))
            have ys := unhide YS
            clear hbd
            generalize hyy : mk ((tokM m).getD (j + 1) []) = y at *
            generalize hxx : mk ((tokM m).getD j []) = x at *
            have HYY := hide (show (tokM m).getD (j + 1) [] = lst y from by rw [← hyy]; rfl)
            rw [unhide HYY] at FIN
            clear hyy hxx
            unfold typeL at *
            go_wp2
            go_roundw
            case rel => exact ⟨(j + 1) + 1, _, _, by omega, by go_num, rfl, rfl, unhide B3, hide (by simpa [lst_app, lst, List.append_assoc, Int.add_assoc] using unhide FIN)⟩
            case measure => simp [intOf]; omega
          · skip
            have hbe : ((((j + 1) : Nat) : Int) == bad) = false := by rw [beq_eq_false_iff_ne]; omega
            have FIN := hide ((unhide HQ).norm (by omega) (by omega) (unhide FF).2.2.1 (lst g ++ [32]) (by simp [hg1]; decide) (by simp only [List.length_append, List.length_cons, List.length_nil, lst_len]; omega) (fun _ _ => .inl (by simp)))
            have ys := unhide YS
            clear hbd
            generalize hyy : mk ((tokM m).getD (j + 1) []) = y at *
            generalize hxx : mk ((tokM m).getD j []) = x at *
            have HYY := hide (show (tokM m).getD (j + 1) [] = lst y from by rw [← hyy]; rfl)
            rw [unhide HYY] at FIN
            clear hyy hxx
            unfold typeL at *
            go_wp2
            go_roundw
            case rel => exact ⟨(j + 1) + 1, _, _, by omega, by go_num, rfl, rfl, unhide B3, hide (by simpa [lst_app, lst, List.append_assoc, Int.add_assoc] using unhide FIN)⟩
            case measure => simp [intOf]; omega
    · have hkn : ¬ ((i : Int) < (N : Int)) := by omega
      obtain rfl : i = N := by omega
      clear hb
      go_wp2
      go_ret2
      exact ⟨⟨s, pl, rfl, by rw [unhide HNN]; exact unhide HQ⟩, (unhide B2).trans ((unhide HB).mono sz2)⟩
end Go.Proofs.YtlbpnlngckgcbaaGreatDoor

namespace Go.Proofs.YtlbpnlngckgcbaaGreatDoor
open Go.RowKit Go.PlainAid
set_option linter.unusedSimpArgs false
set_option linter.unusedVariables false

theorem evalOk_some {r : Res (List Ty)} {x : List UInt8} (h : evalOk r = some x) : ∃ ts j, r = .ok (ts, j) ∧ checkP ts = none ∧ modelT ts = x := by
  unfold evalOk at h
  split at h
  · rename_i ts j
    split at h
    · rename_i hc
      simp only [Option.some.injEq] at h
      exact ⟨ts, j, rfl, hc, h⟩
    · cases h
  · cases h
theorem badOk_true {r : Res (List Ty)} {b : Nat} (h : badOk r b = true) : r = .error (2, b) := by
  unfold badOk at h
  split at h
  · rename_i c j
    simp only [Bool.and_eq_true, beq_iff_eq] at h
    rw [h.1, h.2]
  · cases h
theorem ev_any (m : Bool) (P : Nat → Nat) : evalOk (modelR (Tof (tokM m)) P) = some wantL := by
  cases m
  · exact ev_less P
  · exact ev_more P
theorem bad_any (m : Bool) (P : Nat → Nat) (b : Nat) (hb : b < (tokM m).length) : modelR (Tof (tokB (tokM m) b)) P = .error (2, b) := by
  refine badOk_true ?_
  cases m
  · have := bad_less P
    rw [List.all_eq_true] at this
    exact this b (by simpa using hb)
  · have := bad_more P
    rw [List.all_eq_true] at this
    exact this b (by simpa using hb)
theorem toks_of {ps : List (List UInt8 × List UInt8)} {l : List (List UInt8)} (h : ps.map Prod.snd = l) : (fun i => (toksOf ps).getD i em) = Tof l := by
  unfold Tof toksOf
  rw [← h, List.map_map]
  rfl
theorem read_of {ps : List (List UInt8 × List UInt8)} {tl : List UInt8} {s : ByteArray} (m : Bool) (hs : lst s = flat ps ++ tl) (hg : GoodP tl ps = true) (hl : ps.map Prod.snd = tokM m) (hz : s.size ≤ 500) : ∃ ts, readP s = .ok ts ∧ modelT ts = wantL := by
  have ht := lex_all ps tl s hs hg
  rw [toks_of hl] at ht
  obtain ⟨ts, j, h1, h2, h3⟩ := evalOk_some (ev_any m (PP s))
  refine ⟨ts, ?_, h3⟩
  unfold readP
  rw [if_neg (by omega), ht, h1]
  simp only [h2]
theorem read_spelt (m : Bool) (s : ByteArray) (pl : Int) (h : SpI (tokM m) (-1) (tokN m) (lst s) pl) : ∃ ts, readP s = .ok ts ∧ modelT ts = wantL := by
  have hz := h.le
  have f := tok_facts m
  obtain ⟨ps, h1, h2, h3, h4, h5, h6⟩ := h
  unfold toksI at h3
  rw [if_neg (by omega), List.take_of_length_le (by omega)] at h3
  exact read_of m (tl := []) (by rw [List.append_nil]; exact h1) (adj_good ps h2) h3 (by rw [← lst_len]; omega)
theorem read_want : ∃ ts, readP (mk wantL) = .ok ts ∧ modelT ts = wantL :=
  read_of false (ps := wantP) (tl := [10]) (by rw [lst_mk]; exact want_flat) want_good want_toks (by rw [mk_size]; exact of_decide_eq_true (by kernel_rfl))
theorem read_bad' (m : Bool) (s : ByteArray) (b : Nat) (hb : b < tokN m) (pl : Int) (h : SpI (tokM m) b (tokN m) (lst s) pl) : ∃ p : Nat, pl = p ∧ readP s = .error (some p, 2) := by
  have hz := h.le
  have f := tok_facts m
  obtain ⟨ps, h1, h2, h3, h4, h5, h6⟩ := h
  have hq : 0 ≤ (b : Int) ∧ (b : Int) < (tokN m : Int) := by omega
  unfold toksI at h3
  rw [if_pos hq, List.take_of_length_le (by omega), Int.toNat_natCast] at h3
  obtain ⟨pre, g, post, e1, e2, e3⟩ := h6 hq
  rw [Int.toNat_natCast] at e2
  have hs : lst s = flat ps ++ [] := by rw [List.append_nil]; exact h1
  have hg := adj_good ps h2
  have ht := lex_all ps [] s hs hg
  rw [toks_of h3] at ht
  have hlt : b < ps.length := by rw [e1]; simp; omega
  have hp := (lex_tok ps [] s hs hg b hlt).2
  refine ⟨(flat pre).length + g.length, e3, ?_⟩
  unfold readP
  rw [if_neg (by rw [← lst_len]; omega), ht, bad_any m _ b (by omega)]
  simp only
  rw [hp]
  have e4 : ps.take b = pre := by rw [e1, ← e2]; simp
  have e5 : ps[b].1 = g := by
    have : ps[b]? = some (g, [37]) := by rw [e1, ← e2]; simp
    rw [List.getElem?_eq_getElem hlt] at this
    simp only [Option.some.injEq] at this
    rw [this]
  rw [e4, e5]

set_option maxHeartbeats 2000000 in
set_option maxRecDepth 100000 in
theorem spelt_law (v : Value) (n : Nat) (m : Bool) (bad : Int) (h1 : -9223372036854775808 ≤ bad) (h2 : bad ≤ 9223372036854775807) (w : World) (h : Raw w v n) (hg : Laid w) :
    Calls Tryz.prog 8 #[v, .bool m, .int .i64 bad] w fun e w' => e = .returned (.bool true) ∧ Below w.heap.size w w' := by
  have hv : ∃ a k c, v = .slice a k c := by
    rcases h with ⟨rfl, _⟩ | ⟨ad, c, z, rfl, _⟩
    · exact ⟨_, _, _, rfl⟩
    · exact ⟨_, _, _, rfl⟩
  obtain ⟨ra, rk, rc, rfl⟩ := hv
  have HR := hide h
  have HG := hide hg
  have hl := hg.lt
  have HN := hide (show 0 < tokN m ∧ tokN m ≤ 61 from by unfold tokN; split <;> omega)
  clear h hg
  go_enter Tryz.func8, Tryz.ntmps8
  go_wp2_with fail
  refine (spelt_any _ n m (-1) (by omega) (by omega) w (unhide HR)).mono ?_
  rintro e w1 ⟨⟨s, pl, rfl, hsp⟩, hb1⟩
  obtain ⟨ts, hr, ht⟩ := read_spelt m s pl hsp
  have B1 := hide hb1
  have L1 := hide ((unhide HG).below hb1 hl)
  have C1 := hide (print_ok s ts hr w1 (unhide L1))
  rw [ht] at C1
  clear hsp hr ht hb1 ts
  obtain ⟨tw, htw⟩ : ∃ tw, tw = mk wantL := ⟨_, rfl⟩
  rw [← htw] at C1
  have hw1 : (tw.toList == [116, 121, 112, 101, 32, 117, 115, 101, 114, 32, 123, 10, 125, 10, 116, 121, 112, 101, 32, 100, 111, 99, 32, 123, 10, 9, 111, 119, 110, 101, 114, 58, 32, 91, 117, 115, 101, 114, 44, 32, 117, 115, 101, 114, 42, 44, 32, 100, 111, 99, 35, 111, 119, 110, 101, 114, 93, 59, 10, 9, 117, 112, 58, 32, 91, 100, 111, 99, 93, 59, 10, 9, 101, 100, 105, 116, 58, 32, 111, 119, 110, 101, 114, 32, 124, 32, 117, 112, 46, 101, 100, 105, 116, 59, 10, 9, 115, 101, 101, 58, 32, 40, 111, 119, 110, 101, 114, 32, 124, 32, 101, 100, 105, 116, 41, 32, 38, 32, 101, 100, 105, 116, 32, 45, 32, 40, 117, 112, 46, 111, 119, 110, 101, 114, 32, 38, 32, 111, 119, 110, 101, 114, 41, 59, 10, 125, 10]) = true := by rw [htw, toList_lst, lst_mk]; kernel_rfl
  have HTW := hide htw
  clear htw
  go_wp2_with fail
  refine (unhide C1).mono ?_
  rintro e w2 ⟨rfl, hb2⟩
  have B2 := hide ((unhide B1).trans (hb2.mono (unhide B1).size))
  have L2 := hide ((unhide HG).below (unhide B2) hl)
  clear hb2 C1
  obtain ⟨ts, hr, ht⟩ := read_want
  have C2 := hide (print_ok _ ts hr w2 (unhide L2))
  rw [ht, ← unhide HTW] at C2
  clear hr ht ts
  go_wp2_with fail
  refine (unhide C2).mono ?_
  rintro e w3 ⟨rfl, hb3⟩
  have B3 := hide ((unhide B2).trans (hb3.mono (unhide B2).size))
  have L3 := hide ((unhide HG).below (unhide B3) hl)
  have R3 := hide ((unhide HR).below (unhide B3))
  clear hb3 C2
  go_wp2_with fail
  refine (tokens_any m w3).mono ?_
  rintro e w4 ⟨⟨sa, sc, rfl, _⟩, hb4⟩
  have B4 := hide ((unhide B3).trans (hb4.mono (unhide B3).size))
  have hN := unhide HN
  clear hb4
  have L4 := hide ((unhide HG).below (unhide B4) hl)
  have R4 := hide ((unhide HR).below (unhide B4))
  have CP := hide (pick_any bad (tokN m) h1 h2 hN.1 (by omega) w4)
  have CS := hide (fun (k : Nat) (hk : k < tokN m) => spelt_any _ n m (k : Int) (by omega) (by omega) w4 (unhide R4))
  have RB := hide (fun s (k : Nat) (hk : k < tokN m) pl => read_bad' m s k hk pl)
  generalize tokN m = N at *
  go_wp2_with fail
  refine (unhide CP).mono ?_
  rintro e w5 ⟨⟨k, hk, rfl⟩, rfl⟩
  have CS' := hide (unhide CS k hk)
  go_wp2_with fail
  refine (unhide CS').mono ?_
  rintro e w6 ⟨⟨t, pt, rfl, hst⟩, hb6⟩
  obtain ⟨p, rfl, hrd⟩ := unhide RB t k hk pt hst
  have B6 := hide ((unhide B4).trans (hb6.mono (unhide B4).size))
  have L6 := hide ((unhide HG).below (unhide B6) hl)
  have C6 := hide (print_bad t p 2 hrd (by omega) w6 (unhide L6))
  clear hst hrd hb6
  go_wp2_with fail
  refine (unhide C6).mono ?_
  rintro e w7 ⟨rfl, hb7⟩
  have B7 := hide ((unhide B6).trans (hb7.mono (unhide B6).size))
  clear hb7
  go_wp2
  go_ret
  exact ⟨rfl, unhide B7⟩
end Go.Proofs.YtlbpnlngckgcbaaGreatDoor
