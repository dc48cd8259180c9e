import Derived.Test.YtlbpnlngckgcbaaGreatDoorM20
namespace Go.Proofs.YtlbpnlngckgcbaaGreatDoor
open Go.RowKit Go.PlainAid
set_option linter.unusedSimpArgs false
set_option linter.unusedVariables false
set_option maxHeartbeats 1000000 in
set_option maxRecDepth 100000 in
theorem isin_any (base : Nat) (v : Value) (l : List Nat) (n : Nat) (w : World) (h : w.ownsRow base 3 1 v l.length (l.map fun n : Nat => .int .i64 n)) (hl : l.length ≤ 1000000000) :
  Calls Tryz.prog 194 #[v, .int .i64 n] w fun e w' => e = .returned (.bool (l.any fun k => k == n)) ∧ Below w.heap.size w w' := by
 obtain ⟨la, lc, rfl⟩ := own_form h
 have H := hide h
 generalize hR : (l.any fun k => k == n) = R
 have HR := hide (show ((l.drop 0).any fun k => k == n) = R from hR)
 clear h hR
 go_enter Tryz.func194, Tryz.ntmps194
 go_wp2_with fail
 go_loopw [5] (fun u wr => ∃ k : Nat, k ≤ l.length ∧ u = .int .i64 k ∧ Below w.heap.size w wr ∧ Hid (((l.drop k).any fun k => k == n) = R)) (fun u _ => l.length - (intOf u).toNat)
 case atStart => exact ⟨0, by omega, rfl, Below.refl _ _, HR⟩
 case round =>
  obtain ⟨k, hk, rfl, hb, HQ⟩ := hrel
  have HB := hide hb
  by_cases hlt : k < l.length
  ·obtain ⟨q, cq, e1, kc⟩ := own_cell (row_below (uh H) hb) k (.int .i64 (l[k] : Nat)) (by simp [List.getElem?_eq_getElem hlt])
   simp only [Value.slice.injEq, true_and] at e1
   obtain ⟨rfl, rfl⟩ := e1
   have hR := uh HQ
   rw [List.drop_eq_getElem_cons hlt, List.any_cons] at hR
   generalize l[k] = m at *
   have hkn' : (k : Int) < (l.length : Int) := by omega
   by_cases he : m = n
   ·have he2 : ((m : Int) == (n : Int)) = true := by rw [beq_iff_eq]; omega
    rw [beq_iff_eq.2 he, Bool.true_or] at hR
    have HRF := hide hR
    clear hb HQ hR he
    go_wp2
    go_ret
    exact ⟨by rw [← uh HRF]; rfl, uh HB⟩
   ·have he2 : ((m : Int) == (n : Int)) = false := by rw [beq_eq_false_iff_ne]; omega
    rw [beq_eq_false_iff_ne.2 he, Bool.false_or] at hR
    have HR2 := hide hR
    clear hb HQ hR he
    go_wp2
    go_roundw
    case rel => exact ⟨k + 1, by omega, by go_num, uh HB, HR2⟩
    case measure => simp [intOf]; omega
  ·have hkn' : ¬ ((k : Int) < (l.length : Int)) := by omega
   have hR := uh HQ
   rw [List.drop_of_length_le (by omega), List.any_nil] at hR
   have HRF := hide hR
   clear hb HQ hR
   go_wp2
   go_ret
   exact ⟨by rw [← uh HRF]; rfl, uh HB⟩
/-! P4: the least place of a name that is defined again; -1: there is none. -/
def stepB (best : Int) (p : Nat) : Int := if best < 0 ∨ (p : Int) < best then p else best
def twKin (x : ByteArray × Nat) : List (ByteArray × Nat) → Int → Int
 | [], c => c
 | y :: ys, c => twKin x ys (if eqs y.1 x.1 then stepB c x.2 else c)
def twKout : List (ByteArray × Nat) → List (ByteArray × Nat) → Int → Int
 | _, [], c => c
 | acc, x :: xs, c => twKout (acc ++ [x]) xs (twKin x acc c)
def twRin (x : RV) : List RV → Int → Int
 | [], c => c
 | y :: ys, c => twRin x ys (if eqs y.kd x.kd && eqs y.nm x.nm then stepB c x.pl else c)
def twRout : List RV → List RV → Int → Int
 | _, [], c => c
 | acc, x :: xs, c => twRout (acc ++ [x]) xs (twRin x acc c)
def rtwice (kl : List (ByteArray × Nat)) (rl : List RV) : Int := twRout [] rl (twKout [] kl (-1))
def Sm (best : Int) (n : Nat) : Prop := -1 ≤ best ∧ best ≤ n
set_option maxHeartbeats 2000000 in
set_option maxRecDepth 100000 in
theorem rtwice_any (b : Nat) (kv rv pv : Value) (kl : List (ByteArray × Nat)) (rl : List RV) (pl : List PV) (l : List PX) (w : World) (h : DM w b kv rv pv kl rl pl l) :
  Calls Tryz.prog 128 #[.pointer (some ⟨b, 5, none⟩)] w fun e w' => e = .returned (.int .i64 (rtwice kl rl)) ∧ Below w.heap.size w w' := by
 obtain ⟨ka, kc, rfl⟩ := own_form h.kt
 obtain ⟨ra, rc, rfl⟩ := own_form h.rt
 have H := hide h
 have hkn := h.kn
 have hrn := h.rn
 clear h
 go_enter Tryz.func128, Tryz.ntmps128
 go_wp2_with fail
 go_loopw [3, 4] (fun u3 u4 wr => ∃ (i : Nat) (c : Int), i ≤ kl.length ∧ u4 = .int .i64 i ∧ u3 = .int .i64 c ∧ Below w.heap.size w wr ∧ Hid (twKout (kl.take i) (kl.drop i) c = twKout [] kl (-1))) (fun _ u4 _ => kl.length - (intOf u4).toNat)
 case atStart => exact ⟨0, -1, by omega, rfl, rfl, Below.refl _ _, hide (by simp)⟩
 case round =>
  obtain ⟨i, c, hi, rfl, rfl, hb, HQ⟩ := hrel
  have c5 := ((uh H).below hb).c5
  have HB := hide hb
  by_cases hlt : i < kl.length
  ·have hkn' : (i : Int) < (kl.length : Int) := by omega
   have hq := uh HQ
   rw [List.drop_eq_getElem_cons hlt, twKout, ← List.take_succ_eq_append_getElem hlt] at hq
   have HQ2 := hide hq
   obtain ⟨gg, gc, e1, x0, x1⟩ := ((uh H).below hb).kat i kl[i] (List.getElem?_eq_getElem hlt)
   simp only [Value.slice.injEq, true_and] at e1
   obtain ⟨rfl, rfl⟩ := e1
   have HX := hide (List.getElem?_eq_getElem hlt)
   generalize kl[i] = x at *
   clear hb HQ hq
   go_wp2_with fail
   go_loopw [3, 5] (fun u3 u5 wi => ∃ (k : Nat) (c' : Int), k ≤ i ∧ u5 = .int .i64 k ∧ u3 = .int .i64 c' ∧ Below w.heap.size w wi ∧ Hid (twKin x ((kl.take i).drop k) c' = twKin x (kl.take i) c)) (fun _ u5 _ => i - (intOf u5).toNat)
   case atStart => exact ⟨0, c, by omega, rfl, rfl, uh HB, hide (by simp)⟩
   case round =>
    clear x0 x1 c5
    obtain ⟨k, c', hk, rfl, rfl, hb, HI⟩ := hrel
    have c5 := ((uh H).below hb).c5
    obtain ⟨gg, gc, e1, x0, x1⟩ := ((uh H).below hb).kat i x (uh HX)
    simp only [Value.slice.injEq, true_and, Option.some.injEq, Addr.mk.injEq, and_true] at e1
    obtain ⟨rfl, rfl⟩ := e1
    have HBI := hide hb
    by_cases hkt : k < i
    ·have hki : (k : Int) < (i : Int) := by omega
     have hkl : k < kl.length := by omega
     have hkn2 : (k : Int) < (kl.length : Int) := by omega
     obtain ⟨gy, cy, e1, y0, y1⟩ := ((uh H).below hb).kat k kl[k] (List.getElem?_eq_getElem hkl)
     simp only [Value.slice.injEq, true_and, Option.some.injEq, Addr.mk.injEq, and_true] at e1
     obtain ⟨rfl, rfl⟩ := e1
     have hq := uh HI
     rw [List.drop_eq_getElem_cons (by rw [List.length_take]; omega), List.getElem_take, twKin] at hq
     generalize kl[k] = y at *
     cases he : eqs y.1 x.1
     ·rw [he] at hq
      simp only [Bool.false_eq_true, if_false] at hq
      rw [eqs_toList] at he
      have HQ3 := hide hq
      clear hb HI hq
      go_wp2
      go_quiet (fail)
      go_wp2
      go_roundw
      case rel => exact ⟨k + 1, _, by omega, by go_num, rfl, below_drewN (uh HBI) _, HQ3⟩
      case measure => simp [intOf]; omega
     ·rw [he] at hq
      simp only [if_true] at hq
      rw [eqs_toList] at he
      by_cases h0 : c' < 0
      ·rw [show stepB c' x.2 = x.2 from by simp [stepB, h0]] at hq
       have HQ3 := hide hq
       clear hb HI hq
       go_wp2
       go_quiet (fail)
       go_wp2
       go_roundw
       case rel => exact ⟨k + 1, _, by omega, by go_num, rfl, below_drewN (uh HBI) _, HQ3⟩
       case measure => simp [intOf]; omega
      ·by_cases h1 : (x.2 : Int) < c'
       ·rw [show stepB c' x.2 = x.2 from by simp [stepB, h1]] at hq
        have HQ3 := hide hq
        clear hb HI hq
        go_wp2
        go_quiet (fail)
        go_wp2
        go_roundw
        case rel => exact ⟨k + 1, _, by omega, by go_num, rfl, below_drewN (uh HBI) _, HQ3⟩
        case measure => simp [intOf]; omega
       ·rw [show stepB c' x.2 = c' from by simp [stepB, h0, h1]] at hq
        have HQ3 := hide hq
        clear hb HI hq
        go_wp2
        go_quiet (fail)
        go_wp2
        go_roundw
        case rel => exact ⟨k + 1, _, by omega, by go_num, rfl, below_drewN (uh HBI) _, HQ3⟩
        case measure => simp [intOf]; omega
    ·have hki : ¬ ((k : Int) < (i : Int)) := by omega
     have hq := uh HI
     rw [List.drop_of_length_le (by rw [List.length_take]; omega), twKin] at hq
     have HQ3 := hide hq
     clear hb HI hq
     go_wp2
     go_roundw
     case rel => exact ⟨i + 1, c', by omega, by go_num, rfl, uh HBI, hide (by rw [uh HQ3]; exact uh HQ2)⟩
     case measure => simp [intOf]; omega
  ·have hkn' : ¬ ((i : Int) < (kl.length : Int)) := by omega
   have hq := uh HQ
   rw [List.drop_of_length_le (by omega), twKout] at hq
   have HC := hide hq
   clear hb HQ hq
   go_wp2_with fail
   clear c5
   go_loopw [3, 6] (fun u3 u6 wr => ∃ (i : Nat) (c : Int), i ≤ rl.length ∧ u6 = .int .i64 i ∧ u3 = .int .i64 c ∧ Below w.heap.size w wr ∧ Hid (twRout (rl.take i) (rl.drop i) c = rtwice kl rl)) (fun _ u6 _ => rl.length - (intOf u6).toNat)
   case atStart => exact ⟨0, c, by omega, rfl, rfl, uh HB, hide (by rw [uh HC]; rfl)⟩
   case round =>
    clear HB HC
    obtain ⟨i, c, hi, rfl, rfl, hb, HQ⟩ := hrel
    have c6 := ((uh H).below hb).c6
    have HB := hide hb
    by_cases hlt : i < rl.length
    ·have hkn' : (i : Int) < (rl.length : Int) := by omega
     have hq := uh HQ
     rw [List.drop_eq_getElem_cons hlt, twRout, ← List.take_succ_eq_append_getElem hlt] at hq
     have HQ2 := hide hq
     have HX := hide (List.getElem?_eq_getElem hlt)
     generalize rl[i] = x at *
     clear hb HQ hq
     go_wp2_with fail
     go_loopw [3, 7] (fun u3 u7 wi => ∃ (k : Nat) (c' : Int), k ≤ i ∧ u7 = .int .i64 k ∧ u3 = .int .i64 c' ∧ Below w.heap.size w wi ∧ Hid (twRin x ((rl.take i).drop k) c' = twRin x (rl.take i) c)) (fun _ u7 _ => i - (intOf u7).toNat)
     case atStart => exact ⟨0, c, by omega, rfl, rfl, uh HB, hide (by simp)⟩
     case round =>
      clear c6
      obtain ⟨k, c', hk, rfl, rfl, hb, HI⟩ := hrel
      have c6 := ((uh H).below hb).c6
      have HBI := hide hb
      by_cases hkt : k < i
      ·have hki : (k : Int) < (i : Int) := by omega
       obtain ⟨gg, gc, e1, x0, x1, x2, x3⟩ := ((uh H).below hb).rat i x (uh HX)
       simp only [Value.slice.injEq, true_and, Option.some.injEq, Addr.mk.injEq, and_true] at e1
       obtain ⟨rfl, rfl⟩ := e1
       have hkl : k < rl.length := by omega
       have hkn2 : (k : Int) < (rl.length : Int) := by omega
       obtain ⟨gy, cy, e1, y0, y1, y2, y3⟩ := ((uh H).below hb).rat k rl[k] (List.getElem?_eq_getElem hkl)
       simp only [Value.slice.injEq, true_and, Option.some.injEq, Addr.mk.injEq, and_true] at e1
       obtain ⟨rfl, rfl⟩ := e1
       have hq := uh HI
       rw [List.drop_eq_getElem_cons (by rw [List.length_take]; omega), List.getElem_take, twRin] at hq
       generalize rl[k] = y at *
       cases he : eqs y.kd x.kd
       ·rw [he, Bool.false_and] at hq
        simp only [Bool.false_eq_true, if_false] at hq
        rw [eqs_toList] at he
        have HQ3 := hide hq
        clear hb HI hq
        go_wp2
        go_quiet (fail)
        go_wp2
        go_roundw
        case rel => exact ⟨k + 1, _, by omega, by go_num, rfl, below_drewN (uh HBI) _, HQ3⟩
        case measure => simp [intOf]; omega
       ·rw [he, Bool.true_and] at hq
        rw [eqs_toList] at he
        cases he2 : eqs y.nm x.nm
        ·rw [he2] at hq
         simp only [Bool.false_eq_true, if_false] at hq
         rw [eqs_toList] at he2
         have HQ3 := hide hq
         clear hb HI hq
         go_wp2
         go_quiet (fail)
         go_wp2
         go_roundw
         case rel => exact ⟨k + 1, _, by omega, by go_num, rfl, below_drewN (uh HBI) _, HQ3⟩
         case measure => simp [intOf]; omega
        ·rw [he2] at hq
         simp only [if_true] at hq
         rw [eqs_toList] at he2
         by_cases h0 : c' < 0
         ·rw [show stepB c' x.pl = x.pl from by simp [stepB, h0]] at hq
          have HQ3 := hide hq
          clear hb HI hq
          go_wp2
          go_quiet (fail)
          go_wp2
          go_roundw
          case rel => exact ⟨k + 1, _, by omega, by go_num, rfl, below_drewN (uh HBI) _, HQ3⟩
          case measure => simp [intOf]; omega
         ·by_cases h1 : (x.pl : Int) < c'
          ·rw [show stepB c' x.pl = x.pl from by simp [stepB, h1]] at hq
           have HQ3 := hide hq
           clear hb HI hq
           go_wp2
           go_quiet (fail)
           go_wp2
           go_roundw
           case rel => exact ⟨k + 1, _, by omega, by go_num, rfl, below_drewN (uh HBI) _, HQ3⟩
           case measure => simp [intOf]; omega
          ·rw [show stepB c' x.pl = c' from by simp [stepB, h0, h1]] at hq
           have HQ3 := hide hq
           clear hb HI hq
           go_wp2
           go_quiet (fail)
           go_wp2
           go_roundw
           case rel => exact ⟨k + 1, _, by omega, by go_num, rfl, below_drewN (uh HBI) _, HQ3⟩
           case measure => simp [intOf]; omega
      ·have hki : ¬ ((k : Int) < (i : Int)) := by omega
       have hq := uh HI
       rw [List.drop_of_length_le (by rw [List.length_take]; omega), twRin] at hq
       have HQ3 := hide hq
       clear hb HI hq
       go_wp2
       go_roundw
       case rel => exact ⟨i + 1, c', by omega, by go_num, rfl, uh HBI, hide (by rw [uh HQ3]; exact uh HQ2)⟩
       case measure => simp [intOf]; omega
    ·have hkn' : ¬ ((i : Int) < (rl.length : Int)) := by omega
     have hq := uh HQ
     rw [List.drop_of_length_le (by omega), twRout] at hq
     have HRF := hide hq
     clear hb HQ hq
     go_wp2
     go_ret
     exact ⟨by rw [← uh HRF]; rfl, uh HB⟩
end Go.Proofs.YtlbpnlngckgcbaaGreatDoor
