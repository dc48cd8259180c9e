import Derived.Test.YtlbpnlngckgcbaaGreatDoorM73
set_option linter.all false
set_option maxHeartbeats 20000000
set_option maxRecDepth 100000
namespace Go.Proofs.YtlbpnlngckgcbaaGreatDoor
open Go.RowKit Go.PlainAid
section
variable {w w' : World} {g n : Nat} {f f' : Nat → Bool} {T : TypeId}
theorem BkF.but {S : Nat → Prop} (h : BkF w g n f T) (k : aS S w w') (hg : ¬ S g) : BkF w' g n f T := aS.blk k h hg
theorem BkF.sq {F : Nat → Nat → Bool} (h : BkF w g 16 (fun q => F (q / 4) (q % 4)) T) {i j : Nat} (hi : i < 4) (hj : j < 4) : w.cell? ⟨g, i * 4 + j, none⟩ = some (.bool (F i j)) := by
  have := h.cell (i := i * 4 + j) (by omega)
  rw [show (i * 4 + j) / 4 = i by omega, show (i * 4 + j) % 4 = j by omega] at this
  exact this
end
theorem ld_no (H : Nat → Nat → Bool) (q : Nat) : ldF H false q = H (q / 4) (q % 4) := by simp [ldF]
theorem ld_in1 (ss : List ByteArray) (q : Nat) : ldF (fun i j => hdB ss 1 i j) true q = in1 ss (q / 4) (q % 4) := by simp [ldF, in1]
theorem ld_in2 (ss : List ByteArray) (q : Nat) : ldF (fun i j => hdB ss 2 i j) true q = in2 ss (q / 4) (q % 4) := by simp [ldF, in2]
def GrQC : Prop := ∀ kd a b : Nat, kd < 9 → a < 4 → b < 4 → ∀ w', Calls Tryz.prog 34 #[.agg #[.int .i64 kd, .int .i64 a, .int .i64 b, .bool false]] w' fun e w'' => e = .returned (.string (Io kd a b)) ∧ Below w'.heap.size w' w''
def PlC (v : Value) (ss : List ByteArray) (w : World) : Prop := ∀ s w', Below w.heap.size w w' → Calls Tryz.prog 32 #[v, .string s] w' fun e w'' => ∃ r : Int, e = .returned (.int .i64 r) ∧ w'' = w' ∧ (r < 0 ↔ s ∉ ss)
theorem PlC.below {v : Value} {ss : List ByteArray} {w w' : World} (h : PlC v ss w) (k : Below w.heap.size w w') : PlC v ss w' := fun s w'' h'' => h s w'' (k.trans (h''.mono k.size))
theorem hd_no {ss : List ByteArray} {k a b : Nat} : hdB ss k a b = false ↔ Io k a b ∉ ss := by
  rw [← hd_iff]
  cases hdB ss k a b <;> simp
theorem leadsQ (v : Value) (kd : Nat) (own : Bool) (ss : List ByteArray) (w : World) (hk : kd < 9) (CG : GrQC) (CP : PlC v ss w) :
    Calls Tryz.prog 52 #[v, .int .i64 kd, .bool own] w fun e w' => e = .returned (.pointer (some ⟨w.heap.size, 0, none⟩)) ∧ Below w.heap.size w w' ∧ BkF w' w.heap.size 16 (ldF (fun i j => hdB ss kd i j) own) 96 :=
  leadsW v kd own (fun i j => hdB ss kd i j) (fun a b => Io kd a b) w (fun a b ha hb w' => CG kd a b hk ha hb w') (fun a b ha hb w' hw => (CP (Io kd a b) w' hw).mono (fun e w'' ⟨r, h1, h2, h3⟩ => ⟨r, h1, h2, h3.trans hd_no.symm⟩))
theorem reckonQ (v : Value) (ss : List ByteArray) (w : World) (CG : GrQC) (CP : PlC v ss w) :
    Calls Tryz.prog 22 #[v] w fun e w' => e = .returned (.pointer (some ⟨w.heap.size, 0, none⟩)) ∧ Below w.heap.size w w' ∧ BkF w' w.heap.size 56 (wFzq ss 16 0 4 4 16 16 0) 56 := by
  have HG := ae CG
  have HP := ae CP
  have XW := ae (show BkF (w.alloc (.cells #[.bool false, .bool false, .bool false, .bool false, .bool false, .bool false, .bool false, .bool false, .bool false, .bool false, .bool false, .bool false, .bool false, .bool false, .bool false, .bool false, .bool false, .bool false, .bool false, .bool false, .bool false, .bool false, .bool false, .bool false, .bool false, .bool false, .bool false, .bool false, .bool false, .bool false, .bool false, .bool false, .bool false, .bool false, .bool false, .bool false, .bool false, .bool false, .bool false, .bool false, .bool false, .bool false, .bool false, .bool false, .bool false, .bool false, .bool false, .bool false, .bool false, .bool false, .bool false, .bool false, .bool false, .bool false, .bool false, .bool false] 56)) w.heap.size 56 (wFzq ss 0 0 0 0 0 0 0) 56 from BkF.congr (f := fun _ => false) (ag.new w _ _) (fun q _ => (wF_start q).symm))
  have B := ae ((Below.refl w.heap.size w).alloc (Nat.le_refl _) (.cells #[.bool false, .bool false, .bool false, .bool false, .bool false, .bool false, .bool false, .bool false, .bool false, .bool false, .bool false, .bool false, .bool false, .bool false, .bool false, .bool false, .bool false, .bool false, .bool false, .bool false, .bool false, .bool false, .bool false, .bool false, .bool false, .bool false, .bool false, .bool false, .bool false, .bool false, .bool false, .bool false, .bool false, .bool false, .bool false, .bool false, .bool false, .bool false, .bool false, .bool false, .bool false, .bool false, .bool false, .bool false, .bool false, .bool false, .bool false, .bool false, .bool false, .bool false, .bool false, .bool false, .bool false, .bool false, .bool false, .bool false] 56))
  have CL := ae (fun (w' : World) (kd : Nat) (own : Bool) (hk : kd < 9) (hb : Below w.heap.size w w') => leadsQ v kd own ss w' hk CG (CP.below hb))
  clear CG CP
  go_enter Tryz.func22, Tryz.ntmps22
  go_wp2_with fail
  generalize w.alloc (.cells #[.bool false, .bool false, .bool false, .bool false, .bool false, .bool false, .bool false, .bool false, .bool false, .bool false, .bool false, .bool false, .bool false, .bool false, .bool false, .bool false, .bool false, .bool false, .bool false, .bool false, .bool false, .bool false, .bool false, .bool false, .bool false, .bool false, .bool false, .bool false, .bool false, .bool false, .bool false, .bool false, .bool false, .bool false, .bool false, .bool false, .bool false, .bool false, .bool false, .bool false, .bool false, .bool false, .bool false, .bool false, .bool false, .bool false, .bool false, .bool false, .bool false, .bool false, .bool false, .bool false, .bool false, .bool false, .bool false, .bool false] 56) = W0 at *
  have hgl : w.heap.size < W0.heap.size := (aa XW).lt
  have C1 := ae (aa CL W0 1 true (by omega) (aa B))
  generalize hg1 : W0.heap.size = g1 at C1
  go_wp2_with fail
  refine (aa C1).mono ?_
  rintro e W1 ⟨rfl, hb, hX⟩
  rw [← hg1] at hb
  have XW' := ae ((aa XW).below hb)
  clear XW
  have XW := XW'
  clear XW'
  have X1 := ae (hX.congr (fun q _ => ld_in1 ss q))
  have B' := ae ((aa B).trans (hb.mono (aa B).size))
  clear B
  have B := B'
  clear B'
  have n1 : w.heap.size < g1 := by omega
  have l1 := (aa X1).lt
  have hgl' := Nat.lt_of_lt_of_le hgl hb.size
  clear hgl hb hX C1 hg1
  have hgl := hgl'
  clear hgl'
  have C2 := ae (closeQ_any g1 (in1 ss) W1 (aa X1))
  go_wp2_with fail
  refine (aa C2).mono ?_
  rintro e W2 ⟨rfl, hb, hX⟩
  have XW' := ae ((aa XW).but hb (show ¬ (w.heap.size = g1) by omega))
  clear XW
  have XW := XW'
  clear XW'
  clear X1
  have X1 := ae hX
  have B' := ae ((aa B).trans (hb.below (B := w.heap.size) (by omega) (fun k e => by have e' : k = g1 := e; omega)))
  clear B
  have B := B'
  clear B'
  have l1' := Nat.lt_of_lt_of_le l1 hb.size
  clear l1
  have l1 := l1'
  clear l1'
  have hgl' := Nat.lt_of_lt_of_le hgl hb.size
  clear hgl
  have hgl := hgl'
  clear hgl'
  clear hb hX C2
  have C3 := ae (aa CL W2 0 false (by omega) (aa B))
  generalize hg0 : W2.heap.size = g0 at C3
  go_wp2_with fail
  refine (aa C3).mono ?_
  rintro e W3 ⟨rfl, hb, hX⟩
  rw [← hg0] at hb
  have XW' := ae ((aa XW).below hb)
  clear XW
  have XW := XW'
  clear XW'
  have X1' := ae ((aa X1).below hb)
  clear X1
  have X1 := X1'
  clear X1'
  have X0 := ae (hX.congr (fun q _ => ld_no _ q))
  have B' := ae ((aa B).trans (hb.mono (aa B).size))
  clear B
  have B := B'
  clear B'
  have n0 : w.heap.size < g0 := by omega
  have q01 : g1 < g0 := by have := l1; omega
  have l1' := Nat.lt_of_lt_of_le l1 hb.size
  clear l1
  have l1 := l1'
  clear l1'
  have l0 := (aa X0).lt
  have hgl' := Nat.lt_of_lt_of_le hgl hb.size
  clear hgl hb hX C3 hg0
  have hgl := hgl'
  clear hgl'
  have C4 := ae (aa CL W3 2 true (by omega) (aa B))
  generalize hg2 : W3.heap.size = g2 at C4
  go_wp2_with fail
  refine (aa C4).mono ?_
  rintro e W4 ⟨rfl, hb, hX⟩
  rw [← hg2] at hb
  have XW' := ae ((aa XW).below hb)
  clear XW
  have XW := XW'
  clear XW'
  have X1' := ae ((aa X1).below hb)
  clear X1
  have X1 := X1'
  clear X1'
  have X0' := ae ((aa X0).below hb)
  clear X0
  have X0 := X0'
  clear X0'
  have X2 := ae (hX.congr (fun q _ => ld_in2 ss q))
  have B' := ae ((aa B).trans (hb.mono (aa B).size))
  clear B
  have B := B'
  clear B'
  have n2 : w.heap.size < g2 := by omega
  have q21 : g1 < g2 := by have := l1; omega
  have q20 : g0 < g2 := by have := l0; omega
  have l1' := Nat.lt_of_lt_of_le l1 hb.size
  clear l1
  have l1 := l1'
  clear l1'
  have l0' := Nat.lt_of_lt_of_le l0 hb.size
  clear l0
  have l0 := l0'
  clear l0'
  have l2 := (aa X2).lt
  have hgl' := Nat.lt_of_lt_of_le hgl hb.size
  clear hgl hb hX C4 hg2
  have hgl := hgl'
  clear hgl'
  have C5 := ae (closeQ_any g2 (in2 ss) W4 (aa X2))
  go_wp2_with fail
  refine (aa C5).mono ?_
  rintro e W5 ⟨rfl, hb, hX⟩
  have XW' := ae ((aa XW).but hb (show ¬ (w.heap.size = g2) by omega))
  clear XW
  have XW := XW'
  clear XW'
  have X1' := ae ((aa X1).but hb (show ¬ (g1 = g2) by omega))
  clear X1
  have X1 := X1'
  clear X1'
  have X0' := ae ((aa X0).but hb (show ¬ (g0 = g2) by omega))
  clear X0
  have X0 := X0'
  clear X0'
  clear X2
  have X2 := ae hX
  have B' := ae ((aa B).trans (hb.below (B := w.heap.size) (by omega) (fun k e => by have e' : k = g2 := e; omega)))
  clear B
  have B := B'
  clear B'
  have l1' := Nat.lt_of_lt_of_le l1 hb.size
  clear l1
  have l1 := l1'
  clear l1'
  have l0' := Nat.lt_of_lt_of_le l0 hb.size
  clear l0
  have l0 := l0'
  clear l0'
  have l2' := Nat.lt_of_lt_of_le l2 hb.size
  clear l2
  have l2 := l2'
  clear l2'
  have hgl' := Nat.lt_of_lt_of_le hgl hb.size
  clear hgl
  have hgl := hgl'
  clear hgl'
  clear hb hX C5
  have C6 := ae (aa CL W5 3 false (by omega) (aa B))
  generalize hg3 : W5.heap.size = g3 at C6
  go_wp2_with fail
  refine (aa C6).mono ?_
  rintro e W6 ⟨rfl, hb, hX⟩
  rw [← hg3] at hb
  have XW' := ae ((aa XW).below hb)
  clear XW
  have XW := XW'
  clear XW'
  have X1' := ae ((aa X1).below hb)
  clear X1
  have X1 := X1'
  clear X1'
  have X0' := ae ((aa X0).below hb)
  clear X0
  have X0 := X0'
  clear X0'
  have X2' := ae ((aa X2).below hb)
  clear X2
  have X2 := X2'
  clear X2'
  have X3 := ae (hX.congr (fun q _ => ld_no _ q))
  have B' := ae ((aa B).trans (hb.mono (aa B).size))
  clear B
  have B := B'
  clear B'
  have n3 : w.heap.size < g3 := by omega
  have q31 : g1 < g3 := by have := l1; omega
  have q30 : g0 < g3 := by have := l0; omega
  have q32 : g2 < g3 := by have := l2; omega
  have l1' := Nat.lt_of_lt_of_le l1 hb.size
  clear l1
  have l1 := l1'
  clear l1'
  have l0' := Nat.lt_of_lt_of_le l0 hb.size
  clear l0
  have l0 := l0'
  clear l0'
  have l2' := Nat.lt_of_lt_of_le l2 hb.size
  clear l2
  have l2 := l2'
  clear l2'
  have l3 := (aa X3).lt
  have hgl' := Nat.lt_of_lt_of_le hgl hb.size
  clear hgl hb hX C6 hg3
  have hgl := hgl'
  clear hgl'
  have C7 := ae (aa CL W6 4 false (by omega) (aa B))
  generalize hg4 : W6.heap.size = g4 at C7
  go_wp2_with fail
  refine (aa C7).mono ?_
  rintro e W7 ⟨rfl, hb, hX⟩
  rw [← hg4] at hb
  have XW' := ae ((aa XW).below hb)
  clear XW
  have XW := XW'
  clear XW'
  have X1' := ae ((aa X1).below hb)
  clear X1
  have X1 := X1'
  clear X1'
  have X0' := ae ((aa X0).below hb)
  clear X0
  have X0 := X0'
  clear X0'
  have X2' := ae ((aa X2).below hb)
  clear X2
  have X2 := X2'
  clear X2'
  have X3' := ae ((aa X3).below hb)
  clear X3
  have X3 := X3'
  clear X3'
  have X4 := ae (hX.congr (fun q _ => ld_no _ q))
  have B' := ae ((aa B).trans (hb.mono (aa B).size))
  clear B
  have B := B'
  clear B'
  have n4 : w.heap.size < g4 := by omega
  have q41 : g1 < g4 := by have := l1; omega
  have q40 : g0 < g4 := by have := l0; omega
  have q42 : g2 < g4 := by have := l2; omega
  have q43 : g3 < g4 := by have := l3; omega
  have l1' := Nat.lt_of_lt_of_le l1 hb.size
  clear l1
  have l1 := l1'
  clear l1'
  have l0' := Nat.lt_of_lt_of_le l0 hb.size
  clear l0
  have l0 := l0'
  clear l0'
  have l2' := Nat.lt_of_lt_of_le l2 hb.size
  clear l2
  have l2 := l2'
  clear l2'
  have wh := Nat.lt_of_lt_of_le l3 hb.size
  clear l3
  have l3 := wh
  clear wh
  have l4 := (aa X4).lt
  have hgl' := Nat.lt_of_lt_of_le hgl hb.size
  clear hgl hb hX C7 hg4
  have hgl := hgl'
  clear hgl'
  have C8zq := ae (aa CL W7 5 false (by omega) (aa B))
  generalize hg5 : W7.heap.size = g5 at C8zq
  go_wp2_with fail
  refine (aa C8zq).mono ?_
  rintro e W8 ⟨rfl, hb, hX⟩
  rw [← hg5] at hb
  have XW' := ae ((aa XW).below hb)
  clear XW
  have XW := XW'
  clear XW'
  have X1' := ae ((aa X1).below hb)
  clear X1
  have X1 := X1'
  clear X1'
  have X0' := ae ((aa X0).below hb)
  clear X0
  have X0 := X0'
  clear X0'
  have X2' := ae ((aa X2).below hb)
  clear X2
  have X2 := X2'
  clear X2'
  have X3' := ae ((aa X3).below hb)
  clear X3
  have X3 := X3'
  clear X3'
  have X4' := ae ((aa X4).below hb)
  clear X4
  have X4 := X4'
  clear X4'
  have X5 := ae (hX.congr (fun q _ => ld_no _ q))
  have B' := ae ((aa B).trans (hb.mono (aa B).size))
  clear B
  have B := B'
  clear B'
  have n5 : w.heap.size < g5 := by omega
  have q51 : g1 < g5 := by have := l1; omega
  have q50 : g0 < g5 := by have := l0; omega
  have q52 : g2 < g5 := by have := l2; omega
  have q53 : g3 < g5 := by have := l3; omega
  have q54 : g4 < g5 := by have := l4; omega
  have l1' := Nat.lt_of_lt_of_le l1 hb.size
  clear l1
  have l1 := l1'
  clear l1'
  have l0' := Nat.lt_of_lt_of_le l0 hb.size
  clear l0
  have l0 := l0'
  clear l0'
  have l2' := Nat.lt_of_lt_of_le l2 hb.size
  clear l2
  have l2 := l2'
  clear l2'
  have wh := Nat.lt_of_lt_of_le l3 hb.size
  clear l3
  have l3 := wh
  clear wh
  have l4' := Nat.lt_of_lt_of_le l4 hb.size
  clear l4
  have l4 := l4'
  clear l4'
  have l5 := (aa X5).lt
  have hgl' := Nat.lt_of_lt_of_le hgl hb.size
  clear hgl hb hX C8zq hg5
  have hgl := hgl'
  clear hgl'
  have C9zq := ae (aa CL W8 8 false (by omega) (aa B))
  generalize hg8 : W8.heap.size = g8 at C9zq
  go_wp2_with fail
  refine (aa C9zq).mono ?_
  rintro e W9 ⟨rfl, hb, hX⟩
  rw [← hg8] at hb
  have XW' := ae ((aa XW).below hb)
  clear XW
  have XW := XW'
  clear XW'
  have X1' := ae ((aa X1).below hb)
  clear X1
  have X1 := X1'
  clear X1'
  have X0' := ae ((aa X0).below hb)
  clear X0
  have X0 := X0'
  clear X0'
  have X2' := ae ((aa X2).below hb)
  clear X2
  have X2 := X2'
  clear X2'
  have X3' := ae ((aa X3).below hb)
  clear X3
  have X3 := X3'
  clear X3'
  have X4' := ae ((aa X4).below hb)
  clear X4
  have X4 := X4'
  clear X4'
  have X5' := ae ((aa X5).below hb)
  clear X5
  have X5 := X5'
  clear X5'
  have X8 := ae (hX.congr (fun q _ => ld_no _ q))
  have B' := ae ((aa B).trans (hb.mono (aa B).size))
  clear B
  have B := B'
  clear B'
  have n8 : w.heap.size < g8 := by omega
  have q81 : g1 < g8 := by have := l1; omega
  have q80 : g0 < g8 := by have := l0; omega
  have q82 : g2 < g8 := by have := l2; omega
  have q83 : g3 < g8 := by have := l3; omega
  have q84 : g4 < g8 := by have := l4; omega
  have q85 : g5 < g8 := by have := l5; omega
  have l1' := Nat.lt_of_lt_of_le l1 hb.size
  clear l1
  have l1 := l1'
  clear l1'
  have l0' := Nat.lt_of_lt_of_le l0 hb.size
  clear l0
  have l0 := l0'
  clear l0'
  have l2' := Nat.lt_of_lt_of_le l2 hb.size
  clear l2
  have l2 := l2'
  clear l2'
  have wh := Nat.lt_of_lt_of_le l3 hb.size
  clear l3
  have l3 := wh
  clear wh
  have l4' := Nat.lt_of_lt_of_le l4 hb.size
  clear l4
  have l4 := l4'
  clear l4'
  have l5' := Nat.lt_of_lt_of_le l5 hb.size
  clear l5
  have l5 := l5'
  clear l5'
  have l8zq := (aa X8).lt
  have hgl' := Nat.lt_of_lt_of_le hgl hb.size
  clear hgl hb hX C9zq hg8
  have hgl := hgl'
  clear hgl'
  have HBW := ae (show ∀ wr, aS (fun k => k = w.heap.size) W9 wr → Below w.heap.size w wr from fun wr h => (aa B).trans (h.below (by omega) (fun k e => by have e' : k = w.heap.size := e; omega)))
  have m0 : ¬ (g0 = w.heap.size) := by omega
  have m1 : ¬ (g1 = w.heap.size) := by omega
  have m2 : ¬ (g2 = w.heap.size) := by omega
  have m3 : ¬ (g3 = w.heap.size) := by omega
  have m4 : ¬ (g4 = w.heap.size) := by omega
  have m5 : ¬ (g5 = w.heap.size) := by omega
  have m8 : ¬ (g8 = w.heap.size) := by omega
  clear B CL n0 n1 n2 n3 n4 n5 n8 l0 l1 l2 l3 l4 l5 l8zq hgl q01 q21 q20 q31 q30 q32 q41 q40 q42 q43 q51 q50 q52 q53 q54 q81 q80 q82 q83 q84 q85
  go_wp2_with fail
  go_loopw [11] (fun u wr => ∃ i : Nat, u = .int .i64 i ∧ i ≤ 4 ∧ aS (fun k => k = w.heap.size) W9 wr ∧ BkF wr w.heap.size 56 (wFzq ss (i * 4) 0 0 0 0 0 0) 56) (fun u _ => 4 - (intOf u).toNat)
  case atStart => exact ⟨0, rfl, by omega, aS.refl _ _, aa XW⟩
  case round =>
    obtain ⟨i, rfl, hi, hb, hm⟩ := hrel
    have HB := ae hb
    have HM := ae hm
    clear hb hm XW
    by_cases hi4 : i < 4
    · have hin : (i : Int) < 4 := by omega
      go_wp2_with fail
      go_loopw [12] (fun u wr => ∃ j : Nat, u = .int .i64 j ∧ j ≤ 4 ∧ aS (fun k => k = w.heap.size) W9 wr ∧ BkF wr w.heap.size 56 (wFzq ss (i * 4 + j) 0 0 0 0 0 0) 56) (fun u _ => 4 - (intOf u).toNat)
      case atStart => exact ⟨0, rfl, by omega, aa HB, aa HM⟩
      case round =>
        obtain ⟨j, rfl, hj, hb, hm⟩ := hrel
        have iK := ae hb
        have QL := ae hm
        clear hb hm HB HM
        by_cases NM : j < 4
        · have hjn : (j : Int) < 4 := by omega
          go_wp2_with fail
          go_loopw [13] (fun u wr => ∃ k : Nat, u = .int .i64 k ∧ k ≤ 4 ∧ aS (fun k => k = w.heap.size) W9 wr ∧ BkF wr w.heap.size 56 (wFzq ss (i * 4 + j) k 0 0 0 0 0) 56) (fun u _ => 4 - (intOf u).toNat)
          case atStart => exact ⟨0, rfl, by omega, aa iK, aa QL⟩
          case round =>
            obtain ⟨k, rfl, hk, hb, hm⟩ := hrel
            by_cases hk4 : k < 4
            · have hkn : (k : Int) < 4 := by omega
              have c1 := hm.cell (i := i * 4 + j) (by omega)
              rw [wF_memat NM hi4] at c1
              have c2 := ((aa X1).but hb m1).sq hi4 hk4
              have c3 := ((aa X0).but hb m0).sq hk4 NM
              have fz := hm.fz
              have HN := ae (show ∀ X : Bool, X = (anyN k (mFzq ss i j) || (ledB (in1 ss) 4 i k && hdB ss 0 k j)) → BkF (wr.setCell ⟨w.heap.size, i * 4 + j, none⟩ (.bool X)) w.heap.size 56 (wFzq ss (i * 4 + j) (k + 1) 0 0 0 0 0) 56 from fun X hX => by
                subst hX
                have := hm.set (i * 4 + j) (anyN k (mFzq ss i j) || mFzq ss i j k)
                rw [wF_mem NM hi4] at this
                exact this)
              have HS := ae (fun X : Bool => hb.set (a := ⟨w.heap.size, i * 4 + j, none⟩) rfl (.bool X))
              generalize anyN k (mFzq ss i j) = a at *
              generalize ledB (in1 ss) 4 i k = b at *
              generalize hdB ss 0 k j = c at *
              clear hb hm iK QL
              cases a
              · cases b
                all_goals (
                  go_wp2_with fail
                  go_big_region
                  go_wp2_with fail
                  exact ⟨⟨k + 1, by go_num, by omega, (aa HS _).drew, ag.drew (aa HN _ rfl)⟩, by simp [intOf]; omega⟩)
              · go_wp2_with fail
                go_big_region
                go_wp2_with fail
                exact ⟨⟨k + 1, by go_num, by omega, (aa HS _).drew, ag.drew (aa HN _ rfl)⟩, by simp [intOf]; omega⟩
            · obtain rfl : k = 4 := by omega
              have hkn : ¬ ((4 : Int) < 4) := by omega
              have ww := ae hb
              have QC := ae hm
              clear hb hm iK QL
              go_wp2
              go_roundw
              case rel => exact ⟨j + 1, by go_num, by omega, aa ww, by rw [show i * 4 + (j + 1) = i * 4 + j + 1 by omega, ← wF_memnext (by omega)]; exact aa QC⟩
              case measure => simp [intOf]; omega
        · obtain rfl : j = 4 := by omega
          have hjn : ¬ ((4 : Int) < 4) := by omega
          go_wp2
          go_roundw
          case rel => exact ⟨i + 1, by go_num, by omega, aa iK, by rw [show (i + 1) * 4 = i * 4 + 4 by omega]; exact aa QL⟩
          case measure => simp [intOf]; omega
    · obtain rfl : i = 4 := by omega
      have hin : ¬ ((4 : Int) < 4) := by omega
      clear hi hi4
      go_wp2_with fail
      go_loopw [14] (fun u wr => ∃ i : Nat, u = .int .i64 i ∧ i ≤ 4 ∧ aS (fun k => k = w.heap.size) W9 wr ∧ BkF wr w.heap.size 56 (wFzq ss 16 0 i i (i * 4) (i * 4) 0) 56) (fun u _ => 4 - (intOf u).toNat)
      case atStart => exact ⟨0, rfl, by omega, aa HB, aa HM⟩
      case round =>
        obtain ⟨i, rfl, hi, hb, hm⟩ := hrel
        have MN := ae hb
        have HM1 := ae hm
        clear hb hm HB HM
        by_cases hi4 : i < 4
        · have hin : (i : Int) < 4 := by omega
          have G6zq := ae (show ∀ w', Calls Tryz.prog 34 #[.agg #[.int .i64 6, .int .i64 i, .int .i64 0, .bool false]] w' _ from fun w' => aa HG 6 i 0 (by omega) hi4 (by omega) w')
          have G7zq := ae (show ∀ w', Calls Tryz.prog 34 #[.agg #[.int .i64 7, .int .i64 i, .int .i64 0, .bool false]] w' _ from fun w' => aa HG 7 i 0 (by omega) hi4 (by omega) w')
          have D6zq := ae (hd_no (ss := ss) (k := 6) (a := i) (b := 0))
          have D7zq := ae (hd_no (ss := ss) (k := 7) (a := i) (b := 0))
          generalize Io 6 i 0 = S6 at *
          generalize Io 7 i 0 = S7 at *
          go_wp2_with fail
          refine (aa G6zq _).mono ?_
          rintro e w1 ⟨rfl, hb1⟩
          have iK := ae ((aa MN).trans (aS.of_below hb1))
          have QL := ae ((aa HM1).below hb1)
          have P6zq := ae (aa HP S6 w1 (aa HBW _ (aa iK)))
          clear hb1 MN HM1
          go_wp2_with fail
          refine (aa P6zq).mono ?_
          rintro e w2 ⟨r6, rfl, hw2, hr6⟩
          rw [hw2]
          clear hw2 w2 P6zq
          go_wp2_with fail
          refine (aa G7zq _).mono ?_
          rintro e w3 ⟨rfl, hb3⟩
          have ww := ae ((aa iK).trans (aS.of_below hb3))
          have QC := ae ((aa QL).below hb3)
          have P7zq := ae (aa HP S7 w3 (aa HBW _ (aa ww)))
          clear hb3 iK QL
          go_wp2_with fail
          refine (aa P7zq).mono ?_
          rintro e w4 ⟨r7, rfl, hw4, hr7⟩
          rw [hw4]
          clear hw4 w4 P7zq
          have e6 : decide ((0 : Int) ≤ r6) = hdB ss 6 i 0 := by
            rw [Bool.eq_iff_iff, decide_eq_true_eq]
            constructor
            · intro h
              cases hd : hdB ss 6 i 0
              · have := hr6.2 ((aa D6zq).1 hd); omega
              · rfl
            · intro h
              by_cases h0 : r6 < 0
              · have := (aa D6zq).2 (hr6.1 h0); rw [this] at h; cases h
              · omega
          have e7 : decide ((0 : Int) ≤ r7) = hdB ss 7 i 0 := by
            rw [Bool.eq_iff_iff, decide_eq_true_eq]
            constructor
            · intro h
              cases hd : hdB ss 7 i 0
              · have := hr7.2 ((aa D7zq).1 hd); omega
              · rfl
            · intro h
              by_cases h0 : r7 < 0
              · have := (aa D7zq).2 (hr7.1 h0); rw [this] at h; cases h
              · omega
          have c1 := (aa QC).cell (i := 32 + i) (by omega)
          have c2 := (aa QC).cell (i := 36 + i) (by omega)
          have fz := (aa QC).fz
          have hlt := (aa QC).lt
          generalize wFzq ss 16 0 i i (i * 4) (i * 4) 0 (32 + i) = o1 at c1
          generalize wFzq ss 16 0 i i (i * 4) (i * 4) 0 (36 + i) = o2 at c2
          have HN := ae (show BkF ((w3.setCell ⟨w.heap.size, 32 + i, none⟩ (.bool (decide ((0 : Int) ≤ r6)))).setCell ⟨w.heap.size, 36 + i, none⟩ (.bool (decide ((0 : Int) ≤ r7)))) w.heap.size 56 (wFzq ss 16 0 (i + 1) (i + 1) (i * 4) (i * 4) 0) 56 from by
            have t1 := (aa QC).set (32 + i) (hdB ss 6 i 0)
            rw [wF_all hi4] at t1
            have t2 := t1.set (36 + i) (hdB ss 7 i 0)
            rw [wF_none hi4] at t2
            rw [e6, e7]
            exact t2)
          have HS := ae (((aa ww).set (a := ⟨w.heap.size, 32 + i, none⟩) rfl (.bool (decide ((0 : Int) ≤ r6)))).set (a := ⟨w.heap.size, 36 + i, none⟩) rfl (.bool (decide ((0 : Int) ≤ r7))))
          clear hr6 hr7 e6 e7 QC ww D6zq D7zq G6zq G7zq
          have hne : ¬ (32 + i = 36 + i) := by omega
          go_wp2_with fail
          go_loopw [17] (fun u wr => ∃ j : Nat, u = .int .i64 j ∧ j ≤ 4 ∧ aS (fun k => k = w.heap.size) W9 wr ∧ BkF wr w.heap.size 56 (wFzq ss 16 0 (i + 1) (i + 1) (i * 4 + j) (i * 4 + j) 0) 56) (fun u _ => 4 - (intOf u).toNat)
          case atStart => exact ⟨0, rfl, by omega, aa HS, aa HN⟩
          case round =>
            obtain ⟨j, rfl, hj, hb, hm⟩ := hrel
            by_cases NM : j < 4
            · have hjn : (j : Int) < 4 := by omega
              have c1 := ((aa X8).but hb m8).sq hi4 NM
              have c2 := hm.cell (i := 36 + i) (by omega)
              rw [wF_noneof (show i < i + 1 by omega) (by omega)] at c2
              have c3 := hm.cell (i := 40 + i * 4 + j) (by omega)
              generalize wFzq ss 16 0 (i + 1) (i + 1) (i * 4 + j) (i * 4 + j) 0 (40 + i * 4 + j) = o3 at c3
              have fz := hm.fz
              have IE := ae (show ∀ X : Bool, X = (hdB ss 8 i j || hdB ss 7 i 0) → BkF (wr.setCell ⟨w.heap.size, 40 + i * 4 + j, none⟩ (.bool X)) w.heap.size 56 (wFzq ss 16 0 (i + 1) (i + 1) (i * 4 + j + 1) (i * 4 + j) 0) 56 from fun X hX => by
                subst hX
                have := hm.set (40 + (i * 4 + j)) (banX ss i j)
                rw [wF_ban NM hi4] at this
                rw [Nat.add_assoc]
                exact this)
              have Ih := ae (fun X : Bool => hb.set (a := ⟨w.heap.size, 40 + i * 4 + j, none⟩) rfl (.bool X))
              generalize hdB ss 8 i j = a at *
              generalize hdB ss 7 i 0 = b at *
              clear hb hm HN HS
              go_upto_region 31 with fail
              go_cut [138] (fun _ wx => aS (fun k => k = w.heap.size) W9 wx ∧ BkF wx w.heap.size 56 (wFzq ss 16 0 (i + 1) (i + 1) (i * 4 + j + 1) (i * 4 + j) 0) 56)
              case first =>
                cases a
                all_goals (
                  go_big_region
                  go_wp2
                  go_meet
                  case rel => exact ⟨(aa Ih _).drew, ag.drew (aa IE _ rfl)⟩)
              case rest =>
                obtain ⟨hb, hm⟩ := hcut
                have wy := ae hb
                have HM4 := ae hm
                clear hb hm IE Ih
                go_wp2_with fail
                go_loopw [18] (fun u wr => ∃ d : Nat, u = .int .i64 d ∧ d ≤ 4 ∧ aS (fun k => k = w.heap.size) W9 wr ∧ BkF wr w.heap.size 56 (wFzq ss 16 0 (i + 1) (i + 1) (i * 4 + j + 1) (i * 4 + j) d) 56) (fun u _ => 4 - (intOf u).toNat)
                case atStart => exact ⟨0, rfl, by omega, aa wy, aa HM4⟩
                case round =>
                  obtain ⟨d, rfl, hd, hb, hm⟩ := hrel
                  have Qn := ae hb
                  have HM5 := ae hm
                  clear wy HM4
                  by_cases Qt : d < 4
                  · have hdn : (d : Int) < 4 := by omega
                    have c1 := ((aa X3).but hb m3).sq Qt NM
                    have c2 := ((aa X4).but hb m4).sq Qt NM
                    clear hb hm
                    go_upto_region 35 with fail
                    go_cut [19] (fun s wx => s = .bool (hdB ss 3 d j || hdB ss 4 d j) ∧ wx = wr)
                    case first =>
                      cases h3 : hdB ss 3 d j
                      all_goals (
                        rw [h3] at c1
                        go_wp2
                        go_meet
                        case rel => exact ⟨by rw [h3]; rfl, rfl⟩)
                    case rest =>
                      obtain ⟨rfl, hwc⟩ := hcut
                      subst hwc
                      clear c1 c2
                      generalize hbase : (hdB ss 3 d j || hdB ss 4 d j) = base
                      have rM := ae hbase
                      clear hbase
                      go_wp2_with fail
                      go_loopw [19, 20] (fun s u wr => ∃ g : Nat, u = .int .i64 g ∧ g ≤ 4 ∧ wr = wc ∧ ∃ E : Bool, s = .bool E ∧ Hid (E = (base || anyN g (fun g => hdB ss 5 d g && memX ss g j)))) (fun _ u _ => 4 - (intOf u).toNat)
                      case atStart => exact ⟨0, rfl, by omega, rfl, _, rfl, ae (by simp [anyN])⟩
                      case round =>
                        obtain ⟨g, rfl, hg, hwr, E, rfl, HEE⟩ := hrel
                        subst hwr
                        by_cases hg4 : g < 4
                        · have Np : (g : Int) < 4 := by omega
                          have c3 := ((aa X5).but (aa Qn) m5).sq Qt hg4
                          have c4 := (aa HM5).cell (i := g * 4 + j) (by omega)
                          rw [wF_memof NM hg4] at c4
                          have HNE := ae (show ∀ X : Bool, X = (E || (hdB ss 5 d g && memX ss g j)) → X = (base || anyN (g + 1) (fun g => hdB ss 5 d g && memX ss g j)) from fun X hX => by
                            rw [hX, aa HEE, anyN, Bool.or_assoc])
                          clear HEE
                          generalize hdB ss 5 d g = p at *
                          generalize memX ss g j = m at *
                          cases E
                          · cases p
                            · go_wp2
                              go_roundw
                              case rel => exact ⟨g + 1, by go_num, by omega, by first | rfl | trivial, _, rfl, ae (aa HNE _ rfl)⟩
                              case measure => simp [intOf]; omega
                            · go_wp2
                              go_roundw
                              case rel => exact ⟨g + 1, by go_num, by omega, by first | rfl | trivial, _, rfl, ae (aa HNE _ rfl)⟩
                              case measure => simp [intOf]; omega
                          · go_wp2
                            go_roundw
                            case rel => exact ⟨g + 1, by go_num, by omega, by first | rfl | trivial, _, rfl, ae (aa HNE _ rfl)⟩
                            case measure => simp [intOf]; omega
                        · obtain rfl : g = 4 := by omega
                          have Np : ¬ ((4 : Int) < 4) := by omega
                          have hE : E = edtX ss d j := by
                            rw [aa HEE, ← aa rM]
                            rfl
                          clear HEE
                          have c1 := (aa HM5).cell (i := 16 + i * 4 + j) (by omega)
                          have e1 : wFzq ss 16 0 (i + 1) (i + 1) (i * 4 + j + 1) (i * 4 + j) d (16 + i * 4 + j) = anyN d (eFzq ss i j) := by
                            rw [show 16 + i * 4 + j = 16 + (i * 4 + j) by omega]
                            exact wF_edat NM hi4
                          rw [e1] at c1
                          have c2 := ((aa X2).but (aa Qn) m2).sq hi4 Qt
                          have fz := (aa HM5).fz
                          have HN6 := ae (show ∀ X : Bool, X = (anyN d (eFzq ss i j) || (ledB (in2 ss) 4 i d && E)) → BkF (wr.setCell ⟨w.heap.size, 16 + i * 4 + j, none⟩ (.bool X)) w.heap.size 56 (wFzq ss 16 0 (i + 1) (i + 1) (i * 4 + j + 1) (i * 4 + j) (d + 1)) 56 from fun X hX => by
                            subst hX
                            subst hE
                            have := (aa HM5).set (16 + (i * 4 + j)) (anyN d (eFzq ss i j) || eFzq ss i j d)
                            rw [wF_ed NM hi4] at this
                            rw [show 16 + i * 4 + j = 16 + (i * 4 + j) by omega]
                            exact this)
                          have C8 := ae (fun X : Bool => (aa Qn).set (a := ⟨w.heap.size, 16 + i * 4 + j, none⟩) rfl (.bool X))
                          generalize anyN d (eFzq ss i j) = a at *
                          generalize ledB (in2 ss) 4 i d = b at *
                          clear hE e1 Qn HM5 rM
                          cases a
                          · cases b
                            all_goals (
                              go_wp2_with fail
                              go_big_region
                              go_wp2_with fail
                              go_roundw
                              case rel => first | exact ⟨d + 1, by go_num, by omega, (aa C8 _).drew, ag.drew (aa HN6 _ rfl)⟩ | ((repeat apply Exists.intro); exact ⟨⟨d + 1, by go_num, by omega, (aa C8 _).drew, ag.drew (aa HN6 _ rfl)⟩, rfl⟩)
                              case measure => simp [intOf]; omega)
                          · go_wp2_with fail
                            go_big_region
                            go_wp2_with fail
                            go_roundw
                            case rel => first | exact ⟨d + 1, by go_num, by omega, (aa C8 _).drew, ag.drew (aa HN6 _ rfl)⟩ | ((repeat apply Exists.intro); exact ⟨⟨d + 1, by go_num, by omega, (aa C8 _).drew, ag.drew (aa HN6 _ rfl)⟩, rfl⟩)
                            case measure => simp [intOf]; omega
                  · obtain rfl : d = 4 := by omega
                    have hdn : ¬ ((4 : Int) < 4) := by omega
                    clear hb hm
                    go_wp2_with fail
                    go_roundw
                    case rel => first | exact ⟨j + 1, by go_num, by omega, aa Qn, by rw [show i * 4 + (j + 1) = i * 4 + j + 1 by omega, ← wF_ednext (by omega)]; exact aa HM5⟩ | ((repeat apply Exists.intro); exact ⟨⟨j + 1, by go_num, by omega, aa Qn, by rw [show i * 4 + (j + 1) = i * 4 + j + 1 by omega, ← wF_ednext (by omega)]; exact aa HM5⟩, rfl⟩)
                    case measure => simp [intOf]; omega
            · obtain rfl : j = 4 := by omega
              have hjn : ¬ ((4 : Int) < 4) := by omega
              have wy := ae hb
              have HM4 := ae hm
              clear hb hm HN HS
              go_wp2
              go_roundw
              case rel => exact ⟨i + 1, by go_num, by omega, aa wy, by rw [show (i + 1) * 4 = i * 4 + 4 by omega]; exact aa HM4⟩
              case measure => simp [intOf]; omega
        · obtain rfl : i = 4 := by omega
          have hin : ¬ ((4 : Int) < 4) := by omega
          have iL := ae (aa HBW _ (aa MN))
          go_wp2
          go_ret
          exact ⟨rfl, aa iL, aa HM1⟩
end Go.Proofs.YtlbpnlngckgcbaaGreatDoor

namespace Go.Proofs.YtlbpnlngckgcbaaGreatDoor
open Go.RowKit Go.PlainAid
section
variable {B : Nat} {w : World} {x : Nat} {ts : List Ty} {ss : List ByteArray}
theorem mg_check (h : EP B w x ts (ss.map tt)) (hE : yN w) (ht : EC ts) (hss : ∀ s ∈ ss, s ∈ allG2) (hl : ss.length ≤ 24) {d : Nat} (hd : d < 10) {c : ByteArray} (hc : c ∈ [lw, bH, qj, dM, vS]) {W id : ByteArray} (hw : (ax W 58).1 = dP ∧ dR W = true ∧ W.size ≤ 1000) (hid : (ax W 58).2.1 = id) :
    Calls Tryz.prog 26 #[.pointer (some ⟨x, 0, none⟩), .string (ib d), .string c, .string W] w (AgPost (ss.map tt) ⟨eP, qa d, c⟩ ⟨dP, id⟩ w) := by
  obtain ⟨mv, lv, gv, h1, _⟩ := h
  exact agr_check h1 hE ht (gdL_map hss) (by simpa using hl) hd hc hw hid
end
end Go.Proofs.YtlbpnlngckgcbaaGreatDoor

namespace Go.Proofs.YtlbpnlngckgcbaaGreatDoor
open Go.RowKit Go.PlainAid
theorem row4 {w : World} {f : Nat → Bool} {T : TypeId} : BkF (w.alloc (.cells #[.bool (f 0), .bool (f 1), .bool (f 2), .bool (f 3)] T)) w.heap.size 4 f T := ag.new w _ _
theorem toldQ (x : Nat) (T R : ByteArray) (f : Nat → Bool) (w : World) (CK : ∀ j : Nat, j < 4 → ∀ w', Below w.heap.size w w' → Calls Tryz.prog 26 #[.pointer (some ⟨x, 0, none⟩), .string T, .string R, .string (gQ j)] w' fun e w'' => e = .returned (.tuple #[.bool (f j), .int .i64 0]) ∧ Below w'.heap.size w' w'') :
    Calls Tryz.prog 23 #[.pointer (some ⟨x, 0, none⟩), .string T, .string R, .agg #[.bool (f 0), .bool (f 1), .bool (f 2), .bool (f 3)]] w fun e w' => e = .returned (.bool true) ∧ Below w.heap.size w w' := by
  have HK := ae CK
  have HX := ae (row4 (w := w) (f := f) (T := 53))
  have HA := ae ((Below.refl w.heap.size w).alloc (Nat.le_refl _) (.cells #[.bool (f 0), .bool (f 1), .bool (f 2), .bool (f 3)] 53))
  clear CK
  go_enter Tryz.func23, Tryz.ntmps23
  go_wp2_with fail
  go_loopw [9] (fun u wr => ∃ j : Nat, u = .int .i64 j ∧ j ≤ 4 ∧ Below w.heap.size w wr ∧ BkF wr w.heap.size 4 f 53) (fun u _ => 4 - (intOf u).toNat)
  case atStart => exact ⟨0, rfl, by omega, aa HA, aa HX⟩
  case round =>
    obtain ⟨j, rfl, hj, hb, hm⟩ := hrel
    have HB := ae hb
    have HM := ae hm
    clear hb hm HA HX
    by_cases NM : j < 4
    · have hjn : (j : Int) < 4 := by omega
      have CUzq := ae (lC j (show j < 10 by omega) wr)
      have C1 := ae (aa HK j NM wr (aa HB))
      go_wp2_with fail
      refine (aa CUzq).mono ?_
      rintro e w1 ⟨rfl, hw1⟩
      rw [hw1]
      clear hw1 w1 CUzq
      go_wp2_with fail
      refine (aa C1).mono ?_
      rintro e w2 ⟨rfl, hb2⟩
      have iK := ae ((aa HB).trans (hb2.mono (aa HB).size))
      have QL := ae ((aa HM).below hb2)
      have c1 := (aa QL).cell (i := j) NM
      generalize f j = b at *
      clear hb2 C1 HB HM
      cases b
      all_goals (
        go_wp2
        go_roundw
        case rel => exact ⟨j + 1, by go_num, by omega, aa iK, aa QL⟩
        case measure => simp [intOf]; omega)
    · obtain rfl : j = 4 := by omega
      have hjn : ¬ ((4 : Int) < 4) := by omega
      go_wp2
      go_ret
      exact ⟨rfl, aa HB⟩
end Go.Proofs.YtlbpnlngckgcbaaGreatDoor

namespace Go.Proofs.YtlbpnlngckgcbaaGreatDoor
open Go.RowKit Go.PlainAid
theorem pk_small {k n : Nat} (h : k < n) : BV (k : Int) n = k := by
  unfold BV
  rw [if_neg (by omega), Int.toNat_natCast, Nat.mod_eq_of_lt h]
theorem gr_qc : GrQC := fun kd a b hk ha hb w' => by
  have := AX ⟨kd, a, b, false⟩ ⟨⟨by show _ ≤ (kd : Int); omega, by show (kd : Int) ≤ _; omega⟩, ⟨by show _ ≤ (a : Int); omega, by show (a : Int) ≤ _; omega⟩, ⟨by show _ ≤ (b : Int); omega, by show (b : Int) ≤ _; omega⟩⟩ w'
  rw [pk_small hk, pk_small ha, pk_small hb] at this
  exact this
theorem pl_qc {base : Nat} {v : Value} {ss : List ByteArray} {w : World} (h : w.ownsRow base 9 1 v ss.length (jZ ss)) (hl : ss.length ≤ 24) : PlC v ss w := fun s w' hb => mY base v ss s w' (aF h hb) (by omega)
section
variable {B x : Nat} {ts : List Ty} {ss : List ByteArray} {W : World} {k : Nat}
theorem rc_mem (h : EP B W x ts (ss.map tt)) (hE : yN W) (ht : EC ts) (hi : DnI ss) (hk : k < 4) : ∀ j : Nat, j < 4 → ∀ w', Below W.heap.size W w' → Calls Tryz.prog 26 #[.pointer (some ⟨x, 0, none⟩), .string (jr k), .string BQ, .string (gQ j)] w' fun e w'' => e = .returned (.tuple #[.bool (memX ss k j), .int .i64 0]) ∧ Below w'.heap.size w' w'' := by
  intro j hj w' hb
  obtain ⟨mv, lv, gv, h1, _⟩ := h.below hb
  refine (rc_checkG h1 (hE.below hb hE.lt) ht (gdL_map (gr_two hi.gr)) (by simpa using hi.len) hk (W := gQ j) ⟨(user_facts hj).1, (user_facts hj).2.1, by have := (user_facts hj).2.2; omega⟩ (id := NI j) rfl).mono ?_
  rintro e w'' ⟨kb, rfl, hb2, hr⟩
  exact ⟨by rw [(reach_user hi.gr hk hj hr).1], hb2⟩
theorem rc_ed (h : EP B W x ts (ss.map tt)) (hE : yN W) (ht : EC ts) (hi : DnI ss) (hk : k < 4) : ∀ j : Nat, j < 4 → ∀ w', Below W.heap.size W w' → Calls Tryz.prog 26 #[.pointer (some ⟨x, 0, none⟩), .string (ib k), .string dM, .string (gQ j)] w' fun e w'' => e = .returned (.tuple #[.bool (edX ss k j), .int .i64 0]) ∧ Below w'.heap.size w' w'' := by
  intro j hj w' hb
  refine (mg_check (h.below hb) (hE.below hb hE.lt) ht (gr_two hi.gr) hi.len (show k < 10 by omega) (c := dM) (by simp) (W := gQ j) ⟨(user_facts hj).1, (user_facts hj).2.1, by have := (user_facts hj).2.2; omega⟩ (id := NI j) rfl).mono ?_
  rintro e w'' ⟨kb, rfl, hb2, hr⟩
  exact ⟨by rw [(reach_user hi.gr hk hj hr).2.1], hb2⟩
theorem rc_view (h : EP B W x ts (ss.map tt)) (hE : yN W) (ht : EC ts) (hi : DnI ss) (hk : k < 4) : ∀ j : Nat, j < 4 → ∀ w', Below W.heap.size W w' → Calls Tryz.prog 26 #[.pointer (some ⟨x, 0, none⟩), .string (ib k), .string vS, .string (gQ j)] w' fun e w'' => e = .returned (.tuple #[.bool (viewX ss k j), .int .i64 0]) ∧ Below w'.heap.size w' w'' := by
  intro j hj w' hb
  refine (mg_check (h.below hb) (hE.below hb hE.lt) ht (gr_two hi.gr) hi.len (show k < 10 by omega) (c := vS) (by simp) (W := gQ j) ⟨(user_facts hj).1, (user_facts hj).2.1, by have := (user_facts hj).2.2; omega⟩ (id := NI j) rfl).mono ?_
  rintro e w'' ⟨kb, rfl, hb2, hr⟩
  exact ⟨by rw [(reach_user hi.gr hk hj hr).2.2], hb2⟩
theorem rc_new (h : EP B W x ts (ss.map tt)) (hE : yN W) (ht : EC ts) (hi : DnI ss) (hk : k < 4) : ∀ w', Below W.heap.size W w' → Calls Tryz.prog 26 #[.pointer (some ⟨x, 0, none⟩), .string (ib k), .string vS, .string ⟨#[117, 115, 101, 114, 58, 110, 101, 119]⟩] w' fun e w'' => e = .returned (.tuple #[.bool (hdB ss 6 k 0 && !hdB ss 7 k 0), .int .i64 0]) ∧ Below w'.heap.size w' w'' := by
  intro w' hb
  refine (mg_check (h.below hb) (hE.below hb hE.lt) ht (gr_two hi.gr) hi.len (show k < 10 by omega) (c := vS) (by simp) (W := ⟨#[117, 115, 101, 114, 58, 110, 101, 119]⟩) (id := bNew) ⟨by kernel_rfl, by kernel_rfl, by decide⟩ (by kernel_rfl)).mono ?_
  rintro e w'' ⟨kb, rfl, hb2, hr⟩
  exact ⟨by rw [reach_new hi.gr hk hr], hb2⟩
theorem tl_mem (h : EP B W x ts (ss.map tt)) (hE : yN W) (ht : EC ts) (hi : DnI ss) (hk : k < 4) : ∀ w', Below W.heap.size W w' → Calls Tryz.prog 23 #[.pointer (some ⟨x, 0, none⟩), .string (jr k), .string BQ, .agg #[.bool (memX ss k 0), .bool (memX ss k 1), .bool (memX ss k 2), .bool (memX ss k 3)]] w' fun e w'' => e = .returned (.bool true) ∧ Below w'.heap.size w' w'' :=
  fun w' hb => toldQ x (jr k) BQ (fun j => memX ss k j) w' (rc_mem (h.below hb) (hE.below hb hE.lt) ht hi hk)
theorem tl_ed (h : EP B W x ts (ss.map tt)) (hE : yN W) (ht : EC ts) (hi : DnI ss) (hk : k < 4) : ∀ w', Below W.heap.size W w' → Calls Tryz.prog 23 #[.pointer (some ⟨x, 0, none⟩), .string (ib k), .string dM, .agg #[.bool (edX ss k 0), .bool (edX ss k 1), .bool (edX ss k 2), .bool (edX ss k 3)]] w' fun e w'' => e = .returned (.bool true) ∧ Below w'.heap.size w' w'' :=
  fun w' hb => toldQ x (ib k) dM (fun j => edX ss k j) w' (rc_ed (h.below hb) (hE.below hb hE.lt) ht hi hk)
theorem tl_view (h : EP B W x ts (ss.map tt)) (hE : yN W) (ht : EC ts) (hi : DnI ss) (hk : k < 4) : ∀ w', Below W.heap.size W w' → Calls Tryz.prog 23 #[.pointer (some ⟨x, 0, none⟩), .string (ib k), .string vS, .agg #[.bool (viewX ss k 0), .bool (viewX ss k 1), .bool (viewX ss k 2), .bool (viewX ss k 3)]] w' fun e w'' => e = .returned (.bool true) ∧ Below w'.heap.size w' w'' :=
  fun w' hb => toldQ x (ib k) vS (fun j => viewX ss k j) w' (rc_view (h.below hb) (hE.below hb hE.lt) ht hi hk)
end
end Go.Proofs.YtlbpnlngckgcbaaGreatDoor

