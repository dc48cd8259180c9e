import Derived.Test.YtlbpnlngckgcbaaGreatDoorM08
namespace Go.Proofs.YtlbpnlngckgcbaaGreatDoor
open Go.RowKit Go.PlainAid
set_option linter.unusedSimpArgs false
set_option linter.unusedVariables false
def find3 (x : ByteArray) (l : List E3) : Option E3 := l.find? fun e => eqs e.2.1 x
theorem idx3_none {x : ByteArray} {l : List E3} (h : find3 x l = none) : idx3 x l = -1 := by
 unfold find3 at h
 rw [List.find?_eq_none] at h
 exact idx3_no x l (fun j hj => by simpa using h l[j] (List.getElem_mem hj))
theorem idx3_some {x : ByteArray} {l : List E3} {y : E3} (h : find3 x l = some y) : ∃ k, ∃ hk : k < l.length, l[k] = y ∧ idx3 x l = k := by
 unfold find3 at h
 rw [List.find?_eq_some_iff_getElem] at h
 obtain ⟨h1, k, hk, h2, h3⟩ := h
 refine ⟨k, hk, h2, idx3_yes x l k hk (by rw [h2]; exact h1) (fun j hj hjk => by simpa using h3 j hjk)⟩
theorem lt_of_cell {w : World} {g o : Nat} {v : Value} (h : w.cell? ⟨g, o, none⟩ = some v) : g < w.heap.size := by
 rcases Nat.lt_or_ge g w.heap.size with k | k
 ·exact k
 ·simp [World.cell?, Array.getElem?_eq_none k] at h
set_option maxHeartbeats 1000000 in
set_option maxRecDepth 100000 in
theorem find_no_T (v : Value) (l : List E3) (x : ByteArray) (w : World) (hn : l.length ≤ 1000) (h : Row3 w 110 v l) (hf : find3 x l = none) :
  Calls Tryz.prog 57 #[.agg #[v], .string x] w fun e w' => e = .returned (.tuple #[.agg #[.int .i64 0, .string ⟨#[]⟩, .slice none 0 0], errv 5]) ∧ Below w.heap.size w w' := by
 obtain ⟨sa, sc, rfl⟩ := own_form h
 have H := hide h
 have W0 : Below w.heap.size w (((w.alloc (.cells #[.slice sa l.length sc] 75)).alloc (.cells #[.string x] 9)).alloc (.cells #[.int .i64 0, .string ⟨#[]⟩, .slice none 0 0] 110)) := (((Below.refl _ _).alloc (Nat.le_refl _) _).alloc (by simp) _).alloc (by simp; omega) _
 have C := hide (indexFunc_T (.slice sa l.length sc) l x (w.heap.size + 1) _ hn (h.below W0) ((Blk.new' (w.alloc (.cells #[.slice sa l.length sc] 75)) #[.string x] 9 (w.heap.size + 1) (by simp)).alloc (.cells #[.int .i64 0, .string ⟨#[]⟩, .slice none 0 0] 110)))
 have M := hide (((Blk.new w #[.slice sa l.length sc] 75).alloc (.cells #[.string x] 9)).alloc (.cells #[.int .i64 0, .string ⟨#[]⟩, .slice none 0 0] 110))
 have R := hide (Blk.new' ((w.alloc (.cells #[.slice sa l.length sc] 75)).alloc (.cells #[.string x] 9)) #[.int .i64 0, .string ⟨#[]⟩, .slice none 0 0] 110 (w.heap.size + 2) (by simp))
 have HW0 := hide W0
 have H0 := hide (h.below W0)
 clear h W0
 go_enter Tryz.func57, Tryz.ntmps57
 go_wp2_with fail
 refine (uh C).mono ?_
 rintro e w1 ⟨rfl, hb1⟩
 have HR := hide ((uh R).below hb1)
 have HM := hide ((uh M).below hb1)
 have H1 := hide ((uh H0).below hb1)
 have B1 := hide ((uh HW0).trans (hb1.mono (uh HW0).size))
 clear hb1 C
 obtain ⟨r0, r1, r2⟩ := (uh HR).three
 have zr := (uh HR).fz
 have hrl := (uh HR).lt
 have mc : w1.cell? ⟨w.heap.size, 0, none⟩ = some (.slice sa l.length sc) := (uh HM).cell rfl
 rw [idx3_none hf]
 go_wp2
 refine bodyPost_ret (v := .tuple #[.agg #[.int .i64 0, .string ⟨#[]⟩, .slice none 0 0], errv 5]) (res_cc Tryz.results57 _ _ (w.heap.size + 2) _ 110 _ _ rfl rfl ?hB Tryz.underlying110 rfl (by kernel_rfl)) rfl ?post
 case hB => exact ⟨_, (by repeat (first | with_reducible exact uh HR | with_reducible apply Blk.alloc | with_reducible apply Blk.drew | with_reducible apply Blk.set | (with_reducible apply Blk.other; case ha => exact (by first | omega | (simp; omega) | simp | (simp; done))))), by rfl⟩
 case post => exact ⟨rfl, (by repeat (first | with_reducible exact uh B1 | with_reducible refine Below.drew ?_ | (with_reducible refine Below.setCell ?_ ?_ _; rotate_left; exact (by first | omega | (simp; omega) | simp | (simp; done))) | (with_reducible refine Below.alloc ?_ ?_ _; rotate_left; exact (by first | omega | (simp; omega) | simp | (simp; done)))))⟩
set_option maxHeartbeats 1000000 in
set_option maxRecDepth 100000 in
theorem find_yes_T (v : Value) (l : List E3) (x : ByteArray) (w : World) (hn : l.length ≤ 1000) (h : Row3 w 110 v l) (y : E3) (hf : find3 x l = some y) (hy1 : ∃ a n c, y.2.2 = .slice a n c) :
  Calls Tryz.prog 57 #[.agg #[v], .string x] w fun e w' => e = .returned (.tuple #[.agg #[.int .i64 y.1, .string y.2.1, y.2.2], .nilIface]) ∧ Below w.heap.size w w' := by
 obtain ⟨k, hk, hy, hi⟩ := idx3_some hf
 obtain ⟨sa, sc, rfl⟩ := own_form h
 have H := hide h
 have W0 : Below w.heap.size w (((w.alloc (.cells #[.slice sa l.length sc] 75)).alloc (.cells #[.string x] 9)).alloc (.cells #[.int .i64 0, .string ⟨#[]⟩, .slice none 0 0] 110)) := (((Below.refl _ _).alloc (Nat.le_refl _) _).alloc (by simp) _).alloc (by simp; omega) _
 have C := hide (indexFunc_T (.slice sa l.length sc) l x (w.heap.size + 1) _ hn (h.below W0) ((Blk.new' (w.alloc (.cells #[.slice sa l.length sc] 75)) #[.string x] 9 (w.heap.size + 1) (by simp)).alloc (.cells #[.int .i64 0, .string ⟨#[]⟩, .slice none 0 0] 110)))
 have M := hide (((Blk.new w #[.slice sa l.length sc] 75).alloc (.cells #[.string x] 9)).alloc (.cells #[.int .i64 0, .string ⟨#[]⟩, .slice none 0 0] 110))
 have R := hide (Blk.new' ((w.alloc (.cells #[.slice sa l.length sc] 75)).alloc (.cells #[.string x] 9)) #[.int .i64 0, .string ⟨#[]⟩, .slice none 0 0] 110 (w.heap.size + 2) (by simp))
 have HW0 := hide W0
 have H0 := hide (h.below W0)
 clear h W0
 go_enter Tryz.func57, Tryz.ntmps57
 go_wp2_with fail
 refine (uh C).mono ?_
 rintro e w1 ⟨rfl, hb1⟩
 have HR := hide ((uh R).below hb1)
 have HM := hide ((uh M).below hb1)
 have H1 := hide ((uh H0).below hb1)
 have B1 := hide ((uh HW0).trans (hb1.mono (uh HW0).size))
 clear hb1 C
 obtain ⟨r0, r1, r2⟩ := (uh HR).three
 have zr := (uh HR).fz
 have hrl := (uh HR).lt
 have mc : w1.cell? ⟨w.heap.size, 0, none⟩ = some (.slice sa l.length sc) := (uh HM).cell rfl
 rw [hi]
 obtain ⟨g, c, e1, k0, k1, k2⟩ := (uh H1).cell k hk
 simp only [Value.slice.injEq] at e1
 obtain ⟨rfl, _, rfl⟩ := e1
 rw [hy] at k0 k1 k2
 have hgl := lt_of_cell k0
 have hgn : ¬ (g = w.heap.size + 2) := fun e => by
  have := (uh H).cell k hk
  obtain ⟨g', c', e1, k0', _⟩ := this
  simp only [Value.slice.injEq, Option.some.injEq, Addr.mk.injEq] at e1
  have := lt_of_cell k0'
  omega
 have hgn' : ¬ (w.heap.size + 2 = g) := fun e => hgn e.symm
 clear hi hy hf
 obtain ⟨p, n, u⟩ := y
 simp only at k0 k1 k2
 obtain ⟨ua, un, uc, rfl⟩ : ∃ a n c, u = .slice a n c := hy1
 go_wp2
 refine bodyPost_ret (v := .tuple #[.agg #[.int .i64 p, .string n, .slice ua un uc], .nilIface]) (res_cc Tryz.results57 _ _ (w.heap.size + 2) _ 110 _ _ rfl rfl ?hB Tryz.underlying110 rfl (by kernel_rfl)) rfl ?post
 case hB => exact ⟨_, (by repeat (first | with_reducible exact uh HR | with_reducible apply Blk.alloc | with_reducible apply Blk.drew | with_reducible apply Blk.set | (with_reducible apply Blk.other; case ha => exact (by first | omega | (simp; omega) | simp | (simp; done))))), by rfl⟩
 case post => exact ⟨rfl, (by repeat (first | with_reducible exact uh B1 | with_reducible refine Below.drew ?_ | (with_reducible refine Below.setCell ?_ ?_ _; rotate_left; exact (by first | omega | (simp; omega) | simp | (simp; done))) | (with_reducible refine Below.alloc ?_ ?_ _; rotate_left; exact (by first | omega | (simp; omega) | simp | (simp; done)))))⟩
set_option maxHeartbeats 1000000 in
set_option maxRecDepth 100000 in
theorem find_no_R (pp : Nat) (nn : ByteArray) (v : Value) (l : List E3) (x : ByteArray) (w : World) (hn : l.length ≤ 1000) (h : Row3 w 159 v l) (hf : find3 x l = none) :
  Calls Tryz.prog 145 #[.agg #[.int .i64 pp, .string nn, v], .string x] w fun e w' => e = .returned (.tuple #[.agg #[.int .i64 0, .string ⟨#[]⟩, .nilIface], errv 5]) ∧ Below w.heap.size w w' := by
 obtain ⟨sa, sc, rfl⟩ := own_form h
 have H := hide h
 have W0 : Below w.heap.size w (((w.alloc (.cells #[.int .i64 pp, .string nn, .slice sa l.length sc] 110)).alloc (.cells #[.string x] 9)).alloc (.cells #[.int .i64 0, .string ⟨#[]⟩, .nilIface] 159)) := (((Below.refl _ _).alloc (Nat.le_refl _) _).alloc (by simp) _).alloc (by simp; omega) _
 have C := hide (indexFunc_R (.slice sa l.length sc) l x (w.heap.size + 1) _ hn (h.below W0) ((Blk.new' (w.alloc (.cells #[.int .i64 pp, .string nn, .slice sa l.length sc] 110)) #[.string x] 9 (w.heap.size + 1) (by simp)).alloc (.cells #[.int .i64 0, .string ⟨#[]⟩, .nilIface] 159)))
 have M := hide (((Blk.new w #[.int .i64 pp, .string nn, .slice sa l.length sc] 110).alloc (.cells #[.string x] 9)).alloc (.cells #[.int .i64 0, .string ⟨#[]⟩, .nilIface] 159))
 have R := hide (Blk.new' ((w.alloc (.cells #[.int .i64 pp, .string nn, .slice sa l.length sc] 110)).alloc (.cells #[.string x] 9)) #[.int .i64 0, .string ⟨#[]⟩, .nilIface] 159 (w.heap.size + 2) (by simp))
 have HW0 := hide W0
 have H0 := hide (h.below W0)
 clear h W0
 go_enter Tryz.func145, Tryz.ntmps145
 go_wp2_with fail
 refine (uh C).mono ?_
 rintro e w1 ⟨rfl, hb1⟩
 have HR := hide ((uh R).below hb1)
 have HM := hide ((uh M).below hb1)
 have H1 := hide ((uh H0).below hb1)
 have B1 := hide ((uh HW0).trans (hb1.mono (uh HW0).size))
 clear hb1 C
 obtain ⟨r0, r1, r2⟩ := (uh HR).three
 have zr := (uh HR).fz
 have hrl := (uh HR).lt
 have mc : w1.cell? ⟨w.heap.size, 2, none⟩ = some (.slice sa l.length sc) := (uh HM).cell rfl
 rw [idx3_none hf]
 go_wp2
 refine bodyPost_ret (v := .tuple #[.agg #[.int .i64 0, .string ⟨#[]⟩, .nilIface], errv 5]) (res_cc Tryz.results145 _ _ (w.heap.size + 2) _ 159 _ _ rfl rfl ?hB Tryz.underlying159 rfl (by kernel_rfl)) rfl ?post
 case hB => exact ⟨_, (by repeat (first | with_reducible exact uh HR | with_reducible apply Blk.alloc | with_reducible apply Blk.drew | with_reducible apply Blk.set | (with_reducible apply Blk.other; case ha => exact (by first | omega | (simp; omega) | simp | (simp; done))))), by rfl⟩
 case post => exact ⟨rfl, (by repeat (first | with_reducible exact uh B1 | with_reducible refine Below.drew ?_ | (with_reducible refine Below.setCell ?_ ?_ _; rotate_left; exact (by first | omega | (simp; omega) | simp | (simp; done))) | (with_reducible refine Below.alloc ?_ ?_ _; rotate_left; exact (by first | omega | (simp; omega) | simp | (simp; done)))))⟩
set_option maxHeartbeats 1000000 in
set_option maxRecDepth 100000 in
theorem find_yes_R (pp : Nat) (nn : ByteArray) (v : Value) (l : List E3) (x : ByteArray) (w : World) (hn : l.length ≤ 1000) (h : Row3 w 159 v l) (y : E3) (hf : find3 x l = some y) (hy1 : ∃ a x, y.2.2 = .iface a x) :
  Calls Tryz.prog 145 #[.agg #[.int .i64 pp, .string nn, v], .string x] w fun e w' => e = .returned (.tuple #[.agg #[.int .i64 y.1, .string y.2.1, y.2.2], .nilIface]) ∧ Below w.heap.size w w' := by
 obtain ⟨k, hk, hy, hi⟩ := idx3_some hf
 obtain ⟨sa, sc, rfl⟩ := own_form h
 have H := hide h
 have W0 : Below w.heap.size w (((w.alloc (.cells #[.int .i64 pp, .string nn, .slice sa l.length sc] 110)).alloc (.cells #[.string x] 9)).alloc (.cells #[.int .i64 0, .string ⟨#[]⟩, .nilIface] 159)) := (((Below.refl _ _).alloc (Nat.le_refl _) _).alloc (by simp) _).alloc (by simp; omega) _
 have C := hide (indexFunc_R (.slice sa l.length sc) l x (w.heap.size + 1) _ hn (h.below W0) ((Blk.new' (w.alloc (.cells #[.int .i64 pp, .string nn, .slice sa l.length sc] 110)) #[.string x] 9 (w.heap.size + 1) (by simp)).alloc (.cells #[.int .i64 0, .string ⟨#[]⟩, .nilIface] 159)))
 have M := hide (((Blk.new w #[.int .i64 pp, .string nn, .slice sa l.length sc] 110).alloc (.cells #[.string x] 9)).alloc (.cells #[.int .i64 0, .string ⟨#[]⟩, .nilIface] 159))
 have R := hide (Blk.new' ((w.alloc (.cells #[.int .i64 pp, .string nn, .slice sa l.length sc] 110)).alloc (.cells #[.string x] 9)) #[.int .i64 0, .string ⟨#[]⟩, .nilIface] 159 (w.heap.size + 2) (by simp))
 have HW0 := hide W0
 have H0 := hide (h.below W0)
 clear h W0
 go_enter Tryz.func145, Tryz.ntmps145
 go_wp2_with fail
 refine (uh C).mono ?_
 rintro e w1 ⟨rfl, hb1⟩
 have HR := hide ((uh R).below hb1)
 have HM := hide ((uh M).below hb1)
 have H1 := hide ((uh H0).below hb1)
 have B1 := hide ((uh HW0).trans (hb1.mono (uh HW0).size))
 clear hb1 C
 obtain ⟨r0, r1, r2⟩ := (uh HR).three
 have zr := (uh HR).fz
 have hrl := (uh HR).lt
 have mc : w1.cell? ⟨w.heap.size, 2, none⟩ = some (.slice sa l.length sc) := (uh HM).cell rfl
 rw [hi]
 obtain ⟨g, c, e1, k0, k1, k2⟩ := (uh H1).cell k hk
 simp only [Value.slice.injEq] at e1
 obtain ⟨rfl, _, rfl⟩ := e1
 rw [hy] at k0 k1 k2
 have hgl := lt_of_cell k0
 have hgn : ¬ (g = w.heap.size + 2) := fun e => by
  have := (uh H).cell k hk
  obtain ⟨g', c', e1, k0', _⟩ := this
  simp only [Value.slice.injEq, Option.some.injEq, Addr.mk.injEq] at e1
  have := lt_of_cell k0'
  omega
 have hgn' : ¬ (w.heap.size + 2 = g) := fun e => hgn e.symm
 clear hi hy hf
 obtain ⟨p, n, u⟩ := y
 simp only at k0 k1 k2
 obtain ⟨ua, un, rfl⟩ : ∃ a x, u = .iface a x := hy1
 go_wp2
 refine bodyPost_ret (v := .tuple #[.agg #[.int .i64 p, .string n, .iface ua un], .nilIface]) (res_cc Tryz.results145 _ _ (w.heap.size + 2) _ 159 _ _ rfl rfl ?hB Tryz.underlying159 rfl (by kernel_rfl)) rfl ?post
 case hB => exact ⟨_, (by repeat (first | with_reducible exact uh HR | with_reducible apply Blk.alloc | with_reducible apply Blk.drew | with_reducible apply Blk.set | (with_reducible apply Blk.other; case ha => exact (by first | omega | (simp; omega) | simp | (simp; done))))), by rfl⟩
 case post => exact ⟨rfl, (by repeat (first | with_reducible exact uh B1 | with_reducible refine Below.drew ?_ | (with_reducible refine Below.setCell ?_ ?_ _; rotate_left; exact (by first | omega | (simp; omega) | simp | (simp; done))) | (with_reducible refine Below.alloc ?_ ?_ _; rotate_left; exact (by first | omega | (simp; omega) | simp | (simp; done)))))⟩
/-- An error with its place. -/
def placed (p c : Nat) : Value := .iface 147 (.agg #[.int .i64 p, errv c])
def errO (c : Nat) : Option Nat → Value
 | none => .nilIface
 | some p => placed p c
set_option maxHeartbeats 400000 in
theorem wrap_err (p c : Nat) (w : World) : Calls Tryz.prog 73 #[.int .i64 p, .iface 134 (.int .i64 c)] w fun e w' => e = .returned (placed p c) ∧ w' = w := by
 go_enter Tryz.func73, Tryz.ntmps73
 go_wp2
 go_ret
 exact ⟨rfl, rfl⟩
set_option maxHeartbeats 400000 in
theorem wrap_nil (p : Nat) (w : World) : Calls Tryz.prog 73 #[.int .i64 p, .nilIface] w fun e w' => e = .returned .nilIface ∧ w' = w := by
 go_enter Tryz.func73, Tryz.ntmps73
 go_wp2
 go_ret
 exact ⟨rfl, rfl⟩
def twice3 : List E3 → List E3 → Option Nat
 | _, [] => none
 | ah, e :: r => if (find3 e.2.1 ah).isSome then some e.1 else twice3 (ah ++ [e]) r
theorem twice3_step (l : List E3) (k : Nat) (hk : k < l.length) : twice3 (l.take k) (l.drop k) = if (find3 l[k].2.1 (l.take k)).isSome then some l[k].1 else twice3 (l.take (k + 1)) (l.drop (k + 1)) := by
 rw [List.drop_eq_getElem_cons hk, twice3, List.take_succ_eq_append_getElem hk]
theorem c3_take (l : List E3) (k : Nat) (hk : k < l.length) : (l.take (k + 1)).flatMap c3 = (l.take k).flatMap c3 ++ c3 l[k] := by
 rw [List.take_succ_eq_append_getElem hk, List.flatMap_append]; simp
set_option maxHeartbeats 2000000 in
set_option maxRecDepth 100000 in
theorem twiceR_any (pp : Nat) (nn : ByteArray) (v : Value) (l : List E3) (w : World) (hn : l.length ≤ 1000) (h : Row3 w 159 v l) (hi3 : ∀ e ∈ l, ∃ t x, e.2.2 = .iface t x) :
  Calls Tryz.prog 173 #[.agg #[.int .i64 pp, .string nn, v]] w fun e w' => e = .returned (errO 4 (twice3 [] l)) ∧ Below w.heap.size w w' := by
 obtain ⟨i0, hi, hz0, hz1, hz2⟩ := info_parts Tryz.info159
 have HI := hide hi
 have HZ0 := hide hz0
 have HZ1 := hide hz1
 have HZ2 := hide hz2
 clear hi hz0 hz1 hz2
 obtain ⟨oa, oc, rfl⟩ := own_form h
 have H := hide h
 have HI3 := hide hi3
 generalize hR : twice3 [] l = R
 have HRR := hide hR
 clear hR h hi3
 go_enter Tryz.func173, Tryz.ntmps173
 go_wp2_with fail
 go_loopw [11] (fun u wr => ∃ (k : Nat) (sv : Value), k ≤ l.length ∧ u = .int .i64 k ∧ Below w.heap.size w wr ∧ Blk wr (w.heap.size + 1) #[.int .i64 0, .string ⟨#[]⟩, sv] 110 ∧ wr.ownsRow w.heap.size 159 3 sv k ((l.take k).flatMap c3) ∧ Hid (twice3 (l.take k) (l.drop k) = R)) (fun u _ => l.length - (intOf u).toNat)
 case atStart => exact ⟨0, _, by omega, rfl, ((Below.refl _ _).alloc (Nat.le_refl _) _).alloc (by simp) _, Blk.new' (w.alloc _) _ _ _ (by simp), World.ownsRow_nil _ _ _ _, HRR⟩
 case round =>
  obtain ⟨k, sv, hk, rfl, hb, hbl, ho, HQ⟩ := hrel
  obtain ⟨sa, sc, rfl⟩ := own_form ho
  have HB := hide hb
  have HL := hide hbl
  have HO := hide ho
  obtain ⟨b0, b1, b2⟩ := hbl.three
  have zb := hbl.fz
  have lb := hbl.lt
  by_cases hlt : k < l.length
  ·have hR := uh HQ
   rw [twice3_step l k hlt] at hR
   obtain ⟨g, c, e1, k0, k1, k2⟩ := ((uh H).below hb).cell k hlt
   simp only [Value.slice.injEq] at e1
   obtain ⟨rfl, _, rfl⟩ := e1
   obtain ⟨ua, un, hu⟩ := uh HI3 l[k] (List.getElem_mem hlt)
   have hct := c3_take l k hlt
   generalize hy : l[k] = y at *
   obtain ⟨p, n, u⟩ := y
   simp only at k0 k1 k2 hu hR
   subst hu
   have hgl : g < w.heap.size := by
    obtain ⟨g', c', e1, k0', _⟩ := (uh H).cell k hlt
    simp only [Value.slice.injEq, Option.some.injEq, Addr.mk.injEq] at e1
    obtain ⟨⟨rfl, _⟩, _⟩ := e1
    exact lt_of_cell k0'
   have Hct := hide hct
   have HF := hide (show Row3 (wr.alloc (.cells #[.int .i64 p, .string n, .iface ua un] 159)) 159 (.slice sa k sc) (l.take k) from by
    have := ownsRow_base (ho.alloc (.cells #[.int .i64 p, .string n, .iface ua un] 159)) (Nat.zero_le _)
    unfold Row3
    rw [List.length_take, Nat.min_eq_left hk]
    exact this)
   clear hy hct hb hbl ho
   cases hf : find3 n (l.take k) with
   | some y =>
    have hy1 : ∃ a x, y.2.2 = .iface a x := uh HI3 y (List.mem_of_mem_take (List.mem_of_find?_eq_some hf))
    rw [hf] at hR
    simp only [Option.isSome_some, if_true] at hR
    have HR2 := hide hR
    have C := hide (find_yes_R 0 ⟨#[]⟩ (.slice sa k sc) (l.take k) n _ (by rw [List.length_take]; omega) (uh HF) y hf hy1)
    obtain ⟨yp, yn, yu⟩ := y
    obtain ⟨ya, yx, hyu⟩ := hy1
    simp only at hyu
    subst hyu
    clear hR hf
    go_wp2_with fail
    refine (uh C).mono ?_
    rintro e w2 ⟨rfl, hb2⟩
    have B2 := hide (((uh HB).alloc (uh HB).size (.cells #[.int .i64 p, .string n, .iface ua un] 159)).trans (hb2.mono (by have := (uh HB).size; simp; omega)))
    have E2 := (Blk.new wr #[.int .i64 p, .string n, .iface ua un] 159).below hb2
    obtain ⟨q0, q1, q2⟩ := E2.three
    have ql := E2.lt
    clear hb2 E2
    go_wp2_with (go_at_call 73; refine (wrap_err _ 4 _).mono ?_; rintro e w3 ⟨rfl, rfl⟩)
    go_ret
    rw [← uh HR2]
    exact ⟨rfl, (by repeat (first | with_reducible exact uh B2 | with_reducible refine Below.drew ?_ | (with_reducible refine Below.setCell ?_ ?_ _; rotate_left; exact (by first | omega | (simp; omega) | simp | (simp; done))) | (with_reducible refine Below.alloc ?_ ?_ _; rotate_left; exact (by first | omega | (simp; omega) | simp | (simp; done)))))⟩
   | none =>
    rw [hf] at hR
    simp only [Option.isSome_none, Bool.false_eq_true, if_false] at hR
    have HR2 := hide hR
    have C := hide (find_no_R 0 ⟨#[]⟩ (.slice sa k sc) (l.take k) n _ (by rw [List.length_take]; omega) (uh HF) hf)
    clear hR hf
    go_wp2_with fail
    refine (uh C).mono ?_
    rintro e w2 ⟨rfl, hb2⟩
    have hbb : Below wr.heap.size wr w2 := ((Below.refl _ _).alloc (Nat.le_refl _) (.cells #[.int .i64 p, .string n, .iface ua un] 159)).trans (hb2.mono (by simp))
    have B2 := hide ((uh HB).trans (hbb.mono (uh HB).size))
    have E2 := (Blk.new wr #[.int .i64 p, .string n, .iface ua un] 159).below hb2
    obtain ⟨q0, q1, q2⟩ := E2.three
    have ql := E2.lt
    have L2 := (uh HL).below hbb
    have HL2 := hide L2
    obtain ⟨m0, m1, m2⟩ := L2.three
    have zm := L2.fz
    have ml := L2.lt
    have O2 := hide (ownsRow_frame (uh HO) (fun g cs f _ hh => hbb.block g (lt_of_some hh)))
    have sz2 := (uh HB).size
    clear hb2 E2 L2 hbb b0 b1 b2 zb
    unfold errv
    go_wp2_with (at_builtin; go_must (refine wpList_append_lies _ rfl _ _ 108 rfl w.heap.size 159 i0 _ 3 40 Tryz.underlying108 (uh HI) (uh HZ0) (uh HZ1) (uh HZ2) rfl (by decide) (.slice sa k sc) k ((l.take k).flatMap c3) rfl ?hown ⟨w2.heap.size + 1, 0, none⟩ 1 1 (c3 (p, n, .iface ua un)) rfl rfl ?hnews ?hone (by decide) ?h63 ?hbytes ?hbase (w2.heap.size + 2) ?hH ?hrest))
    case hown => exact ((uh O2).alloc _).alloc _
    case hnews => exact World.news_of_block (B := w2.heap.size + 1) (cs := #[.int .i64 p, .string n, .iface ua un]) (t := 159) (fr := (0, 0)) (Blk.new' (w2.alloc _) _ _ _ (by simp))
    case hone =>
     intro u hu
     simp [c3] at hu
     rcases hu with rfl | rfl | rfl <;> rfl
    case h63 => unfold maxLen; omega
    case hbytes => omega
    case hbase => simp; omega
    case hH => simp
    case hrest =>
     intro g5 cap5 w5 hown5 hgrow5 hat5 hgl5
     have b0 : Below w2.heap.size w2 ((w2.alloc (.cells #[.int .i64 0, .string ⟨#[]⟩, .nilIface] 159)).alloc (.cells #[.int .i64 p, .string n, .iface ua un] 159)) := ((Below.refl _ _).alloc (Nat.le_refl _) _).alloc (by simp) _
     have L4' := (uh HL2).below b0
     have O4' := ((uh O2).alloc (.cells #[.int .i64 0, .string ⟨#[]⟩, .nilIface] 159)).alloc (.cells #[.int .i64 p, .string n, .iface ua un] 159)
     have HL5 := hide (show Blk w5 (w.heap.size + 1) #[.int .i64 0, .string ⟨#[]⟩, .slice sa k sc] 110 from (hgrow5.block _ L4'.lt (own_ne O4' L4' (by decide))).trans L4')
     have B5 := hide (Below.grown ((uh B2).trans (b0.mono (uh B2).size)) hgrow5 (by have := (uh B2).size; simp; omega) (fun k hk => (O4'.lt k hk).1))
     have O5 := hide hown5
     obtain ⟨n0, n1, n2⟩ := (uh HL5).three
     have zn := (uh HL5).fz
     have nl := (uh HL5).lt
     clear b0 L4' O4' hown5 hgrow5 hat5 m0 m1 m2 zm q0 q1 q2
     go_wp2
     go_roundw
     case rel => exact ⟨k + 1, _, by omega, by go_num, (by repeat (first | with_reducible exact uh B5 | with_reducible refine Below.drew ?_ | (with_reducible refine Below.setCell ?_ ?_ _; rotate_left; exact (by first | omega | (simp; omega) | simp | (simp; done))) | (with_reducible refine Below.alloc ?_ ?_ _; rotate_left; exact (by first | omega | (simp; omega) | simp | (simp; done))))), (uh HL5).set 2 _, by rw [uh Hct]; exact own_set (uh O5) (uh HL5) (by decide) 2 _, HR2⟩
     case measure => simp [intOf]; omega
  ·have hR := uh HQ
   rw [List.drop_of_length_le (by omega)] at hR
   have HR2 := hide hR
   clear hb hbl ho hR
   go_wp2
   go_ret
   rw [← uh HR2]
   exact ⟨rfl, uh HB⟩
def twiceT3 (inn : E3 → Option Nat) : List E3 → List E3 → Option Nat
 | _, [] => none
 | ah, e :: r => if (find3 e.2.1 ah).isSome then some e.1 else match inn e with
  | some p => some p
  | none => twiceT3 inn (ah ++ [e]) r
theorem twiceT3_step (inn : E3 → Option Nat) (l : List E3) (k : Nat) (hk : k < l.length) : twiceT3 inn (l.take k) (l.drop k) = if (find3 l[k].2.1 (l.take k)).isSome then some l[k].1 else match inn l[k] with
  | some p => some p
  | none => twiceT3 inn (l.take (k + 1)) (l.drop (k + 1)) := by
 rw [List.drop_eq_getElem_cons hk, twiceT3, List.take_succ_eq_append_getElem hk]
set_option maxHeartbeats 2000000 in
set_option maxRecDepth 100000 in
theorem twiceT_any (inn : E3 → Option Nat) (v : Value) (l : List E3) (w : World) (hn : l.length ≤ 1000) (h : Row3 w 110 v l) (hi3 : ∀ e ∈ l, ∃ a n c, e.2.2 = .slice a n c)
  (hin : ∀ e ∈ l, ∀ w', Below w.heap.size w w' → Calls Tryz.prog 173 #[.agg #[.int .i64 e.1, .string e.2.1, e.2.2]] w' fun e' w'' => e' = .returned (errO 4 (inn e)) ∧ Below w'.heap.size w' w'') :
  Calls Tryz.prog 115 #[.agg #[v]] w fun e w' => e = .returned (errO 4 (twiceT3 inn [] l)) ∧ Below w.heap.size w w' := by
 obtain ⟨i0, hi, hz0, hz1, hz2⟩ := info_parts Tryz.info110
 have HI := hide hi
 have HZ0 := hide hz0
 have HZ1 := hide hz1
 have HZ2 := hide hz2
 clear hi hz0 hz1 hz2
 obtain ⟨oa, oc, rfl⟩ := own_form h
 have H := hide h
 have HI3 := hide hi3
 have Hin := hide hin
 generalize hR : twiceT3 inn [] l = R
 have HRR := hide hR
 clear hR h hi3 hin
 go_enter Tryz.func115, Tryz.ntmps115
 go_wp2_with fail
 go_loopw [12] (fun u wr => ∃ (k : Nat) (sv : Value), k ≤ l.length ∧ u = .int .i64 k ∧ Below w.heap.size w wr ∧ Blk wr (w.heap.size + 1) #[sv] 75 ∧ wr.ownsRow w.heap.size 110 3 sv k ((l.take k).flatMap c3) ∧ Hid (twiceT3 inn (l.take k) (l.drop k) = R)) (fun u _ => l.length - (intOf u).toNat)
 case atStart => exact ⟨0, _, by omega, rfl, ((Below.refl _ _).alloc (Nat.le_refl _) _).alloc (by simp) _, Blk.new' (w.alloc _) _ _ _ (by simp), World.ownsRow_nil _ _ _ _, HRR⟩
 case round =>
  obtain ⟨k, sv, hk, rfl, hb, hbl, ho, HQ⟩ := hrel
  obtain ⟨sa, sc, rfl⟩ := own_form ho
  have HB := hide hb
  have HL := hide hbl
  have HO := hide ho
  have b0 : wr.cell? ⟨w.heap.size + 1, 0, none⟩ = some (.slice sa k sc) := hbl.cell rfl
  have zb := hbl.fz
  have lb := hbl.lt
  by_cases hlt : k < l.length
  ·have hR := uh HQ
   rw [twiceT3_step inn l k hlt] at hR
   obtain ⟨g, c, e1, k0, k1, k2⟩ := ((uh H).below hb).cell k hlt
   simp only [Value.slice.injEq] at e1
   obtain ⟨rfl, _, rfl⟩ := e1
   obtain ⟨ua, um, un, hu⟩ := uh HI3 l[k] (List.getElem_mem hlt)
   have hct := c3_take l k hlt
   generalize hy : l[k] = y at *
   obtain ⟨p, n, u⟩ := y
   simp only at k0 k1 k2 hu hR
   subst hu
   have hgl : g < w.heap.size := by
    obtain ⟨g', c', e1, k0', _⟩ := (uh H).cell k hlt
    simp only [Value.slice.injEq, Option.some.injEq, Addr.mk.injEq] at e1
    obtain ⟨⟨rfl, _⟩, _⟩ := e1
    exact lt_of_cell k0'
   have Hct := hide hct
   have Hy := hide hy
   have HF := hide (show Row3 (wr.alloc (.cells #[.int .i64 p, .string n, .slice ua um un] 110)) 110 (.slice sa k sc) (l.take k) from by
    have := ownsRow_base (ho.alloc (.cells #[.int .i64 p, .string n, .slice ua um un] 110)) (Nat.zero_le _)
    unfold Row3
    rw [List.length_take, Nat.min_eq_left hk]
    exact this)
   clear hy hct hb hbl ho
   cases hf : find3 n (l.take k) with
   | some y =>
    have hy1 : ∃ a n c, y.2.2 = .slice a n c := uh HI3 y (List.mem_of_mem_take (List.mem_of_find?_eq_some hf))
    rw [hf] at hR
    simp only [Option.isSome_some, if_true] at hR
    have HR2 := hide hR
    have C := hide (find_yes_T (.slice sa k sc) (l.take k) n _ (by rw [List.length_take]; omega) (uh HF) y hf hy1)
    obtain ⟨yp, yn, yu⟩ := y
    obtain ⟨ya, ym, yx, hyu⟩ := hy1
    simp only at hyu
    subst hyu
    clear hR hf
    go_wp2_with fail
    refine (uh C).mono ?_
    rintro e w2 ⟨rfl, hb2⟩
    have B2 := hide (((uh HB).alloc (uh HB).size (.cells #[.int .i64 p, .string n, .slice ua um un] 110)).trans (hb2.mono (by have := (uh HB).size; simp; omega)))
    have E2 := (Blk.new wr #[.int .i64 p, .string n, .slice ua um un] 110).below hb2
    obtain ⟨q0, q1, q2⟩ := E2.three
    have ql := E2.lt
    clear hb2 E2
    go_wp2_with (go_at_call 73; refine (wrap_err _ 4 _).mono ?_; rintro e w3 ⟨rfl, rfl⟩)
    go_ret
    rw [← uh HR2]
    exact ⟨rfl, (by repeat (first | with_reducible exact uh B2 | with_reducible refine Below.drew ?_ | (with_reducible refine Below.setCell ?_ ?_ _; rotate_left; exact (by first | omega | (simp; omega) | simp | (simp; done))) | (with_reducible refine Below.alloc ?_ ?_ _; rotate_left; exact (by first | omega | (simp; omega) | simp | (simp; done)))))⟩
   | none =>
    rw [hf] at hR
    simp only [Option.isSome_none, Bool.false_eq_true, if_false] at hR
    have HR2 := hide hR
    have C := hide (find_no_T (.slice sa k sc) (l.take k) n _ (by rw [List.length_take]; omega) (uh HF) hf)
    clear hR hf
    go_wp2_with fail
    refine (uh C).mono ?_
    rintro e w2 ⟨rfl, hb2⟩
    have hbb : Below wr.heap.size wr w2 := ((Below.refl _ _).alloc (Nat.le_refl _) (.cells #[.int .i64 p, .string n, .slice ua um un] 110)).trans (hb2.mono (by simp))
    have B2 := hide ((uh HB).trans (hbb.mono (uh HB).size))
    have E2 := (Blk.new wr #[.int .i64 p, .string n, .slice ua um un] 110).below hb2
    obtain ⟨q0, q1, q2⟩ := E2.three
    have ql := E2.lt
    have HE2 := hide E2
    have L2 := (uh HL).below hbb
    have HL2 := hide L2
    have m0 : w2.cell? ⟨w.heap.size + 1, 0, none⟩ = some (.slice sa k sc) := L2.cell rfl
    have zm := L2.fz
    have ml := L2.lt
    have O2 := hide (ownsRow_frame (uh HO) (fun g cs f _ hh => hbb.block g (lt_of_some hh)))
    have sz2 := (uh HB).size
    clear hb2 E2 L2 hbb b0 zb
    cases hn2 : inn (p, n, .slice ua um un) with
    | some pq =>
     have Cn := hide (uh Hin (p, n, .slice ua um un) (by rw [← uh Hy]; exact List.getElem_mem hlt) (w2.alloc (.cells #[.int .i64 0, .string ⟨#[]⟩, .slice none 0 0] 110)) ((uh B2).alloc (uh B2).size _))
     rw [hn2] at Cn
     have hR3 := uh HR2
     rw [hn2] at hR3
     have HR3 := hide hR3
     clear hn2 hR3
     unfold errv
     go_wp2_with fail
     refine (uh Cn).mono ?_
     rintro e w3 ⟨rfl, hb3⟩
     have B3 := hide (((uh B2).alloc (uh B2).size (.cells #[.int .i64 0, .string ⟨#[]⟩, .slice none 0 0] 110)).trans (hb3.mono (by have := (uh B2).size; simp; omega)))
     clear hb3
     unfold errO placed
     go_wp2
     go_ret
     rw [← uh HR3]
     exact ⟨rfl, uh B3⟩
    | none =>
     have Cn := hide (uh Hin (p, n, .slice ua um un) (by rw [← uh Hy]; exact List.getElem_mem hlt) (w2.alloc (.cells #[.int .i64 0, .string ⟨#[]⟩, .slice none 0 0] 110)) ((uh B2).alloc (uh B2).size _))
     rw [hn2] at Cn
     have hR3 := uh HR2
     rw [hn2] at hR3
     have HR3 := hide hR3
     clear hn2 hR3
     unfold errv
     go_wp2_with fail
     refine (uh Cn).mono ?_
     rintro e w3 ⟨rfl, hb3⟩
     have hbc : Below w2.heap.size w2 w3 := ((Below.refl _ _).alloc (Nat.le_refl _) (.cells #[.int .i64 0, .string ⟨#[]⟩, .slice none 0 0] 110)).trans (hb3.mono (by simp))
     have B3 := hide ((uh B2).trans (hbc.mono (uh B2).size))
     have E3' := (uh HE2).below hbc
     obtain ⟨q0, q1, q2⟩ := E3'.three
     have ql := E3'.lt
     have L3 := (uh HL2).below hbc
     have HL3 := hide L3
     have m0 : w3.cell? ⟨w.heap.size + 1, 0, none⟩ = some (.slice sa k sc) := L3.cell rfl
     have zm := L3.fz
     have ml := L3.lt
     have O3 := hide (ownsRow_frame (uh O2) (fun g cs f _ hh => hbc.block g (lt_of_some hh)))
     have sz3 := (uh B3).size
     clear hb3 E3' L3 hbc
     unfold errO
     go_wp2_with (at_builtin; go_must (refine wpList_append_lies _ rfl _ _ 73 rfl w.heap.size 110 i0 _ 3 48 Tryz.underlying73 (uh HI) (uh HZ0) (uh HZ1) (uh HZ2) rfl (by decide) (.slice sa k sc) k ((l.take k).flatMap c3) rfl ?hown ⟨w3.heap.size, 0, none⟩ 1 1 (c3 (p, n, .slice ua um un)) rfl rfl ?hnews ?hone (by decide) ?h63 ?hbytes ?hbase (w3.heap.size + 1) ?hH ?hrest))
     case hown => exact (uh O3).alloc _
     case hnews => exact World.news_of_block (B := w3.heap.size) (cs := #[.int .i64 p, .string n, .slice ua um un]) (t := 110) (fr := (0, 0)) (Blk.new w3 _ _)
     case hone =>
      intro u hu
      simp [c3] at hu
      rcases hu with rfl | rfl | rfl <;> rfl
     case h63 => unfold maxLen; omega
     case hbytes => omega
     case hbase => simp; omega
     case hH => simp
     case hrest =>
      intro g5 cap5 w5 hown5 hgrow5 hat5 hgl5
      have b0 : Below w3.heap.size w3 (w3.alloc (.cells #[.int .i64 p, .string n, .slice ua um un] 110)) := (Below.refl _ _).alloc (Nat.le_refl _) _
      have L4' := (uh HL3).below b0
      have O4' := (uh O3).alloc (.cells #[.int .i64 p, .string n, .slice ua um un] 110)
      have HL5 := hide (show Blk w5 (w.heap.size + 1) #[.slice sa k sc] 75 from (hgrow5.block _ L4'.lt (own_ne O4' L4' (by decide))).trans L4')
      have B5 := hide (Below.grown ((uh B3).trans (b0.mono (uh B3).size)) hgrow5 (by have := (uh B3).size; simp; omega) (fun k hk => (O4'.lt k hk).1))
      have O5 := hide hown5
      have n0 : w5.cell? ⟨w.heap.size + 1, 0, none⟩ = some (.slice sa k sc) := (uh HL5).cell rfl
      have zn := (uh HL5).fz
      have nl := (uh HL5).lt
      clear b0 L4' O4' hown5 hgrow5 hat5 m0 zm q0 q1 q2
      go_wp2
      go_roundw
      case rel => exact ⟨k + 1, _, by omega, by go_num, (by repeat (first | with_reducible exact uh B5 | with_reducible refine Below.drew ?_ | (with_reducible refine Below.setCell ?_ ?_ _; rotate_left; exact (by first | omega | (simp; omega) | simp | (simp; done))) | (with_reducible refine Below.alloc ?_ ?_ _; rotate_left; exact (by first | omega | (simp; omega) | simp | (simp; done))))), (uh HL5).set 0 _, by rw [uh Hct]; exact own_set (uh O5) (uh HL5) (by decide) 0 _, HR3⟩
      case measure => simp [intOf]; omega
  ·have hR := uh HQ
   rw [List.drop_of_length_le (by omega)] at hR
   have HR2 := hide hR
   clear hb hbl ho hR
   go_wp2
   go_ret
   rw [← uh HR2]
   exact ⟨rfl, uh HB⟩
theorem ta_List_List (x : Value) (w : World) : (Instr.typeAssert (.iface 236 x) 157 236 true).run Tryz.prog w = .ok (.tuple #[x, .bool true]) w := by kernel_rfl
theorem ta_List_Own (x : Value) (w : World) : (Instr.typeAssert (.iface 236 x) 157 238 true).run Tryz.prog w = .ok (.tuple #[.agg #[.int .i64 0, .string ⟨#[]⟩], .bool false]) w := by kernel_rfl
theorem ta_List_Tie (x : Value) (w : World) : (Instr.typeAssert (.iface 236 x) 157 240 true).run Tryz.prog w = .ok (.tuple #[.agg #[.int .i64 0, .int .i64 0, .string ⟨#[]⟩, .int .i64 0, .string ⟨#[]⟩], .bool false]) w := by kernel_rfl
theorem ta_List_Either (x : Value) (w : World) : (Instr.typeAssert (.iface 236 x) 157 244 true).run Tryz.prog w = .ok (.tuple #[.agg #[.int .i64 0, .nilIface, .nilIface], .bool false]) w := by kernel_rfl
theorem ta_List_Both (x : Value) (w : World) : (Instr.typeAssert (.iface 236 x) 157 245 true).run Tryz.prog w = .ok (.tuple #[.agg #[.int .i64 0, .nilIface, .nilIface], .bool false]) w := by kernel_rfl
theorem ta_List_Less (x : Value) (w : World) : (Instr.typeAssert (.iface 236 x) 157 246 true).run Tryz.prog w = .ok (.tuple #[.agg #[.int .i64 0, .nilIface, .nilIface], .bool false]) w := by kernel_rfl
theorem ta_Own_List (x : Value) (w : World) : (Instr.typeAssert (.iface 238 x) 157 236 true).run Tryz.prog w = .ok (.tuple #[.agg #[.int .i64 0, .slice none 0 0], .bool false]) w := by kernel_rfl
theorem ta_Own_Own (x : Value) (w : World) : (Instr.typeAssert (.iface 238 x) 157 238 true).run Tryz.prog w = .ok (.tuple #[x, .bool true]) w := by kernel_rfl
theorem ta_Own_Tie (x : Value) (w : World) : (Instr.typeAssert (.iface 238 x) 157 240 true).run Tryz.prog w = .ok (.tuple #[.agg #[.int .i64 0, .int .i64 0, .string ⟨#[]⟩, .int .i64 0, .string ⟨#[]⟩], .bool false]) w := by kernel_rfl
theorem ta_Own_Either (x : Value) (w : World) : (Instr.typeAssert (.iface 238 x) 157 244 true).run Tryz.prog w = .ok (.tuple #[.agg #[.int .i64 0, .nilIface, .nilIface], .bool false]) w := by kernel_rfl
theorem ta_Own_Both (x : Value) (w : World) : (Instr.typeAssert (.iface 238 x) 157 245 true).run Tryz.prog w = .ok (.tuple #[.agg #[.int .i64 0, .nilIface, .nilIface], .bool false]) w := by kernel_rfl
theorem ta_Own_Less (x : Value) (w : World) : (Instr.typeAssert (.iface 238 x) 157 246 true).run Tryz.prog w = .ok (.tuple #[.agg #[.int .i64 0, .nilIface, .nilIface], .bool false]) w := by kernel_rfl
theorem ta_Tie_List (x : Value) (w : World) : (Instr.typeAssert (.iface 240 x) 157 236 true).run Tryz.prog w = .ok (.tuple #[.agg #[.int .i64 0, .slice none 0 0], .bool false]) w := by kernel_rfl
theorem ta_Tie_Own (x : Value) (w : World) : (Instr.typeAssert (.iface 240 x) 157 238 true).run Tryz.prog w = .ok (.tuple #[.agg #[.int .i64 0, .string ⟨#[]⟩], .bool false]) w := by kernel_rfl
theorem ta_Tie_Tie (x : Value) (w : World) : (Instr.typeAssert (.iface 240 x) 157 240 true).run Tryz.prog w = .ok (.tuple #[x, .bool true]) w := by kernel_rfl
theorem ta_Tie_Either (x : Value) (w : World) : (Instr.typeAssert (.iface 240 x) 157 244 true).run Tryz.prog w = .ok (.tuple #[.agg #[.int .i64 0, .nilIface, .nilIface], .bool false]) w := by kernel_rfl
theorem ta_Tie_Both (x : Value) (w : World) : (Instr.typeAssert (.iface 240 x) 157 245 true).run Tryz.prog w = .ok (.tuple #[.agg #[.int .i64 0, .nilIface, .nilIface], .bool false]) w := by kernel_rfl
theorem ta_Tie_Less (x : Value) (w : World) : (Instr.typeAssert (.iface 240 x) 157 246 true).run Tryz.prog w = .ok (.tuple #[.agg #[.int .i64 0, .nilIface, .nilIface], .bool false]) w := by kernel_rfl
theorem ta_Either_List (x : Value) (w : World) : (Instr.typeAssert (.iface 244 x) 157 236 true).run Tryz.prog w = .ok (.tuple #[.agg #[.int .i64 0, .slice none 0 0], .bool false]) w := by kernel_rfl
theorem ta_Either_Own (x : Value) (w : World) : (Instr.typeAssert (.iface 244 x) 157 238 true).run Tryz.prog w = .ok (.tuple #[.agg #[.int .i64 0, .string ⟨#[]⟩], .bool false]) w := by kernel_rfl
theorem ta_Either_Tie (x : Value) (w : World) : (Instr.typeAssert (.iface 244 x) 157 240 true).run Tryz.prog w = .ok (.tuple #[.agg #[.int .i64 0, .int .i64 0, .string ⟨#[]⟩, .int .i64 0, .string ⟨#[]⟩], .bool false]) w := by kernel_rfl
theorem ta_Either_Either (x : Value) (w : World) : (Instr.typeAssert (.iface 244 x) 157 244 true).run Tryz.prog w = .ok (.tuple #[x, .bool true]) w := by kernel_rfl
theorem ta_Either_Both (x : Value) (w : World) : (Instr.typeAssert (.iface 244 x) 157 245 true).run Tryz.prog w = .ok (.tuple #[.agg #[.int .i64 0, .nilIface, .nilIface], .bool false]) w := by kernel_rfl
theorem ta_Either_Less (x : Value) (w : World) : (Instr.typeAssert (.iface 244 x) 157 246 true).run Tryz.prog w = .ok (.tuple #[.agg #[.int .i64 0, .nilIface, .nilIface], .bool false]) w := by kernel_rfl
theorem ta_Both_List (x : Value) (w : World) : (Instr.typeAssert (.iface 245 x) 157 236 true).run Tryz.prog w = .ok (.tuple #[.agg #[.int .i64 0, .slice none 0 0], .bool false]) w := by kernel_rfl
theorem ta_Both_Own (x : Value) (w : World) : (Instr.typeAssert (.iface 245 x) 157 238 true).run Tryz.prog w = .ok (.tuple #[.agg #[.int .i64 0, .string ⟨#[]⟩], .bool false]) w := by kernel_rfl
theorem ta_Both_Tie (x : Value) (w : World) : (Instr.typeAssert (.iface 245 x) 157 240 true).run Tryz.prog w = .ok (.tuple #[.agg #[.int .i64 0, .int .i64 0, .string ⟨#[]⟩, .int .i64 0, .string ⟨#[]⟩], .bool false]) w := by kernel_rfl
theorem ta_Both_Either (x : Value) (w : World) : (Instr.typeAssert (.iface 245 x) 157 244 true).run Tryz.prog w = .ok (.tuple #[.agg #[.int .i64 0, .nilIface, .nilIface], .bool false]) w := by kernel_rfl
theorem ta_Both_Both (x : Value) (w : World) : (Instr.typeAssert (.iface 245 x) 157 245 true).run Tryz.prog w = .ok (.tuple #[x, .bool true]) w := by kernel_rfl
theorem ta_Both_Less (x : Value) (w : World) : (Instr.typeAssert (.iface 245 x) 157 246 true).run Tryz.prog w = .ok (.tuple #[.agg #[.int .i64 0, .nilIface, .nilIface], .bool false]) w := by kernel_rfl
theorem ta_Less_List (x : Value) (w : World) : (Instr.typeAssert (.iface 246 x) 157 236 true).run Tryz.prog w = .ok (.tuple #[.agg #[.int .i64 0, .slice none 0 0], .bool false]) w := by kernel_rfl
theorem ta_Less_Own (x : Value) (w : World) : (Instr.typeAssert (.iface 246 x) 157 238 true).run Tryz.prog w = .ok (.tuple #[.agg #[.int .i64 0, .string ⟨#[]⟩], .bool false]) w := by kernel_rfl
theorem ta_Less_Tie (x : Value) (w : World) : (Instr.typeAssert (.iface 246 x) 157 240 true).run Tryz.prog w = .ok (.tuple #[.agg #[.int .i64 0, .int .i64 0, .string ⟨#[]⟩, .int .i64 0, .string ⟨#[]⟩], .bool false]) w := by kernel_rfl
theorem ta_Less_Either (x : Value) (w : World) : (Instr.typeAssert (.iface 246 x) 157 244 true).run Tryz.prog w = .ok (.tuple #[.agg #[.int .i64 0, .nilIface, .nilIface], .bool false]) w := by kernel_rfl
theorem ta_Less_Both (x : Value) (w : World) : (Instr.typeAssert (.iface 246 x) 157 245 true).run Tryz.prog w = .ok (.tuple #[.agg #[.int .i64 0, .nilIface, .nilIface], .bool false]) w := by kernel_rfl
theorem ta_Less_Less (x : Value) (w : World) : (Instr.typeAssert (.iface 246 x) 157 246 true).run Tryz.prog w = .ok (.tuple #[x, .bool true]) w := by kernel_rfl
end Go.Proofs.YtlbpnlngckgcbaaGreatDoor
