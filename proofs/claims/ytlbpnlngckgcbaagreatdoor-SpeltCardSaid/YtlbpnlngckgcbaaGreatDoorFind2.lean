import Derived.Test.YtlbpnlngckgcbaaGreatDoorFind
namespace Go.Proofs.YtlbpnlngckgcbaaGreatDoor
open Go.RowKit Go.PlainAid
set_option linter.unusedSimpArgs false
set_option linter.unusedVariables false

def find3 (x : ByteArray) (l : List E3) : Option E3 := l.find? fun e => eqs e.2.1 x
theorem idx3_none {x : ByteArray} {l : List E3} (h : find3 x l = none) : idx3 x l = -1 := by
  unfold find3 at h
  rw [List.find?_eq_none] at h
  exact idx3_no x l (fun j hj => by simpa using h l[j] (List.getElem_mem hj))
theorem idx3_some {x : ByteArray} {l : List E3} {y : E3} (h : find3 x l = some y) : ∃ k, ∃ hk : k < l.length, l[k] = y ∧ idx3 x l = k := by
  unfold find3 at h
  rw [List.find?_eq_some_iff_getElem] at h
  obtain ⟨h1, k, hk, h2, h3⟩ := h
  refine ⟨k, hk, h2, idx3_yes x l k hk (by rw [h2]; exact h1) (fun j hj hjk => by simpa using h3 j hjk)⟩
theorem lt_of_cell {w : World} {g o : Nat} {v : Value} (h : w.cell? ⟨g, o, none⟩ = some v) : g < w.heap.size := by
  rcases Nat.lt_or_ge g w.heap.size with k | k
  · exact k
  · simp [World.cell?, Array.getElem?_eq_none k] at h


set_option maxHeartbeats 1000000 in
set_option maxRecDepth 100000 in
theorem find_no_T (v : Value) (l : List E3) (x : ByteArray) (w : World) (hn : l.length ≤ 1000) (h : Row3 w 110 v l) (hf : find3 x l = none) :
    Calls Tryz.prog 57 #[.agg #[v], .string x] w fun e w' => e = .returned (.tuple #[.agg #[.int .i64 0, .string ⟨#[]⟩, .slice none 0 0], errv 5]) ∧ Below w.heap.size w w' := by
  obtain ⟨sa, sc, rfl⟩ := own_form h
  have H := hide h
  have W0 : Below w.heap.size w (((w.alloc (.cells #[.slice sa l.length sc] 75)).alloc (.cells #[.string x] 9)).alloc (.cells #[.int .i64 0, .string ⟨#[]⟩, .slice none 0 0] 110)) := (((Below.refl _ _).alloc (Nat.le_refl _) _).alloc (by simp) _).alloc (by simp; omega) _
  have C := hide (indexFunc_T (.slice sa l.length sc) l x (w.heap.size + 1) _ hn (h.below W0) ((Blk.new' (w.alloc (.cells #[.slice sa l.length sc] 75)) #[.string x] 9 (w.heap.size + 1) (by simp)).alloc (.cells #[.int .i64 0, .string ⟨#[]⟩, .slice none 0 0] 110)))
  have M := hide (((Blk.new w #[.slice sa l.length sc] 75).alloc (.cells #[.string x] 9)).alloc (.cells #[.int .i64 0, .string ⟨#[]⟩, .slice none 0 0] 110))
  have R := hide (Blk.new' ((w.alloc (.cells #[.slice sa l.length sc] 75)).alloc (.cells #[.string x] 9)) #[.int .i64 0, .string ⟨#[]⟩, .slice none 0 0] 110 (w.heap.size + 2) (by simp))
  have HW0 := hide W0
  have H0 := hide (h.below W0)
  clear h W0
  go_enter Tryz.func57, Tryz.ntmps57
  go_wp2_with fail
  refine (unhide C).mono ?_
  rintro e w1 ⟨rfl, hb1⟩
  have HR := hide ((unhide R).below hb1)
  have HM := hide ((unhide M).below hb1)
  have H1 := hide ((unhide H0).below hb1)
  have B1 := hide ((unhide HW0).trans (hb1.mono (unhide HW0).size))
  clear hb1 C
  obtain ⟨r0, r1, r2⟩ := (unhide HR).three
  have zr := (unhide HR).fz
  have hrl := (unhide HR).lt
  have mc : w1.cell? ⟨w.heap.size, 0, none⟩ = some (.slice sa l.length sc) := (unhide HM).cell rfl
  rw [idx3_none hf]
  go_wp2
  refine bodyPost_ret (v := .tuple #[.agg #[.int .i64 0, .string ⟨#[]⟩, .slice none 0 0], errv 5]) (res_cc Tryz.results57 _ _ (w.heap.size + 2) _ 110 _ _ rfl rfl ?hB Tryz.underlying110 rfl (by kernel_rfl)) rfl ?post
  case hB => exact ⟨_, (by repeat (first | with_reducible exact unhide HR | with_reducible apply Blk.alloc | with_reducible apply Blk.drew | with_reducible apply Blk.set | (with_reducible apply Blk.other; case ha => exact (by first | omega | (simp; omega) | simp | (simp; done))))), by rfl⟩
  case post => exact ⟨rfl, (by repeat (first | with_reducible exact unhide B1 | with_reducible refine Below.drew ?_ | (with_reducible refine Below.setCell ?_ ?_ _; rotate_left; exact (by first | omega | (simp; omega) | simp | (simp; done))) | (with_reducible refine Below.alloc ?_ ?_ _; rotate_left; exact (by first | omega | (simp; omega) | simp | (simp; done)))))⟩

set_option maxHeartbeats 1000000 in
set_option maxRecDepth 100000 in
theorem find_yes_T (v : Value) (l : List E3) (x : ByteArray) (w : World) (hn : l.length ≤ 1000) (h : Row3 w 110 v l) (y : E3) (hf : find3 x l = some y) (hy1 : ∃ a n c, y.2.2 = .slice a n c) :
    Calls Tryz.prog 57 #[.agg #[v], .string x] w fun e w' => e = .returned (.tuple #[.agg #[.int .i64 y.1, .string y.2.1, y.2.2], .nilIface]) ∧ Below w.heap.size w w' := by
  obtain ⟨k, hk, hy, hi⟩ := idx3_some hf
  obtain ⟨sa, sc, rfl⟩ := own_form h
  have H := hide h
  have W0 : Below w.heap.size w (((w.alloc (.cells #[.slice sa l.length sc] 75)).alloc (.cells #[.string x] 9)).alloc (.cells #[.int .i64 0, .string ⟨#[]⟩, .slice none 0 0] 110)) := (((Below.refl _ _).alloc (Nat.le_refl _) _).alloc (by simp) _).alloc (by simp; omega) _
  have C := hide (indexFunc_T (.slice sa l.length sc) l x (w.heap.size + 1) _ hn (h.below W0) ((Blk.new' (w.alloc (.cells #[.slice sa l.length sc] 75)) #[.string x] 9 (w.heap.size + 1) (by simp)).alloc (.cells #[.int .i64 0, .string ⟨#[]⟩, .slice none 0 0] 110)))
  have M := hide (((Blk.new w #[.slice sa l.length sc] 75).alloc (.cells #[.string x] 9)).alloc (.cells #[.int .i64 0, .string ⟨#[]⟩, .slice none 0 0] 110))
  have R := hide (Blk.new' ((w.alloc (.cells #[.slice sa l.length sc] 75)).alloc (.cells #[.string x] 9)) #[.int .i64 0, .string ⟨#[]⟩, .slice none 0 0] 110 (w.heap.size + 2) (by simp))
  have HW0 := hide W0
  have H0 := hide (h.below W0)
  clear h W0
  go_enter Tryz.func57, Tryz.ntmps57
  go_wp2_with fail
  refine (unhide C).mono ?_
  rintro e w1 ⟨rfl, hb1⟩
  have HR := hide ((unhide R).below hb1)
  have HM := hide ((unhide M).below hb1)
  have H1 := hide ((unhide H0).below hb1)
  have B1 := hide ((unhide HW0).trans (hb1.mono (unhide HW0).size))
  clear hb1 C
  obtain ⟨r0, r1, r2⟩ := (unhide HR).three
  have zr := (unhide HR).fz
  have hrl := (unhide HR).lt
  have mc : w1.cell? ⟨w.heap.size, 0, none⟩ = some (.slice sa l.length sc) := (unhide HM).cell rfl
  rw [hi]
  obtain ⟨g, c, e1, k0, k1, k2⟩ := (unhide H1).cell k hk
  simp only [Value.slice.injEq] at e1
  obtain ⟨rfl, _, rfl⟩ := e1
  rw [hy] at k0 k1 k2
  have hgl := lt_of_cell k0
  have hgn : ¬ (g = w.heap.size + 2) := fun e => by
    have := (unhide H).cell k hk
    obtain ⟨g', c', e1, k0', _⟩ := this
    simp only [Value.slice.injEq, Option.some.injEq, Addr.mk.injEq] at e1
    have := lt_of_cell k0'
    omega
  have hgn' : ¬ (w.heap.size + 2 = g) := fun e => hgn e.symm
  clear hi hy hf
  obtain ⟨p, n, u⟩ := y
  simp only at k0 k1 k2
  obtain ⟨ua, un, uc, rfl⟩ : ∃ a n c, u = .slice a n c := hy1
  go_wp2
  refine bodyPost_ret (v := .tuple #[.agg #[.int .i64 p, .string n, .slice ua un uc], .nilIface]) (res_cc Tryz.results57 _ _ (w.heap.size + 2) _ 110 _ _ rfl rfl ?hB Tryz.underlying110 rfl (by kernel_rfl)) rfl ?post
  case hB => exact ⟨_, (by repeat (first | with_reducible exact unhide HR | with_reducible apply Blk.alloc | with_reducible apply Blk.drew | with_reducible apply Blk.set | (with_reducible apply Blk.other; case ha => exact (by first | omega | (simp; omega) | simp | (simp; done))))), by rfl⟩
  case post => exact ⟨rfl, (by repeat (first | with_reducible exact unhide B1 | with_reducible refine Below.drew ?_ | (with_reducible refine Below.setCell ?_ ?_ _; rotate_left; exact (by first | omega | (simp; omega) | simp | (simp; done))) | (with_reducible refine Below.alloc ?_ ?_ _; rotate_left; exact (by first | omega | (simp; omega) | simp | (simp; done)))))⟩

set_option maxHeartbeats 1000000 in
set_option maxRecDepth 100000 in
theorem find_no_R (pp : Nat) (nn : ByteArray) (v : Value) (l : List E3) (x : ByteArray) (w : World) (hn : l.length ≤ 1000) (h : Row3 w 159 v l) (hf : find3 x l = none) :
    Calls Tryz.prog 145 #[.agg #[.int .i64 pp, .string nn, v], .string x] w fun e w' => e = .returned (.tuple #[.agg #[.int .i64 0, .string ⟨#[]⟩, .nilIface], errv 5]) ∧ Below w.heap.size w w' := by
  obtain ⟨sa, sc, rfl⟩ := own_form h
  have H := hide h
  have W0 : Below w.heap.size w (((w.alloc (.cells #[.int .i64 pp, .string nn, .slice sa l.length sc] 110)).alloc (.cells #[.string x] 9)).alloc (.cells #[.int .i64 0, .string ⟨#[]⟩, .nilIface] 159)) := (((Below.refl _ _).alloc (Nat.le_refl _) _).alloc (by simp) _).alloc (by simp; omega) _
  have C := hide (indexFunc_R (.slice sa l.length sc) l x (w.heap.size + 1) _ hn (h.below W0) ((Blk.new' (w.alloc (.cells #[.int .i64 pp, .string nn, .slice sa l.length sc] 110)) #[.string x] 9 (w.heap.size + 1) (by simp)).alloc (.cells #[.int .i64 0, .string ⟨#[]⟩, .nilIface] 159)))
  have M := hide (((Blk.new w #[.int .i64 pp, .string nn, .slice sa l.length sc] 110).alloc (.cells #[.string x] 9)).alloc (.cells #[.int .i64 0, .string ⟨#[]⟩, .nilIface] 159))
  have R := hide (Blk.new' ((w.alloc (.cells #[.int .i64 pp, .string nn, .slice sa l.length sc] 110)).alloc (.cells #[.string x] 9)) #[.int .i64 0, .string ⟨#[]⟩, .nilIface] 159 (w.heap.size + 2) (by simp))
  have HW0 := hide W0
  have H0 := hide (h.below W0)
  clear h W0
  go_enter Tryz.func145, Tryz.ntmps145
  go_wp2_with fail
  refine (unhide C).mono ?_
  rintro e w1 ⟨rfl, hb1⟩
  have HR := hide ((unhide R).below hb1)
  have HM := hide ((unhide M).below hb1)
  have H1 := hide ((unhide H0).below hb1)
  have B1 := hide ((unhide HW0).trans (hb1.mono (unhide HW0).size))
  clear hb1 C
  obtain ⟨r0, r1, r2⟩ := (unhide HR).three
  have zr := (unhide HR).fz
  have hrl := (unhide HR).lt
  have mc : w1.cell? ⟨w.heap.size, 2, none⟩ = some (.slice sa l.length sc) := (unhide HM).cell rfl
  rw [idx3_none hf]
  go_wp2
  refine bodyPost_ret (v := .tuple #[.agg #[.int .i64 0, .string ⟨#[]⟩, .nilIface], errv 5]) (res_cc Tryz.results145 _ _ (w.heap.size + 2) _ 159 _ _ rfl rfl ?hB Tryz.underlying159 rfl (by kernel_rfl)) rfl ?post
  case hB => exact ⟨_, (by repeat (first | with_reducible exact unhide HR | with_reducible apply Blk.alloc | with_reducible apply Blk.drew | with_reducible apply Blk.set | (with_reducible apply Blk.other; case ha => exact (by first | omega | (simp; omega) | simp | (simp; done))))), by rfl⟩
  case post => exact ⟨rfl, (by repeat (first | with_reducible exact unhide B1 | with_reducible refine Below.drew ?_ | (with_reducible refine Below.setCell ?_ ?_ _; rotate_left; exact (by first | omega | (simp; omega) | simp | (simp; done))) | (with_reducible refine Below.alloc ?_ ?_ _; rotate_left; exact (by first | omega | (simp; omega) | simp | (simp; done)))))⟩

set_option maxHeartbeats 1000000 in
set_option maxRecDepth 100000 in
theorem find_yes_R (pp : Nat) (nn : ByteArray) (v : Value) (l : List E3) (x : ByteArray) (w : World) (hn : l.length ≤ 1000) (h : Row3 w 159 v l) (y : E3) (hf : find3 x l = some y) (hy1 : ∃ a x, y.2.2 = .iface a x) :
    Calls Tryz.prog 145 #[.agg #[.int .i64 pp, .string nn, v], .string x] w fun e w' => e = .returned (.tuple #[.agg #[.int .i64 y.1, .string y.2.1, y.2.2], .nilIface]) ∧ Below w.heap.size w w' := by
  obtain ⟨k, hk, hy, hi⟩ := idx3_some hf
  obtain ⟨sa, sc, rfl⟩ := own_form h
  have H := hide h
  have W0 : Below w.heap.size w (((w.alloc (.cells #[.int .i64 pp, .string nn, .slice sa l.length sc] 110)).alloc (.cells #[.string x] 9)).alloc (.cells #[.int .i64 0, .string ⟨#[]⟩, .nilIface] 159)) := (((Below.refl _ _).alloc (Nat.le_refl _) _).alloc (by simp) _).alloc (by simp; omega) _
  have C := hide (indexFunc_R (.slice sa l.length sc) l x (w.heap.size + 1) _ hn (h.below W0) ((Blk.new' (w.alloc (.cells #[.int .i64 pp, .string nn, .slice sa l.length sc] 110)) #[.string x] 9 (w.heap.size + 1) (by simp)).alloc (.cells #[.int .i64 0, .string ⟨#[]⟩, .nilIface] 159)))
  have M := hide (((Blk.new w #[.int .i64 pp, .string nn, .slice sa l.length sc] 110).alloc (.cells #[.string x] 9)).alloc (.cells #[.int .i64 0, .string ⟨#[]⟩, .nilIface] 159))
  have R := hide (Blk.new' ((w.alloc (.cells #[.int .i64 pp, .string nn, .slice sa l.length sc] 110)).alloc (.cells #[.string x] 9)) #[.int .i64 0, .string ⟨#[]⟩, .nilIface] 159 (w.heap.size + 2) (by simp))
  have HW0 := hide W0
  have H0 := hide (h.below W0)
  clear h W0
  go_enter Tryz.func145, Tryz.ntmps145
  go_wp2_with fail
  refine (unhide C).mono ?_
  rintro e w1 ⟨rfl, hb1⟩
  have HR := hide ((unhide R).below hb1)
  have HM := hide ((unhide M).below hb1)
  have H1 := hide ((unhide H0).below hb1)
  have B1 := hide ((unhide HW0).trans (hb1.mono (unhide HW0).size))
  clear hb1 C
  obtain ⟨r0, r1, r2⟩ := (unhide HR).three
  have zr := (unhide HR).fz
  have hrl := (unhide HR).lt
  have mc : w1.cell? ⟨w.heap.size, 2, none⟩ = some (.slice sa l.length sc) := (unhide HM).cell rfl
  rw [hi]
  obtain ⟨g, c, e1, k0, k1, k2⟩ := (unhide H1).cell k hk
  simp only [Value.slice.injEq] at e1
  obtain ⟨rfl, _, rfl⟩ := e1
  rw [hy] at k0 k1 k2
  have hgl := lt_of_cell k0
  have hgn : ¬ (g = w.heap.size + 2) := fun e => by
    have := (unhide H).cell k hk
    obtain ⟨g', c', e1, k0', _⟩ := this
    simp only [Value.slice.injEq, Option.some.injEq, Addr.mk.injEq] at e1
    have := lt_of_cell k0'
    omega
  have hgn' : ¬ (w.heap.size + 2 = g) := fun e => hgn e.symm
  clear hi hy hf
  obtain ⟨p, n, u⟩ := y
  simp only at k0 k1 k2
  obtain ⟨ua, un, rfl⟩ : ∃ a x, u = .iface a x := hy1
  go_wp2
  refine bodyPost_ret (v := .tuple #[.agg #[.int .i64 p, .string n, .iface ua un], .nilIface]) (res_cc Tryz.results145 _ _ (w.heap.size + 2) _ 159 _ _ rfl rfl ?hB Tryz.underlying159 rfl (by kernel_rfl)) rfl ?post
  case hB => exact ⟨_, (by repeat (first | with_reducible exact unhide HR | with_reducible apply Blk.alloc | with_reducible apply Blk.drew | with_reducible apply Blk.set | (with_reducible apply Blk.other; case ha => exact (by first | omega | (simp; omega) | simp | (simp; done))))), by rfl⟩
  case post => exact ⟨rfl, (by repeat (first | with_reducible exact unhide B1 | with_reducible refine Below.drew ?_ | (with_reducible refine Below.setCell ?_ ?_ _; rotate_left; exact (by first | omega | (simp; omega) | simp | (simp; done))) | (with_reducible refine Below.alloc ?_ ?_ _; rotate_left; exact (by first | omega | (simp; omega) | simp | (simp; done)))))⟩
end Go.Proofs.YtlbpnlngckgcbaaGreatDoor
