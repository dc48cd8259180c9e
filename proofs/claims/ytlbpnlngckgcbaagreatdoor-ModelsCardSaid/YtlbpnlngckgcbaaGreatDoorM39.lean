import Derived.Test.YtlbpnlngckgcbaaGreatDoorM35
import Derived.Test.YtlbpnlngckgcbaaGreatDoorM38
namespace Go.Proofs.YtlbpnlngckgcbaaGreatDoor
open Go.RowKit Go.PlainAid
set_option linter.unusedSimpArgs false
set_option linter.unusedVariables false
theorem clone_any (s : ByteArray) (w : World) (hs : s.size ≤ 500) : Calls Tryz.prog 70 #[.string s] w fun e w' => e = .returned (.string s) ∧ Below w.heap.size w w' := by
 have C := hide (Tryz.stringslite_Clone s w (by omega))
 go_enter Tryz.func70, Tryz.ntmps70
 go_wp2_with fail
 refine (uh C).mono ?_
 rintro e w' ⟨rfl, hb⟩
 have HB := hide hb
 clear hb C
 go_wp2
 go_ret
 exact ⟨rfl, uh HB⟩
/-- All blocks of grants, relations and types are as they were. -/
def KT (w w' : World) : Prop := ∀ (g : Nat) (cs : Array Value) (T : TypeId) (f : Nat × Nat), w.heap[g]? = some (Obj.cells cs T f) → (T = 207 ∨ T = 159 ∨ T = 110) → w'.heap[g]? = w.heap[g]?
theorem KT.refl (w : World) : KT w w := fun _ _ _ _ _ _ => rfl
theorem KT.trans {x y z : World} (h : KT x y) (k : KT y z) : KT x z := fun g cs T f hh ht => (k g cs T f ((h g cs T f hh ht).trans hh) ht).trans (h g cs T f hh ht)
theorem KT.below {w w' : World} (h : Below w.heap.size w w') : KT w w' := fun g cs T f hh _ => h.block g (lt_of_some hh)
theorem KT.set {w : World} {g : Nat} {cs : Array Value} {T : TypeId} (hb : Blk w g cs T) (ht : ¬ (T = 207 ∨ T = 159 ∨ T = 110)) (o : Nat) (u : Value) : KT w (w.setCell ⟨g, o, none⟩ u) :=
 fun g' cs' T' f hh ht' => Below.heap_setCell _ _ _ _ (fun (e' : g' = g) => by
  subst e'
  unfold Blk at hb
  rw [hb] at hh
  simp only [Option.some.injEq, Obj.cells.injEq] at hh
  exact ht (by rw [hh.2.1]; exact ht'))
theorem RC.kt {b : Nat} {w w' : World} {sv : Value} {rs : List Rl} {rl : List (Rl × Value)} (h : RC b w sv rs rl) (k : KT w w') : RC b w' sv rs rl :=
 ⟨h.fst, ownsRow_frame h.row (fun g cs f _ hh => k g cs _ f hh (.inr (.inl rfl))), fun p hp => RepEx.frame (fun g cs f _ hh => k g cs _ f hh (.inl rfl)) _ _ (h.ex p hp), h.len, h.okp, h.okg, h.wf⟩
theorem MC.kt {b : Nat} {w w' : World} {sv : Value} {ts : List Ty} {tl : List (Ty × Value)} (h : MC b w sv ts tl) (k : KT w w') (hs : w.heap.size ≤ w'.heap.size) : MC b w' sv ts tl :=
 ⟨h.fst, ownsRow_frame h.row (fun g cs f _ hh => k g cs _ f hh (.inr (.inr rfl))), fun p hp => by obtain ⟨rl, hr⟩ := h.rels p hp; exact ⟨rl, hr.kt k⟩, h.len, Nat.lt_of_lt_of_le h.blt hs⟩
/-- P3, P4: what a text is: what is wrong with it (place, number), or its types. -/
def readP (s : ByteArray) : Except (Option Nat × Nat) (List Ty) := if 500 < s.size then .error (none, 1) else match modelR (TT s) (PP s) with
 | .error (c, j) => .error (some (PP s j), c)
 | .ok (ts, _) => match checkP ts with
  | some (p, c) => .error (some p, c)
  | none => .ok ts
def errR : Option Nat × Nat → Value
 | (none, c) => errv c
 | (some p, c) => placed p c
def ReadPost (w : World) (r : Except (Option Nat × Nat) (List Ty)) (e : Ending) (w' : World) : Prop := Below w.heap.size w w' ∧ match r with
 | .error x => e = .returned (.tuple #[.agg #[.slice none 0 0], errR x])
 | .ok ts => ∃ sv tl b, e = .returned (.tuple #[.agg #[sv], .nilIface]) ∧ MC b w' sv ts tl
set_option maxHeartbeats 1000000 in
set_option maxRecDepth 100000 in
theorem read_long (s : ByteArray) (w : World) (hs : 500 < s.size) : Calls Tryz.prog 40 #[.string s] w (ReadPost w (.error (none, 1))) := by
 have hn : (500 : Int) < (s.size : Int) := by omega
 have R0 := hide (Blk.new w #[.slice none 0 0] 75)
 have B0 := hide (Below.refl w.heap.size w)
 go_enter Tryz.func40, Tryz.ntmps40
 go_wp2
 refine bodyPost_ret (v := .tuple #[.agg #[.slice none 0 0], errv 1]) (res_cc Tryz.results40 _ _ w.heap.size _ 75 _ _ rfl rfl ?hB Tryz.underlying75 rfl (by kernel_rfl)) rfl ?post
 case hB => exact ⟨_, (by repeat (first | with_reducible exact uh R0 | with_reducible apply Blk.alloc | with_reducible apply Blk.drew | with_reducible apply Blk.set | (with_reducible apply Blk.other; case ha => exact (by first | omega | (simp; omega) | simp | (simp; done))))), by rfl⟩
 case post => exact ⟨(by repeat (first | with_reducible exact uh B0 | with_reducible refine Below.drew ?_ | (with_reducible refine Below.setCell ?_ ?_ _; rotate_left; exact (by first | omega | (simp; omega) | simp | (simp; done))) | (with_reducible refine Below.alloc ?_ ?_ _; rotate_left; exact (by first | omega | (simp; omega) | simp | (simp; done))))), rfl⟩
set_option maxHeartbeats 1000000 in
set_option maxRecDepth 100000 in
theorem read_bad (s : ByteArray) (w : World) (hs : s.size ≤ 500) (c j : Nat) (hm : modelR (TT s) (PP s) = .error (c, j)) : Calls Tryz.prog 40 #[.string s] w (ReadPost w (.error (some (PP s j), c))) := by
 have HM := hide hm
 clear hm
 have hn : ¬ ((500 : Int) < (s.size : Int)) := by omega
 have CL := hide (clone_any s (w.alloc (.cells #[.slice none 0 0] 75)) hs)
 go_enter Tryz.func40, Tryz.ntmps40
 go_wp2_with fail
 refine (uh CL).mono ?_
 rintro e w0 ⟨rfl, hb0⟩
 have B0 := hide (((Below.refl _ w).alloc (Nat.le_refl _) (.cells #[.slice none 0 0] 75)).trans (hb0.mono (by simp)))
 have R0 := hide ((Blk.new w #[.slice none 0 0] 75).below hb0)
 have C0 := hide (tokenFrom_int s 0 0 w0 (by unfold maxLen; omega) (Nat.zero_le _) rfl)
 clear hb0 CL
 go_wp2_with fail
 refine (uh C0).mono ?_
 rintro e w1 ⟨rfl, hb1⟩
 have B1 := hide ((uh B0).trans (hb1.mono (uh B0).size))
 have R1 := hide ((uh R0).below hb1)
 have sz1 := ((uh R0).below hb1).lt
 clear hb1 C0 R0 B0
 have A1 : At (w1.alloc (.cells #[.string s, .int .i64 (tokP s 0), .string (tokT s 0), .int .i64 0] 140)) w1.heap.size s 0 0 := ⟨⟨⟨Blk.new w1 _ _⟩, Nat.zero_le _⟩, Nat.zero_le _⟩
 have C1 := hide (model_post w1.heap.size s 0 _ hs A1 rfl)
 have R2 := hide ((uh R1).alloc (.cells #[.string s, .int .i64 (tokP s 0), .string (tokT s 0), .int .i64 0] 140))
 have B2 := hide ((uh B1).alloc (uh B1).size (.cells #[.string s, .int .i64 (tokP s 0), .string (tokT s 0), .int .i64 0] 140))
 clear A1
 rw [uh HM] at C1
 go_wp2_with fail
 refine (uh C1).mono ?_
 rintro e w3 ⟨b3, v, d', rfl, ⟨va, vn, vc, rfl⟩, a3⟩
 have c1 : w3.cell? ⟨w1.heap.size, 1, none⟩ = some (.int .i64 (PP s j)) := a3.pos.rd.c1
 have szb := a3.lt
 have B3 := hide ((uh B2).trans (b3.below (by have := (uh B1).size; omega) (by have := (uh B2).size; omega)))
 have R3 := hide ((uh R2).but b3 (by omega))
 have r0 := (uh R3).cell (o := 0) rfl
 simp only [List.getElem_toArray, List.getElem_cons_zero] at r0
 have rz := (uh R3).fz
 have rl := (uh R3).lt
 have hne : ¬ (w3.heap.size = w.heap.size) := by omega
 have hne' : ¬ (w.heap.size = w3.heap.size) := by omega
 clear a3 b3 C1
 unfold errv
 go_wp2_with (go_at_call 73; refine (wrap_err _ c _).mono ?_; rintro e w4 ⟨rfl, rfl⟩)
 refine bodyPost_ret (v := .tuple #[.agg #[.slice none 0 0], placed (PP s j) c]) (res_cc Tryz.results40 _ _ w.heap.size _ 75 _ _ rfl rfl ?hB Tryz.underlying75 rfl (by kernel_rfl)) rfl ?post
 case hB => exact ⟨_, (by repeat (first | with_reducible exact uh R3 | with_reducible apply Blk.alloc | with_reducible apply Blk.drew | with_reducible apply Blk.set | (with_reducible apply Blk.other; case ha => exact (by first | omega | (simp; omega) | simp | (simp; done))))), by rfl⟩
 case post => exact ⟨(by repeat (first | with_reducible exact uh B3 | with_reducible refine Below.drew ?_ | (with_reducible refine Below.setCell ?_ ?_ _; rotate_left; exact (by first | omega | (simp; omega) | simp | (simp; done))) | (with_reducible refine Below.alloc ?_ ?_ _; rotate_left; exact (by first | omega | (simp; omega) | simp | (simp; done))))), rfl⟩
set_option maxHeartbeats 1000000 in
set_option maxRecDepth 100000 in
theorem read_check (s : ByteArray) (w : World) (hs : s.size ≤ 500) (ts : List Ty) (j p c : Nat) (hm : modelR (TT s) (PP s) = .ok (ts, j)) (hc : checkP ts = some (p, c)) : Calls Tryz.prog 40 #[.string s] w (ReadPost w (.error (some p, c))) := by
 have HM := hide hm
 have HC := hide hc
 clear hm hc
 have hn : ¬ ((500 : Int) < (s.size : Int)) := by omega
 have CL := hide (clone_any s (w.alloc (.cells #[.slice none 0 0] 75)) hs)
 go_enter Tryz.func40, Tryz.ntmps40
 go_wp2_with fail
 refine (uh CL).mono ?_
 rintro e w0 ⟨rfl, hb0⟩
 have B0 := hide (((Below.refl _ w).alloc (Nat.le_refl _) (.cells #[.slice none 0 0] 75)).trans (hb0.mono (by simp)))
 have R0 := hide ((Blk.new w #[.slice none 0 0] 75).below hb0)
 have C0 := hide (tokenFrom_int s 0 0 w0 (by unfold maxLen; omega) (Nat.zero_le _) rfl)
 clear hb0 CL
 go_wp2_with fail
 refine (uh C0).mono ?_
 rintro e w1 ⟨rfl, hb1⟩
 have B1 := hide ((uh B0).trans (hb1.mono (uh B0).size))
 have R1 := hide ((uh R0).below hb1)
 have sz1 := ((uh R0).below hb1).lt
 clear hb1 C0 R0 B0
 have A1 : At (w1.alloc (.cells #[.string s, .int .i64 (tokP s 0), .string (tokT s 0), .int .i64 0] 140)) w1.heap.size s 0 0 := ⟨⟨⟨Blk.new w1 _ _⟩, Nat.zero_le _⟩, Nat.zero_le _⟩
 have C1 := hide (model_post w1.heap.size s 0 _ hs A1 rfl)
 have R2 := hide ((uh R1).alloc (.cells #[.string s, .int .i64 (tokP s 0), .string (tokT s 0), .int .i64 0] 140))
 have B2 := hide ((uh B1).alloc (uh B1).size (.cells #[.string s, .int .i64 (tokP s 0), .string (tokT s 0), .int .i64 0] 140))
 clear A1
 rw [uh HM] at C1
 go_wp2_with fail
 refine (uh C1).mono ?_
 rintro e w3 ⟨b3, v, rfl, ⟨sv, rfl, hrep⟩, a3⟩
 obtain ⟨tl, hmc⟩ := MC.of_rep hrep (modelR_bn _ _ _ _ (uh HM)).1 (modelR_bn _ _ _ _ (uh HM)).2 (by have := a3.le; omega) a3.lt
 obtain ⟨ma, mn, mc, rfl⟩ := hmc.form
 have szb := a3.lt
 have B3 := hide ((uh B2).trans (b3.below (by have := (uh B1).size; omega) (by have := (uh B2).size; omega)))
 have R3 := hide ((uh R2).but b3 (by omega))
 have C4 := hide (check_any _ _ ts tl _ (hmc.below ((Below.refl _ _).alloc (Nat.le_refl _) (.cells #[.slice ma mn mc] 75))))
 rw [uh HC] at C4
 clear a3 b3 C1 hrep hmc
 go_wp2_with fail
 refine (uh C4).mono ?_
 rintro e w4 ⟨rfl, hb4⟩
 have B4 := hide ((uh B3).trans (((Below.refl _ w3).alloc (Nat.le_refl _) (.cells #[.slice ma mn mc] 75)).trans (hb4.mono (by simp)) |>.mono (uh B3).size))
 have R4 := hide (((uh R3).alloc (.cells #[.slice ma mn mc] 75)).below hb4)
 have r0 := (uh R4).cell (o := 0) rfl
 simp only [List.getElem_toArray, List.getElem_cons_zero] at r0
 have rz := (uh R4).fz
 have rl := (uh R4).lt
 clear hb4 C4
 unfold errQ placed errv
 go_wp2
 refine bodyPost_ret (v := .tuple #[.agg #[.slice none 0 0], placed p c]) (res_cc Tryz.results40 _ _ w.heap.size _ 75 _ _ rfl rfl ?hB Tryz.underlying75 rfl (by kernel_rfl)) rfl ?post
 case hB => exact ⟨_, (by repeat (first | with_reducible exact uh R4 | with_reducible apply Blk.alloc | with_reducible apply Blk.drew | with_reducible apply Blk.set | (with_reducible apply Blk.other; case ha => exact (by first | omega | (simp; omega) | simp | (simp; done))))), by rfl⟩
 case post => exact ⟨(by repeat (first | with_reducible exact uh B4 | with_reducible refine Below.drew ?_ | (with_reducible refine Below.setCell ?_ ?_ _; rotate_left; exact (by first | omega | (simp; omega) | simp | (simp; done))) | (with_reducible refine Below.alloc ?_ ?_ _; rotate_left; exact (by first | omega | (simp; omega) | simp | (simp; done))))), rfl⟩
set_option maxHeartbeats 1000000 in
set_option maxRecDepth 100000 in
theorem read_ok (s : ByteArray) (w : World) (hs : s.size ≤ 500) (ts : List Ty) (j : Nat) (hm : modelR (TT s) (PP s) = .ok (ts, j)) (hc : checkP ts = none) : Calls Tryz.prog 40 #[.string s] w (ReadPost w (.ok ts)) := by
 have HM := hide hm
 have HC := hide hc
 clear hm hc
 have hn : ¬ ((500 : Int) < (s.size : Int)) := by omega
 have CL := hide (clone_any s (w.alloc (.cells #[.slice none 0 0] 75)) hs)
 go_enter Tryz.func40, Tryz.ntmps40
 go_wp2_with fail
 refine (uh CL).mono ?_
 rintro e w0 ⟨rfl, hb0⟩
 have B0 := hide (((Below.refl _ w).alloc (Nat.le_refl _) (.cells #[.slice none 0 0] 75)).trans (hb0.mono (by simp)))
 have R0 := hide ((Blk.new w #[.slice none 0 0] 75).below hb0)
 have C0 := hide (tokenFrom_int s 0 0 w0 (by unfold maxLen; omega) (Nat.zero_le _) rfl)
 clear hb0 CL
 go_wp2_with fail
 refine (uh C0).mono ?_
 rintro e w1 ⟨rfl, hb1⟩
 have B1 := hide ((uh B0).trans (hb1.mono (uh B0).size))
 have R1 := hide ((uh R0).below hb1)
 have sz1 := ((uh R0).below hb1).lt
 clear hb1 C0 R0 B0
 have A1 : At (w1.alloc (.cells #[.string s, .int .i64 (tokP s 0), .string (tokT s 0), .int .i64 0] 140)) w1.heap.size s 0 0 := ⟨⟨⟨Blk.new w1 _ _⟩, Nat.zero_le _⟩, Nat.zero_le _⟩
 have C1 := hide (model_post w1.heap.size s 0 _ hs A1 rfl)
 have R2 := hide ((uh R1).alloc (.cells #[.string s, .int .i64 (tokP s 0), .string (tokT s 0), .int .i64 0] 140))
 have B2 := hide ((uh B1).alloc (uh B1).size (.cells #[.string s, .int .i64 (tokP s 0), .string (tokT s 0), .int .i64 0] 140))
 clear A1
 rw [uh HM] at C1
 go_wp2_with fail
 refine (uh C1).mono ?_
 rintro e w3 ⟨b3, v, rfl, ⟨sv, rfl, hrep⟩, a3⟩
 obtain ⟨tl, hmc⟩ := MC.of_rep hrep (modelR_bn _ _ _ _ (uh HM)).1 (modelR_bn _ _ _ _ (uh HM)).2 (by have := a3.le; omega) a3.lt
 obtain ⟨ma, mn, mc, rfl⟩ := hmc.form
 have szb := a3.lt
 have B3 := hide ((uh B2).trans (b3.below (by have := (uh B1).size; omega) (by have := (uh B2).size; omega)))
 have R3 := hide ((uh R2).but b3 (by omega))
 have M3 := hide (hmc.below ((Below.refl _ _).alloc (Nat.le_refl _) (.cells #[.slice ma mn mc] 75)))
 have C4 := hide (check_any _ _ ts tl _ (uh M3))
 rw [uh HC] at C4
 clear a3 b3 C1 hrep hmc
 go_wp2_with fail
 refine (uh C4).mono ?_
 rintro e w4 ⟨rfl, hb4⟩
 have B4 := hide ((uh B3).trans (((Below.refl _ w3).alloc (Nat.le_refl _) (.cells #[.slice ma mn mc] 75)).trans (hb4.mono (by simp)) |>.mono (uh B3).size))
 have R4 := hide (((uh R3).alloc (.cells #[.slice ma mn mc] 75)).below hb4)
 have M4 := hide ((uh M3).below hb4)
 have q0 : w4.cell? ⟨w3.heap.size, 0, none⟩ = some (.slice ma mn mc) := ((Blk.new w3 #[.slice ma mn mc] 75).below hb4).cell rfl
 have r0 := (uh R4).cell (o := 0) rfl
 simp only [List.getElem_toArray, List.getElem_cons_zero] at r0
 have rz := (uh R4).fz
 have rl := (uh R4).lt
 clear hb4 C4
 unfold errQ
 go_wp2
 refine bodyPost_ret (v := .tuple #[.agg #[.slice ma mn mc], .nilIface]) (res_cc Tryz.results40 _ _ w.heap.size _ 75 _ _ rfl rfl ?hB Tryz.underlying75 rfl (by kernel_rfl)) rfl ?post
 case hB => exact ⟨_, (by repeat (first | with_reducible exact uh R4 | with_reducible apply Blk.alloc | with_reducible apply Blk.drew | with_reducible apply Blk.set | (with_reducible apply Blk.other; case ha => exact (by first | omega | (simp; omega) | simp | (simp; done))))), by rfl⟩
 case post => exact ⟨(by repeat (first | with_reducible exact uh B4 | with_reducible refine Below.drew ?_ | (with_reducible refine Below.setCell ?_ ?_ _; rotate_left; exact (by first | omega | (simp; omega) | simp | (simp; done))) | (with_reducible refine Below.alloc ?_ ?_ _; rotate_left; exact (by first | omega | (simp; omega) | simp | (simp; done))))), _, tl, _, rfl, (uh M4).kt (KT.set (uh R4) (by decide) 0 _) (by simp [World.setCell])⟩
theorem read_any (s : ByteArray) (w : World) : Calls Tryz.prog 40 #[.string s] w (ReadPost w (readP s)) := by
 unfold readP
 split
 ·rename_i h
  exact read_long s w h
 ·rename_i h
  have hs : s.size ≤ 500 := by omega
  split
  ·rename_i c j hm
   exact read_bad s w hs c j hm
  ·rename_i ts j hm
   split
   ·rename_i p c hc
    exact read_check s w hs ts j p c hm hc
   ·rename_i hc
    exact read_ok s w hs ts j hm hc
end Go.Proofs.YtlbpnlngckgcbaaGreatDoor
