import Derived.Test.YtlbpnlngckgcbaaGreatDoorM11
import Derived.Test.YtlbpnlngckgcbaaGreatDoorM26
import Derived.Laws.StructEq
namespace Go.Proofs.YtlbpnlngckgcbaaGreatDoor
open Go.RowKit Go.PlainAid
set_option linter.unusedSimpArgs false
set_option linter.unusedVariables false
theorem results_cct {fn : Func} {p q u : Tmp} {ty ty2 : TypeId} (h : fn.results = #[.cell p ty, .cell q ty2, .tmp u]) (tmps : Array Value) (P : Program) (w : World) :
  (results fn tmps).run P w =
   ((asAddr (tmps.getD p undef)).run P w).andThen fun a w₁ => ((loadVar ty a).run P w₁).andThen fun v w₂ => ((asAddr (tmps.getD q undef)).run P w₂).andThen fun a2 w₃ => ((loadVar ty2 a2).run P w₃).andThen fun v2 w₄ => .ok (.tuple #[v, v2, tmps.getD u undef]) w₄ := by
 simp only [results, h]
 simp [Sem.run_bind, Result.andThen]
/-- Two structs and a value. -/
theorem res_cct {P : Program} {fn : Func} {p q u : Tmp} {ty ty2 : TypeId} (h : fn.results = #[.cell p ty, .cell q ty2, .tmp u]) (tmps : Array Value) (w : World) (g g2 : Nat) (cs cs2 : Array Value) (t t2 : TypeId) (e : Value) (d d2 : TypeDesc)
  (hp : tmps.getD p undef = .pointer (some ⟨g, 0, none⟩)) (hp2 : tmps.getD q undef = .pointer (some ⟨g2, 0, none⟩)) (hq : tmps.getD u undef = e) (hb : ∃ x, Blk w g x t ∧ x = cs) (hb2 : ∃ x, Blk w g2 x t2 ∧ x = cs2)
  (hu : P.underlying ty = some d) (hd : (match d with | .struct _ | .array _ _ => true | _ => false) = true) (hi : (P.info? ty).map (·.size) = some cs.size)
  (hu2 : P.underlying ty2 = some d2) (hd2 : (match d2 with | .struct _ | .array _ _ => true | _ => false) = true) (hi2 : (P.info? ty2).map (·.size) = some cs2.size) :
  (results fn tmps).run P w = .ok (.tuple #[.agg cs, .agg cs2, e]) w := by
 obtain ⟨x, hb, rfl⟩ := hb
 obtain ⟨y, hb2, rfl⟩ := hb2
 rw [results_cct h, hp, hp2, hq]
 simp [asAddr, Result.andThen, run_loadVar_row w g t ty x (0, 0) d hb hu hd hi, run_loadVar_row w g2 t2 ty2 y (0, 0) d2 hb2 hu2 hd2 hi2]
theorem mfind_at (b : Nat) (sv : Value) (ts : List Ty) (tl : List (Ty × Value)) (x : ByteArray) (w : World) (h : MC b w sv ts tl) (t : Ty) (hf : findTy ts x = some t) :
  ∃ va vn vc rl, RC b w (.slice va vn vc) t.rels rl ∧ ∀ w1, Below w.heap.size w w1 → Calls Tryz.prog 57 #[.agg #[sv], .string x] w1 fun e w' => e = .returned (.tuple #[.agg #[.int .i64 t.place, .string t.name, .slice va vn vc], .nilIface]) ∧ Below w1.heap.size w1 w' := by
 rw [← h.fst, findTy_map] at hf
 cases hq : tl.find? (fun p => eqs p.1.name x) with
 | none => rw [hq] at hf; cases hf
 | some y =>
  rw [hq] at hf
  simp only [Option.map_some, Option.some.injEq] at hf
  subst hf
  obtain ⟨rl, hr⟩ := h.rels y (List.mem_of_find?_eq_some hq)
  obtain ⟨a, n, c, e⟩ := hr.form
  have hr' := hr
  rw [e] at hr'
  refine ⟨a, n, c, rl, hr', fun w1 k => ?_⟩
  have := find_yes_T sv (tl.map t3) x w1 h.llen (h.below k).row (t3 y) (by rw [find3_t3, hq]; rfl) ⟨a, n, c, e⟩
  have e2 : (t3 y).2.2 = .slice a n c := e
  rw [e2] at this
  exact this
theorem tfind_at (b pp : Nat) (nn : ByteArray) (sv : Value) (t : Ty) (rl : List (Rl × Value)) (x : ByteArray) (w : World) (h : RC b w sv t.rels rl) (r : Rl) (hf : findRl t x = some r) :
  ∃ ta va, RepEx b w r.body (.iface ta va) ∧ r ∈ t.rels ∧ ∀ w1, Below w.heap.size w w1 → Calls Tryz.prog 145 #[.agg #[.int .i64 pp, .string nn, sv], .string x] w1 fun e w' => e = .returned (.tuple #[.agg #[.int .i64 r.place, .string r.name, .iface ta va], .nilIface]) ∧ Below w1.heap.size w1 w' := by
 have hmem : r ∈ t.rels := List.mem_of_find?_eq_some hf
 unfold findRl at hf
 rw [← h.fst, List.find?_map, show ((fun r : Rl => eqs r.name x) ∘ Prod.fst) = (fun p : Rl × Value => eqs p.1.name x) from rfl] at hf
 cases hq : rl.find? (fun p => eqs p.1.name x) with
 | none => rw [hq] at hf; cases hf
 | some y =>
  rw [hq] at hf
  simp only [Option.map_some, Option.some.injEq] at hf
  subst hf
  have hr := h.ex y (List.mem_of_find?_eq_some hq)
  obtain ⟨ta, va, e⟩ := hr.isI
  have hr' := hr
  rw [e] at hr'
  refine ⟨ta, va, hr', hmem, fun w1 k => ?_⟩
  have := find_yes_R pp nn sv (rl.map r3) x w1 h.llen (h.below k).row (r3 y) (by rw [find3_r3, hq]; rfl) ⟨ta, va, e⟩
  have e2 : (r3 y).2.2 = .iface ta va := e
  rw [e2] at this
  exact this
set_option maxHeartbeats 2000000 in
set_option maxRecDepth 100000 in
theorem findR_none (b : Nat) (sv : Value) (ts : List Ty) (tl : List (Ty × Value)) (s1 s2 : ByteArray) (w : World) (h : MC b w sv ts tl) (hf : findTy ts s1 = none) :
  Calls Tryz.prog 94 #[.agg #[sv], .string s1, .string s2] w fun e w' => e = .returned (.tuple #[.agg #[.int .i64 0, .string ⟨#[]⟩, .slice none 0 0], .agg #[.int .i64 0, .string ⟨#[]⟩, .nilIface], errv 5]) ∧ Below w.heap.size w w' := by
 obtain ⟨ma, mn, mc, rfl⟩ := h.form
 have W0 : Below w.heap.size w (((w.alloc (.cells #[.slice ma mn mc] 75)).alloc (.cells #[.int .i64 0, .string ⟨#[]⟩, .slice none 0 0] 110)).alloc (.cells #[.int .i64 0, .string ⟨#[]⟩, .nilIface] 159)) := (((Below.refl _ _).alloc (Nat.le_refl _) _).alloc (by simp) _).alloc (by simp; omega) _
 have HM0 := hide (h.below W0)
 have HW0 := hide W0
 have TB := hide ((Blk.new' (w.alloc (.cells #[.slice ma mn mc] 75)) #[.int .i64 0, .string ⟨#[]⟩, .slice none 0 0] 110 (w.heap.size + 1) (by simp)).alloc (.cells #[.int .i64 0, .string ⟨#[]⟩, .nilIface] 159))
 have RB := hide (Blk.new' ((w.alloc (.cells #[.slice ma mn mc] 75)).alloc (.cells #[.int .i64 0, .string ⟨#[]⟩, .slice none 0 0] 110)) #[.int .i64 0, .string ⟨#[]⟩, .nilIface] 159 (w.heap.size + 2) (by simp))
 have C := hide (mfind_no b _ ts tl s1 _ (uh HM0) hf)
 clear h W0 hf
 go_enter Tryz.func94, Tryz.ntmps94
 go_wp2_with fail
 refine (uh C).mono ?_
 rintro e w1 ⟨rfl, hb1⟩
 have B1 := hide ((uh HW0).trans (hb1.mono (uh HW0).size))
 have HT := hide ((uh TB).below hb1)
 have HR := hide ((uh RB).below hb1)
 obtain ⟨t0, t1, t2⟩ := (uh HT).three
 obtain ⟨r0, r1, r2⟩ := (uh HR).three
 have zt := (uh HT).fz
 have zr := (uh HR).fz
 have ltt := (uh HT).lt
 have ltr := (uh HR).lt
 clear hb1 C
 unfold errv
 go_wp2
 refine bodyPost_ret (v := .tuple #[.agg #[.int .i64 0, .string ⟨#[]⟩, .slice none 0 0], .agg #[.int .i64 0, .string ⟨#[]⟩, .nilIface], errv 5]) (res_cct Tryz.results94 _ _ (w.heap.size + 1) (w.heap.size + 2) _ _ 110 159 _ _ _ rfl rfl rfl ?hB ?hC Tryz.underlying110 rfl (by kernel_rfl) Tryz.underlying159 rfl (by kernel_rfl)) rfl ?post
 case hB => exact ⟨_, (by repeat (first | with_reducible exact uh HT | with_reducible apply Blk.alloc | with_reducible apply Blk.drew | with_reducible apply Blk.set | (with_reducible apply Blk.other; case ha => exact (by first | omega | (simp; omega) | simp | (simp; done))))), by rfl⟩
 case hC => exact ⟨_, (by repeat (first | with_reducible exact uh HR | with_reducible apply Blk.alloc | with_reducible apply Blk.drew | with_reducible apply Blk.set | (with_reducible apply Blk.other; case ha => exact (by first | omega | (simp; omega) | simp | (simp; done))))), by rfl⟩
 case post => exact ⟨rfl, (by repeat (first | with_reducible exact uh B1 | with_reducible refine Below.drew ?_ | (with_reducible refine Below.setCell ?_ ?_ _; rotate_left; exact (by first | omega | (simp; omega) | simp | (simp; done))) | (with_reducible refine Below.alloc ?_ ?_ _; rotate_left; exact (by first | omega | (simp; omega) | simp | (simp; done)))))⟩
set_option maxHeartbeats 2000000 in
set_option maxRecDepth 100000 in
theorem findR_miss (b : Nat) (sv : Value) (ts : List Ty) (tl : List (Ty × Value)) (s1 s2 : ByteArray) (w : World) (h : MC b w sv ts tl) (t : Ty) (hf : findTy ts s1 = some t) (hq : findRl t s2 = none) :
  ∃ va vn vc, Calls Tryz.prog 94 #[.agg #[sv], .string s1, .string s2] w fun e w' => e = .returned (.tuple #[.agg #[.int .i64 t.place, .string t.name, .slice va vn vc], .agg #[.int .i64 0, .string ⟨#[]⟩, .nilIface], errv 5]) ∧ Below w.heap.size w w' := by
 obtain ⟨ma, mn, mc, rfl⟩ := h.form
 have W0 : Below w.heap.size w (((w.alloc (.cells #[.slice ma mn mc] 75)).alloc (.cells #[.int .i64 0, .string ⟨#[]⟩, .slice none 0 0] 110)).alloc (.cells #[.int .i64 0, .string ⟨#[]⟩, .nilIface] 159)) := (((Below.refl _ _).alloc (Nat.le_refl _) _).alloc (by simp) _).alloc (by simp; omega) _
 have HM0 := hide (h.below W0)
 have HW0 := hide W0
 have TB := hide ((Blk.new' (w.alloc (.cells #[.slice ma mn mc] 75)) #[.int .i64 0, .string ⟨#[]⟩, .slice none 0 0] 110 (w.heap.size + 1) (by simp)).alloc (.cells #[.int .i64 0, .string ⟨#[]⟩, .nilIface] 159))
 have RB := hide (Blk.new' ((w.alloc (.cells #[.slice ma mn mc] 75)).alloc (.cells #[.int .i64 0, .string ⟨#[]⟩, .slice none 0 0] 110)) #[.int .i64 0, .string ⟨#[]⟩, .nilIface] 159 (w.heap.size + 2) (by simp))
 obtain ⟨va, vn, vc, rl, hrc, hcall⟩ := mfind_yes b _ ts tl s1 _ (uh HM0) t hf
 refine ⟨va, vn, vc, ?_⟩
 have C := hide hcall
 have HRC := hide hrc
 have HQ := hide hq
 clear hcall hrc hf hq h W0
 go_enter Tryz.func94, Tryz.ntmps94
 go_wp2_with fail
 refine (uh C).mono ?_
 rintro e w1 ⟨rfl, hb1⟩
 have b1 := hb1.alloc hb1.size (.cells #[.int .i64 t.place, .string t.name, .slice va vn vc] 110)
 have B1 := hide ((uh HW0).trans (b1.mono (uh HW0).size))
 have HT1 := hide ((uh TB).below b1)
 have HR1 := hide ((uh RB).below b1)
 have RC1 := hide ((uh HRC).below b1)
 have YB1 := hide (Blk.new w1 #[.int .i64 t.place, .string t.name, .slice va vn vc] 110)
 have h1b := hb1
 clear hb1 b1 C
 have C2 := hide (tfind_no b t.place t.name _ t rl s2 _ (uh RC1) (uh HQ))
 go_wp2_with fail
 refine (uh C2).mono ?_
 rintro e w2 ⟨rfl, hb2⟩
 have b2 := hb2.alloc hb2.size (.cells #[.int .i64 0, .string ⟨#[]⟩, .nilIface] 159)
 have B2 := hide ((uh B1).trans (b2.mono (uh B1).size))
 have HT := hide ((uh HT1).below b2)
 have HR := hide ((uh HR1).below b2)
 have HY := hide ((uh YB1).below b2)
 have HX := hide (Blk.new w2 #[.int .i64 0, .string ⟨#[]⟩, .nilIface] 159)
 have l1 := (uh HR1).lt
 have l0 := ((uh RB).below h1b).lt
 have l2 := ((uh YB1).below hb2).lt
 clear hb2 b2 C2 h1b
 try unfold errv
 go_wp2_with fail
 generalize w2.alloc (.cells #[.int .i64 0, .string ⟨#[]⟩, .nilIface] 159) = W at *
 obtain ⟨t0, t1, t2⟩ := (uh HT).three
 obtain ⟨r0, r1, r2⟩ := (uh HR).three
 obtain ⟨y0, y1, y2⟩ := (uh HY).three
 obtain ⟨x0, x1, x2⟩ := (uh HX).three
 have zt := (uh HT).fz
 have zr := (uh HR).fz
 have ltt := (uh HT).lt
 have ltr := (uh HR).lt
 have n1 : ¬ (w1.heap.size = w.heap.size + 1) := by omega
 have n2 : ¬ (w1.heap.size = w.heap.size + 2) := by omega
 have n3 : ¬ (w2.heap.size = w.heap.size + 1) := by omega
 have n4 : ¬ (w2.heap.size = w.heap.size + 2) := by omega
 have m1 : ¬ (w.heap.size + 1 = w1.heap.size) := by omega
 have m2 : ¬ (w.heap.size + 1 + 1 = w1.heap.size) := by omega
 have m3 : ¬ (w.heap.size + 1 = w2.heap.size) := by omega
 have m4 : ¬ (w.heap.size + 1 + 1 = w2.heap.size) := by omega
 go_region_held3 (fun w' => w'.cell? ⟨w1.heap.size, 0, none⟩ = some (.int .i64 t.place) ∧ w'.cell? ⟨w1.heap.size, 1, none⟩ = some (.string t.name) ∧ w'.cell? ⟨w1.heap.size, 2, none⟩ = some (.slice va vn vc) ∧ w'.cell? ⟨w2.heap.size, 0, none⟩ = some (.int .i64 0) ∧ w'.cell? ⟨w2.heap.size, 1, none⟩ = some (.string ⟨#[]⟩) ∧ w'.cell? ⟨w2.heap.size, 2, none⟩ = some .nilIface) (go_keep) (fail)
 go_wp2
 refine bodyPost_ret (v := .tuple #[.agg #[.int .i64 t.place, .string t.name, .slice va vn vc], .agg #[.int .i64 0, .string ⟨#[]⟩, .nilIface], errv 5]) (res_cct Tryz.results94 _ _ (w.heap.size + 1) (w.heap.size + 2) _ _ 110 159 _ _ _ rfl rfl rfl ?hB ?hC Tryz.underlying110 rfl (by kernel_rfl) Tryz.underlying159 rfl (by kernel_rfl)) rfl ?post
 case hB => exact ⟨_, (by repeat (first | with_reducible exact uh HT | with_reducible apply Blk.alloc | with_reducible apply Blk.drew | with_reducible apply Blk.set | (with_reducible apply Blk.other; case ha => exact (by first | omega | (simp; omega) | simp | (simp; done))))), by rfl⟩
 case hC => exact ⟨_, (by repeat (first | with_reducible exact uh HR | with_reducible apply Blk.alloc | with_reducible apply Blk.drew | with_reducible apply Blk.set | (with_reducible apply Blk.other; case ha => exact (by first | omega | (simp; omega) | simp | (simp; done))))), by rfl⟩
 case post => exact ⟨rfl, (by repeat (first | with_reducible exact uh B2 | with_reducible refine Below.drew ?_ | (with_reducible refine Below.setCell ?_ ?_ _; rotate_left; exact (by first | omega | (simp; omega) | simp | (simp; done))) | (with_reducible refine Below.alloc ?_ ?_ _; rotate_left; exact (by first | omega | (simp; omega) | simp | (simp; done)))))⟩
set_option maxHeartbeats 2000000 in
set_option maxRecDepth 100000 in
theorem findR_yes (b : Nat) (sv : Value) (ts : List Ty) (tl : List (Ty × Value)) (s1 s2 : ByteArray) (w : World) (h : MC b w sv ts tl) (t : Ty) (hf : findTy ts s1 = some t) (r : Rl) (hq : findRl t s2 = some r) :
  ∃ va vn vc rl ra rv, r ∈ t.rels ∧ RC b w (.slice va vn vc) t.rels rl ∧ RepEx b w r.body (.iface ra rv) ∧ Calls Tryz.prog 94 #[.agg #[sv], .string s1, .string s2] w fun e w' => e = .returned (.tuple #[.agg #[.int .i64 t.place, .string t.name, .slice va vn vc], .agg #[.int .i64 r.place, .string r.name, .iface ra rv], .nilIface]) ∧ Below w.heap.size w w' := by
 obtain ⟨va, vn, vc, rl, hrc, hc1⟩ := mfind_at b _ ts tl s1 _ h t hf
 obtain ⟨ra, rv, hrep, hmem, hc2⟩ := tfind_at b t.place t.name _ t rl s2 _ hrc r hq
 refine ⟨va, vn, vc, rl, ra, rv, hmem, hrc, hrep, ?_⟩
 obtain ⟨ma, mn, mc, rfl⟩ := h.form
 have W0 : Below w.heap.size w (((w.alloc (.cells #[.slice ma mn mc] 75)).alloc (.cells #[.int .i64 0, .string ⟨#[]⟩, .slice none 0 0] 110)).alloc (.cells #[.int .i64 0, .string ⟨#[]⟩, .nilIface] 159)) := (((Below.refl _ _).alloc (Nat.le_refl _) _).alloc (by simp) _).alloc (by simp; omega) _
 have HM0 := hide (h.below W0)
 have HW0 := hide W0
 have TB := hide ((Blk.new' (w.alloc (.cells #[.slice ma mn mc] 75)) #[.int .i64 0, .string ⟨#[]⟩, .slice none 0 0] 110 (w.heap.size + 1) (by simp)).alloc (.cells #[.int .i64 0, .string ⟨#[]⟩, .nilIface] 159))
 have RB := hide (Blk.new' ((w.alloc (.cells #[.slice ma mn mc] 75)).alloc (.cells #[.int .i64 0, .string ⟨#[]⟩, .slice none 0 0] 110)) #[.int .i64 0, .string ⟨#[]⟩, .nilIface] 159 (w.heap.size + 2) (by simp))
 have C := hide (hc1 _ W0)
 have HRC := hide (hrc.below W0)
 have D2 := hide hc2
 clear hc1 hc2 hrep hmem hrc hf hq h W0
 go_enter Tryz.func94, Tryz.ntmps94
 go_wp2_with fail
 refine (uh C).mono ?_
 rintro e w1 ⟨rfl, hb1⟩
 have b1 := hb1.alloc hb1.size (.cells #[.int .i64 t.place, .string t.name, .slice va vn vc] 110)
 have B1 := hide ((uh HW0).trans (b1.mono (uh HW0).size))
 have HT1 := hide ((uh TB).below b1)
 have HR1 := hide ((uh RB).below b1)
 have RC1 := hide ((uh HRC).below b1)
 have YB1 := hide (Blk.new w1 #[.int .i64 t.place, .string t.name, .slice va vn vc] 110)
 have h1b := hb1
 clear hb1 b1 C
 have C2 := hide (uh D2 _ (uh B1))
 go_wp2_with fail
 refine (uh C2).mono ?_
 rintro e w2 ⟨rfl, hb2⟩
 have b2 := hb2.alloc hb2.size (.cells #[.int .i64 r.place, .string r.name, .iface ra rv] 159)
 have B2 := hide ((uh B1).trans (b2.mono (uh B1).size))
 have HT := hide ((uh HT1).below b2)
 have HR := hide ((uh HR1).below b2)
 have HY := hide ((uh YB1).below b2)
 have HX := hide (Blk.new w2 #[.int .i64 r.place, .string r.name, .iface ra rv] 159)
 have l1 := (uh HR1).lt
 have l0 := ((uh RB).below h1b).lt
 have l2 := ((uh YB1).below hb2).lt
 clear hb2 b2 C2 h1b
 try unfold errv
 go_wp2_with fail
 generalize w2.alloc (.cells #[.int .i64 r.place, .string r.name, .iface ra rv] 159) = W at *
 obtain ⟨t0, t1, t2⟩ := (uh HT).three
 obtain ⟨r0, r1, r2⟩ := (uh HR).three
 obtain ⟨y0, y1, y2⟩ := (uh HY).three
 obtain ⟨x0, x1, x2⟩ := (uh HX).three
 have zt := (uh HT).fz
 have zr := (uh HR).fz
 have ltt := (uh HT).lt
 have ltr := (uh HR).lt
 have n1 : ¬ (w1.heap.size = w.heap.size + 1) := by omega
 have n2 : ¬ (w1.heap.size = w.heap.size + 2) := by omega
 have n3 : ¬ (w2.heap.size = w.heap.size + 1) := by omega
 have n4 : ¬ (w2.heap.size = w.heap.size + 2) := by omega
 have m1 : ¬ (w.heap.size + 1 = w1.heap.size) := by omega
 have m2 : ¬ (w.heap.size + 1 + 1 = w1.heap.size) := by omega
 have m3 : ¬ (w.heap.size + 1 = w2.heap.size) := by omega
 have m4 : ¬ (w.heap.size + 1 + 1 = w2.heap.size) := by omega
 go_region_held3 (fun w' => w'.cell? ⟨w1.heap.size, 0, none⟩ = some (.int .i64 t.place) ∧ w'.cell? ⟨w1.heap.size, 1, none⟩ = some (.string t.name) ∧ w'.cell? ⟨w1.heap.size, 2, none⟩ = some (.slice va vn vc) ∧ w'.cell? ⟨w2.heap.size, 0, none⟩ = some (.int .i64 r.place) ∧ w'.cell? ⟨w2.heap.size, 1, none⟩ = some (.string r.name) ∧ w'.cell? ⟨w2.heap.size, 2, none⟩ = some (.iface ra rv)) (go_keep) (fail)
 go_wp2
 refine bodyPost_ret (v := .tuple #[.agg #[.int .i64 t.place, .string t.name, .slice va vn vc], .agg #[.int .i64 r.place, .string r.name, .iface ra rv], .nilIface]) (res_cct Tryz.results94 _ _ (w.heap.size + 1) (w.heap.size + 2) _ _ 110 159 _ _ _ rfl rfl rfl ?hB ?hC Tryz.underlying110 rfl (by kernel_rfl) Tryz.underlying159 rfl (by kernel_rfl)) rfl ?post
 case hB => exact ⟨_, (by repeat (first | with_reducible exact uh HT | with_reducible apply Blk.alloc | with_reducible apply Blk.drew | with_reducible apply Blk.set | (with_reducible apply Blk.other; case ha => exact (by first | omega | (simp; omega) | simp | (simp; done))))), by rfl⟩
 case hC => exact ⟨_, (by repeat (first | with_reducible exact uh HR | with_reducible apply Blk.alloc | with_reducible apply Blk.drew | with_reducible apply Blk.set | (with_reducible apply Blk.other; case ha => exact (by first | omega | (simp; omega) | simp | (simp; done))))), by rfl⟩
 case post => exact ⟨rfl, (by repeat (first | with_reducible exact uh B2 | with_reducible refine Below.drew ?_ | (with_reducible refine Below.setCell ?_ ?_ _; rotate_left; exact (by first | omega | (simp; omega) | simp | (simp; done))) | (with_reducible refine Below.alloc ?_ ?_ _; rotate_left; exact (by first | omega | (simp; omega) | simp | (simp; done)))))⟩
def needsAtP (ts : List Ty) (s : Sp) : List Sp := match findTy ts s.1 with
 | none => []
 | some t => match findRl t s.2 with
  | none => []
  | some r => needsP ts t r r.body
set_option maxHeartbeats 2000000 in
set_option maxRecDepth 100000 in
theorem needsAt_any (b : Nat) (sv : Value) (ts : List Ty) (tl : List (Ty × Value)) (s1 s2 : ByteArray) (w : World) (h : MC b w sv ts tl) :
  Calls Tryz.prog 209 #[.agg #[sv], .agg #[.string s1, .string s2]] w fun e' w' => ∃ sv, e' = .returned sv ∧ Below w.heap.size w w' ∧ RepSp w.heap.size w' sv (needsAtP ts (s1, s2)) := by
 obtain ⟨ma, mn, mc, rfl⟩ := h.form
 have W0 : Below w.heap.size w ((w.alloc (.cells #[.slice ma mn mc] 75)).alloc (.cells #[.string s1, .string s2] 291)) := ((Below.refl _ _).alloc (Nat.le_refl _) _).alloc (by simp) _
 have HM0 := hide (h.below W0)
 have MB := hide ((Blk.new w #[.slice ma mn mc] 75).alloc (.cells #[.string s1, .string s2] 291))
 have SB := hide (Blk.new' (w.alloc (.cells #[.slice ma mn mc] 75)) #[.string s1, .string s2] 291 (w.heap.size + 1) (by simp))
 have HW0 := hide W0
 clear W0 h
 unfold needsAtP
 cases hf : findTy ts s1 with
 | none =>
  have C := hide (findR_none b _ ts tl s1 s2 _ (uh HM0) hf)
  clear hf
  simp only
  go_enter Tryz.func209, Tryz.ntmps209
  go_wp2_with fail
  refine (uh C).mono ?_
  rintro e w1 ⟨rfl, hb1⟩
  have B1 := hide ((uh HW0).trans (hb1.mono (uh HW0).size))
  have sz := (uh B1).size
  clear hb1
  unfold errv
  go_wp2
  go_ret
  exact ⟨_, rfl, (by repeat (first | with_reducible exact uh B1 | with_reducible refine Below.drew ?_ | (with_reducible refine Below.setCell ?_ ?_ _; rotate_left; exact (by first | omega | (simp; omega) | simp | (simp; done))) | (with_reducible refine Below.alloc ?_ ?_ _; rotate_left; exact (by first | omega | (simp; omega) | simp | (simp; done))))), RepSp.nil _ _⟩
 | some t =>
  simp only
  cases hq : findRl t s2 with
  | none =>
   obtain ⟨va, vn, vc, hcall⟩ := findR_miss b _ ts tl s1 s2 _ (uh HM0) t hf hq
   have C := hide hcall
   clear hf hq hcall
   simp only
   go_enter Tryz.func209, Tryz.ntmps209
   go_wp2_with fail
   refine (uh C).mono ?_
   rintro e w1 ⟨rfl, hb1⟩
   have B1 := hide ((uh HW0).trans (hb1.mono (uh HW0).size))
   have sz := (uh B1).size
   clear hb1
   unfold errv
   go_wp2
   go_ret
   exact ⟨_, rfl, (by repeat (first | with_reducible exact uh B1 | with_reducible refine Below.drew ?_ | (with_reducible refine Below.setCell ?_ ?_ _; rotate_left; exact (by first | omega | (simp; omega) | simp | (simp; done))) | (with_reducible refine Below.alloc ?_ ?_ _; rotate_left; exact (by first | omega | (simp; omega) | simp | (simp; done))))), RepSp.nil _ _⟩
  | some r =>
   obtain ⟨va, vn, vc, rl, ra, rv, hmem, hrc, hrep, hcall⟩ := findR_yes b _ ts tl s1 s2 _ (uh HM0) t hf r hq
   have C := hide hcall
   have okp := hrc.okp r hmem
   have HRC := hide hrc
   have HREP := hide hrep
   have HMEM := hide hmem
   clear hf hq hcall hrc hrep hmem
   simp only
   go_enter Tryz.func209, Tryz.ntmps209
   go_wp2_with fail
   refine (uh C).mono ?_
   rintro e w1 ⟨rfl, hb1⟩
   have b1 := hb1.alloc hb1.size (.cells #[.int .i64 t.place, .string t.name, .slice va vn vc] 110)
   have b2 := b1.alloc b1.size (.cells #[.int .i64 r.place, .string r.name, .iface ra rv] 159)
   have B2 := hide ((uh HW0).trans (b2.mono (uh HW0).size))
   have RC2 := hide ((uh HRC).below b2)
   have HM2 := hide ((uh HM0).below b2)
   have X2 := hide ((uh HREP).but (But.of_below b2))
   have m0 : w1.cell? ⟨w.heap.size, 0, none⟩ = some (.slice ma mn mc) := ((uh MB).below hb1).cell rfl
   have ml := ((uh MB).below hb1).lt
   have sz2 := (uh B2).size
   clear hb1 b1 b2 C
   go_wp2_with fail
   refine (needs_any b _ ts tl t _ rl r _ r.body _ _ (uh HM2) (uh RC2) (uh X2) (uh HMEM) (uh X2) okp).mono ?_
   rintro e w3 ⟨sv3, rfl, hb3, hrs⟩
   have B3 := hide ((uh B2).trans (hb3.mono (uh B2).size))
   have S3 := hide (hrs.base sz2)
   clear hb3 hrs
   go_wp2
   go_ret
   exact ⟨_, rfl, uh B3, uh S3⟩
def eqSp (a c : Sp) : Bool := eqs a.1 c.1 && eqs a.2 c.2
theorem eqSpot (a c x y : ByteArray) (w : World) : (Op.equalIn 10000 291 (.agg #[.string a, .string c]) (.agg #[.string x, .string y])).run Tryz.prog w = .ok (eqSp (a, c) (x, y)) w := by
 have u9 := Tryz.underlying9
 rw [show (10000 : Nat) = 9999 + 1 from rfl, run_equalIn_agg w 9999 291 _ _ (by kernel_rfl) (by kernel_rfl)]
 simp only [Program.fieldsOf, Tryz.underlying291]
 go_simp
 rw [show eqSp (a, c) (x, y) = (decide (a.toList = x.toList) && decide (c.toList = y.toList)) from by
  unfold eqSp eqs
  rw [toList_lst, toList_lst, toList_lst, toList_lst]
  simp [Bool.beq_eq_decide_eq]]
 by_cases h1 : a.toList = x.toList <;> by_cases h2 : c.toList = y.toList <;> simp [h1, h2]
theorem drewN_heap (w : World) : ∀ n, (w.drewN n).heap = w.heap
 | 0 => rfl
 | n + 1 => rfl
theorem Blk.drewN {w : World} {g : Nat} {cs : Array Value} {T : TypeId} (h : Blk w g cs T) (n : Nat) : Blk (w.drewN n) g cs T := by unfold Blk; rw [drewN_heap]; exact h
theorem guardSpot (x y : Operand) (xs ys : Array Value) (w : World) : (eqGuard .eql 291 x y (.agg xs) (.agg ys)).run Tryz.prog w = .ok () w := run_eqGuard_agg w .eql 291 x y xs ys (by kernel_rfl)
set_option maxHeartbeats 2000000 in
set_option maxRecDepth 100000 in
theorem indexSp (base : Nat) (v : Value) (l : List Sp) (x : Sp) (w : World) (hl : l.length ≤ 10000000000000) (h : w.ownsRow base 291 2 v l.length (spCells l)) :
  Calls Tryz.prog 224 #[v, .agg #[.string x.1, .string x.2]] w fun e w' => ∃ n : Int, e = .returned (.int .i64 n) ∧ decide (0 ≤ n) = l.any (fun y => eqSp x y) ∧ Below w.heap.size w w' := by
 obtain ⟨sa, sc, rfl⟩ := own_form h
 have H := hide h
 have eqs0 := eqSpot
 have gds0 := guardSpot
 clear h
 go_enter Tryz.func224, Tryz.ntmps224
 go_wp2
 go_loopw [5, 8] (fun u i wr => ∃ k : Nat, k ≤ l.length ∧ i = .int .i64 k ∧ Below w.heap.size w wr ∧ Blk wr w.heap.size #[.string x.1, .string x.2] 291 ∧ Hid (∀ j, (h : j < l.length) → j < k → eqSp x l[j] = false)) (fun _ i _ => l.length - (intOf i).toNat)
 case atStart => exact ⟨0, by omega, rfl, (Below.refl _ _).alloc (Nat.le_refl _) _, Blk.new _ _ _, hide (fun j e h => by omega)⟩
 case round =>
  obtain ⟨k, hk, rfl, hb, hbx, Hall⟩ := hrel
  have HB := hide hb
  have HBX := hide hbx
  by_cases hlt : k < l.length
  ·obtain ⟨g, c, e1, k0, k1⟩ := Row2.cell (ownsRow_frame (w' := wr) (uh H) (fun g cs f _ hh => hb.block g (lt_of_some hh))) k l[k] (List.getElem?_eq_getElem hlt)
   simp only [Value.slice.injEq] at e1
   obtain ⟨rfl, _, rfl⟩ := e1
   obtain ⟨b0, b1⟩ := hbx.two
   have hkn : (k : Int) < (l.length : Int) := by omega
   have hk0 : (0 : Int) ≤ (k : Int) := by omega
   clear hb hbx
   cases he : eqSp x l[k]
   ·have he' : eqSp (x.1, x.2) (l[k].1, l[k].2) = false := he
    have Hn := hide (show ∀ j, (h : j < l.length) → j < k + 1 → eqSp x l[j] = false from fun j h h' => by
     by_cases e : j = k
     ·subst e; exact he
     ·exact uh Hall j h (by omega))
    clear he
    go_wp2
    go_quiet (fail)
    go_wp2
    go_roundw
    case rel => exact ⟨k + 1, by omega, by go_num, below_drewN (uh HB) _, (uh HBX).drewN _, Hn⟩
    case measure => simp [intOf]; omega
   ·have he' : eqSp (x.1, x.2) (l[k].1, l[k].2) = true := he
    have Hfin := hide (show l.any (fun y => eqSp x y) = true from List.any_eq_true.2 ⟨l[k], List.getElem_mem hlt, he⟩)
    clear he
    go_wp2
    go_quiet (fail)
    go_wp2
    go_ret
    exact ⟨k, rfl, by rw [uh Hfin]; simp, below_drewN (uh HB) _⟩
  ·have Hfin := hide (show l.any (fun y => eqSp x y) = false from by
    rw [List.any_eq_false]
    intro y hy
    obtain ⟨j, hj, rfl⟩ := List.getElem_of_mem hy
    rw [uh Hall j hj (by omega)]; simp)
   have hkn : ¬ ((k : Int) < (l.length : Int)) := by omega
   clear hb hbx
   go_wp2
   go_ret
   exact ⟨-1, rfl, by rw [uh Hfin]; decide, uh HB⟩
set_option maxHeartbeats 1000000 in
set_option maxRecDepth 100000 in
theorem containsSp (base : Nat) (v : Value) (l : List Sp) (x : Sp) (w : World) (hl : l.length ≤ 10000000000000) (h : w.ownsRow base 291 2 v l.length (spCells l)) :
  Calls Tryz.prog 176 #[v, .agg #[.string x.1, .string x.2]] w fun e w' => e = .returned (.bool (l.any (fun y => eqSp x y))) ∧ Below w.heap.size w w' := by
 have C := hide (fun w' (hb : Below w.heap.size w w') => indexSp base v l x w' hl (ownsRow_frame h (fun g cs f _ hh => hb.block g (lt_of_some hh))))
 obtain ⟨sa, sc, rfl⟩ := own_form h
 clear h
 go_enter Tryz.func176, Tryz.ntmps176
 go_wp2_with fail
 refine (uh C _ ((Below.refl _ _).alloc (Nat.le_refl _) _)).mono ?_
 rintro e w1 ⟨n, rfl, hn, hb1⟩
 have B1 := hide (((Below.refl _ w).alloc (Nat.le_refl _) (.cells #[.string x.1, .string x.2] 291)).trans (hb1.mono (by simp)))
 have HN := hide hn
 clear hn hb1
 go_wp2
 go_ret
 exact ⟨by rw [← uh HN]; rfl, uh B1⟩
/-! What hangs on what. -/
theorem eqs_iff (a c : ByteArray) : eqs a c = true ↔ a = c := by
 unfold eqs
 rw [beq_iff_eq]
 constructor
 ·intro h; rw [← mk_lst a, ← mk_lst c, h]
 ·rintro rfl; rfl
theorem eqSp_iff (a c : Sp) : eqSp a c = true ↔ a = c := by
 unfold eqSp
 rw [Bool.and_eq_true, eqs_iff, eqs_iff]
 obtain ⟨a1, a2⟩ := a
 obtain ⟨c1, c2⟩ := c
 simp
end Go.Proofs.YtlbpnlngckgcbaaGreatDoor
