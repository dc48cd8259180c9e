import Derived.Test.YtlbpnlngckgcbaaGreatDoorCList
namespace Go.Proofs.YtlbpnlngckgcbaaGreatDoor
open Go.RowKit Go.PlainAid
set_option linter.unusedSimpArgs false
set_option linter.unusedVariables false
theorem results_cct {fn : Func} {p q u : Tmp} {ty ty2 : TypeId} (h : fn.results = #[.cell p ty, .cell q ty2, .tmp u]) (tmps : Array Value) (P : Program) (w : World) :
    (results fn tmps).run P w =
      ((asAddr (tmps.getD p undef)).run P w).andThen fun a w₁ => ((loadVar ty a).run P w₁).andThen fun v w₂ => ((asAddr (tmps.getD q undef)).run P w₂).andThen fun a2 w₃ => ((loadVar ty2 a2).run P w₃).andThen fun v2 w₄ => .ok (.tuple #[v, v2, tmps.getD u undef]) w₄ := by
  simp only [results, h]
  simp [Sem.run_bind, Result.andThen]
/-- Two structs and a value. -/
theorem res_cct {P : Program} {fn : Func} {p q u : Tmp} {ty ty2 : TypeId} (h : fn.results = #[.cell p ty, .cell q ty2, .tmp u]) (tmps : Array Value) (w : World) (g g2 : Nat) (cs cs2 : Array Value) (t t2 : TypeId) (e : Value) (d d2 : TypeDesc)
    (hp : tmps.getD p undef = .pointer (some ⟨g, 0, none⟩)) (hp2 : tmps.getD q undef = .pointer (some ⟨g2, 0, none⟩)) (hq : tmps.getD u undef = e) (hb : ∃ x, Blk w g x t ∧ x = cs) (hb2 : ∃ x, Blk w g2 x t2 ∧ x = cs2)
    (hu : P.underlying ty = some d) (hd : (match d with | .struct _ | .array _ _ => true | _ => false) = true) (hi : (P.info? ty).map (·.size) = some cs.size)
    (hu2 : P.underlying ty2 = some d2) (hd2 : (match d2 with | .struct _ | .array _ _ => true | _ => false) = true) (hi2 : (P.info? ty2).map (·.size) = some cs2.size) :
    (results fn tmps).run P w = .ok (.tuple #[.agg cs, .agg cs2, e]) w := by
  obtain ⟨x, hb, rfl⟩ := hb
  obtain ⟨y, hb2, rfl⟩ := hb2
  rw [results_cct h, hp, hp2, hq]
  simp [asAddr, Result.andThen, run_loadVar_row w g t ty x (0, 0) d hb hu hd hi, run_loadVar_row w g2 t2 ty2 y (0, 0) d2 hb2 hu2 hd2 hi2]

theorem mfind_at (b : Nat) (sv : Value) (ts : List Ty) (tl : List (Ty × Value)) (x : ByteArray) (w : World) (h : MC b w sv ts tl) (t : Ty) (hf : findTy ts x = some t) :
    ∃ va vn vc rl, RC b w (.slice va vn vc) t.rels rl ∧ ∀ w1, Below w.heap.size w w1 → Calls Tryz.prog 57 #[.agg #[sv], .string x] w1 fun e w' => e = .returned (.tuple #[.agg #[.int .i64 t.place, .string t.name, .slice va vn vc], .nilIface]) ∧ Below w1.heap.size w1 w' := by
  rw [← h.fst, findTy_map] at hf
  cases hq : tl.find? (fun p => eqs p.1.name x) with
  | none => rw [hq] at hf; cases hf
  | some y =>
    rw [hq] at hf
    simp only [Option.map_some, Option.some.injEq] at hf
    subst hf
    obtain ⟨rl, hr⟩ := h.rels y (List.mem_of_find?_eq_some hq)
    obtain ⟨a, n, c, e⟩ := hr.form
    have hr' := hr
    rw [e] at hr'
    refine ⟨a, n, c, rl, hr', fun w1 k => ?_⟩
    have := find_yes_T sv (tl.map t3) x w1 h.llen (h.below k).row (t3 y) (by rw [find3_t3, hq]; rfl) ⟨a, n, c, e⟩
    have e2 : (t3 y).2.2 = .slice a n c := e
    rw [e2] at this
    exact this
theorem tfind_at (b pp : Nat) (nn : ByteArray) (sv : Value) (t : Ty) (rl : List (Rl × Value)) (x : ByteArray) (w : World) (h : RC b w sv t.rels rl) (r : Rl) (hf : findRl t x = some r) :
    ∃ ta va, RepEx b w r.body (.iface ta va) ∧ r ∈ t.rels ∧ ∀ w1, Below w.heap.size w w1 → Calls Tryz.prog 145 #[.agg #[.int .i64 pp, .string nn, sv], .string x] w1 fun e w' => e = .returned (.tuple #[.agg #[.int .i64 r.place, .string r.name, .iface ta va], .nilIface]) ∧ Below w1.heap.size w1 w' := by
  have hmem : r ∈ t.rels := List.mem_of_find?_eq_some hf
  unfold findRl at hf
  rw [← h.fst, List.find?_map, show ((fun r : Rl => eqs r.name x) ∘ Prod.fst) = (fun p : Rl × Value => eqs p.1.name x) from rfl] at hf
  cases hq : rl.find? (fun p => eqs p.1.name x) with
  | none => rw [hq] at hf; cases hf
  | some y =>
    rw [hq] at hf
    simp only [Option.map_some, Option.some.injEq] at hf
    subst hf
    have hr := h.ex y (List.mem_of_find?_eq_some hq)
    obtain ⟨ta, va, e⟩ := hr.isI
    have hr' := hr
    rw [e] at hr'
    refine ⟨ta, va, hr', hmem, fun w1 k => ?_⟩
    have := find_yes_R pp nn sv (rl.map r3) x w1 h.llen (h.below k).row (r3 y) (by rw [find3_r3, hq]; rfl) ⟨ta, va, e⟩
    have e2 : (r3 y).2.2 = .iface ta va := e
    rw [e2] at this
    exact this

set_option maxHeartbeats 2000000 in
set_option maxRecDepth 100000 in
theorem findR_none (b : Nat) (sv : Value) (ts : List Ty) (tl : List (Ty × Value)) (s1 s2 : ByteArray) (w : World) (h : MC b w sv ts tl) (hf : findTy ts s1 = none) :
    Calls Tryz.prog 94 #[.agg #[sv], .string s1, .string s2] w fun e w' => e = .returned (.tuple #[.agg #[.int .i64 0, .string ⟨#[]⟩, .slice none 0 0], .agg #[.int .i64 0, .string ⟨#[]⟩, .nilIface], errv 5]) ∧ Below w.heap.size w w' := by
  obtain ⟨ma, mn, mc, rfl⟩ := h.form
  have W0 : Below w.heap.size w (((w.alloc (.cells #[.slice ma mn mc] 75)).alloc (.cells #[.int .i64 0, .string ⟨#[]⟩, .slice none 0 0] 110)).alloc (.cells #[.int .i64 0, .string ⟨#[]⟩, .nilIface] 159)) := (((Below.refl _ _).alloc (Nat.le_refl _) _).alloc (by simp) _).alloc (by simp; omega) _
  have HM0 := hide (h.below W0)
  have HW0 := hide W0
  have TB := hide ((Blk.new' (w.alloc (.cells #[.slice ma mn mc] 75)) #[.int .i64 0, .string ⟨#[]⟩, .slice none 0 0] 110 (w.heap.size + 1) (by simp)).alloc (.cells #[.int .i64 0, .string ⟨#[]⟩, .nilIface] 159))
  have RB := hide (Blk.new' ((w.alloc (.cells #[.slice ma mn mc] 75)).alloc (.cells #[.int .i64 0, .string ⟨#[]⟩, .slice none 0 0] 110)) #[.int .i64 0, .string ⟨#[]⟩, .nilIface] 159 (w.heap.size + 2) (by simp))
  have C := hide (mfind_no b _ ts tl s1 _ (unhide HM0) hf)
  clear h W0 hf
  go_enter Tryz.func94, Tryz.ntmps94
  go_wp2_with fail
  refine (unhide C).mono ?_
  rintro e w1 ⟨rfl, hb1⟩
  have B1 := hide ((unhide HW0).trans (hb1.mono (unhide HW0).size))
  have HT := hide ((unhide TB).below hb1)
  have HR := hide ((unhide RB).below hb1)
  obtain ⟨t0, t1, t2⟩ := (unhide HT).three
  obtain ⟨r0, r1, r2⟩ := (unhide HR).three
  have zt := (unhide HT).fz
  have zr := (unhide HR).fz
  have ltt := (unhide HT).lt
  have ltr := (unhide HR).lt
  clear hb1 C
  unfold errv
  go_wp2
  refine bodyPost_ret (v := .tuple #[.agg #[.int .i64 0, .string ⟨#[]⟩, .slice none 0 0], .agg #[.int .i64 0, .string ⟨#[]⟩, .nilIface], errv 5]) (res_cct Tryz.results94 _ _ (w.heap.size + 1) (w.heap.size + 2) _ _ 110 159 _ _ _ rfl rfl rfl ?hB ?hC Tryz.underlying110 rfl (by kernel_rfl) Tryz.underlying159 rfl (by kernel_rfl)) rfl ?post
  case hB => exact ⟨_, (by repeat (first | with_reducible exact unhide HT | with_reducible apply Blk.alloc | with_reducible apply Blk.drew | with_reducible apply Blk.set | (with_reducible apply Blk.other; case ha => exact (by first | omega | (simp; omega) | simp | (simp; done))))), by rfl⟩
  case hC => exact ⟨_, (by repeat (first | with_reducible exact unhide HR | with_reducible apply Blk.alloc | with_reducible apply Blk.drew | with_reducible apply Blk.set | (with_reducible apply Blk.other; case ha => exact (by first | omega | (simp; omega) | simp | (simp; done))))), by rfl⟩
  case post => exact ⟨rfl, (by repeat (first | with_reducible exact unhide B1 | with_reducible refine Below.drew ?_ | (with_reducible refine Below.setCell ?_ ?_ _; rotate_left; exact (by first | omega | (simp; omega) | simp | (simp; done))) | (with_reducible refine Below.alloc ?_ ?_ _; rotate_left; exact (by first | omega | (simp; omega) | simp | (simp; done)))))⟩

set_option maxHeartbeats 2000000 in
set_option maxRecDepth 100000 in
theorem findR_miss (b : Nat) (sv : Value) (ts : List Ty) (tl : List (Ty × Value)) (s1 s2 : ByteArray) (w : World) (h : MC b w sv ts tl) (t : Ty) (hf : findTy ts s1 = some t) (hq : findRl t s2 = none) :
    ∃ va vn vc, Calls Tryz.prog 94 #[.agg #[sv], .string s1, .string s2] w fun e w' => e = .returned (.tuple #[.agg #[.int .i64 t.place, .string t.name, .slice va vn vc], .agg #[.int .i64 0, .string ⟨#[]⟩, .nilIface], errv 5]) ∧ Below w.heap.size w w' := by
  obtain ⟨ma, mn, mc, rfl⟩ := h.form
  have W0 : Below w.heap.size w (((w.alloc (.cells #[.slice ma mn mc] 75)).alloc (.cells #[.int .i64 0, .string ⟨#[]⟩, .slice none 0 0] 110)).alloc (.cells #[.int .i64 0, .string ⟨#[]⟩, .nilIface] 159)) := (((Below.refl _ _).alloc (Nat.le_refl _) _).alloc (by simp) _).alloc (by simp; omega) _
  have HM0 := hide (h.below W0)
  have HW0 := hide W0
  have TB := hide ((Blk.new' (w.alloc (.cells #[.slice ma mn mc] 75)) #[.int .i64 0, .string ⟨#[]⟩, .slice none 0 0] 110 (w.heap.size + 1) (by simp)).alloc (.cells #[.int .i64 0, .string ⟨#[]⟩, .nilIface] 159))
  have RB := hide (Blk.new' ((w.alloc (.cells #[.slice ma mn mc] 75)).alloc (.cells #[.int .i64 0, .string ⟨#[]⟩, .slice none 0 0] 110)) #[.int .i64 0, .string ⟨#[]⟩, .nilIface] 159 (w.heap.size + 2) (by simp))
  obtain ⟨va, vn, vc, rl, hrc, hcall⟩ := mfind_yes b _ ts tl s1 _ (unhide HM0) t hf
  refine ⟨va, vn, vc, ?_⟩
  have C := hide hcall
  have HRC := hide hrc
  have HQ := hide hq
  clear hcall hrc hf hq h W0
  go_enter Tryz.func94, Tryz.ntmps94
  go_wp2_with fail
  refine (unhide C).mono ?_
  rintro e w1 ⟨rfl, hb1⟩
  have b1 := hb1.alloc hb1.size (.cells #[.int .i64 t.place, .string t.name, .slice va vn vc] 110)
  have B1 := hide ((unhide HW0).trans (b1.mono (unhide HW0).size))
  have HT1 := hide ((unhide TB).below b1)
  have HR1 := hide ((unhide RB).below b1)
  have RC1 := hide ((unhide HRC).below b1)
  have YB1 := hide (Blk.new w1 #[.int .i64 t.place, .string t.name, .slice va vn vc] 110)
  have h1b := hb1
  clear hb1 b1 C
  have C2 := hide (tfind_no b t.place t.name _ t rl s2 _ (unhide RC1) (unhide HQ))
  go_wp2_with fail
  refine (unhide C2).mono ?_
  rintro e w2 ⟨rfl, hb2⟩
  have b2 := hb2.alloc hb2.size (.cells #[.int .i64 0, .string ⟨#[]⟩, .nilIface] 159)
  have B2 := hide ((unhide B1).trans (b2.mono (unhide B1).size))
  have HT := hide ((unhide HT1).below b2)
  have HR := hide ((unhide HR1).below b2)
  have HY := hide ((unhide YB1).below b2)
  have HX := hide (Blk.new w2 #[.int .i64 0, .string ⟨#[]⟩, .nilIface] 159)
  have l1 := (unhide HR1).lt
  have l0 := ((unhide RB).below h1b).lt
  have l2 := ((unhide YB1).below hb2).lt
  clear hb2 b2 C2 h1b
  try unfold errv
  go_wp2_with fail
  generalize w2.alloc (.cells #[.int .i64 0, .string ⟨#[]⟩, .nilIface] 159) = W at *
  obtain ⟨t0, t1, t2⟩ := (unhide HT).three
  obtain ⟨r0, r1, r2⟩ := (unhide HR).three
  obtain ⟨y0, y1, y2⟩ := (unhide HY).three
  obtain ⟨x0, x1, x2⟩ := (unhide HX).three
  have zt := (unhide HT).fz
  have zr := (unhide HR).fz
  have ltt := (unhide HT).lt
  have ltr := (unhide HR).lt
  have n1 : ¬ (w1.heap.size = w.heap.size + 1) := by omega
  have n2 : ¬ (w1.heap.size = w.heap.size + 2) := by omega
  have n3 : ¬ (w2.heap.size = w.heap.size + 1) := by omega
  have n4 : ¬ (w2.heap.size = w.heap.size + 2) := by omega
  have m1 : ¬ (w.heap.size + 1 = w1.heap.size) := by omega
  have m2 : ¬ (w.heap.size + 1 + 1 = w1.heap.size) := by omega
  have m3 : ¬ (w.heap.size + 1 = w2.heap.size) := by omega
  have m4 : ¬ (w.heap.size + 1 + 1 = w2.heap.size) := by omega
  go_region_held3 (fun w' => w'.cell? ⟨w1.heap.size, 0, none⟩ = some (.int .i64 t.place) ∧ w'.cell? ⟨w1.heap.size, 1, none⟩ = some (.string t.name) ∧ w'.cell? ⟨w1.heap.size, 2, none⟩ = some (.slice va vn vc) ∧ w'.cell? ⟨w2.heap.size, 0, none⟩ = some (.int .i64 0) ∧ w'.cell? ⟨w2.heap.size, 1, none⟩ = some (.string ⟨#[]⟩) ∧ w'.cell? ⟨w2.heap.size, 2, none⟩ = some .nilIface) (go_keep) (fail)
  go_wp2
  refine bodyPost_ret (v := .tuple #[.agg #[.int .i64 t.place, .string t.name, .slice va vn vc], .agg #[.int .i64 0, .string ⟨#[]⟩, .nilIface], errv 5]) (res_cct Tryz.results94 _ _ (w.heap.size + 1) (w.heap.size + 2) _ _ 110 159 _ _ _ rfl rfl rfl ?hB ?hC Tryz.underlying110 rfl (by kernel_rfl) Tryz.underlying159 rfl (by kernel_rfl)) rfl ?post
  case hB => exact ⟨_, (by repeat (first | with_reducible exact unhide HT | with_reducible apply Blk.alloc | with_reducible apply Blk.drew | with_reducible apply Blk.set | (with_reducible apply Blk.other; case ha => exact (by first | omega | (simp; omega) | simp | (simp; done))))), by rfl⟩
  case hC => exact ⟨_, (by repeat (first | with_reducible exact unhide HR | with_reducible apply Blk.alloc | with_reducible apply Blk.drew | with_reducible apply Blk.set | (with_reducible apply Blk.other; case ha => exact (by first | omega | (simp; omega) | simp | (simp; done))))), by rfl⟩
  case post => exact ⟨rfl, (by repeat (first | with_reducible exact unhide B2 | with_reducible refine Below.drew ?_ | (with_reducible refine Below.setCell ?_ ?_ _; rotate_left; exact (by first | omega | (simp; omega) | simp | (simp; done))) | (with_reducible refine Below.alloc ?_ ?_ _; rotate_left; exact (by first | omega | (simp; omega) | simp | (simp; done)))))⟩

set_option maxHeartbeats 2000000 in
set_option maxRecDepth 100000 in
theorem findR_yes (b : Nat) (sv : Value) (ts : List Ty) (tl : List (Ty × Value)) (s1 s2 : ByteArray) (w : World) (h : MC b w sv ts tl) (t : Ty) (hf : findTy ts s1 = some t) (r : Rl) (hq : findRl t s2 = some r) :
    ∃ va vn vc rl ra rv, r ∈ t.rels ∧ RC b w (.slice va vn vc) t.rels rl ∧ RepEx b w r.body (.iface ra rv) ∧ Calls Tryz.prog 94 #[.agg #[sv], .string s1, .string s2] w fun e w' => e = .returned (.tuple #[.agg #[.int .i64 t.place, .string t.name, .slice va vn vc], .agg #[.int .i64 r.place, .string r.name, .iface ra rv], .nilIface]) ∧ Below w.heap.size w w' := by
  obtain ⟨va, vn, vc, rl, hrc, hc1⟩ := mfind_at b _ ts tl s1 _ h t hf
  obtain ⟨ra, rv, hrep, hmem, hc2⟩ := tfind_at b t.place t.name _ t rl s2 _ hrc r hq
  refine ⟨va, vn, vc, rl, ra, rv, hmem, hrc, hrep, ?_⟩
  obtain ⟨ma, mn, mc, rfl⟩ := h.form
  have W0 : Below w.heap.size w (((w.alloc (.cells #[.slice ma mn mc] 75)).alloc (.cells #[.int .i64 0, .string ⟨#[]⟩, .slice none 0 0] 110)).alloc (.cells #[.int .i64 0, .string ⟨#[]⟩, .nilIface] 159)) := (((Below.refl _ _).alloc (Nat.le_refl _) _).alloc (by simp) _).alloc (by simp; omega) _
  have HM0 := hide (h.below W0)
  have HW0 := hide W0
  have TB := hide ((Blk.new' (w.alloc (.cells #[.slice ma mn mc] 75)) #[.int .i64 0, .string ⟨#[]⟩, .slice none 0 0] 110 (w.heap.size + 1) (by simp)).alloc (.cells #[.int .i64 0, .string ⟨#[]⟩, .nilIface] 159))
  have RB := hide (Blk.new' ((w.alloc (.cells #[.slice ma mn mc] 75)).alloc (.cells #[.int .i64 0, .string ⟨#[]⟩, .slice none 0 0] 110)) #[.int .i64 0, .string ⟨#[]⟩, .nilIface] 159 (w.heap.size + 2) (by simp))
  have C := hide (hc1 _ W0)
  have HRC := hide (hrc.below W0)
  have D2 := hide hc2
  clear hc1 hc2 hrep hmem hrc hf hq h W0
  go_enter Tryz.func94, Tryz.ntmps94
  go_wp2_with fail
  refine (unhide C).mono ?_
  rintro e w1 ⟨rfl, hb1⟩
  have b1 := hb1.alloc hb1.size (.cells #[.int .i64 t.place, .string t.name, .slice va vn vc] 110)
  have B1 := hide ((unhide HW0).trans (b1.mono (unhide HW0).size))
  have HT1 := hide ((unhide TB).below b1)
  have HR1 := hide ((unhide RB).below b1)
  have RC1 := hide ((unhide HRC).below b1)
  have YB1 := hide (Blk.new w1 #[.int .i64 t.place, .string t.name, .slice va vn vc] 110)
  have h1b := hb1
  clear hb1 b1 C
  have C2 := hide (unhide D2 _ (unhide B1))
  go_wp2_with fail
  refine (unhide C2).mono ?_
  rintro e w2 ⟨rfl, hb2⟩
  have b2 := hb2.alloc hb2.size (.cells #[.int .i64 r.place, .string r.name, .iface ra rv] 159)
  have B2 := hide ((unhide B1).trans (b2.mono (unhide B1).size))
  have HT := hide ((unhide HT1).below b2)
  have HR := hide ((unhide HR1).below b2)
  have HY := hide ((unhide YB1).below b2)
  have HX := hide (Blk.new w2 #[.int .i64 r.place, .string r.name, .iface ra rv] 159)
  have l1 := (unhide HR1).lt
  have l0 := ((unhide RB).below h1b).lt
  have l2 := ((unhide YB1).below hb2).lt
  clear hb2 b2 C2 h1b
  try unfold errv
  go_wp2_with fail
  generalize w2.alloc (.cells #[.int .i64 r.place, .string r.name, .iface ra rv] 159) = W at *
  obtain ⟨t0, t1, t2⟩ := (unhide HT).three
  obtain ⟨r0, r1, r2⟩ := (unhide HR).three
  obtain ⟨y0, y1, y2⟩ := (unhide HY).three
  obtain ⟨x0, x1, x2⟩ := (unhide HX).three
  have zt := (unhide HT).fz
  have zr := (unhide HR).fz
  have ltt := (unhide HT).lt
  have ltr := (unhide HR).lt
  have n1 : ¬ (w1.heap.size = w.heap.size + 1) := by omega
  have n2 : ¬ (w1.heap.size = w.heap.size + 2) := by omega
  have n3 : ¬ (w2.heap.size = w.heap.size + 1) := by omega
  have n4 : ¬ (w2.heap.size = w.heap.size + 2) := by omega
  have m1 : ¬ (w.heap.size + 1 = w1.heap.size) := by omega
  have m2 : ¬ (w.heap.size + 1 + 1 = w1.heap.size) := by omega
  have m3 : ¬ (w.heap.size + 1 = w2.heap.size) := by omega
  have m4 : ¬ (w.heap.size + 1 + 1 = w2.heap.size) := by omega
  go_region_held3 (fun w' => w'.cell? ⟨w1.heap.size, 0, none⟩ = some (.int .i64 t.place) ∧ w'.cell? ⟨w1.heap.size, 1, none⟩ = some (.string t.name) ∧ w'.cell? ⟨w1.heap.size, 2, none⟩ = some (.slice va vn vc) ∧ w'.cell? ⟨w2.heap.size, 0, none⟩ = some (.int .i64 r.place) ∧ w'.cell? ⟨w2.heap.size, 1, none⟩ = some (.string r.name) ∧ w'.cell? ⟨w2.heap.size, 2, none⟩ = some (.iface ra rv)) (go_keep) (fail)
  go_wp2
  refine bodyPost_ret (v := .tuple #[.agg #[.int .i64 t.place, .string t.name, .slice va vn vc], .agg #[.int .i64 r.place, .string r.name, .iface ra rv], .nilIface]) (res_cct Tryz.results94 _ _ (w.heap.size + 1) (w.heap.size + 2) _ _ 110 159 _ _ _ rfl rfl rfl ?hB ?hC Tryz.underlying110 rfl (by kernel_rfl) Tryz.underlying159 rfl (by kernel_rfl)) rfl ?post
  case hB => exact ⟨_, (by repeat (first | with_reducible exact unhide HT | with_reducible apply Blk.alloc | with_reducible apply Blk.drew | with_reducible apply Blk.set | (with_reducible apply Blk.other; case ha => exact (by first | omega | (simp; omega) | simp | (simp; done))))), by rfl⟩
  case hC => exact ⟨_, (by repeat (first | with_reducible exact unhide HR | with_reducible apply Blk.alloc | with_reducible apply Blk.drew | with_reducible apply Blk.set | (with_reducible apply Blk.other; case ha => exact (by first | omega | (simp; omega) | simp | (simp; done))))), by rfl⟩
  case post => exact ⟨rfl, (by repeat (first | with_reducible exact unhide B2 | with_reducible refine Below.drew ?_ | (with_reducible refine Below.setCell ?_ ?_ _; rotate_left; exact (by first | omega | (simp; omega) | simp | (simp; done))) | (with_reducible refine Below.alloc ?_ ?_ _; rotate_left; exact (by first | omega | (simp; omega) | simp | (simp; done)))))⟩
end Go.Proofs.YtlbpnlngckgcbaaGreatDoor
