import Derived.Test.YtlbpnlngckgcbaaGreatDoorM52
set_option linter.all false
set_option maxHeartbeats 20000000
set_option maxRecDepth 100000
namespace Go.Proofs.YtlbpnlngckgcbaaGreatDoor
open Go.RowKit Go.PlainAid
section
variable {B : Nat} {w w' : World} {x y : Nat} {ts ts' RA : List Ty} {gs gs' RD : List Tu}
theorem un_op {f c : Nat} {args : Array Value} (h : AlS B w x y ts ts' gs gs') (hc : ∀ mv lv gv, UQ w x mv lv gv ts gs → Calls Tryz.prog f args w (JR w x gv c RA RD)) :
    Calls Tryz.prog f args w fun e w' => e = .returned (.int .i64 c) ∧ AlS B w' x y RA ts' RD gs' ∧ Below B w w' ∧ PR w w' := by
  obtain ⟨mv, lv, gv, mv', lv', L8, h1, h2, h3, h4, h5⟩ := h
  refine (hc mv lv gv h1).mono ?_
  rintro e w' ⟨mv2, lv2, gv2, he, hu, hb, hf⟩
  have hBw : B ≤ w.heap.size := by
    have := h4 x (.inl rfl)
    have := h1.p.blk.lt
    omega
  refine ⟨he, ⟨mv2, lv2, gv2, mv', lv', L8, hu, h2.keep hb (fun k hk hs => h3 k hs hk) (fun k cs T f hs hh => h1.nty hs hh), fun k hk hk' => ?_, fun k hk => ?_, h5⟩, hb.below hBw h4, fun g cs f hh => hb.block g (lt_of_some hh) (fun hs => ?_)⟩
  · rcases hf k hk with e | e
    · exact h3 k e hk'
    · have := h2.lt hk'
      omega
  · rcases hf k hk with e | e
    · exact h4 k e
    · omega
  · obtain ⟨cs', T, hb', hT⟩ := h1.ty hs
    unfold ag at hb'
    rw [hb'] at hh
    cases hh
    rcases hT with e | e <;> exact absurd e (by decide)
end
def s7B : ByteArray := ⟨#[100, 111, 99, 58, 100, 55, 35, 118, 105, 101, 119, 101, 114, 64, 117, 115, 101, 114, 58, 42]⟩
def s9B : ByteArray := ⟨#[100, 111, 99, 58, 100, 57, 35, 111, 119, 110, 101, 114, 64, 117, 115, 101, 114, 58, 117, 57]⟩
def allG2 : List ByteArray := pO ++ [s7B, s9B]
def tt (s : ByteArray) : Tu := (dw s).1
theorem ext_t : (match lM pM with | .ok ts => [s7B, s9B].all fun s => jE s && decide (rA ts (dw s).1 = 0) | .error _ => false) = true := by kernel_rfl
def tuGB (t : Tu) : Bool := KM t && decide (t.kind.size + t.id.size ≤ 1000) && decide (t.sub.size + t.who.size ≤ 1000) && decide (t.kind.size + t.id.size + t.rel.size + t.sub.size + t.who.size + t.of.size ≤ 500)
theorem allG2_low : (allG2.all fun s => tuGB (dw s).1) = true := by kernel_rfl
theorem EC.lets2 {ts : List Ty} (h : EC ts) : ∀ s ∈ allG2, jE s = true ∧ rA ts (tt s) = 0 := fun s hs => by
  rcases List.mem_append.1 hs with hs | hs
  · exact h.lets s hs
  · have := ext_t
    rw [h.read] at this
    have := List.all_eq_true.1 this s hs
    simpa [tt] using this
def GdL (gs : List Tu) : Prop := ∀ t ∈ gs, tuGB t = true
theorem gdL_map {ss : List ByteArray} (h : ∀ s ∈ ss, s ∈ allG2) : GdL (ss.map tt) := fun t ht => by
  obtain ⟨s, hs, rfl⟩ := List.mem_map.1 ht
  exact List.all_eq_true.1 allG2_low s (h s hs)
theorem tuGB_all {t : Tu} (h : tuGB t = true) : t.kind.size ≤ 1000 ∧ t.id.size ≤ 1000 ∧ t.sub.size ≤ 1000 ∧ t.who.size ≤ 1000 ∧ t.of.size ≤ 1000 ∧ t.kind.size + t.id.size ≤ 1000 ∧ t.sub.size + t.who.size ≤ 1000 ∧ tuSmall t := by
  unfold tuGB KM at h
  simp only [Bool.and_eq_true, decide_eq_true_eq] at h
  obtain ⟨⟨⟨⟨⟨⟨⟨q1, q2⟩, q3⟩, q4⟩, q5⟩, q6⟩, q7⟩, q8zq⟩ := h
  exact ⟨q1, q2, q3, q4, q5, q6, q7, q8zq⟩
theorem purL {ts : List Ty} (h : EC ts) {gs : List Tu} (hg : GdL gs) (hl : gs.length ≤ 24) : PuR ts gs := by
  have hm := h.mod
  unfold JK at hm
  simp only [Bool.and_eq_true, decide_eq_true_eq] at hm
  obtain ⟨⟨m1, m2⟩, m3⟩ := hm
  refine ⟨by omega, fun t ht => ?_, fun g hg x hx => KL (List.all_eq_true.1 (List.all_eq_true.1 m2 g hg) x hx), gs_ok m1 (fun a ha b hb e1 e2 => MP (jd gs).ap ha hb e1 e2), m3⟩
  obtain ⟨q1, q2, q3, q4, q5, _⟩ := tuGB_all (hg t ht)
  refine ⟨by unfold maxLen; omega, by unfold maxLen; omega, ?_, ?_, ?_⟩
  · show t.sub.size ≤ _; unfold maxLen; omega
  · show t.who.size ≤ _; unfold maxLen; omega
  · show t.of.size ≤ _; unfold maxLen; omega
theorem crowdL {ts : List Ty} (h : EC ts) {gs : List Tu} (hg : GdL gs) (hl : gs.length ≤ 24) : 0 < (aH ts gs).length ∧ (aH ts gs).length ≤ 64 ∧ ∀ t ∈ aH ts gs, t.kind.size + t.id.size ≤ 1000 := by
  have e : (aH ts gs).length = 3 + gs.length * 2 := by
    unfold aH
    rw [List.length_append, List.length_map, h.len, BM]
  refine ⟨by omega, by omega, fun t ht => ?_⟩
  unfold aH at ht
  rcases List.mem_append.1 ht with ht | ht
  · obtain ⟨y, hy, rfl⟩ := List.mem_map.1 ht
    have := h.low y hy
    show y.name.size + 1 ≤ 1000
    omega
  · obtain ⟨u, hu, ht⟩ := List.mem_flatMap.1 ht
    obtain ⟨_, _, _, _, _, q6, q7, _⟩ := tuGB_all (hg u hu)
    simp only [p8, List.mem_cons, List.not_mem_nil, or_false] at ht
    rcases ht with rfl | rfl
    · exact q6
    · exact q7
theorem tt_inj {ts : List Ty} (h : EC ts) {s t : ByteArray} (hs : s ∈ allG2) (ht : t ∈ allG2) (e : tt s = tt t) : s = t := by
  have h1 := tup_text (h.lets2 s hs).1
  have h2 := tup_text (h.lets2 t ht).1
  unfold tt at e
  rw [e] at h1
  exact h1.symm.trans h2
theorem idx_out {ts : List Ty} (h : EC ts) {ss : List ByteArray} {s : ByteArray} (hss : ∀ s ∈ ss, s ∈ allG2) (hs : s ∈ allG2) (hn : s ∉ ss) : ou (ss.map tt) (tt s) = -1 := CX (fun j hj => by
  cases e : qW (tt s) (ss.map tt)[j]
  · rfl
  · have := (eqTu_iff _ _).1 e
    rw [List.getElem_map] at this
    have := tt_inj h hs (hss _ (List.getElem_mem _)) this
    exact absurd (this ▸ List.getElem_mem _) hn)
theorem idx_in {ss : List ByteArray} {s : ByteArray} (hn : s ∈ ss) : 0 ≤ ou (ss.map tt) (tt s) := by
  unfold ou
  cases e : (ss.map tt).findIdx? (qW (tt s)) with
  | some i => simp
  | none =>
    rw [List.findIdx?_eq_none_iff] at e
    have := e (tt s) (List.mem_map.2 ⟨s, hn, rfl⟩)
    rw [(eqTu_iff _ _).2 rfl] at this
    cases this
theorem idx_last {ts : List Ty} (h : EC ts) {ss : List ByteArray} {s : ByteArray} (hss : ∀ s ∈ ss, s ∈ allG2) (hs : s ∈ allG2) (hn : s ∉ ss) : ou ((ss ++ [s]).map tt) (tt s) = ss.length := I9 (by simp) (fun j hj hk => by
  cases e : qW (tt s) ((ss ++ [s]).map tt)[j]
  · rfl
  · have := (eqTu_iff _ _).1 e
    rw [List.getElem_map, List.getElem_append_left hk] at this
    have := tt_inj h hs (hss _ (List.getElem_mem _)) this
    exact absurd (this ▸ List.getElem_mem _) hn) (by
  rw [eqTu_iff, List.getElem_map, List.getElem_append_right (by omega)]
  simp)
section
variable {B : Nat} {w w' : World} {x y : Nat} {ts ts' : List Ty} {gs' : List Tu} {ss : List ByteArray} {s : ByteArray}
theorem un_new (h : AlS B w x y ts ts' (ss.map tt) gs') (hE : yN w) (ht : EC ts) (hss : ∀ s ∈ ss, s ∈ allG2) (hs : s ∈ allG2) (hn : s ∉ ss) (hl : ss.length < 24) :
    Calls Tryz.prog 28 #[.pointer (some ⟨x, 0, none⟩), .string s] w fun e w' => e = .returned (.int .i64 0) ∧ AlS B w' x y ts ts' ((ss ++ [s]).map tt) gs' ∧ Below B w w' ∧ PR w w' := by
  have e : Nv ts (ss.map tt) s = (0, (ss ++ [s]).map tt) := by
    obtain ⟨h1, h2⟩ := ht.lets2 s hs
    unfold Nv
    rw [h1, show rA ts (dw s).1 = 0 from h2, show ou (ss.map tt) (dw s).1 = -1 from idx_out ht hss hs hn]
    rw [if_neg (by simp), if_neg (by simp), if_neg (by decide), if_neg (by simp; omega), List.map_append]
    rfl
  have := un_op (RA := ts) (RD := (Nv ts (ss.map tt) s).2) (c := (Nv ts (ss.map tt) s).1) h (fun mv lv gv hu => M7 hu s hE.max (by have := hE.lt; omega) hE.laid (by simp; omega))
  rw [e] at this
  exact this
theorem un_twice (h : AlS B w x y ts ts' (ss.map tt) gs') (hE : yN w) (ht : EC ts) (hs : s ∈ allG2) (hn : s ∈ ss) (hl : ss.length ≤ 24) :
    Calls Tryz.prog 28 #[.pointer (some ⟨x, 0, none⟩), .string s] w fun e w' => e = .returned (.int .i64 4) ∧ AlS B w' x y ts ts' (ss.map tt) gs' ∧ Below B w w' ∧ PR w w' := by
  have e : Nv ts (ss.map tt) s = (4, ss.map tt) := by
    obtain ⟨h1, h2⟩ := ht.lets2 s hs
    unfold Nv
    rw [h1, show rA ts (dw s).1 = 0 from h2]
    rw [if_neg (by simp), if_neg (by simp), if_pos (show 0 ≤ ou (ss.map tt) (dw s).1 from idx_in hn)]
  have := un_op (RA := ts) (RD := (Nv ts (ss.map tt) s).2) (c := (Nv ts (ss.map tt) s).1) h (fun mv lv gv hu => M7 hu s hE.max (by have := hE.lt; omega) hE.laid (by simp; omega))
  rw [e] at this
  exact this
theorem un_del (h : AlS B w x y ts ts' ((ss ++ [s]).map tt) gs') (hE : yN w) (ht : EC ts) (hss : ∀ s ∈ ss, s ∈ allG2) (hs : s ∈ allG2) (hn : s ∉ ss) :
    Calls Tryz.prog 35 #[.pointer (some ⟨x, 0, none⟩), .string s] w fun e w' => e = .returned (.int .i64 0) ∧ AlS B w' x y ts ts' (ss.map tt) gs' ∧ Below B w w' ∧ PR w w' := by
  have e : delP ((ss ++ [s]).map tt) s = (0, ss.map tt) := by
    unfold delP
    rw [(ht.lets2 s hs).1, show ou ((ss ++ [s]).map tt) (dw s).1 = ss.length from idx_last ht hss hs hn]
    rw [if_neg (by simp), if_neg (by omega), List.map_append]
    congr 1
    rw [List.eraseIdx_append_of_length_le (by simp)]
    simp
  have := un_op (RA := ts) (RD := (delP ((ss ++ [s]).map tt) s).2) (c := (delP ((ss ++ [s]).map tt) s).1) h (fun mv lv gv hu => qdelete hu s hE.max (by have := hE.lt; omega))
  rw [e] at this
  exact this
theorem un_none (h : AlS B w x y ts ts' (ss.map tt) gs') (hE : yN w) (ht : EC ts) (hss : ∀ s ∈ ss, s ∈ allG2) (hs : s ∈ allG2) (hn : s ∉ ss) :
    Calls Tryz.prog 35 #[.pointer (some ⟨x, 0, none⟩), .string s] w fun e w' => e = .returned (.int .i64 9) ∧ AlS B w' x y ts ts' (ss.map tt) gs' ∧ Below B w w' ∧ PR w w' := by
  have e : delP (ss.map tt) s = (9, ss.map tt) := by
    unfold delP
    rw [(ht.lets2 s hs).1, show ou (ss.map tt) (dw s).1 = -1 from idx_out ht hss hs hn]
    rw [if_neg (by simp), if_pos (by decide)]
  have := un_op (RA := ts) (RD := (delP (ss.map tt) s).2) (c := (delP (ss.map tt) s).1) h (fun mv lv gv hu => qdelete hu s hE.max (by have := hE.lt; omega))
  rw [e] at this
  exact this
end
theorem doc_facts2 {d : Nat} (h : d < 10) : (ax (ib d) 58).1 = eP ∧ dR (ib d) = true ∧ (ib d).size = 6 := by
  rcases d with _ | _ | _ | _ | _ | _ | _ | _ | _ | _ | d <;> first | omega | (refine ⟨?_, ?_, ?_⟩ <;> kernel_rfl)
theorem rel_fits {c : ByteArray} (h : c ∈ [lw, bH, qj, dM, vS]) : c.size ≤ 1000 ∧ dG c = true := by
  have k : ([lw, bH, qj, dM, vS].all fun c => decide (c.size ≤ 1000) && dG c) = true := by kernel_rfl
  have := List.all_eq_true.1 k c h
  simpa using this
theorem un_whoU {x : Nat} {mv lv gv : Value} {w : World} {ts : List Ty} {gs : List Tu} (hu : UQ w x mv lv gv ts gs) (hE : yN w) (ht : EC ts) (hg : GdL gs) (hl : gs.length ≤ 24) {d : Nat} (hd : d < 10) {c : ByteArray} (hc : c ∈ [lw, bH, qj, dM, vS]) :
    Calls Tryz.prog 31 #[.pointer (some ⟨x, 0, none⟩), .string (ib d), .string c] w (AU ts gs ⟨eP, qa d, c⟩ w) := by
  obtain ⟨c0, c1, c2⟩ := crowdL ht hg hl
  obtain ⟨d1, d2, d3⟩ := doc_facts2 hd
  obtain ⟨f1, f2⟩ := rel_fits hc
  obtain ⟨t, r, hf, hq⟩ := ht.rel c hc
  have := M9 x mv lv gv ts gs w hu (purL ht hg hl) (ib d) c (by omega) d2 f1 f2 t (by rw [d1]; exact hf) r hq c0 c1 c2 hE.max (by have := hE.lt; omega)
  rw [d1] at this
  exact this
def IsW (ts : List Ty) (gs : List Tu) (q : Sj) (l : List ByteArray) : Prop := ∃ K, Run (aH ts gs) (bF gs) (aT ts) (fun _ => 0) K ∧ l = iH (K q) (aH ts gs)
theorem isW_same {ts : List Ty} (h : EC ts) {gs gs' : List Tu} (hg : ∀ t, t ∈ gs ↔ t ∈ gs') (hl : (aH ts gs).length ≤ 64) (hl' : (aH ts gs').length ≤ 64) {q : Sj} {l l' : List ByteArray} (a : IsW ts gs q l) (b : IsW ts gs' q l') : l = l' := by
  obtain ⟨K, hK, rfl⟩ := a
  obtain ⟨K', hK', rfl⟩ := b
  exact who_same h hg hK hK' hl hl' q
theorem isW_len {ts : List Ty} {gs : List Tu} {q : Sj} {l : List ByteArray} (a : IsW ts gs q l) : l.length ≤ (aH ts gs).length := by
  obtain ⟨K, _, rfl⟩ := a
  exact rV _ _
def andB : ByteArray := ⟨#[97, 110, 100]⟩
def thenB : ByteArray := ⟨#[116, 104, 101, 110]⟩
def AllP (ts : List Ty) (gs : List Tu) : Nat → List ByteArray → Prop
  | 0, out => out = []
  | k + 1, out => ∃ o a b, AllP ts gs k o ∧ IsW ts gs ⟨eP, qa k, vS⟩ a ∧ IsW ts gs ⟨eP, qa k, dM⟩ b ∧ out = (((o ++ a) ++ [andB]) ++ b) ++ [thenB]
theorem allP_same {ts : List Ty} (h : EC ts) {gs gs' : List Tu} (hg : ∀ t, t ∈ gs ↔ t ∈ gs') (hl : (aH ts gs).length ≤ 64) (hl' : (aH ts gs').length ≤ 64) : ∀ {k : Nat} {o o' : List ByteArray}, AllP ts gs k o → AllP ts gs' k o' → o = o'
  | 0, o, o', a, b => a.trans b.symm
  | k + 1, o, o', ⟨p, l, m, h1, h2, h3, e⟩, ⟨p', l', m', h1', h2', h3', e'⟩ => by
    rw [e, e', allP_same h hg hl hl' h1 h1', isW_same h hg hl hl' h2 h2', isW_same h hg hl hl' h3 h3']
theorem allP_len {ts : List Ty} {gs : List Tu} (hl : (aH ts gs).length ≤ 64) : ∀ {k : Nat} {o : List ByteArray}, AllP ts gs k o → o.length ≤ k * 130
  | 0, o, a => by rw [show o = [] from a]; simp
  | k + 1, o, ⟨p, l, m, h1, h2, h3, e⟩ => by
    have := allP_len hl h1
    have := isW_len h2
    have := isW_len h3
    rw [e]
    simp
    omega
def bAll : ByteArray := ⟨#[42]⟩
theorem s7_tup : tt s7B = ⟨eP, qa 7, vS, dP, bAll, ⟨#[]⟩⟩ := by kernel_rfl
theorem not_7 : (pO.all fun s => !(decide ((dw s).1.kind = eP) && decide ((dw s).1.id = qa 7))) = true := by kernel_rfl
theorem un_seen {ts : List Ty} (h : EC ts) {ss : List ByteArray} (hss : ∀ s ∈ ss, s ∈ pO) {l : List ByteArray} (hl : (aH ts ((ss ++ [s7B]).map tt)).length ≤ 64) (hw : IsW ts ((ss ++ [s7B]).map tt) ⟨eP, qa 7, vS⟩ l) : uy ⟨dP, bAll⟩ ∈ l := by
  obtain ⟨K, hr, rfl⟩ := hw
  have ht : (⟨eP, qa 7, vS, dP, bAll, ⟨#[]⟩⟩ : Tu) ∈ (ss ++ [s7B]).map tt := List.mem_map.2 ⟨s7B, by simp, s7_tup⟩
  have hno : ∀ t ∈ (ss ++ [s7B]).map tt, t.kind = eP → t.id = qa 7 → t.rel = vS := fun t ht e1 e2 => by
    obtain ⟨s, hs, rfl⟩ := List.mem_map.1 ht
    rcases List.mem_append.1 hs with hs | hs
    · have := List.all_eq_true.1 not_7 s (hss s hs)
      have e1' : (dw s).1.kind = eP := e1
      have e2' : (dw s).1.id = qa 7 := e2
      rw [e1', e2'] at this
      simp at this
    · rw [List.mem_singleton] at hs
      subst hs
      rw [s7_tup]
  generalize (ss ++ [s7B]).map tt = gs at *
  rw [yM]
  have hm : (⟨dP, bAll⟩ : Tg) ∈ aH ts gs := List.mem_append_right _ (List.mem_flatMap.2 ⟨_, ht, by simp [p8]⟩)
  obtain ⟨j, hj⟩ := List.mem_iff_getElem?.1 hm
  refine ⟨j, _, hj, ?_, rfl⟩
  obtain ⟨y, hy, e⟩ := (jd gs).all _ ht
  obtain ⟨e1, e2⟩ := dn.1 e
  have e1' : y.kd = eP := e1
  have e2' : y.id = qa 7 := e2
  have hty : (⟨eP, qa 7, vS, dP, bAll, ⟨#[]⟩⟩ : Tu) ∈ y.ts := by
    rw [((jd gs).ts y hy).1, List.mem_filter]
    exact ⟨ht, e⟩
  have hts : ∀ t ∈ y.ts, t.rel = vS := fun t wT => by
    rw [((jd gs).ts y hy).1, List.mem_filter] at wT
    obtain ⟨f1, f2⟩ := dn.1 wT.2
    exact hno t wT.1 (f1.symm.trans e1') (f2.symm.trans e2')
  have hb := h.bit hr hl hj
  show (fun s => (K s).testBit j) (⟨eP, qa 7, vS⟩ : Sj) = true
  generalize (fun s => (K s).testBit j) = kb at hb ⊢
  obtain ⟨k4, hA, k5, h5, e5⟩ := mU hb
  have Rz : kb = k5 := e5
  subst Rz
  obtain ⟨k1, h1, k2, h2, k3, h3, k4', h4, e4⟩ := hA
  have e4' : k4 = k4' := e4
  subst e4'
  obtain rfl := BS h2
  obtain rfl := BS h4
  have f5 := h5.fix ⟨eP, vS, rP (gP gp (rO dM)) (rO qj)⟩ (List.mem_singleton.2 rfl) y hy e1'
  have f1 := h1.fix ⟨eP, qj, gp⟩ (by simp) y hy e1'
  rw [e1'] at f5 f1
  have q3 : kb ⟨eP, y.id, qj⟩ = k2 ⟨eP, y.id, qj⟩ := (h5.old _ (Hg (fun x hx => by
    simp only [vT, List.mem_singleton] at hx
    subst hx
    decide))).trans (h3.old _ (Hg (fun x hx => by
    rw [List.mem_singleton] at hx
    subst hx
    decide)))
  have nb : k2 ⟨eP, y.id, qj⟩ = false := by
    rw [← f1]
    simp only [gp, eu, if_true]
    rw [List.any_eq_false]
    intro t wT
    rw [hts t wT]
    simp [show ¬ (vS = qj) by decide]
  have hd : y.ts.any (fun t => decide (t.rel = vS) && gV kb ⟨dP, bAll⟩ (ed t)) = true := List.any_eq_true.2 ⟨_, hty, by simp [gV, ed, jF, pY, (eT _ _).2 rfl, Hf]⟩
  have e3 : (⟨eP, qa 7, vS⟩ : Sj) = ⟨eP, y.id, vS⟩ := by rw [e2']
  rw [e3, ← f5]
  simp only [rP, gP, gp, rO, eu, if_true]
  simp only [Nat.reduceEqDiff, if_false, if_true]
  rw [q3, nb, hd]
  rfl
theorem grants_one {ss ss' : List ByteArray} (h : ss.Perm ss') : iG ((ss.map tt).map tuS) = iG ((ss'.map tt).map tuS) := by
  have hp : ((ss.map tt).map tuS).Perm ((ss'.map tt).map tuS) := (h.map tt).map tuS
  rw [sort_same, sort_same]
  obtain ⟨a1, a2⟩ := foldl_ins ((ss.map tt).map tuS) [] List.Pairwise.nil
  obtain ⟨b1, b2⟩ := foldl_ins ((ss'.map tt).map tuS) [] List.Pairwise.nil
  rw [List.nil_append] at a2 b2
  exact sorted_one _ _ a1 b1 (a2.trans (hp.trans b2.symm))
end Go.Proofs.YtlbpnlngckgcbaaGreatDoor

namespace Go.Proofs.YtlbpnlngckgcbaaGreatDoor
open Go.RowKit Go.PlainAid
theorem sameQ_yes (b1 b2 : Nat) (v1 v2 : Value) (l : List ByteArray) (w : World) (h1 : w.ownsRow b1 9 1 v1 l.length (jZ l)) (h2 : w.ownsRow b2 9 1 v2 l.length (jZ l)) (hl : l.length ≤ 100000) :
    Calls Tryz.prog 37 #[v1, v2] w fun e w' => e = .returned (.bool true) ∧ Below w.heap.size w w' := by
  obtain ⟨a1, c1, rfl⟩ := ak h1
  obtain ⟨a2, c2, rfl⟩ := ak h2
  have H1 := ae h1
  have H2 := ae h2
  clear h1 h2
  go_enter Tryz.func37, Tryz.ntmps37
  go_wp2_with fail
  go_loopw [5] (fun vi wr => ∃ k : Nat, k ≤ l.length ∧ vi = .int .i64 k ∧ Below w.heap.size w wr) (fun vi _ => l.length - (intOf vi).toNat)
  case atStart => exact ⟨0, by omega, rfl, Below.refl _ _⟩
  case round =>
    obtain ⟨k, hk, rfl, hb⟩ := hrel
    have HB := ae hb
    by_cases hlt : k < l.length
    · have hkn : (k : Int) < (l.length : Int) := by omega
      have hX : (jZ l)[k]? = some (.string l[k]) := by simp [jZ, hlt]
      have r1 := aF (aa H1) hb
      have r2 := aF (aa H2) hb
      obtain ⟨g1, d1, e1, k1⟩ := aQ r1 k _ hX
      obtain ⟨g2, d2, e2, k2⟩ := aQ r2 k _ hX
      simp only [Value.slice.injEq, true_and] at e1 e2
      obtain ⟨rfl, rfl⟩ := e1
      obtain ⟨rfl, rfl⟩ := e2
      generalize l[k] = x at *
      clear hb r1 r2 hX
      go_wp2_with fail
      go_region
      go_wp2_with fail
      exact ⟨⟨k + 1, by omega, by go_num, (aa HB).drew⟩, by simp [intOf]; omega⟩
    · have hkn : ¬ ((k : Int) < (l.length : Int)) := by omega
      clear hb
      go_wp2
      go_ret
      exact ⟨rfl, aa HB⟩
theorem row_keep {x y : World} {b : Nat} {T : TypeId} {sz n : Nat} {v : Value} {xs : List Value} {r : Option Nat} (hm : x.ownsRow b T sz v n xs) (hg : x.grownBy y r) (hv : ∀ g, v.ownBlock = some g → r ≠ some g) : y.ownsRow b T sz v n xs :=
  dU hm (fun g cs f hb hh => hg.block g (lt_of_some hh) (fun e => hv g hb e.symm))
def AlPost (ts : List Ty) (gs : List Tu) (w : World) (e : Ending) (w' : World) : Prop := ∃ v out, e = .returned v ∧ Below w.heap.size w w' ∧ AllP ts gs 4 out ∧ w'.ownsRow w.heap.size 9 1 v out.length (jZ out)
theorem stC_app (a b : List ByteArray) : jZ (a ++ b) = jZ a ++ jZ b := by simp [jZ]
theorem allQ_any (x : Nat) (mv lv gv : Value) (ts : List Ty) (gs : List Tu) (w : World) (hu : UQ w x mv lv gv ts gs) (hE : yN w) (ht : EC ts) (hg : GdL gs) (hl : gs.length ≤ 24) :
    Calls Tryz.prog 36 #[.pointer (some ⟨x, 0, none⟩)] w (AlPost ts gs w) := by
  have hc := (crowdL ht hg hl).2.1
  have HCL := ae (fun k o (h : AllP ts gs k o) => allP_len hc h)
  have HIL := ae (fun q l (h : IsW ts gs q l) => Nat.le_trans (isW_len h) hc)
  have CVzq := ae (show ∀ w', Below w.heap.size w w' → ∀ d, d < 4 → Calls Tryz.prog 31 #[.pointer (some ⟨x, 0, none⟩), .string (ib d), .string ⟨#[118, 105, 101, 119, 101, 114]⟩] w' (AU ts gs ⟨eP, qa d, vS⟩ w') from fun w' k d hd => un_whoU (hu.below k) (hE.below k hE.lt) ht hg hl (show d < 10 by omega) (c := vS) (by simp))
  have CEzq := ae (show ∀ w', Below w.heap.size w w' → ∀ d, d < 4 → Calls Tryz.prog 31 #[.pointer (some ⟨x, 0, none⟩), .string (ib d), .string ⟨#[101, 100, 105, 116, 111, 114]⟩] w' (AU ts gs ⟨eP, qa d, dM⟩ w') from fun w' k d hd => un_whoU (hu.below k) (hE.below k hE.lt) ht hg hl (show d < 10 by omega) (c := dM) (by simp))
  obtain ⟨i0, hi0, hz0, hz1, hz2⟩ := info_parts Tryz.infoStr
  have HI := ae hi0
  have jg := ae hz0
  have jh := ae hz1
  have ji := ae hz2
  clear hu hE ht hg hl hc hi0 hz0 hz1 hz2
  go_enter Tryz.func36, Tryz.ntmps36
  go_wp2_with fail
  go_loopw [3, 4] (fun u3 u4 wr => ∃ (k : Nat) (o : List ByteArray), u4 = .int .i64 k ∧ k ≤ 4 ∧ Below w.heap.size w wr ∧ Hid (AllP ts gs k o) ∧ wr.ownsRow w.heap.size 9 1 u3 o.length (jZ o)) (fun _ u4 _ => 4 - (intOf u4).toNat)
  case atStart => exact ⟨0, [], rfl, by omega, Below.refl _ _, ae rfl, World.ownsRow_nil _ _ _ _⟩
  case round =>
    obtain ⟨k, o, rfl, hk, hb, HP, hrow⟩ := hrel
    obtain ⟨la, lc, rfl⟩ := ak hrow
    have ho := aa HCL k o (aa HP)
    have HB := ae hb
    have HR := ae hrow
    by_cases hlt : k < 4
    · have hkn : (k : Int) < 4 := by omega
      have C1 := ae (aa CVzq wr hb k hlt)
      have CD := ae (fun w' => nV k (show k < 10 by omega) w')
      clear hb hrow
      go_wp2_with fail
      refine (aa CD _).mono ?_
      rintro e w1 ⟨rfl, hw1⟩
      rw [hw1]
      clear hw1 w1
      go_wp2_with fail
      refine (aa C1).mono ?_
      rintro e w1 ⟨v1, K1, rfl, hb1, hr1, hown1⟩
      have HW1 := ae (show IsW ts gs ⟨eP, qa k, vS⟩ (iH (K1 ⟨eP, qa k, vS⟩) (aH ts gs)) from ⟨K1, hr1, rfl⟩)
      generalize iH (K1 ⟨eP, qa k, vS⟩) (aH ts gs) = l1 at *
      obtain ⟨a1, c1, rfl⟩ := ak hown1
      have MN := ae ((aa HB).trans (hb1.mono (aa HB).size))
      have Ou := ae (aF (aa HR) hb1)
      have Cs := ae hown1
      have C2 := ae (aa CEzq w1 (aa MN) k hlt)
      have sF := aa HIL _ _ (aa HW1)
      clear hb1 hr1 hown1 C1 HB HR
      go_wp2_with fail
      refine (aa CD _).mono ?_
      rintro e w2 ⟨rfl, hw2⟩
      rw [hw2]
      clear hw2 w2
      go_wp2_with fail
      refine (aa C2).mono ?_
      rintro e w2 ⟨v2, K2, rfl, hb2, hr2, hown2⟩
      have HW2 := ae (show IsW ts gs ⟨eP, qa k, dM⟩ (iH (K2 ⟨eP, qa k, dM⟩) (aH ts gs)) from ⟨K2, hr2, rfl⟩)
      generalize iH (K2 ⟨eP, qa k, dM⟩) (aH ts gs) = l2 at *
      obtain ⟨a2, c2, rfl⟩ := ak hown2
      have iK := ae ((aa MN).trans (hb2.mono (aa MN).size))
      have bP := ae (aF (aa Ou) hb2)
      have wM := ae (aF (aa Cs) hb2)
      have QL := ae hown2
      have Nq := aa HIL _ _ (aa HW2)
      have s12 := hb2.size
      have HO := ae (fun g hg => ((aa Ou).lt g hg).2)
      have HM := ae (fun g hg => hown2.lt g hg)
      have nH := (aa iK).size
      have HP2 := ae (show AllP ts gs (k + 1) ((((o ++ l1) ++ [andB]) ++ l2) ++ [thenB]) from ⟨o, l1, l2, aa HP, aa HW1, aa HW2, rfl⟩)
      clear hb2 hr2 hown2 C2 MN Ou Cs HP HW1 HW2 CD
      go_wp2_with (at_builtin; go_must (refine wpList_append_rows rfl _ _ 22 rfl w.heap.size 9 i0 _ 1 16 Tryz.underlying22 (aa HI) (aa jg) (aa jh) (aa ji) rfl (by decide) (.slice la o.length lc) o.length (jZ o) rfl (aa bP) (.slice a1 l1.length c1) l1.length (jZ l1) rfl _ (aa wM) (stC_one _) ?h63A ?Jf nH ?hrestA))
      case h63A => unfold maxLen; omega
      case Jf => omega
      case hrestA =>
        intro a3 c3 w3 o9 fF Fa
        have ww := ae (Below.grown (aa iK) fF nH (fun q hq => ((aa bP).lt q hq).1))
        have QC := ae (row_keep (aa QL) fF (fun g hg e => by
          have := aa HM g hg
          have := aa HO g e
          omega))
        have HO3 := ae (show ∀ g, (Value.slice a3 (o.length + l1.length) c3).ownBlock = some g → g < w1.heap.size ∨ w2.heap.size ≤ g from fun g hg => by
          rcases Fa g hg with e | e
          · exact .inl (aa HO g e)
          · exact .inr (by omega))
        have gD := ae (show w3.ownsRow w.heap.size 9 1 (.slice a3 (o.length + l1.length) c3) (o.length + l1.length) (jZ (o ++ l1)) from by rw [stC_app]; exact o9)
        have zD := (aa ww).size
        have s23 := fF.size
        clear o9 fF Fa iK QL bP wM HO
        go_wp2_with (at_builtin; go_must (refine wpList_append_lies _ rfl _ _ 22 rfl w.heap.size 9 i0 _ 1 16 Tryz.underlying22 (aa HI) (aa jg) (aa jh) (aa ji) rfl (by decide) (.slice a3 (o.length + l1.length) c3) (o.length + l1.length) (jZ (o ++ l1)) rfl ?hownB ⟨w3.heap.size, 0, none⟩ 1 1 [.string andB] rfl rfl ?Lt ?honeB (by decide) ?h63B ?Je ?Lu (w3.heap.size + 1) ?hHB ?hrestB))
        case hownB => exact (aa gD).alloc _
        case Lt => exact World.news_of_block (B := w3.heap.size) (cs := #[.string andB]) (t := 9) (fr := (0, 0)) (ag.new _ _ _)
        case honeB =>
          intro u hu
          simp at hu
          subst hu
          rfl
        case h63B => unfold maxLen; omega
        case Je => omega
        case Lu => simp; omega
        case hHB => simp
        case hrestB =>
          intro g4 c4 w4 wJ jN KY hgl4
          have fA := (aa gD).alloc (.cells #[.string andB] 9)
          have wy := ae (Below.grown ((aa ww).alloc zD (.cells #[.string andB] 9)) jN (by simp; omega) (fun q hq => (fA.lt q hq).1))
          have HM4 := ae (row_keep ((aa QC).alloc (.cells #[.string andB] 9)) jN (fun g hg e => by
            have := aa HM g hg
            have := aa HO3 g e
            omega))
          have HO4 := ae (show ∀ g, (Value.slice (some ⟨g4, 0, none⟩) (o.length + l1.length + 1) c4).ownBlock = some g → g < w1.heap.size ∨ w2.heap.size ≤ g from fun g hg => by
            simp only [Value.ownBlock, Option.some.injEq] at hg
            subst hg
            rcases KY with e | e
            · exact aa HO3 _ e
            · exact .inr (by omega))
          have lD := ae (show w4.ownsRow w.heap.size 9 1 (.slice (some ⟨g4, 0, none⟩) (o.length + l1.length + 1) c4) (o.length + l1.length + 1) (jZ ((o ++ l1) ++ [andB])) from by rw [stC_app]; exact wJ)
          have Fe := (aa wy).size
          have s34 : w3.heap.size + 1 ≤ w4.heap.size := by have := jN.size; simpa using this
          clear wJ jN KY hgl4 ww QC gD HO3 fA
          go_wp2_with (at_builtin; go_must (refine wpList_append_rows rfl _ _ 22 rfl w.heap.size 9 i0 _ 1 16 Tryz.underlying22 (aa HI) (aa jg) (aa jh) (aa ji) rfl (by decide) (.slice (some ⟨g4, 0, none⟩) (o.length + l1.length + 1) c4) (o.length + l1.length + 1) (jZ ((o ++ l1) ++ [andB])) rfl (aa lD) (.slice a2 l2.length c2) l2.length (jZ l2) rfl _ (aa HM4) (stC_one _) ?h63C ?hbytesC Fe ?hrestC))
          case h63C => unfold maxLen; omega
          case hbytesC => omega
          case hrestC =>
            intro a5 c5 w5 aJ au bI
            have Qn := ae (Below.grown (aa wy) au Fe (fun q hq => ((aa lD).lt q hq).1))
            have K9 := ae (show w5.ownsRow w.heap.size 9 1 (.slice a5 (o.length + l1.length + 1 + l2.length) c5) (o.length + l1.length + 1 + l2.length) (jZ (((o ++ l1) ++ [andB]) ++ l2)) from by simpa [jZ] using aJ)
            have Oj := (aa Qn).size
            clear aJ au bI wy lD HM4 HO4
            go_wp2_with (at_builtin; go_must (refine wpList_append_lies _ rfl _ _ 22 rfl w.heap.size 9 i0 _ 1 16 Tryz.underlying22 (aa HI) (aa jg) (aa jh) (aa ji) rfl (by decide) (.slice a5 (o.length + l1.length + 1 + l2.length) c5) (o.length + l1.length + 1 + l2.length) (jZ (((o ++ l1) ++ [andB]) ++ l2)) rfl ?hownD ⟨w5.heap.size, 0, none⟩ 1 1 [.string thenB] rfl rfl ?hnewsD ?honeD (by decide) ?h63D ?hbytesD ?hbaseD (w5.heap.size + 1) ?hHD ?hrestD))
            case hownD => exact (aa K9).alloc _
            case hnewsD => exact World.news_of_block (B := w5.heap.size) (cs := #[.string thenB]) (t := 9) (fr := (0, 0)) (ag.new _ _ _)
            case honeD =>
              intro u hu
              simp at hu
              subst hu
              rfl
            case h63D => unfold maxLen; omega
            case hbytesD => omega
            case hbaseD => simp; omega
            case hHD => simp
            case hrestD =>
              intro g6 c6 w6 d9 aZ jC uX
              have fA := (aa K9).alloc (.cells #[.string thenB] 9)
              have HB6 := ae (Below.grown ((aa Qn).alloc Oj (.cells #[.string thenB] 9)) aZ (by simp; omega) (fun q hq => (fA.lt q hq).1))
              have HR6 := ae (show w6.ownsRow w.heap.size 9 1 (.slice (some ⟨g6, 0, none⟩) (o.length + l1.length + 1 + l2.length + 1) c6) (((((o ++ l1) ++ [andB]) ++ l2) ++ [thenB]).length) (jZ ((((o ++ l1) ++ [andB]) ++ l2) ++ [thenB])) from by
                rw [show ((((o ++ l1) ++ [andB]) ++ l2) ++ [thenB]).length = o.length + l1.length + 1 + l2.length + 1 by simp; omega]
                simpa [jZ] using d9)
              clear d9 aZ jC uX Qn K9 fA
              go_wp2
              go_roundw
              case rel => exact ⟨k + 1, _, by go_num, by omega, aa HB6, HP2, aa HR6⟩
              case measure => simp [intOf]; omega
    · have hkn : ¬ ((k : Int) < 4) := by omega
      obtain rfl : k = 4 := by omega
      clear hb hrow
      go_wp2
      go_ret
      exact ⟨_, o, rfl, aa HB, aa HP, aa HR⟩
end Go.Proofs.YtlbpnlngckgcbaaGreatDoor

namespace Go.Proofs.YtlbpnlngckgcbaaGreatDoor
open Go.RowKit Go.PlainAid
section
variable {B : Nat} {w w' : World} {x y : Nat} {ts ts' : List Ty} {gs gs' : List Tu}
theorem AlS.grown {v : Value} {b n : Nat} {xs : List Value} (h : AlS B w x y ts ts' gs gs') (hr : w.ownsRow b 9 1 v n xs) (hg : w.grownBy w' v.ownBlock) : AlS B w' x y ts ts' gs gs' := by
  obtain ⟨mv, lv, gv, mv', lv', L8, h1, h2, h3, h4, h5⟩ := h
  have key : ∀ k, v.ownBlock = some k → ∃ cs f, w.heap[k]? = some (Obj.cells cs 9 f) := fun k hk => by
    rcases hr with ⟨h0, ⟨rfl, _⟩ | ⟨g, cap, cur, rfl, hg', hh, _⟩⟩
    · simp [Value.ownBlock] at hk
    · simp only [Value.ownBlock, Option.some.injEq] at hk
      subst hk
      exact ⟨_, _, hh⟩
  have hb : aS (fun k => v.ownBlock = some k) w w' := fV hg (fun _ e => e)
  have hT : ∀ (k : Nat) (cs : Array Value) (T : TypeId) (f : Nat × Nat), v.ownBlock = some k → w.heap[k]? = some (Obj.cells cs T f) → ¬ MQ T := fun k cs T f hk hh => by
    obtain ⟨cs', f', e⟩ := key k hk
    rw [e] at hh
    cases hh
    unfold MQ LT
    decide
  have hS : ∀ {x : Nat} {mv lv gv : Value} {ts : List Ty} {gs : List Tu}, UQ w x mv lv gv ts gs → ∀ k, FM x gv k → ¬ (v.ownBlock = some k) := fun hu k hk e => by
    obtain ⟨cs, T, hb', hT'⟩ := hu.ty hk
    obtain ⟨cs', f', e'⟩ := key k e
    unfold ag at hb'
    rw [hb'] at e'
    cases e'
    rcases hT' with e | e <;> exact absurd e (by decide)
  exact ⟨mv, lv, gv, mv', lv', L8, h1.keep hb (hS h1) hT, h2.keep hb (hS h2) hT, h3, h4, h5⟩
theorem un_grants {ss : List ByteArray} (h : AlS B w x y ts ts' (ss.map tt) gs') (hss : ∀ s ∈ ss, s ∈ allG2) :
    Calls Tryz.prog 29 #[.pointer (some ⟨x, 0, none⟩)] w (GrPost (iG ((ss.map tt).map tuS)) w) := by
  obtain ⟨mv, lv, gv, mv', lv', L8, h1, _⟩ := h
  exact pgrants_any x w mv lv gv _ h1.p (fun t ht => (tuGB_all (gdL_map hss t ht)).2.2.2.2.2.2.2)
theorem un_all {ss : List ByteArray} (h : AlS B w x y ts ts' (ss.map tt) gs') (hE : yN w) (ht : EC ts) (hss : ∀ s ∈ ss, s ∈ allG2) (hl : ss.length ≤ 24) :
    Calls Tryz.prog 36 #[.pointer (some ⟨x, 0, none⟩)] w (AlPost ts (ss.map tt) w) := by
  obtain ⟨mv, lv, gv, mv', lv', L8, h1, _⟩ := h
  exact allQ_any x mv lv gv ts _ w h1 hE ht (gdL_map hss) (by simpa using hl)
theorem un_who7 {ss : List ByteArray} (h : AlS B w x y ts ts' (ss.map tt) gs') (hE : yN w) (ht : EC ts) (hss : ∀ s ∈ ss, s ∈ allG2) (hl : ss.length ≤ 24) :
    Calls Tryz.prog 31 #[.pointer (some ⟨x, 0, none⟩), .string ⟨#[100, 111, 99, 58, 100, 55]⟩, .string ⟨#[118, 105, 101, 119, 101, 114]⟩] w (AU ts (ss.map tt) ⟨eP, qa 7, vS⟩ w) := by
  obtain ⟨mv, lv, gv, mv', lv', L8, h1, _⟩ := h
  have := un_whoU h1 hE ht (gdL_map hss) (by simpa using hl) (show 7 < 10 by omega) (c := vS) (by simp)
  rw [show ib 7 = ⟨#[100, 111, 99, 58, 100, 55]⟩ by kernel_rfl] at this
  exact this
end
structure UnI (ss : List ByteArray) (s : ByteArray) (i : Nat) : Prop where
  gr : ∀ t ∈ ss, t ∈ pO
  out : s ∉ ss
  nd : ss.Nodup
  len : ss.length ≤ i
theorem gr_two {ss : List ByteArray} (h : ∀ t ∈ ss, t ∈ pO) : ∀ t ∈ ss, t ∈ allG2 := fun t ht => List.mem_append_left _ (h t ht)
theorem s7_out : s7B ∉ pO := by
  have h : (pO.all fun s => !decide (s = s7B)) = true := by kernel_rfl
  intro hm
  have := List.all_eq_true.1 h _ hm
  simp at this
theorem s7_in : s7B ∈ allG2 := List.mem_append_right _ (by simp)
theorem UnI.snoc {ss : List ByteArray} {s t : ByteArray} {i : Nat} (h : UnI ss s i) (ht : t ∈ pO) (hn : t ∉ ss) (hs : t ≠ s) : UnI (ss ++ [t]) s (i + 1) where
  gr := fun u hu => by
    rcases List.mem_append.1 hu with hu | hu
    · exact h.gr u hu
    · rw [List.mem_singleton] at hu; subst hu; exact ht
  out := fun hu => by
    rcases List.mem_append.1 hu with hu | hu
    · exact h.out hu
    · rw [List.mem_singleton] at hu; exact hs hu.symm
  nd := by
    rw [List.nodup_append]
    refine ⟨h.nd, by simp, fun a ha b hb e => ?_⟩
    rw [List.mem_singleton] at hb
    subst hb
    subst e
    exact hn ha
  len := by have := h.len; simp; omega
theorem UnI.more {ss : List ByteArray} {s : ByteArray} {i : Nat} (h : UnI ss s i) : UnI ss s (i + 1) := ⟨h.gr, h.out, h.nd, by have := h.len; omega⟩
theorem drop_step {ss : List ByteArray} {p : Nat} (hp : p < ss.length) (hn : ss.Nodup) : (ss.drop p).reverse = (ss.drop (p + 1)).reverse ++ [ss[p]] ∧ ss[p] ∉ (ss.drop (p + 1)).reverse := by
  have e : ss.drop p = ss[p] :: ss.drop (p + 1) := List.drop_eq_getElem_cons hp
  refine ⟨by rw [e, List.reverse_cons], fun hm => ?_⟩
  rw [List.mem_reverse] at hm
  have := hn.sublist (List.drop_sublist p ss)
  rw [e] at this
  exact (List.nodup_cons.1 this).1 hm
end Go.Proofs.YtlbpnlngckgcbaaGreatDoor

namespace Go.Proofs.YtlbpnlngckgcbaaGreatDoor
open Go.RowKit Go.PlainAid
theorem undone_law (v : Value) (n : Nat) (o2 : Oq) (w : World) (h : JY w v n) (hn : n ≤ 4398046511104) (ho2 : AV o2) (hE : yN w) :
    Calls Tryz.prog 11 #[v, .agg #[.int .i64 o2.kd, .int .i64 o2.a, .int .i64 o2.b, .bool o2.less]] w fun e w' => e = .returned (.bool true) ∧ Below w.heap.size w w' := by
  have hv : ∃ a c, v = .slice a n c ∧ (0 < n → ∃ ad, a = some ad) := by
    rcases h with ⟨rfl, rfl⟩ | ⟨ad, c, z, rfl, h1, _⟩
    · exact ⟨_, _, rfl, by omega⟩
    · exact ⟨_, _, rfl, fun _ => ⟨_, rfl⟩⟩
  obtain ⟨ra, rc, rfl, hra⟩ := hv
  obtain ⟨ts, ht⟩ := Ng
  have hlt := hE.lt
  have b0 := (Below.refl w.heap.size w).alloc (Nat.le_refl _) (.cells #[.int .i64 o2.kd, .int .i64 o2.a, .int .i64 o2.b, .bool o2.less] 50)
  have MO := ae b0
  have C1 := ae (fun w' (k : Below w.heap.size w w') => EH pM ts ht.read w' (hE.below k hlt).laid)
  unfold pM at C1
  have HR := ae h
  have HRA := ae hra
  have HE := ae hE
  have HT := ae ht
  have HO2 := ae ho2
  clear h hra hE ht b0 ho2
  go_enter Tryz.func11, Tryz.ntmps11
  go_wp2_with fail
  refine (aa C1 _ (aa MO)).mono ?_
  rintro e w1 ⟨mv, lv, x, rfl, hu, hb1, hx⟩
  have HU := ae hu
  have HC1 := ae hb1
  have MN := ae ((aa MO).trans (hb1.mono (aa MO).size))
  have hxl := hu.p.blk.lt
  have hx' : w.heap.size ≤ x := by simp at hx; omega
  clear hu hb1 hx
  go_wp2_with fail
  refine (aa C1 _ (aa MN)).mono ?_
  rintro e w2 ⟨mv', lv', y, rfl, hv, hb2, hy⟩
  have iK := ae ((aa MN).trans (hb2.mono (aa MN).size))
  have Rw := ae ((aa HC1).trans (hb2.mono (aa HC1).size))
  have HS := ae (show AlS w.heap.size w2 x y ts ts [] [] from ⟨mv, lv, _, mv', lv', _, (aa HU).below hb2, hv, (fun k hk hk' => by
      rcases hk with rfl | ⟨_, _, e⟩
      · rcases hk' with rfl | ⟨_, _, e⟩
        · omega
        · cases e
      · cases e), (fun k hk => by
      rcases hk with rfl | ⟨_, _, e⟩
      · exact hx'
      · cases e), fun k hk => by
      rcases hk with rfl | ⟨_, _, e⟩
      · have := (aa MN).size; omega
      · cases e⟩)
  have y0 : w2.cell? ⟨w.heap.size, 0, none⟩ = some (.int .i64 o2.kd) := af (show (w.alloc (.cells #[.int .i64 o2.kd, .int .i64 o2.a, .int .i64 o2.b, .bool o2.less] 50)).cell? ⟨w.heap.size, 0, none⟩ = some (.int .i64 o2.kd) from by have q := World.news_of_block (B := w.heap.size) (cs := #[.int .i64 o2.kd, .int .i64 o2.a, .int .i64 o2.b, .bool o2.less]) (t := 50) (fr := (0, 0)) (ag.new w _ _) 0 _ rfl; exact q) (aa Rw)
  have y1 : w2.cell? ⟨w.heap.size, 1, none⟩ = some (.int .i64 o2.a) := af (show (w.alloc (.cells #[.int .i64 o2.kd, .int .i64 o2.a, .int .i64 o2.b, .bool o2.less] 50)).cell? ⟨w.heap.size, 1, none⟩ = some (.int .i64 o2.a) from by have q := World.news_of_block (B := w.heap.size) (cs := #[.int .i64 o2.kd, .int .i64 o2.a, .int .i64 o2.b, .bool o2.less]) (t := 50) (fr := (0, 0)) (ag.new w _ _) 1 _ rfl; exact q) (aa Rw)
  have y2 : w2.cell? ⟨w.heap.size, 2, none⟩ = some (.int .i64 o2.b) := af (show (w.alloc (.cells #[.int .i64 o2.kd, .int .i64 o2.a, .int .i64 o2.b, .bool o2.less] 50)).cell? ⟨w.heap.size, 2, none⟩ = some (.int .i64 o2.b) from by have q := World.news_of_block (B := w.heap.size) (cs := #[.int .i64 o2.kd, .int .i64 o2.a, .int .i64 o2.b, .bool o2.less]) (t := 50) (fr := (0, 0)) (ag.new w _ _) 2 _ rfl; exact q) (aa Rw)
  have y3 : w2.cell? ⟨w.heap.size, 3, none⟩ = some (.bool o2.less) := af (show (w.alloc (.cells #[.int .i64 o2.kd, .int .i64 o2.a, .int .i64 o2.b, .bool o2.less] 50)).cell? ⟨w.heap.size, 3, none⟩ = some (.bool o2.less) from by have q := World.news_of_block (B := w.heap.size) (cs := #[.int .i64 o2.kd, .int .i64 o2.a, .int .i64 o2.b, .bool o2.less]) (t := 50) (fr := (0, 0)) (ag.new w _ _) 3 _ rfl; exact q) (aa Rw)
  have CG := ae (AX o2 (aa HO2) w2)
  have l1 := mX o2.kd (n := 9) (by omega)
  have l2 := mX o2.a (n := 4) (by omega)
  have l3 := mX o2.b (n := 4) (by omega)
  have Ms := ae (Ha l1 l2 l3)
  generalize Io (BV o2.kd 9) (BV o2.a 4) (BV o2.b 4) = s at *
  clear hv hb2 hy hxl hx' l1 l2 l3 HU HC1 Rw MN C1
  go_wp2_with fail
  obtain ⟨N, hN⟩ : ∃ N : Nat, min (n : Int) 20 = (N : Int) := ⟨min n 20, by omega⟩
  have hN1 : N ≤ n := by omega
  have Q4 : N ≤ 20 := by omega
  rw [hN]
  clear hN
  refine (aa CG).mono ?_
  rintro e w3 ⟨rfl, hb3⟩
  have ww := ae ((aa iK).trans (hb3.mono (aa iK).size))
  have zJ := ae ((aa HS).below hb3)
  clear hb3 CG y0 y1 y2 y3 iK HS MO
  go_wp2_with fail
  go_loopw [7, 10] (fun u7 u10 wr => ∃ (i : Nat) (ss : List ByteArray), u10 = .int .i64 i ∧ i ≤ N ∧ Below w.heap.size w wr ∧ AlS w.heap.size wr x y ts ts (ss.map tt) [] ∧ wr.ownsRow w.heap.size 9 1 u7 ss.length (jZ ss) ∧ Hid (UnI ss s i)) (fun _ u10 _ => N - (intOf u10).toNat)
  case atStart => exact ⟨0, [], rfl, by omega, aa ww, aa zJ, World.ownsRow_nil _ _ _ _, ae ⟨(fun _ h => by cases h), by simp, by simp, by simp⟩⟩
  case round =>
    obtain ⟨i, ss, rfl, hi, hb, hS, hrow, HI⟩ := hrel
    obtain ⟨va, vc, rfl⟩ := ak hrow
    have hil := (aa HI).len
    by_cases hit : i < N
    · have hin : (i : Int) < (N : Int) := by omega
      have hin2 : (i : Int) < (n : Int) := by omega
      obtain ⟨ad, rfl⟩ := aa HRA (by omega)
      obtain ⟨o, PT, z0, z1, z2, z3⟩ := (aa HR).cell (Below.refl _ w) (show i < n by omega)
      have x0 := af z0 hb
      have x1 := af z1 hb
      have x2 := af z2 hb
      have x3 := af z3 hb
      clear z0 z1 z2 z3
      have CG := ae (AX o PT wr)
      have l1 := mX o.kd (n := 9) (by omega)
      have l2 := mX o.a (n := 4) (by omega)
      have l3 := mX o.b (n := 4) (by omega)
      have RF := ae (Ha l1 l2 l3)
      generalize Io (BV o.kd 9) (BV o.a 4) (BV o.b 4) = T at *
      have HB := ae hb
      have HSS := ae hS
      have om := ae hrow
      have hbs := hb.size
      clear hb hS hrow PT l1 l2 l3
      go_wp2_with fail
      refine (aa CG).mono ?_
      rintro e w4 ⟨rfl, hb4⟩
      have wy := ae ((aa HB).trans (hb4.mono hbs))
      have Nl := ae ((aa HSS).below hb4)
      have lD := ae (aF (aa om) hb4)
      clear hb4 CG HB HSS om x0 x1 x2 x3
      by_cases hts : T = s
      · have hqd := ug hts
        go_wp2
        go_roundw
        case rel => exact ⟨i + 1, ss, by go_num, by omega, aa wy, aa Nl, aa lD, ae (aa HI).more⟩
        case measure => simp [intOf]; omega
      · have hqd := uf hts
        have HTS := ae hts
        clear hts
        by_cases htin : T ∈ ss
        · have CA := ae (un_twice (aa Nl) ((aa HE).below (aa wy) hlt) (aa HT) (List.mem_append_left _ (aa RF)) htin (by omega))
          go_wp2_with fail
          refine (aa CA).mono ?_
          rintro e w5 ⟨rfl, hs5, gF, hk5⟩
          have Qn := ae ((aa wy).trans gF)
          have K9 := ae (hk5.row (aa lD))
          have CBzq := ae (un_new hs5 ((aa HE).below (aa Qn) hlt) (aa HT) (gr_two (aa HI).gr) (List.mem_append_left _ (aa Ms)) (aa HI).out (by omega))
          clear hs5 gF hk5 CA wy Nl lD
          go_wp2_with fail
          refine (aa CBzq).mono ?_
          rintro e w6 ⟨rfl, hs6, Nz, hk6⟩
          have HB6 := ae ((aa Qn).trans Nz)
          have HR6 := ae (hk6.row (aa K9))
          have CC := ae (un_del hs6 ((aa HE).below (aa HB6) hlt) (aa HT) (gr_two (aa HI).gr) (List.mem_append_left _ (aa Ms)) (aa HI).out)
          clear hs6 Nz hk6 CBzq Qn K9
          go_wp2_with fail
          refine (aa CC).mono ?_
          rintro e w7 ⟨rfl, hs7, Lx, hk7⟩
          have HB7 := ae ((aa HB6).trans Lx)
          have HR7 := ae (hk7.row (aa HR6))
          have LB := ae hs7
          have CP := ae (mY _ _ ss T w7 (aa HR7) (by omega))
          clear hs7 Lx hk7 CC HB6 HR6
          go_wp2_with fail
          refine (aa CP).mono ?_
          rintro e w8 ⟨r, rfl, uB, hr⟩
          rw [uB]
          clear uB w8
          have J8 : ¬ (r < 0) := fun h => (hr.1 h) htin
          clear hr htin CP
          go_wp2
          go_roundw
          case rel => exact ⟨i + 1, ss, by go_num, by omega, aa HB7, aa LB, aa HR7, ae (aa HI).more⟩
          case measure => simp [intOf]; omega
        · have CA := ae (un_new (aa Nl) ((aa HE).below (aa wy) hlt) (aa HT) (gr_two (aa HI).gr) (List.mem_append_left _ (aa RF)) htin (by omega))
          have yC := ae ((aa HI).snoc (aa RF) htin (aa HTS))
          have hl2 := (aa yC).len
          go_wp2_with fail
          refine (aa CA).mono ?_
          rintro e w5 ⟨rfl, hs5, gF, hk5⟩
          have Qn := ae ((aa wy).trans gF)
          have K9 := ae (hk5.row (aa lD))
          have CBzq := ae (un_new hs5 ((aa HE).below (aa Qn) hlt) (aa HT) (gr_two (aa yC).gr) (List.mem_append_left _ (aa Ms)) (aa yC).out (by omega))
          clear hs5 gF hk5 CA wy Nl lD
          go_wp2_with fail
          refine (aa CBzq).mono ?_
          rintro e w6 ⟨rfl, hs6, Nz, hk6⟩
          have HB6 := ae ((aa Qn).trans Nz)
          have HR6 := ae (hk6.row (aa K9))
          have CC := ae (un_del hs6 ((aa HE).below (aa HB6) hlt) (aa HT) (gr_two (aa yC).gr) (List.mem_append_left _ (aa Ms)) (aa yC).out)
          clear hs6 Nz hk6 CBzq Qn K9
          go_wp2_with fail
          refine (aa CC).mono ?_
          rintro e w7 ⟨rfl, hs7, Lx, hk7⟩
          have HB7 := ae ((aa HB6).trans Lx)
          have HR7 := ae (hk7.row (aa HR6))
          have LB := ae hs7
          have sz7 := (aa HB7).size
          have CP := ae (mY _ _ ss T w7 (aa HR7) (by omega))
          clear hs7 Lx hk7 CC HB6 HR6
          go_wp2_with fail
          refine (aa CP).mono ?_
          rintro e w8 ⟨r, rfl, uB, hr⟩
          rw [uB]
          clear uB w8
          have J8 : r < 0 := hr.2 htin
          clear hr htin CP
          obtain ⟨i0, hi0, hz0, hz1, hz2⟩ := info_parts Tryz.infoStr
          have HJ := ae hi0
          have jg := ae hz0
          have jh := ae hz1
          have ji := ae hz2
          clear hi0 hz0 hz1 hz2
          go_wp2_with (at_builtin; go_must (refine wpList_append_lies _ rfl _ _ 22 rfl w.heap.size 9 i0 _ 1 16 Tryz.underlying22 (aa HJ) (aa jg) (aa jh) (aa ji) rfl (by decide) (.slice va ss.length vc) ss.length (jZ ss) rfl ?hownB ⟨w7.heap.size, 0, none⟩ 1 1 [.string T] rfl rfl ?Lt ?honeB (by decide) ?h63B ?Je ?Lu (w7.heap.size + 1) ?hHB ?hrestB))
          case hownB => exact (aa HR7).alloc _
          case Lt => exact World.news_of_block (B := w7.heap.size) (cs := #[.string T]) (t := 9) (fr := (0, 0)) (ag.new _ _ _)
          case honeB =>
            intro u hu
            simp at hu
            subst hu
            rfl
          case h63B => unfold maxLen; omega
          case Je => omega
          case Lu => simp; omega
          case hHB => simp
          case hrestB =>
            intro g8 c8 w8 hown8 hgrow8 hat8 hgl8
            have fA := (aa HR7).alloc (.cells #[.string T] 9)
            have HB8 := ae (Below.grown ((aa HB7).alloc sz7 (.cells #[.string T] 9)) hgrow8 (by simp; omega) (fun q hq => (fA.lt q hq).1))
            have QP := ae (((aa LB).below ((Below.refl w7.heap.size w7).alloc (Nat.le_refl _) (.cells #[.string T] 9))).grown fA hgrow8)
            have HR8 := ae (show w8.ownsRow w.heap.size 9 1 (.slice (some ⟨g8, 0, none⟩) (ss.length + 1) c8) (ss ++ [T]).length (jZ (ss ++ [T])) from by
              rw [show (ss ++ [T]).length = ss.length + 1 by simp, stC_app]
              exact hown8)
            clear fA hown8 hgrow8 hat8 hgl8 HB7 LB HR7
            go_wp2
            go_roundw
            case rel => exact ⟨i + 1, ss ++ [T], by go_num, by omega, aa HB8, aa QP, aa HR8, yC⟩
            case measure => simp [intOf]; omega
    · have hin : ¬ ((i : Int) < (N : Int)) := by omega
      have HB := ae hb
      have HSS := ae hS
      have om := ae hrow
      clear hb hS hrow
      go_wp2_with fail
      go_loopw [16] (fun u16 wk => ∃ (z : Int) (m : Nat), u16 = .int .i64 z ∧ z + 1 = (m : Int) ∧ m ≤ ss.length ∧ Below w.heap.size w wk ∧ AlS w.heap.size wk x y ts ts (ss.map tt) (((ss.drop m).reverse).map tt) ∧ wk.ownsRow w.heap.size 9 1 (.slice va ss.length vc) ss.length (jZ ss)) (fun u16 _ => (intOf u16 + 1).toNat)
      case atStart => exact ⟨_, ss.length, rfl, by omega, by omega, aa HB, by rw [List.drop_length]; exact aa HSS, aa om⟩
      case round =>
        obtain ⟨z, m, rfl, hzm, hm, hb, hS, hrow⟩ := hrel
        by_cases hm0 : 0 < m
        · obtain ⟨p, rfl⟩ : ∃ p, m = p + 1 := ⟨m - 1, by omega⟩
          obtain rfl : z = (p : Int) := by omega
          have hpl : p < ss.length := by omega
          have hpn : (p : Int) < (ss.length : Int) := by omega
          obtain ⟨g, c', e1, hc⟩ := aQ hrow p (.string ss[p]) (by unfold jZ; rw [List.getElem?_map, List.getElem?_eq_getElem hpl]; rfl)
          simp only [Value.slice.injEq, true_and] at e1
          obtain ⟨rfl, rfl⟩ := e1
          obtain ⟨q1, q2⟩ := drop_step hpl (aa HI).nd
          have HDS := ae q1
          have HY := ae (gr_two (aa HI).gr _ (List.getElem_mem hpl))
          generalize ss[p] = Y at *
          have CA := ae (un_new hS.swap ((aa HE).below hb hlt) (aa HT) (fun t ht => gr_two (aa HI).gr t (List.mem_of_mem_drop (List.mem_reverse.1 ht))) (aa HY) q2 (by rw [List.length_reverse, List.length_drop]; omega))
          have wy := ae hb
          have lD := ae hrow
          clear hb hS hrow q1 q2 HY hzm
          go_wp2_with fail
          refine (aa CA).mono ?_
          rintro e w4 ⟨rfl, hs4, hb4, hk4⟩
          have Qn := ae ((aa wy).trans hb4)
          have K9 := ae (hk4.row (aa lD))
          have xe := ae (show AlS w.heap.size w4 x y ts ts (ss.map tt) (((ss.drop p).reverse).map tt) from by rw [aa HDS]; exact hs4.swap)
          clear hs4 hb4 hk4 CA wy lD HDS hc
          go_wp2
          go_roundw
          case rel => exact ⟨(p : Int) - 1, p, by go_num, by omega, by omega, aa Qn, aa xe, aa K9⟩
          case measure => simp [intOf]
        · obtain rfl : m = 0 := by omega
          obtain rfl : z = -1 := by omega
          rw [List.drop_zero] at hS
          have wy := ae hb
          have Nl := ae hS
          have HN := ae (gr_two (aa HI).gr)
          have HNR := ae (show ∀ t ∈ ss.reverse, t ∈ allG2 from fun t ht => aa HN t (List.mem_reverse.1 ht))
          have hsl : ss.length ≤ 20 := by omega
          have hgl : (iG ((ss.map tt).map tuS)).length = ss.length := by rw [oQ, List.length_map, List.length_map]
          have CA := ae (un_grants hS (aa HN))
          have HGO := ae (grants_one (List.reverse_perm ss))
          clear hb hS hrow hm hzm hm0
          go_wp2_with fail
          refine (aa CA).mono ?_
          rintro e w4 ⟨v4, rfl, hb4, hr4⟩
          have xe := ae ((aa Nl).below hb4)
          have Qn := ae ((aa wy).trans (hb4.mono (aa wy).size))
          have CBzq := ae (un_grants (aa xe).swap (aa HNR))
          rw [aa HGO] at CBzq
          generalize iG ((ss.map tt).map tuS) = gl at *
          rw [hgl] at hr4
          obtain ⟨a4, c4, rfl⟩ := ak hr4
          have K9 := ae hr4
          clear hb4 hr4 CA wy Nl HGO
          go_wp2_with fail
          refine (aa CBzq).mono ?_
          rintro e w5 ⟨v5, rfl, gF, hr5⟩
          have C8 := ae ((aa xe).below gF)
          have HB6 := ae ((aa Qn).trans (gF.mono (aa Qn).size))
          have HR6 := ae (aF (aa K9) gF)
          rw [hgl] at hr5
          obtain ⟨a5, c5, rfl⟩ := ak hr5
          have HQ6 := ae hr5
          have CC := ae (un_all (aa C8) ((aa HE).below (aa HB6) hlt) (aa HT) (aa HN) (by omega))
          clear gF hr5 CBzq Qn xe K9
          go_wp2_with fail
          refine (aa CC).mono ?_
          rintro e w6 ⟨v6, out, rfl, Nz, hal6, hr6⟩
          have LB := ae ((aa C8).below Nz)
          have HB7 := ae ((aa HB6).trans (Nz.mono (aa HB6).size))
          have HR7 := ae (aF (aa HR6) Nz)
          have HQ7 := ae (aF (aa HQ6) Nz)
          have HA7 := ae hal6
          obtain ⟨a6, c6, rfl⟩ := ak hr6
          have HX7 := ae hr6
          have CD := ae (un_all (aa LB).swap ((aa HE).below (aa HB7) hlt) (aa HT) (aa HNR) (by rw [List.length_reverse]; omega))
          clear Nz hal6 hr6 CC HB6 C8 HR6 HQ6
          go_wp2_with fail
          refine (aa CD).mono ?_
          rintro e w7 ⟨v7, out', rfl, Lx, hal7, hr7⟩
          obtain rfl : out = out' := allP_same (aa HT) (fun t => by simp) (crowdL (aa HT) (gdL_map (aa HN)) (by simpa using (show ss.length ≤ 24 by omega))).2.1 (crowdL (aa HT) (gdL_map (aa HNR)) (by simpa using (show ss.length ≤ 24 by omega))).2.1 (aa HA7) hal7
          have hol := allP_len (crowdL (aa HT) (gdL_map (aa HN)) (by simpa using (show ss.length ≤ 24 by omega))).2.1 (aa HA7)
          have QP := ae ((aa LB).below Lx)
          have HB8 := ae ((aa HB7).trans (Lx.mono (aa HB7).size))
          have HR8 := ae (aF (aa HR7) Lx)
          have HQ8 := ae (aF (aa HQ7) Lx)
          have HX8 := ae (aF (aa HX7) Lx)
          obtain ⟨a7, c7, rfl⟩ := ak hr7
          have HY8 := ae hr7
          have CEzq := ae (sameQ_yes _ _ (.slice a4 ss.length c4) (.slice a5 ss.length c5) gl w7 (by rw [hgl]; exact aa HR8) (by rw [hgl]; exact aa HQ8) (by omega))
          clear Lx hal7 hr7 CD HB7 LB HR7 HQ7 HX7 HA7
          go_wp2_with fail
          refine (aa CEzq).mono ?_
          rintro e w8 ⟨rfl, PO⟩
          have HS9 := ae ((aa QP).below PO)
          have HB9 := ae ((aa HB8).trans (PO.mono (aa HB8).size))
          have CF := ae (sameQ_yes _ _ (.slice a6 out.length c6) (.slice a7 out.length c7) out w8 (aF (aa HX8) PO) (aF (aa HY8) PO) (by omega))
          clear PO CEzq HB8 QP HR8 HQ8 HX8 HY8
          go_wp2_with fail
          refine (aa CF).mono ?_
          rintro e w9 ⟨rfl, hb9⟩
          have HS10 := ae ((aa HS9).below hb9)
          have HB10 := ae ((aa HB9).trans (hb9.mono (aa HB9).size))
          have CH := ae (un_none (aa HS10) ((aa HE).below (aa HB10) hlt) (aa HT) (aa HN) (List.mem_append_left _ (aa Ms)) (aa HI).out)
          clear hb9 CF HB9 HS9
          go_wp2_with fail
          refine (aa CH).mono ?_
          rintro e w10 ⟨rfl, hs10, hb10, hk10⟩
          have HB11 := ae ((aa HB10).trans hb10)
          have CI := ae (un_new hs10 ((aa HE).below (aa HB11) hlt) (aa HT) (aa HN) s7_in (fun hm => s7_out ((aa HI).gr _ hm)) (by omega))
          unfold s7B at CI
          clear hs10 hb10 hk10 CH HB10 HS10
          go_wp2_with fail
          refine (aa CI).mono ?_
          rintro e w11 ⟨rfl, hs11, hb11, hk11⟩
          have HB12 := ae ((aa HB11).trans hb11)
          have hs11' : AlS w.heap.size w11 x y ts ts ((ss ++ [s7B]).map tt) ((ss.reverse).map tt) := hs11
          have hn7 : ∀ t ∈ ss ++ [s7B], t ∈ allG2 := fun t ht => by
            rcases List.mem_append.1 ht with ht | ht
            · exact aa HN t ht
            · rw [List.mem_singleton] at ht; subst ht; exact s7_in
          have CJzq := ae (un_who7 hs11' ((aa HE).below (aa HB12) hlt) (aa HT) hn7 (by simp; omega))
          have HSEE := ae (fun l => un_seen (aa HT) (aa HI).gr (l := l) (crowdL (aa HT) (gdL_map hn7) (by simp; omega)).2.1)
          have HILN := ae (fun q l (h : IsW ts ((ss ++ [s7B]).map tt) q l) => Nat.le_trans (isW_len h) (crowdL (aa HT) (gdL_map hn7) (by simp; omega)).2.1)
          clear hs11 hs11' hb11 hk11 CI HB11 hn7
          go_wp2_with fail
          refine (aa CJzq).mono ?_
          rintro e w12 ⟨v12, K, rfl, hb12, hrun, hown⟩
          have hin12 := aa HSEE (iH (K ⟨eP, qa 7, vS⟩) (aH ts ((ss ++ [s7B]).map tt))) ⟨K, hrun, rfl⟩
          have hl12 := aa HILN ⟨eP, qa 7, vS⟩ (iH (K ⟨eP, qa 7, vS⟩) (aH ts ((ss ++ [s7B]).map tt))) ⟨K, hrun, rfl⟩
          generalize iH (K ⟨eP, qa 7, vS⟩) (aH ts ((ss ++ [s7B]).map tt)) = l12 at *
          rw [show uy ⟨dP, bAll⟩ = ⟨#[117, 115, 101, 114, 58, 42]⟩ from by kernel_rfl] at hin12
          have HB13 := ae ((aa HB12).trans (hb12.mono (aa HB12).size))
          obtain ⟨a12, c12, rfl⟩ := ak hown
          have CP := ae (mY _ _ l12 ⟨#[117, 115, 101, 114, 58, 42]⟩ w12 hown (by omega))
          have Qm := ae hin12
          clear hb12 hrun hown CJzq HSEE HILN HB12 hin12
          go_wp2_with fail
          refine (aa CP).mono ?_
          rintro e w13 ⟨r, rfl, hw13, hr⟩
          rw [hw13]
          clear hw13 w13
          have J8 : ¬ (r < 0) := fun h => (hr.1 h) (aa Qm)
          have hr1 : (0 : Int) ≤ r := by omega
          clear hr CP Qm hgl
          go_wp2
          go_ret
          exact ⟨rfl, aa HB13⟩
end Go.Proofs.YtlbpnlngckgcbaaGreatDoor

