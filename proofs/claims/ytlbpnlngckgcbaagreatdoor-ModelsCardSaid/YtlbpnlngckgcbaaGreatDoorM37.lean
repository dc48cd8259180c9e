import Derived.Test.YtlbpnlngckgcbaaGreatDoorM36
namespace Go.Proofs.YtlbpnlngckgcbaaGreatDoor
open Go.RowKit Go.PlainAid
set_option linter.unusedSimpArgs false
set_option linter.unusedVariables false
/-! The least place that the document's loops gives. -/
theorem minus_eq (t : ByteArray) (p : Nat) : minus ⟨lst t, p, false⟩ = eqs t (sg 45) := by
 unfold minus eqs
 simp only
 rw [mk_lst, toList_lst]
 rfl
theorem less_and : ¬ tyOf (kindOf (sg 38)) = 246 := by decide
theorem less_or : ¬ tyOf (kindOf (sg 124)) = 246 := by decide
theorem less_less : tyOf (kindOf (sg 45)) = 246 := by decide
theorem ex_cons {α : Type} {P : α → Prop} {x : α} {l : List α} : (∃ a ∈ x :: l, P a) ↔ P x ∨ ∃ a ∈ l, P a := by
 constructor
 ·rintro ⟨a, ha, h⟩
  rcases List.mem_cons.1 ha with rfl | ha
  ·exact .inl h
  ·exact .inr ⟨a, ha, h⟩
 ·rintro (h | ⟨a, ha, h⟩)
  ·exact ⟨x, by simp, h⟩
  ·exact ⟨a, by simp [ha], h⟩
theorem less_fold (B : Ex → Bool) (q : Nat) : ∀ (rs : List (ByteArray × Nat × Ex)) (x : Ex), q ∈ lessE B (foldE x rs) ↔ q ∈ lessE B x ∨ (∃ r ∈ rs, tyOf (kindOf r.1) = 246 ∧ B r.2.2 = true ∧ q = r.2.1) ∨ ∃ r ∈ rs, q ∈ lessE B r.2.2
 | [], x => by simp [foldE]
 | (t, p, y) :: rs, x => by
  rw [foldE, less_fold B q rs]
  simp only [joinE, lessE, List.mem_append, ex_cons]
  by_cases h : tyOf (kindOf t) = 246 ∧ B y = true
  ·rw [if_pos h]
   simp only [List.mem_singleton, h, true_and]
   constructor
   ·rintro (((h | h) | h) | h | h)
    ·exact .inl h
    ·exact .inr (.inl (.inl h))
    ·exact .inr (.inr (.inl h))
    ·exact .inr (.inl (.inr h))
    ·exact .inr (.inr (.inr h))
   ·rintro (h | (h | h) | h | h)
    ·exact .inl (.inl (.inl h))
    ·exact .inl (.inl (.inr h))
    ·exact .inr (.inl h)
    ·exact .inl (.inr h)
    ·exact .inr (.inr h)
  ·rw [if_neg h]
   simp only [List.not_mem_nil, or_false]
   constructor
   ·rintro ((h | h) | h | h)
    ·exact .inl h
    ·exact .inr (.inr (.inl h))
    ·exact .inr (.inl (.inr h))
    ·exact .inr (.inr (.inr h))
   ·rintro (h' | (h' | h') | h' | h')
    ·exact .inl (.inl h')
    ·exact absurd ⟨h'.1, h'.2.1⟩ h
    ·exact .inr (.inl h')
    ·exact .inl (.inr h')
    ·exact .inr (.inr h')
theorem bst_least {R : Nat → Ex → Prop} (bad : Nat → Bool) (B : Ex → Bool) (hB : ∀ n y, R n y → bad n = B y) : ∀ (rs : List (ByteArray × Nat × Ex)) (ns : List Nat) (c : Int) (S : Nat → Prop), All2 R ns (rs.map fun r => r.2.2) → (∀ r ∈ rs, r.1 = sg 38 ∨ r.1 = sg 45) → LeastI c S →
  LeastI (bst bad ns (rs.map fun r => ⟨lst r.1, r.2.1, false⟩) c) (fun q => S q ∨ ∃ r ∈ rs, tyOf (kindOf r.1) = 246 ∧ B r.2.2 = true ∧ q = r.2.1)
 | [], [], c, S, _, _, h => h.congr (fun q => by simp)
 | r :: rs, n :: ns, c, S, k, hs, h => by
  have hb : bad n = B r.2.2 := hB n _ k.1
  have ih := bst_least bad B hB rs ns
  simp only [List.map_cons, bst, minus_eq, hb]
  rcases hs r (by simp) with e | e
  ·have e1 : eqs r.1 (sg 45) = false := by rw [e]; decide
   rw [e1]
   simp only [Bool.false_and, Bool.false_eq_true, if_false]
   refine (ih c S k.2 (fun r hr => hs r (by simp [hr])) h).congr (fun q => ?_)
   simp only [ex_cons, e, less_and, false_and, false_or]
  ·have e1 : eqs r.1 (sg 45) = true := by rw [e]; decide
   rw [e1]
   simp only [Bool.true_and]
   cases hbb : B r.2.2
   ·simp only [Bool.false_eq_true, if_false]
    refine (ih c S k.2 (fun r hr => hs r (by simp [hr])) h).congr (fun q => ?_)
    simp only [ex_cons, hbb, Bool.false_eq_true, false_and, and_false, false_or]
   ·simp only [if_true]
    refine (ih _ _ k.2 (fun r hr => hs r (by simp [hr])) (h.step r.2.1)).congr (fun q => ?_)
    simp only [ex_cons, hbb, e, less_less, true_and, or_assoc]
 | [], _ :: _, _, _, k, _, _ => k.elim
 | _ :: _, [], _, _, k, _, _ => k.elim
section
variable {pl : List PV} {rl : List RV} {ts : List Ty} {F : Nat}
theorem szF_kids {f n : Nat} {y : Ex} {q : PV} (hy : Tr pl (f + 1) n y) (hq : pl[n]? = some q) : szF pl (f + 1) n = (q.ps.map (szF pl (f + 1))).sum + 1 := by
 rw [szF, hq]
 simp only
 rw [sum_congr (f := szF pl f) (g := szF pl (f + 1)) (fun m hm => by obtain ⟨z, hz⟩ := hy.kids hq m hm; exact (szF_le pl hz (by omega)).symm)]
/-- A part of the relation's expression, and what it stands for. -/
def SubR (pl : List PV) (F : Nat) (x : RV) (n : Nat) (y : Ex) : Prop := Tr pl F n y ∧ ∀ k ∈ leavesF pl F n, k ∈ leavesF pl F x.ex
theorem SubR.kid {g : Nat} {x : RV} {n : Nat} {y : Ex} {p : PV} (h : SubR pl (g + 1) x n y) (hp : pl[n]? = some p) {m : Nat} (hm : m ∈ p.ps) {z : Ex} (hz : Tr pl g m z) : SubR pl (g + 1) x m z := by
 refine ⟨Tr.up pl _ _ _ hz, fun k hk => h.2 k ?_⟩
 rw [leavesF_le pl hz (by omega)] at hk
 exact h.1.kid_leaves hp m hm k hk
theorem all2_imp {R S : Nat → Ex → Prop} : ∀ (ns : List Nat) (xs : List Ex), (∀ n ∈ ns, ∀ x, R n x → S n x) → All2 R ns xs → All2 S ns xs
 | [], [], _, _ => trivial
 | n :: ns, x :: xs, h, k => ⟨h n (by simp) x k.1, all2_imp ns xs (fun n hn => h n (by simp [hn])) k.2⟩
 | [], _ :: _, _, k => k.elim
 | _ :: _, [], _, k => k.elim
theorem bestL_least {g : Nat} (x : RV) (bad : Nat → Bool) (B : Ex → Bool) (hB : ∀ n y, SubR pl (g + 1) x n y → bad n = B y) : ∀ (f : Nat) (q : List Nat) (ys : List Ex) (c : Int) (S : Nat → Prop), All2 (SubR pl (g + 1) x) q ys → (q.map (szF pl (g + 1))).sum < f → LeastI c S →
  LeastI (bestL bad pl f q c) (fun p => S p ∨ ∃ y ∈ ys, p ∈ lessE B y)
 | 0, _, _, _, _, _, h, _ => by omega
 | f + 1, [], [], c, S, _, _, h => h.congr (fun q => by simp)
 | f + 1, n :: q, y :: ys, c, S, k, hs, h => by
  obtain ⟨k1, k2⟩ := k
  obtain ⟨p, hp, hc⟩ := id k1.1
  have hz := szF_kids k1.1 hp
  simp only [List.map_cons, List.sum_cons] at hs
  rw [bestL, hp]
  simp only
  rcases hc with ⟨h1, hn, rfl⟩ | ⟨h1, h0, hn, rfl⟩ | ⟨h1, h0, hn, rfl⟩ | ⟨h1, h0, n0, ns, x0, rs, h3, h4, h5, h6, h7, rfl⟩ | ⟨h1, h0, h0', n0, ns, x0, rs, h3, h4, h5, h6, h7, rfl⟩
  ·rw [hn.1, hn.2]
   simp only [List.append_nil, List.drop_nil, bst]
   refine (bestL_least x bad B hB f q ys c S k2 (by omega) h).congr (fun q => ?_)
   simp [lessE]
  ·rw [hn.1, hn.2]
   simp only [List.append_nil, List.drop_nil, bst]
   refine (bestL_least x bad B hB f q ys c S k2 (by omega) h).congr (fun q => ?_)
   simp [lessE]
  ·rw [hn.1, hn.2]
   simp only [List.append_nil, List.drop_nil, bst]
   refine (bestL_least x bad B hB f q ys c S k2 (by omega) h).congr (fun q => ?_)
   simp [lessE]
  ·have kn : All2 (SubR pl (g + 1) x) ns (rs.map fun r => r.2.2) := all2_imp ns _ (fun m hm z hz => k1.kid hp (by rw [h3]; simp [hm]) hz) h5
   have k0 : SubR pl (g + 1) x n0 x0 := k1.kid hp (by rw [h3]; simp) h4
   have hb := bst_least bad B hB rs ns c S kn h7.1 h
   have hq : All2 (SubR pl (g + 1) x) (q ++ p.ps) (ys ++ (x0 :: rs.map fun r => r.2.2)) := by
    rw [h3]
    exact All2.app (show All2 (SubR pl (g + 1) x) (n0 :: ns) (x0 :: rs.map fun r => r.2.2) from ⟨k0, kn⟩) _ _ k2
   have hl := bestL_least x bad B hB f _ _ _ _ hq (by rw [List.map_append, List.sum_append]; omega) hb
   rw [h6]
   rw [h3] at hl ⊢
   simp only [List.drop_succ_cons, List.drop_zero]
   refine hl.congr (fun p => ?_)
   simp only [ex_cons, less_fold, List.mem_append, or_and_right, exists_or, List.mem_cons, exists_eq_left, List.mem_map]
   constructor
   ·rintro ((h | h) | h | h | ⟨z, ⟨r, hr, rfl⟩, hz⟩)
    ·exact .inl h
    ·exact .inr (.inl (.inr (.inl h)))
    ·exact .inr (.inr h)
    ·exact .inr (.inl (.inl h))
    ·exact .inr (.inl (.inr (.inr ⟨r, hr, hz⟩)))
   ·rintro (h | (h | h | ⟨r, hr, hz⟩) | h)
    ·exact .inl (.inl h)
    ·exact .inr (.inr (.inl h))
    ·exact .inl (.inr h)
    ·exact .inr (.inr (.inr ⟨_, ⟨r, hr, rfl⟩, hz⟩))
    ·exact .inr (.inl h)
  ·have kn : All2 (SubR pl (g + 1) x) ns (rs.map fun r => r.2.2) := all2_imp ns _ (fun m hm z hz => k1.kid hp (by rw [h3]; simp [hm]) hz) h5
   have k0 : SubR pl (g + 1) x n0 x0 := k1.kid hp (by rw [h3]; simp) h4
   have hq : All2 (SubR pl (g + 1) x) (q ++ p.ps) (ys ++ (x0 :: rs.map fun r => r.2.2)) := by
    rw [h3]
    exact All2.app (show All2 (SubR pl (g + 1) x) (n0 :: ns) (x0 :: rs.map fun r => r.2.2) from ⟨k0, kn⟩) _ _ k2
   have hl := bestL_least x bad B hB f _ _ _ _ hq (by rw [List.map_append, List.sum_append]; omega) h
   rw [h0']
   have e : ∀ l : List Nat, bst bad l (List.drop 1 []) c = c := fun l => by cases l <;> rfl
   rw [e]
   refine hl.congr (fun p => ?_)
   have hno : ¬ ∃ r ∈ rs, tyOf (kindOf r.1) = 246 ∧ B r.2.2 = true ∧ p = r.2.1 := by
    rintro ⟨r, hr, h8, _⟩
    rw [h6 r hr] at h8
    exact less_or h8
   simp only [ex_cons, less_fold, List.mem_append, or_and_right, exists_or, List.mem_cons, exists_eq_left, List.mem_map, hno, false_or]
   constructor
   ·rintro (h | h | h | ⟨z, ⟨r, hr, rfl⟩, hz⟩)
    ·exact .inl h
    ·exact .inr (.inr h)
    ·exact .inr (.inl (.inl h))
    ·exact .inr (.inl (.inr ⟨r, hr, hz⟩))
   ·rintro (h | (h | ⟨r, hr, hz⟩) | h)
    ·exact .inl h
    ·exact .inr (.inr (.inl h))
    ·exact .inr (.inr (.inr ⟨_, ⟨r, hr, rfl⟩, hz⟩))
    ·exact .inr (.inl h)
 | f + 1, [], _ :: _, _, _, k, _, _ => k.elim
 | f + 1, _ :: _, [], _, _, k, _, _ => k.elim
end
/-! The document's checks are the program's. -/
theorem flat_distinct {ts : List Ty} (h : Distinct ts) : (flatT ts).Pairwise fun p q => ¬ (p.1 = q.1 ∧ p.2.name = q.2.name) := by
 unfold flatT
 rw [List.pairwise_flatMap]
 refine ⟨fun t ht => ?_, ?_⟩
 ·rw [List.pairwise_map]
  exact (h.rl t ht).imp (fun {a b} hab e => hab e.2)
 ·refine h.ty.imp (fun {a b} hab => ?_)
  intro x hx y hy e
  obtain ⟨r, _, rfl⟩ := List.mem_map.1 hx
  obtain ⟨q, _, rfl⟩ := List.mem_map.1 hy
  exact hab e.1
section
variable {pl : List PV} {rl : List RV} {ts : List Ty} {F : Nat}
theorem Kn.num (h : Kn pl rl ts F) {i : Nat} {p : ByteArray × Rl} (hi : (flatT ts)[i]? = some p) : findN p.1 p.2.name rl 0 = i := by
 obtain ⟨t, ht, e1, hr⟩ := flat_mem.1 (List.mem_of_getElem? hi)
 rcases findN_spec h.d h.b p.1 p.2.name with ⟨_, hno⟩ | ⟨j, t', r, e, h4, h5, h6⟩
 ·have := hno t (by rw [← e1]; exact findTy_mem h.d ht)
  rw [findRl_mem (h.d.rl t ht) hr] at this
  cases this
 ·have hn := (findRl_some h5).2
  have hp := flat_distinct h.d
  rw [List.pairwise_iff_getElem] at hp
  obtain ⟨li, ei⟩ := List.getElem?_eq_some_iff.1 hi
  obtain ⟨lj, ej⟩ := List.getElem?_eq_some_iff.1 h6
  rcases Nat.lt_trichotomy i j with hij | hij | hij
  ·exact absurd (by rw [ei, ej]; exact ⟨rfl, hn.symm⟩) (hp i j li lj hij)
  ·rw [e, hij]
  ·exact absurd (by rw [ei, ej]; exact ⟨rfl, hn⟩) (hp j i lj li hij)
def lessP (ts : List Ty) (p : ByteArray × Rl) (q : Nat) : Prop := ∃ t ∈ ts, t.name = p.1 ∧ q ∈ lessE (fun y => hangsP ts (needsP ts t p.2 y) (t.name, p.2.name)) p.2.body
theorem Kn.best (h : Kn pl rl ts F) (hR : RelsOK rl pl (GofF rl pl (leavesF pl F)) (leavesF pl F)) {i : Nat} {x : RV} (hx : rl[i]? = some x) {p : ByteArray × Rl} (hi : (flatT ts)[i]? = some p) (c : Int) (S : Nat → Prop) (hc : LeastI c S) : LeastI (bestL (badR rl pl (GofF rl pl (leavesF pl F)) (leavesF pl F) i x) pl (szF pl F x.ex + 1) [x.ex] c) (fun q => S q ∨ lessP ts p q) := by
 obtain ⟨t, ht, e1, hr⟩ := flat_mem.1 (List.mem_of_getElem? hi)
 obtain ⟨x', hx', hk, _, _, htr⟩ := FlatF.get rl _ i p h.f hi
 rw [hx] at hx'
 simp only [Option.some.injEq] at hx'
 subst hx'
 have hnum := h.num hi
 rw [← e1] at hnum
 cases F with
 | zero => exact htr.elim
 | succ g =>
  have hB : ∀ n y, SubR pl (g + 1) x n y → badR rl pl (GofF rl pl (leavesF pl (g + 1))) (leavesF pl (g + 1)) i x n = hangsP ts (needsP ts t p.2 y) (t.name, p.2.name) := fun n y hs =>
   h.bad hR hx ht hr hnum ⟨hs.1, htr, hs.2, by rw [hk, e1]⟩
  refine (bestL_least x _ (fun y => hangsP ts (needsP ts t p.2 y) (t.name, p.2.name)) hB _ [x.ex] [p.2.body] c S ⟨⟨htr, fun k hk => hk⟩, trivial⟩ (by simp) hc).congr (fun q => ?_)
  simp only [List.mem_singleton, exists_eq_left]
  unfold lessP
  constructor
  ·rintro (hq | hq)
   ·exact .inl hq
   ·exact .inr ⟨t, ht, e1, hq⟩
  ·rintro (hq | ⟨t', ht', e2, hq⟩)
   ·exact .inl hq
   ·have a1 := findTy_mem h.d ht
    have a2 := findTy_mem h.d ht'
    rw [e1] at a1
    rw [e2, a1] at a2
    simp only [Option.some.injEq] at a2
    subst a2
    exact .inr hq
theorem Kn.loops (h : Kn pl rl ts F) (hR : RelsOK rl pl (GofF rl pl (leavesF pl F)) (leavesF pl F)) : ∀ (xs : List RV) (ps : List (ByteArray × Rl)) (i : Nat) (c : Int) (S : Nat → Prop), FlatF pl F xs ps → (∀ k, xs[k]? = rl[i + k]?) → (∀ k, ps[k]? = (flatT ts)[i + k]?) → LeastI c S →
  LeastI (loopsR rl pl (GofF rl pl (leavesF pl F)) (leavesF pl F) (fun _ => szF pl F) xs i c) (fun q => S q ∨ ∃ p ∈ ps, lessP ts p q)
 | [], [], i, c, S, _, _, _, hc => by
  rw [loopsR]
  exact hc.congr (fun q => by simp)
 | x :: xs, p :: ps, i, c, S, hf, hx, hp, hc => by
  rw [loopsR]
  have h1 := h.best hR (i := i) (x := x) (by have := hx 0; simpa using this.symm) (p := p) (by have := hp 0; simpa using this.symm) c S hc
  refine (Kn.loops h hR xs ps (i + 1) _ _ hf.2 (fun k => ?_) (fun k => ?_) h1).congr (fun q => ?_)
  ·have := hx (k + 1); simp only [List.getElem?_cons_succ] at this; rw [this]; congr 1; omega
  ·have := hp (k + 1); simp only [List.getElem?_cons_succ] at this; rw [this]; congr 1; omega
  ·rw [ex_cons, or_assoc]
 | [], _ :: _, _, _, _, k, _, _, _ => k.elim
 | _ :: _, [], _, _, _, k, _, _, _ => k.elim
theorem mem_lessT {q : Nat} : q ∈ lessT ts ↔ ∃ t ∈ ts, ∃ r ∈ t.rels, q ∈ lessE (fun y => hangsP ts (needsP ts t r y) (t.name, r.name)) r.body := by
 unfold lessT
 simp only [List.mem_flatMap]
theorem Kn.loopsR (h : Kn pl rl ts F) (hR : RelsOK rl pl (GofF rl pl (leavesF pl F)) (leavesF pl F)) (hs : (signsT ts).Pairwise (· < ·)) : loopsR rl pl (GofF rl pl (leavesF pl F)) (leavesF pl F) (fun _ => szF pl F) rl 0 (-1) = intO (eachN (loopsP ts) ts) := by
 have h1 := h.loops hR rl (flatT ts) 0 (-1) (fun _ => False) h.f (fun k => by simp) (fun k => by simp) (.inl ⟨rfl, fun q hq => hq⟩)
 refine h1.unique ((loops_least hs).congr (fun q => ?_))
 rw [mem_lessT, false_or]
 constructor
 ·rintro ⟨t, ht, r, hr, hq⟩
  exact ⟨(t.name, r), flat_mem.2 ⟨t, ht, rfl, hr⟩, t, ht, rfl, hq⟩
 ·rintro ⟨p, hp, t, ht, e, hq⟩
  obtain ⟨t', ht', e', hr⟩ := flat_mem.1 hp
  have a1 := findTy_mem h.d ht
  have a2 := findTy_mem h.d ht'
  rw [e] at a1
  rw [e', a1] at a2
  simp only [Option.some.injEq] at a2
  subst a2
  exact ⟨t, ht, p.2, hr, hq⟩
end
/-! Parse of the document, whole. -/
theorem prem_ok {s : ByteArray} (hs : s.size ≤ 500) (kl : List (ByteArray × Nat)) (rl : List RV) (pl : List PV) (ts : List Ty) (m : Nat) (h : modelR (TT s) (PP s) = .ok (ts, m)) (hg : Gd s m) (hm : ModB pl kl rl ts) : PremOK kl rl pl ts := by
 obtain ⟨F, hF⟩ := FlatB.fuel rl _ hm.2
 have hz := sized h hg hs
 have hgr := grs_ok h
 obtain ⟨rfl, hb⟩ := id hm
 refine ⟨GofF rl pl (leavesF pl F), leavesF pl F, fun x n => QF pl F x n ∧ szOK pl F n, fun _ => szF pl F, gof_ok hF hz, lv_ok hF hz, rtwice_twT hm (places_sorted h hg), fun htw => ?_⟩
 have hd := (twT_none ts [] htw).2
 have hn := rnames_each hd hb hF hgr
 refine ⟨hn, fun hno => ?_⟩
 rw [hno] at hn
 have hR := rels_ok hF hz _ hn
 refine ⟨hR, fun x hx => tree_ok hF hz _ hn x hx, ?_⟩
 have hk : Kn pl rl ts F := ⟨hd, hb, hF, hgr, fun t ht r hr => (model_from h t ht r hr).1, fun t ht r hr => (((modelR_bn (TT s) (PP s) ts m h).1 t ht).1 r hr).wf, hz, fun x hx n hn' p hp => names_nm _ _ _ hn x hx n hn' p hp⟩
 exact hk.loopsR hR (signs_sorted h hg)
theorem parse_whole (s : ByteArray) (w : World) (hs : s.size ≤ 500) : Calls Tryz.prog 80 #[.string s] w (PaPost s w) := parse_any s w hs (fun kl rl pl ts m h hg hm => prem_ok hs kl rl pl ts m h hg hm)
end Go.Proofs.YtlbpnlngckgcbaaGreatDoor
