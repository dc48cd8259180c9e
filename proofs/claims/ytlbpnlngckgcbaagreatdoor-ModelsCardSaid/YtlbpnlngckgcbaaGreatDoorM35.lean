import Derived.Test.YtlbpnlngckgcbaaGreatDoorM34
import Derived.Test.YtlbpnlngckgcbaaGreatDoorM31
namespace Go.Proofs.YtlbpnlngckgcbaaGreatDoor
open Go.RowKit Go.PlainAid
set_option linter.unusedSimpArgs false
set_option linter.unusedVariables false
/-! The names' check: leaf by leaf. -/
theorem flat_congr {α β : Type} {f g : α → List β} : ∀ {l : List α}, (∀ a ∈ l, f a = g a) → l.flatMap f = l.flatMap g
 | [], _ => rfl
 | a :: l, h => by
  rw [List.flatMap_cons, List.flatMap_cons, h a (by simp), flat_congr (fun b hb => h b (by simp [hb]))]
theorem Tr.kids {pl : List PV} {f n : Nat} {x : Ex} {p : PV} (h : Tr pl (f + 1) n x) (hp : pl[n]? = some p) : ∀ m ∈ p.ps, ∃ y, Tr pl f m y := by
 obtain ⟨p', hp', h⟩ := h
 rw [hp] at hp'
 simp only [Option.some.injEq] at hp'
 subst hp'
 intro m hm
 rcases h with ⟨h1, hn, h2⟩ | ⟨h1, h0, hn, h2⟩ | ⟨h1, h0, hn, h2⟩ | ⟨h1, h0, n0, ns, x0, rs, h3, h4, h5, h6, h7, h8⟩ | ⟨h1, h0, h0', n0, ns, x0, rs, h3, h4, h5, h6, h7, h8⟩
 ·rw [hn.1] at hm; simp at hm
 ·rw [hn.1] at hm; simp at hm
 ·rw [hn.1] at hm; simp at hm
 ·rw [h3] at hm
  rcases List.mem_cons.1 hm with rfl | hm
  ·exact ⟨x0, h4⟩
  ·obtain ⟨y, _, hy⟩ := All2.mem _ _ h5 m hm
   exact ⟨y, hy⟩
 ·rw [h3] at hm
  rcases List.mem_cons.1 hm with rfl | hm
  ·exact ⟨x0, h4⟩
  ·obtain ⟨y, _, hy⟩ := All2.mem _ _ h5 m hm
   exact ⟨y, hy⟩
theorem leavesF_up (pl : List PV) : ∀ (f n : Nat) (x : Ex), Tr pl f n x → leavesF pl (f + 1) n = leavesF pl f n
 | 0, _, _, h => h.elim
 | f + 1, n, x, h => by
  obtain ⟨p, hp, _⟩ := id h
  have hk := h.kids hp
  rw [leavesF, leavesF, hp]
  simp only
  split
  ·exact flat_congr (fun m hm => by obtain ⟨y, hy⟩ := hk m hm; exact leavesF_up pl f m y hy)
  ·rfl
theorem leavesF_le (pl : List PV) {f F n : Nat} {x : Ex} (h : Tr pl f n x) (hF : f ≤ F) : leavesF pl F n = leavesF pl f n := by
 obtain ⟨d, rfl⟩ := Nat.exists_eq_add_of_le hF
 clear hF
 induction d with
 | zero => rfl
 | succ d ih => rw [← ih]; exact leavesF_up pl _ _ _ (Tr.le pl (Nat.le_add_right f d) h)
/-- One measure for all expressions. -/
def FlatF (pl : List PV) (F : Nat) : List RV → List (ByteArray × Rl) → Prop
 | [], [] => True
 | x :: xs, p :: ps => (x.kd = p.1 ∧ x.nm = p.2.name ∧ x.pl = p.2.place ∧ Tr pl F x.ex p.2.body) ∧ FlatF pl F xs ps
 | _, _ => False
theorem FlatF.le {pl : List PV} {F G : Nat} (h : F ≤ G) : ∀ (xs : List RV) (ps : List (ByteArray × Rl)), FlatF pl F xs ps → FlatF pl G xs ps
 | [], [], _ => trivial
 | x :: xs, p :: ps, k => ⟨⟨k.1.1, k.1.2.1, k.1.2.2.1, Tr.le pl h k.1.2.2.2⟩, FlatF.le h xs ps k.2⟩
 | [], _ :: _, k => k.elim
 | _ :: _, [], k => k.elim
theorem FlatB.fuel {pl : List PV} : ∀ (xs : List RV) (ps : List (ByteArray × Rl)), FlatB pl xs ps → ∃ F, FlatF pl F xs ps
 | [], [], _ => ⟨0, trivial⟩
 | x :: xs, p :: ps, h => by
  obtain ⟨F, hF⟩ := FlatB.fuel xs ps h.2
  obtain ⟨⟨h1, h2, h3, f, h4⟩, _⟩ := h
  exact ⟨F + f, ⟨h1, h2, h3, Tr.le pl (by omega) h4⟩, FlatF.le (by omega) xs ps hF⟩
 | [], _ :: _, h => h.elim
 | _ :: _, [], h => h.elim
theorem FlatF.get {pl : List PV} {F : Nat} : ∀ (xs : List RV) (ps : List (ByteArray × Rl)) (j : Nat) (p : ByteArray × Rl), FlatF pl F xs ps → ps[j]? = some p → ∃ x, xs[j]? = some x ∧ x.kd = p.1 ∧ x.nm = p.2.name ∧ x.pl = p.2.place ∧ Tr pl F x.ex p.2.body
 | [], [], j, p, _, h => by simp at h
 | x :: xs, q :: ps, 0, p, k, h => by
  simp only [List.getElem?_cons_zero, Option.some.injEq] at h
  subst h
  exact ⟨x, rfl, k.1⟩
 | x :: xs, q :: ps, j + 1, p, k, h => by
  rw [List.getElem?_cons_succ] at h
  obtain ⟨y, hy, hr⟩ := FlatF.get xs ps j p k.2 h
  exact ⟨y, by simpa using hy, hr⟩
 | [], _ :: _, _, _, k, _ => k.elim
 | _ :: _, [], _, _, k, _ => k.elim
def GofF (rl : List RV) (pl : List PV) (lvOf : Nat → List Nat) (r : Nat) : List Gr := match rl[r]? with
 | some x => (lvOf x.ex).flatMap (gsAt pl)
 | none => []
theorem gsAt_leaf {pl : List PV} {n : Nat} {e : Ex} (h : Tr pl 1 n e) : gsAt pl n = gsOf e := by
 obtain ⟨p, hp, h⟩ := h
 unfold gsAt
 rw [hp]
 rcases h with ⟨h1, hn, rfl⟩ | ⟨h1, h0, hn, rfl⟩ | ⟨h1, h0, hn, rfl⟩ | ⟨_, _, _, _, _, _, _, h4, _⟩ | ⟨_, _, _, _, _, _, _, _, h4, _⟩
 ·simp [gsOf]
 ·simp [gsOf, h0]
 ·simp [gsOf, h0]
 ·exact h4.elim
 ·exact h4.elim
theorem gs_leaves {pl : List PV} : ∀ (ns : List Nat) (es : List Ex), All2 (Tr pl 1) ns es → ns.flatMap (gsAt pl) = es.flatMap gsOf
 | [], [], _ => rfl
 | n :: ns, e :: es, h => by rw [List.flatMap_cons, List.flatMap_cons, gsAt_leaf h.1, gs_leaves ns es h.2]
 | [], _ :: _, h => h.elim
 | _ :: _, [], h => h.elim
theorem allG_leaves : ∀ (x : Ex), allG x = (leavesE x).flatMap gsOf
 | ⟨n, some x, some y⟩ => by
  have h1 := allG_leaves x
  have h2 := allG_leaves y
  unfold allG at *
  simp only [partsE, leavesE, List.flatMap_append, List.flatMap_cons, List.flatMap_nil, List.append_nil, h1, h2]
  simp [gsOf]
 | ⟨n, none, r⟩ => by simp [allG, partsE, leavesE]
 | ⟨n, some x, none⟩ => by simp [allG, partsE, leavesE]
theorem parts_leaves {β : Type} (f : Ex → Option β) (hf : ∀ e, e.l.isSome = true → f e = none) : ∀ (x : Ex), (partsE x).findSome? f = (leavesE x).findSome? f
 | ⟨n, some x, some y⟩ => by
  have h1 := parts_leaves f hf x
  have h2 := parts_leaves f hf y
  simp only [partsE, leavesE, List.findSome?_append, h1, h2, List.findSome?_cons, List.findSome?_nil]
  rw [hf ⟨n, some x, some y⟩ rfl]
  simp
 | ⟨n, none, r⟩ => by simp [partsE, leavesE]
 | ⟨n, some x, none⟩ => by simp [partsE, leavesE]
/-- Every grant of the model is as grants are read. -/
def GrsOK (ts : List Ty) : Prop := ∀ t ∈ ts, ∀ r ∈ t.rels, ∀ e ∈ leavesE r.body, ∀ g ∈ gsOf e, GrOK g
theorem tie_spec {pl : List PV} {rl : List RV} {ts : List Ty} (hd : Distinct ts) (hf : FlatB pl rl (flatT ts)) (y : ByteArray) (g : Gr) (hg : GrOK g) :
  (tieN1 rl y g = [] ∧ tie1 ts y g = none) ∨ ∃ (j : Nat) (u : Ty) (r : Rl), tieN1 rl y g = [j] ∧ tie1 ts y g = some u ∧ findRl u y = some r ∧ (flatT ts)[j]? = some (u.name, r) := by
 unfold tieN1 tie1
 rcases hg with ⟨h1, h2⟩ | h1 | ⟨h1, h2⟩
 ·have e : relOf g = em := by unfold relOf; rw [if_neg (by omega), h2]
  rw [e, (eqs_iff em em).2 rfl, if_pos h1]
  rcases findN_spec hd hf g.ty y with ⟨e1, hno⟩ | ⟨j, t, r, e1, h4, h5, h6⟩
  ·refine .inl ⟨by rw [e1]; simp, ?_⟩
   cases ht : findTy ts g.ty with
   | none => rfl
   | some u => simp [hno u ht]
  ·refine .inr ⟨j, t, r, by rw [e1]; simp, ?_, h5, ?_⟩
   ·rw [h4]
    simp [h5]
   ·rw [(findTy_some h4).2]
    exact h6
 ·have e : relOf g = sg 42 := by unfold relOf; rw [if_pos h1]
  have hr0 : ¬ (g.reach = 0) := by omega
  exact .inl ⟨by rw [e]; simp [show eqs (sg 42) em = false from by decide], if_neg hr0⟩
 ·have hr0 : ¬ (g.reach = 0) := by omega
  have e1 : eqs g.rel em = false := by
   cases e : eqs g.rel em
   ·rfl
   ·rw [(eqs_iff _ _).1 e, isNm_em] at h2; cases h2
  exact .inl ⟨by rw [relOf_two h1]; simp [e1], if_neg hr0⟩
theorem tied_nil {pl : List PV} {rl : List RV} {ts : List Ty} (hd : Distinct ts) (hf : FlatB pl rl (flatT ts)) (y : ByteArray) : ∀ (G : List Gr), (∀ g ∈ G, GrOK g) → (tiedN rl y G = [] ↔ (G.filterMap (tie1 ts y)).length = 0)
 | [], _ => by simp [tiedN]
 | g :: G, h => by
  have ih := tied_nil hd hf y G (fun g hg => h g (by simp [hg]))
  unfold tiedN at *
  rw [List.flatMap_cons, List.filterMap_cons]
  rcases tie_spec hd hf y g (h g (by simp)) with ⟨e1, e2⟩ | ⟨j, u, r, e1, e2, _⟩
  ·rw [e1, e2, List.nil_append]
   exact ih
  ·rw [e1, e2]
   simp
theorem unk_name {pl : List PV} {rl : List RV} {ts : List Ty} {F : Nat} (hd : Distinct ts) (hf : FlatB pl rl (flatT ts)) (hF : FlatF pl F rl (flatT ts)) (hg : GrsOK ts) (t : Ty) (ht : t ∈ ts) (n : Nat) (e : Ex) (h : Tr pl 1 n e) (he : ∀ g ∈ gsOf e, GrOK g) :
  unkL (ts.map fun t => (t.name, t.place)) rl pl (GofF rl pl (leavesF pl F)) t.name n = nameN ts t e := by
 obtain ⟨p, hp, h⟩ := h
 unfold unkL
 rw [hp]
 simp only
 unfold unkP
 rcases h with ⟨h1, hn, rfl⟩ | ⟨h1, h0, hn, rfl⟩ | ⟨h1, h0, hn, rfl⟩ | ⟨_, _, _, _, _, _, _, h4, _⟩ | ⟨_, _, _, _, _, _, _, _, h4, _⟩
 ·have key : ∀ (l : List Gr), (∀ g ∈ l, GrOK g) → l.findSome? (gUnk (ts.map fun t => (t.name, t.place)) rl) = l.findSome? (grantN ts) := by
   intro l hl
   induction l with
   | nil => rfl
   | cons a l ih => rw [List.findSome?_cons, List.findSome?_cons, gUnk_grantN hd hf a (hl a (by simp)), ih (fun g hg => hl g (by simp [hg]))]
  rw [key p.gs (by simpa [gsOf] using he)]
  simp only [nameN, if_true, listN, h1]
  cases p.gs.findSome? (grantN ts) <;> simp
 ·simp only [h0, List.findSome?_nil, h1, if_true, nameN, Nat.reduceEqDiff, if_false]
  rcases findN_spec hd hf t.name p.nr with ⟨e1, hno⟩ | ⟨j, t', r, e1, h4, h5, _⟩
  ·rw [e1, hno t (findTy_mem hd ht)]
   simp
  ·rw [findTy_mem hd ht] at h4
   simp only [Option.some.injEq] at h4
   subst h4
   have : ¬ ((j : Int) < 0) := by omega
   rw [e1, h5]
   simp [this]
 ·simp only [h0, List.findSome?_nil, h1, Nat.reduceEqDiff, if_false, if_true, nameN, tieN]
  rcases findN_spec hd hf t.name p.nb with ⟨e1, hno⟩ | ⟨j, t', r, e1, h4, h5, h6⟩
  ·rw [e1, hno t (findTy_mem hd ht)]
   simp
  ·rw [findTy_mem hd ht] at h4
   simp only [Option.some.injEq] at h4
   subst h4
   have hj : ¬ ((j : Int) < 0) := by omega
   obtain ⟨x, hx, hk, _, _, htr⟩ := FlatF.get rl _ j _ hF h6
   have hG : GofF rl pl (leavesF pl F) j = allG r.body := by
    unfold GofF
    rw [hx, allG_leaves]
    exact gs_leaves _ _ (leaves_tr pl F _ _ htr)
   have hrm := (findRl_some h5).1
   have ha : ∀ g ∈ allG r.body, GrOK g := by
    rw [allG_leaves]
    intro g hg'
    obtain ⟨e', he', hg''⟩ := List.mem_flatMap.1 hg'
    exact hg t ht r hrm e' he' g hg''
   rw [e1, h5, if_neg hj, Int.toNat_natCast, hG]
   simp only
   by_cases hz : tiedN rl p.nr (allG r.body) = []
   ·rw [if_pos hz, if_pos ((tied_nil hd hf p.nr _ ha).1 hz)]
   ·rw [if_neg hz, if_neg (fun h => hz ((tied_nil hd hf p.nr _ ha).2 h))]
 ·exact h4.elim
 ·exact h4.elim
theorem unk_leaves {pl : List PV} {rl : List RV} {ts : List Ty} {F : Nat} (hd : Distinct ts) (hf : FlatB pl rl (flatT ts)) (hF : FlatF pl F rl (flatT ts)) (hg : GrsOK ts) (t : Ty) (ht : t ∈ ts) : ∀ (ns : List Nat) (es : List Ex), All2 (Tr pl 1) ns es → (∀ e ∈ es, ∀ g ∈ gsOf e, GrOK g) →
  ns.findSome? (unkL (ts.map fun t => (t.name, t.place)) rl pl (GofF rl pl (leavesF pl F)) t.name) = es.findSome? (nameN ts t)
 | [], [], _, _ => rfl
 | n :: ns, e :: es, h, he => by
  rw [List.findSome?_cons, List.findSome?_cons, unk_name hd hf hF hg t ht n e h.1 (he e (by simp)), unk_leaves hd hf hF hg t ht ns es h.2 (fun e' h' => he e' (by simp [h']))]
 | [], _ :: _, h, _ => h.elim
 | _ :: _, [], h, _ => h.elim
theorem nameN_node (ts : List Ty) (t : Ty) (e : Ex) (h : e.l.isSome = true) : nameN ts t e = none := by
 unfold nameN
 cases hl : e.l with
 | none => rw [hl] at h; simp at h
 | some x => rfl
theorem names_flat {pl : List PV} {F : Nat} (f : RV → Option Nat) (g : ByteArray × Rl → Option Nat) (hfg : ∀ x p, x.kd = p.1 → Tr pl F x.ex p.2.body → (∃ t, p.1 = t) → f x = g p) : ∀ (xs : List RV) (ps : List (ByteArray × Rl)), FlatF pl F xs ps → xs.findSome? f = ps.findSome? g
 | [], [], _ => rfl
 | x :: xs, p :: ps, h => by
  rw [List.findSome?_cons, List.findSome?_cons, hfg x p h.1.1 h.1.2.2.2 ⟨_, rfl⟩, names_flat f g hfg xs ps h.2]
 | [], _ :: _, h => h.elim
 | _ :: _, [], h => h.elim
theorem each_flatT (N : Ty → Rl → Option Nat) (g : ByteArray × Rl → Option Nat) : ∀ (ts : List Ty), (∀ t ∈ ts, ∀ r ∈ t.rels, g (t.name, r) = N t r) → (flatT ts).findSome? g = eachN N ts
 | [], _ => rfl
 | t :: ts, h => by
  have ih := each_flatT N g ts (fun t ht => h t (by simp [ht]))
  have e : flatT (t :: ts) = (t.rels.map fun r => (t.name, r)) ++ flatT ts := by simp [flatT]
  have key : ∀ (l : List Rl), (∀ r ∈ l, r ∈ t.rels) → (l.map fun r => (t.name, r)).findSome? g = l.findSome? (N t) := by
   intro l hl
   induction l with
   | nil => rfl
   | cons a l ihl => rw [List.map_cons, List.findSome?_cons, List.findSome?_cons, h t (by simp) a (hl a (by simp)), ihl (fun r hr => hl r (by simp [hr]))]
  rw [e, List.findSome?_append, ih, key t.rels (fun r hr => hr)]
  unfold eachN
  rw [List.findSome?_cons]
  cases t.rels.findSome? (N t) <;> rfl
/-- The document's names' check is the program's. -/
theorem rnames_each {pl : List PV} {rl : List RV} {ts : List Ty} {F : Nat} (hd : Distinct ts) (hf : FlatB pl rl (flatT ts)) (hF : FlatF pl F rl (flatT ts)) (hg : GrsOK ts) :
  rnames (ts.map fun t => (t.name, t.place)) rl pl (GofF rl pl (leavesF pl F)) (leavesF pl F) = eachN (namesP ts) ts := by
 have h1 : ∀ (xs : List RV) (ps : List (ByteArray × Rl)), (∀ p ∈ ps, p ∈ flatT ts) → FlatF pl F xs ps → (xs.findSome? fun x => (leavesF pl F x.ex).findSome? (unkL (ts.map fun t => (t.name, t.place)) rl pl (GofF rl pl (leavesF pl F)) x.kd)) = ps.findSome? fun p => match findTy ts p.1 with
   | some t => namesP ts t p.2
   | none => none := by
  intro xs
  induction xs with
  | nil => intro ps _ h; cases ps with
   | nil => rfl
   | cons p ps => exact h.elim
  | cons x xs ih => intro ps hm h; cases ps with
   | nil => exact h.elim
   | cons p ps =>
    obtain ⟨⟨h1, _, _, h4⟩, h5⟩ := h
    obtain ⟨t, ht, h6, h7⟩ := flat_mem.1 (hm p (by simp))
    have e : (leavesF pl F x.ex).findSome? (unkL (ts.map fun t => (t.name, t.place)) rl pl (GofF rl pl (leavesF pl F)) x.kd) = namesP ts t p.2 := by
     rw [h1, ← h6, unk_leaves hd hf hF hg t ht _ _ (leaves_tr pl F _ _ h4) (fun e he => hg t ht p.2 h7 e he)]
     unfold namesP
     rw [parts_leaves _ (nameN_node ts t)]
    rw [List.findSome?_cons, List.findSome?_cons, e, ih ps (fun q hq => hm q (by simp [hq])) h5, ← h6, findTy_mem hd ht]
 unfold rnames
 rw [h1 rl (flatT ts) (fun p hp => hp) hF]
 exact each_flatT (namesP ts) _ ts (fun t ht r hr => by simp only [findTy_mem hd ht])
/-- An expression of at most n parts and grants; no list is empty. -/
structure Bn (x : Ex) (n : Nat) : Prop where
 p : (partsE x).length ≤ n
 g : (allG x).length ≤ n
 wf : WF x
theorem Bn.le {x : Ex} {n m : Nat} (h : Bn x n) (hm : n ≤ m) : Bn x m := ⟨Nat.le_trans h.p hm, Nat.le_trans h.g hm, h.wf⟩
theorem Bn.leaf (nd : Nd) (r : Option Ex) (n : Nat) (h1 : 1 ≤ n) (h2 : nd.kind = 0 → nd.gs.length ≤ n ∧ nd.gs ≠ []) : Bn ⟨nd, none, r⟩ n := by
 refine ⟨by simp [partsE]; omega, ?_, ?_⟩
 ·simp only [allG, partsE, List.flatMap_cons, List.flatMap_nil, List.append_nil, gsOf]
  split
  ·rename_i hk; exact (h2 hk).1
  ·simp
 ·intro p hp hl hk
  simp only [partsE, List.mem_singleton] at hp
  subst hp
  exact (h2 hk).2
theorem Bn.join {x y : Ex} {n m : Nat} (t : ByteArray) (p : Nat) (hx : Bn x n) (hy : Bn y m) : Bn (joinE t p x y) (n + 1 + m) := by
 refine ⟨?_, ?_, ?_⟩
 ·have h1 := hx.p
  have h2 := hy.p
  simp only [joinE, partsE, List.length_append, List.length_cons, List.length_nil]
  omega
 ·have h1 := hx.g
  have h2 := hy.g
  unfold allG at *
  simp only [joinE, partsE, List.flatMap_append, List.flatMap_cons, List.flatMap_nil, List.append_nil, gsOf, List.length_append, List.length_nil, Nat.add_zero]
  omega
 ·intro q hq hl hk
  simp only [joinE, partsE, List.mem_append, List.mem_singleton] at hq
  rcases hq with (hq | hq) | hq
  ·exact hx.wf q hq hl hk
  ·subst hq; simp at hl
  ·exact hy.wf q hq hl hk
def BN (r : Nat → Res Ex) : Prop := ∀ i x j, r i = .ok (x, j) → i < j ∧ Bn x (j - i)
theorem listL_bn (T : Nat → ByteArray) (P : Nat → Nat) : ∀ f acc i gs j, listL T P f acc i = .ok (gs, j) → gs ≠ [] ∧ gs.length + i < acc.length + j
 | 0, _, i, x, j, h => by simp [listL] at h
 | f + 1, acc, i, x, j, h => by
  unfold listL at h
  split at h
  ·simp at h
  ·rename_i hm
   have := grantR_mono T P _ _ _ hm
   split at h
   ·have := listL_bn T P f _ _ _ _ h
    refine ⟨this.1, ?_⟩
    have h2 := this.2
    simp only [List.length_append, List.length_cons, List.length_nil] at h2
    omega
   ·split at h <;> simp at h
    obtain ⟨rfl, rfl⟩ := h
    simp
    omega
theorem listR_bn (T : Nat → ByteArray) (P : Nat → Nat) : BN (listR T P) := by
 intro i x j h
 refine ⟨listR_mono T P _ _ _ h, ?_⟩
 unfold listR at h
 split at h
 ·simp at h
 ·rename_i hm
  have := listL_bn T P _ _ _ _ _ hm
  simp at h
  obtain ⟨rfl, rfl⟩ := h
  have h2 := this.2
  simp only [List.length_nil] at h2
  exact Bn.leaf _ _ _ (by omega) (fun _ => ⟨by simp only; omega, this.1⟩)
theorem ownTie_bn (T : Nat → ByteArray) (P : Nat → Nat) : BN (ownTie T P) := by
 intro i x j h
 have hm := ownTie_mono T P _ _ _ h
 refine ⟨hm, ?_⟩
 unfold ownTie at h
 split at h
 ·simp at h
 ·split at h
  ·split at h
   ·simp at h
   ·simp at h
    obtain ⟨rfl, rfl⟩ := h
    exact Bn.leaf _ _ _ (by omega) (fun h => by simp at h)
  ·simp at h
   obtain ⟨rfl, rfl⟩ := h
   exact Bn.leaf _ _ _ (by omega) (fun h => by simp at h)
theorem unitR_bn (T : Nat → ByteArray) (P : Nat → Nat) (room : Bool) (inner : Nat → Res Ex) (hi : BN inner) : BN (unitR T P room inner) := by
 intro i x j h
 unfold unitR at h
 split at h
 ·exact listR_bn T P _ _ _ h
 ·split at h
  ·split at h
   ·split at h
    ·simp at h
    ·rename_i hm
     have := hi _ _ _ hm
     split at h <;> simp at h
     obtain ⟨rfl, rfl⟩ := h
     exact ⟨by omega, this.2.le (by omega)⟩
   ·simp at h
  ·exact ownTie_bn T P _ _ _ h
theorem joinL_bn (T : Nat → ByteArray) (P : Nat → Nat) (l : List ByteArray) (part : Nat → Res Ex) (hp : BN part) (i0 : Nat) : ∀ f y i x j, i0 ≤ i → Bn y (i - i0) → joinL T P l part f y i = .ok (x, j) → i ≤ j ∧ Bn x (j - i0)
 | 0, _, i, x, j, h0, hb, h => by simp [joinL] at h
 | f + 1, y, i, x, j, h0, hb, h => by
  unfold joinL at h
  split at h
  ·split at h
   ·simp at h
   ·rename_i hm
    obtain ⟨h1, h2⟩ := hp _ _ _ hm
    have := joinL_bn T P l part hp i0 f _ _ _ _ (by omega) ((hb.join _ _ h2).le (by omega)) h
    exact ⟨by omega, this.2⟩
  ·simp at h
   obtain ⟨rfl, rfl⟩ := h
   exact ⟨Nat.le_refl _, hb⟩
theorem joinR_bn (T : Nat → ByteArray) (P : Nat → Nat) (l : List ByteArray) (part : Nat → Res Ex) (hp : BN part) : BN (joinR T P l part) := by
 intro i x j h
 unfold joinR at h
 split at h
 ·simp at h
 ·rename_i hm
  obtain ⟨h1, h2⟩ := hp _ _ _ hm
  have := joinL_bn T P l part hp i _ _ _ _ _ (by omega) h2 h
  exact ⟨by omega, this.2⟩
theorem exprR_bn (T : Nat → ByteArray) (P : Nat → Nat) : ∀ n, BN (exprR T P n)
 | 0 => joinR_bn T P _ _ (joinR_bn T P _ _ (unitR_bn T P false _ (fun i x j h => by simp at h)))
 | n + 1 => joinR_bn T P _ _ (joinR_bn T P _ _ (unitR_bn T P true _ (exprR_bn T P n)))
theorem relR_bn (T : Nat → ByteArray) (P : Nat → Nat) (i : Nat) (r : Rl) (j : Nat) (h : relR T P i = .ok (r, j)) : Bn r.body j := by
 unfold relR at h
 split at h
 ·simp at h
 ·split at h
  ·simp at h
  ·rename_i hk
   have := exprR_bn T P _ _ _ _ hk
   split at h <;> simp at h
   obtain ⟨rfl, rfl⟩ := h
   exact this.2.le (by omega)
theorem relsL_bn (T : Nat → ByteArray) (P : Nat → Nat) : ∀ f acc i rs j, (∀ r ∈ acc, Bn r.body i) → relsL T P f acc i = .ok (rs, j) → (∀ r ∈ rs, Bn r.body j) ∧ rs.length + i ≤ acc.length + j ∧ i < j
 | 0, _, i, x, j, _, h => by simp [relsL] at h
 | f + 1, acc, i, x, j, ha, h => by
  unfold relsL at h
  split at h
  ·simp at h
   obtain ⟨rfl, rfl⟩ := h
   exact ⟨fun r hr => (ha r hr).le (by omega), by omega, by omega⟩
  ·split at h
   ·simp at h
   ·split at h
    ·simp at h
    ·rename_i hm
     have h1 := relR_mono T P _ _ _ hm
     have h2 := relR_bn T P _ _ _ hm
     have := relsL_bn T P f _ _ _ _ (by
      intro r hr
      rw [List.mem_append, List.mem_singleton] at hr
      rcases hr with hr | rfl
      ·exact (ha r hr).le (by omega)
      ·exact h2) h
     obtain ⟨g1, g2, g3⟩ := this
     simp only [List.length_append, List.length_cons, List.length_nil] at g2
     exact ⟨g1, by omega, by omega⟩
theorem typeR_bn (T : Nat → ByteArray) (P : Nat → Nat) (i : Nat) (t : Ty) (j : Nat) (h : typeR T P i = .ok (t, j)) : (∀ r ∈ t.rels, Bn r.body j) ∧ t.rels.length ≤ j := by
 unfold typeR at h
 split at h
 ·split at h
  ·simp at h
  ·split at h
   ·simp at h
   ·rename_i hk
    have := relsL_bn T P _ _ _ _ _ (by simp) hk
    simp at h
    obtain ⟨rfl, rfl⟩ := h
    refine ⟨this.1, ?_⟩
    have h2 := this.2.1
    simp only [List.length_nil] at h2
    simp only
    omega
 ·simp at h
def TB (t : Ty) (n : Nat) : Prop := (∀ r ∈ t.rels, Bn r.body n) ∧ t.rels.length ≤ n
theorem TB.le {t : Ty} {n m : Nat} (h : TB t n) (hm : n ≤ m) : TB t m := ⟨fun r hr => (h.1 r hr).le hm, Nat.le_trans h.2 hm⟩
theorem modelL_bn (T : Nat → ByteArray) (P : Nat → Nat) : ∀ f acc i ts j, (∀ t ∈ acc, TB t i) → modelL T P f acc i = .ok (ts, j) → (∀ t ∈ ts, TB t j) ∧ ts.length + i ≤ acc.length + j ∧ i ≤ j
 | 0, _, i, x, j, _, h => by simp [modelL] at h
 | f + 1, acc, i, x, j, ha, h => by
  unfold modelL at h
  split at h
  ·simp at h
   obtain ⟨rfl, rfl⟩ := h
   exact ⟨ha, Nat.le_refl _, Nat.le_refl _⟩
  ·split at h
   ·simp at h
   ·split at h
    ·simp at h
    ·rename_i hm
     have h1 := typeR_mono T P _ _ _ hm
     have h2 := typeR_bn T P _ _ _ hm
     have := modelL_bn T P f _ _ _ _ (by
      intro t ht
      rw [List.mem_append, List.mem_singleton] at ht
      rcases ht with ht | rfl
      ·exact (ha t ht).le (by omega)
      ·exact h2) h
     obtain ⟨g1, g2, g3⟩ := this
     simp only [List.length_append, List.length_cons, List.length_nil] at g2
     exact ⟨g1, by omega, by omega⟩
theorem modelR_bn (T : Nat → ByteArray) (P : Nat → Nat) (ts : List Ty) (j : Nat) (h : modelR T P = .ok (ts, j)) : (∀ t ∈ ts, TB t j) ∧ ts.length ≤ j := by
 have := modelL_bn T P _ _ _ _ _ (by simp) h
 refine ⟨this.1, ?_⟩
 have h2 := this.2.1
 simp only [List.length_nil] at h2
 omega
theorem RC.of_rep {b : Nat} {w : World} {sv : Value} {rs : List Rl} {n : Nat} (h : RepRls (b + 1) b w sv rs) (hb : ∀ r ∈ rs, Bn r.body n) (hl : rs.length ≤ n) (hn : n ≤ 500) : ∃ rl, RC b w sv rs rl := by
 obtain ⟨l, h1, h2, h3⟩ := h
 refine ⟨l, h1, ?_, h2, by omega, fun r hr => Nat.le_trans (hb r hr).p (by omega), fun r hr => Nat.le_trans (hb r hr).g (by omega), fun r hr => (hb r hr).wf⟩
 unfold Row3
 rw [c3_r3, List.length_map, show l.length = rs.length by rw [← h1, List.length_map]]
 exact ownsRow_base h3 (Nat.zero_le _)
theorem MC.of_rep {b : Nat} {w : World} {sv : Value} {ts : List Ty} {n : Nat} (h : RepTys (b + 1) b w sv ts) (hb : ∀ t ∈ ts, TB t n) (hl : ts.length ≤ n) (hn : n ≤ 500) (hlt : b < w.heap.size) : ∃ tl, MC b w sv ts tl := by
 obtain ⟨l, h1, h2, h3⟩ := h
 refine ⟨l, h1, ?_, ?_, by omega, hlt⟩
 ·unfold Row3
  rw [c3_t3, List.length_map, show l.length = ts.length by rw [← h1, List.length_map]]
  exact ownsRow_base h3 (Nat.zero_le _)
 ·intro p hp
  have hm : p.1 ∈ ts := by rw [← h1]; exact List.mem_map_of_mem hp
  exact RC.of_rep (h2 p hp) (hb p.1 hm).1 (hb p.1 hm).2 hn
/-! What is known of a model that was read. -/
theorem PP_succ (s : ByteArray) (i : Nat) (h : 0 < (TT s i).size) : PP s i < PP s (i + 1) := by
 have e : PP s (i + 1) = skip (lst s) (K s (i + 1)) := rfl
 have h1 := skip_ge (lst s) (K s (i + 1))
 have e2 : K s (i + 1) = PP s i + (TT s i).size := rfl
 rw [e]
 omega
theorem PP_lt (s : ByteArray) : ∀ (j i : Nat), i < j → Gd s j → PP s i < PP s j
 | 0, i, h, _ => by omega
 | j + 1, i, h, hg => by
  have h1 := PP_succ s j (hg j (by omega))
  by_cases e : i = j
  ·subst e; exact h1
  ·have := PP_lt s j i (by omega) (fun k hk => hg k (by omega))
   omega
theorem places_sorted {s : ByteArray} {ts : List Ty} {m : Nat} (h : modelR (TT s) (PP s) = .ok (ts, m)) (hg : Gd s m) : (placesT ts).Pairwise (· < ·) := by
 obtain ⟨new, e, _, ha⟩ := modelL_asc (TT s) (PP s) 512 [] 0 ts m h
 rw [List.nil_append] at e
 subst e
 exact ha.sorted (fun i j hij hjm => PP_lt s j i hij (fun k hk => hg k (by omega)))
section
variable (T : Nat → ByteArray) (P : Nat → Nat)
theorem grantR_gr (i : Nat) (g : Gr) (j : Nat) (h : grantR T P i = .ok (g, j)) : GrOK g := by
 unfold grantR at h
 split at h
 ·simp at h
 ·split at h
  ·simp only [Except.ok.injEq, Prod.mk.injEq] at h
   rw [← h.1]
   exact .inr (.inl rfl)
  ·split at h
   ·split at h
    ·simp at h
    ·rename_i u m hn
     simp only [Except.ok.injEq, Prod.mk.injEq] at h
     rw [← h.1]
     refine .inr (.inr ⟨rfl, ?_⟩)
     unfold nameR at hn
     split at hn
     ·rename_i hnm; exact hnm
     ·simp at hn
   ·simp only [Except.ok.injEq, Prod.mk.injEq] at h
    rw [← h.1]
    exact .inl ⟨rfl, rfl⟩
theorem listL_gr : ∀ f acc i gs j, listL T P f acc i = .ok (gs, j) → (∀ g ∈ acc, GrOK g) → ∀ g ∈ gs, GrOK g
 | 0, acc, i, gs, j, h, _ => by simp [listL] at h
 | f + 1, acc, i, gs, j, h, ha => by
  unfold listL at h
  split at h
  ·simp at h
  ·rename_i g0 j0 hg
   have h0 := grantR_gr T P _ _ _ hg
   have h1 : ∀ g ∈ acc ++ [g0], GrOK g := fun g hg => by
    rcases List.mem_append.1 hg with hg | hg
    ·exact ha g hg
    ·rw [List.mem_singleton] at hg; rw [hg]; exact h0
   split at h
   ·exact listL_gr f _ _ _ _ h h1
   ·split at h
    ·simp only [Except.ok.injEq, Prod.mk.injEq] at h
     rw [← h.1]
     exact h1
    ·simp at h
def GR (r : Nat → Res Ex) : Prop := ∀ i x j, r i = .ok (x, j) → ∀ e ∈ leavesE x, ∀ g ∈ gsOf e, GrOK g
theorem joinL_gr (l : List ByteArray) (part : Nat → Res Ex) (hp : GR part) : ∀ f y i x j, joinL T P l part f y i = .ok (x, j) → (∀ e ∈ leavesE y, ∀ g ∈ gsOf e, GrOK g) → ∀ e ∈ leavesE x, ∀ g ∈ gsOf e, GrOK g
 | 0, y, i, x, j, h, _ => by simp [joinL] at h
 | f + 1, y, i, x, j, h, ha => by
  unfold joinL at h
  split at h
  ·split at h
   ·simp at h
   ·rename_i z j1 hz
    refine joinL_gr l part hp f _ j1 x j h (fun e he => ?_)
    simp only [joinE, leavesE, List.mem_append] at he
    rcases he with he | he
    ·exact ha e he
    ·exact hp _ _ _ hz e he
  ·simp only [Except.ok.injEq, Prod.mk.injEq] at h
   rw [← h.1]
   exact ha
theorem joinR_gr (l : List ByteArray) (part : Nat → Res Ex) (hp : GR part) : GR (joinR T P l part) := by
 intro i x j h
 unfold joinR at h
 split at h
 ·simp at h
 ·rename_i y j1 hy
  exact joinL_gr T P l part hp _ _ _ x j h (hp _ _ _ hy)
theorem unitR_gr (room : Bool) (inner : Nat → Res Ex) (hp : GR inner) : GR (unitR T P room inner) := by
 intro i x j h
 unfold unitR at h
 split at h
 ·unfold listR at h
  split at h
  ·simp at h
  ·rename_i gs j1 hl
   simp only [Except.ok.injEq, Prod.mk.injEq] at h
   rw [← h.1]
   intro e he g hg
   simp only [listE, leavesE, List.mem_singleton] at he
   subst he
   exact listL_gr T P _ _ _ _ _ hl (by simp) g (by simpa [gsOf] using hg)
 ·split at h
  ·split at h
   ·split at h
    ·simp at h
    ·rename_i y j1 hy
     split at h
     ·simp only [Except.ok.injEq, Prod.mk.injEq] at h
      rw [← h.1]
      exact hp _ _ _ hy
     ·simp at h
   ·simp at h
  ·unfold ownTie at h
   split at h
   ·simp at h
   ·split at h
    ·split at h
     ·simp at h
     ·simp only [Except.ok.injEq, Prod.mk.injEq] at h
      rw [← h.1]
      intro e he g hg
      simp only [leavesE, List.mem_singleton] at he
      subst he
      simp [gsOf] at hg
    ·simp only [Except.ok.injEq, Prod.mk.injEq] at h
     rw [← h.1]
     intro e he g hg
     simp only [leavesE, List.mem_singleton] at he
     subst he
     simp [gsOf] at hg
theorem exprR_gr : ∀ n, GR (exprR T P n)
 | 0 => joinR_gr T P _ _ (joinR_gr T P _ _ (unitR_gr T P false _ (fun i x j h => by simp at h)))
 | n + 1 => joinR_gr T P _ _ (joinR_gr T P _ _ (unitR_gr T P true _ (exprR_gr n)))
theorem relR_from (i : Nat) (r : Rl) (j : Nat) (h : relR T P i = .ok (r, j)) : isNm r.name = true ∧ ∃ i0 j0, exprR T P 4 i0 = .ok (r.body, j0) ∧ j0 ≤ j := by
 unfold relR at h
 split at h
 ·simp at h
 ·rename_i u j1 hn
  split at h
  ·simp at h
  ·rename_i x m hx
   split at h
   ·simp only [Except.ok.injEq, Prod.mk.injEq] at h
    obtain ⟨rfl, rfl⟩ := h
    refine ⟨?_, j1, m, hx, by omega⟩
    unfold nameThenR nameR at hn
    simp only
    cases hm : isNm (T i)
    ·rw [hm] at hn; simp at hn
    ·rfl
   ·simp at h
theorem relsL_from : ∀ f acc i rs m, relsL T P f acc i = .ok (rs, m) → ∀ r ∈ rs, r ∈ acc ∨ (isNm r.name = true ∧ ∃ i0 j0, exprR T P 4 i0 = .ok (r.body, j0) ∧ j0 ≤ m)
 | 0, acc, i, rs, m, h => by simp [relsL] at h
 | f + 1, acc, i, rs, m, h => by
  unfold relsL at h
  split at h
  ·simp only [Except.ok.injEq, Prod.mk.injEq] at h
   obtain ⟨rfl, rfl⟩ := h
   exact fun r hr => .inl hr
  ·split at h
   ·simp at h
   ·split at h
    ·simp at h
    ·rename_i r0 j hr
     intro r hm
     have hmono := relsL_mono T P f _ _ _ _ h
     rcases relsL_from f _ _ _ _ h r hm with h1 | h1
     ·rcases List.mem_append.1 h1 with h1 | h1
      ·exact .inl h1
      ·rw [List.mem_singleton] at h1
       subst h1
       obtain ⟨h2, i0, j0, h3, h4⟩ := relR_from T P _ _ _ hr
       exact .inr ⟨h2, i0, j0, h3, by omega⟩
     ·exact .inr h1
theorem modelL_from : ∀ f acc i ts m, modelL T P f acc i = .ok (ts, m) → ∀ t ∈ ts, t ∈ acc ∨ ∀ r ∈ t.rels, isNm r.name = true ∧ ∃ i0 j0, exprR T P 4 i0 = .ok (r.body, j0) ∧ j0 ≤ m
 | 0, acc, i, ts, m, h => by simp [modelL] at h
 | f + 1, acc, i, ts, m, h => by
  unfold modelL at h
  split at h
  ·simp only [Except.ok.injEq, Prod.mk.injEq] at h
   obtain ⟨rfl, rfl⟩ := h
   exact fun r hr => .inl hr
  ·split at h
   ·simp at h
   ·split at h
    ·simp at h
    ·rename_i t0 j ht
     intro t hm
     obtain ⟨_, _, hle, _⟩ := modelL_asc T P f _ _ _ _ h
     rcases modelL_from f _ _ _ _ h t hm with h1 | h1
     ·rcases List.mem_append.1 h1 with h1 | h1
      ·exact .inl h1
      ·rw [List.mem_singleton] at h1
       subst h1
       refine .inr (fun r hr => ?_)
       rw [typeR_kind] at ht
       split at ht
       ·unfold kindR at ht
        split at ht
        ·simp at ht
        ·split at ht
         ·simp at ht
         ·rename_i rs j2 hrs
          simp only [Except.ok.injEq, Prod.mk.injEq] at ht
          obtain ⟨rfl, rfl⟩ := ht
          rcases relsL_from T P _ _ _ _ _ hrs r hr with h5 | ⟨h5, i0, j0, h6, h7⟩
          ·simp at h5
          ·exact ⟨h5, i0, j0, h6, by omega⟩
       ·simp at ht
     ·exact .inr h1
end
theorem model_from {s : ByteArray} {ts : List Ty} {m : Nat} (h : modelR (TT s) (PP s) = .ok (ts, m)) : ∀ t ∈ ts, ∀ r ∈ t.rels, isNm r.name = true ∧ ∃ i0 j0, exprR (TT s) (PP s) 4 i0 = .ok (r.body, j0) ∧ j0 ≤ m := fun t ht => by
 rcases modelL_from (TT s) (PP s) 512 [] 0 ts m h t ht with h | h
 ·simp at h
 ·exact h
theorem grs_ok {s : ByteArray} {ts : List Ty} {m : Nat} (h : modelR (TT s) (PP s) = .ok (ts, m)) : GrsOK ts := fun t ht r hr => by
 obtain ⟨_, i0, j0, h1, _⟩ := model_from h t ht r hr
 exact exprR_gr (TT s) (PP s) 4 _ _ _ h1
/-! What the document's checks ask ahead. -/
theorem leavesE_le : ∀ (x : Ex), (leavesE x).length ≤ (partsE x).length
 | ⟨n, some x, some y⟩ => by
  have h1 := leavesE_le x
  have h2 := leavesE_le y
  simp only [leavesE, partsE, List.length_append, List.length_cons, List.length_nil]
  omega
 | ⟨n, none, r⟩ => by simp [leavesE, partsE]
 | ⟨n, some x, none⟩ => by simp [leavesE, partsE]
theorem FlatF.mem {pl : List PV} {F : Nat} : ∀ (xs : List RV) (ps : List (ByteArray × Rl)), FlatF pl F xs ps → ∀ x ∈ xs, ∃ p ∈ ps, x.kd = p.1 ∧ x.nm = p.2.name ∧ x.pl = p.2.place ∧ Tr pl F x.ex p.2.body
 | [], [], _, x, hx => by simp at hx
 | y :: xs, p :: ps, h, x, hx => by
  rcases List.mem_cons.1 hx with rfl | hx
  ·exact ⟨p, by simp, h.1⟩
  ·obtain ⟨q, hq, hr⟩ := FlatF.mem xs ps h.2 x hx
   exact ⟨q, by simp [hq], hr⟩
 | [], _ :: _, h, _, _ => h.elim
 | _ :: _, [], h, _, _ => h.elim
theorem FlatF.len {pl : List PV} {F : Nat} : ∀ (xs : List RV) (ps : List (ByteArray × Rl)), FlatF pl F xs ps → xs.length = ps.length
 | [], [], _ => rfl
 | y :: xs, p :: ps, h => by simp [FlatF.len xs ps h.2]
 | [], _ :: _, h => h.elim
 | _ :: _, [], h => h.elim
/-- Sizes by tokens. -/
def Sized (ts : List Ty) : Prop := ∀ t ∈ ts, ∀ r ∈ t.rels, (partsE r.body).length ≤ 500 ∧ (allG r.body).length ≤ 500
theorem sized {s : ByteArray} {ts : List Ty} {m : Nat} (h : modelR (TT s) (PP s) = .ok (ts, m)) (hg : Gd s m) (hs : s.size ≤ 500) : Sized ts := fun t ht r hr => by
 have hm := hg.le
 have := ((modelR_bn (TT s) (PP s) ts m h).1 t ht).1 r hr
 exact ⟨Nat.le_trans this.p (by omega), Nat.le_trans this.g (by omega)⟩
section
variable {pl : List PV} {rl : List RV} {ts : List Ty} {F : Nat}
theorem leaf_gs (hF : FlatF pl F rl (flatT ts)) (hz : Sized ts) (x : RV) (hx : x ∈ rl) : (leavesF pl F x.ex).length ≤ 500 ∧ ((leavesF pl F x.ex).flatMap (gsAt pl)).length ≤ 500 ∧ ∀ n ∈ leavesF pl F x.ex, ∃ p, pl[n]? = some p ∧ p.gs.length ≤ 500 := by
 obtain ⟨p, hp, _, _, _, htr⟩ := FlatF.mem rl _ hF x hx
 obtain ⟨t, ht, _, hr⟩ := flat_mem.1 hp
 obtain ⟨h1, h2⟩ := hz t ht p.2 hr
 have ha := leaves_tr pl F _ _ htr
 have hl := All2.len _ _ ha
 have hle := leavesE_le p.2.body
 have hG : (leavesF pl F x.ex).flatMap (gsAt pl) = allG p.2.body := by rw [allG_leaves]; exact gs_leaves _ _ ha
 refine ⟨by omega, by rw [hG]; exact h2, fun n hn => ?_⟩
 obtain ⟨e, he, hte⟩ := All2.mem _ _ ha n hn
 obtain ⟨q, hq, _⟩ := id hte
 refine ⟨q, hq, ?_⟩
 have e1 : gsAt pl n = q.gs := by unfold gsAt; rw [hq]
 have := mem_le_flat (gsAt pl) _ n hn
 rw [e1, hG] at this
 omega
theorem lv_ok (hF : FlatF pl F rl (flatT ts)) (hz : Sized ts) : LvOK rl pl (leavesF pl F) := fun x hx => by
 obtain ⟨h1, _, h3⟩ := leaf_gs hF hz x hx
 obtain ⟨p, hp, _, _, _, htr⟩ := FlatF.mem rl _ hF x hx
 exact ⟨rleaves_any pl F _ _ htr (by omega), by omega, fun n hn => by obtain ⟨q, hq, hl⟩ := h3 n hn; exact ⟨q, hq, by omega⟩⟩
theorem gofF_len (hF : FlatF pl F rl (flatT ts)) (hz : Sized ts) (r : Nat) : (GofF rl pl (leavesF pl F) r).length ≤ 500 := by
 unfold GofF
 cases hr : rl[r]? with
 | none => simp
 | some x => exact (leaf_gs hF hz x (List.mem_of_getElem? hr)).2.1
theorem gof_ok (hF : FlatF pl F rl (flatT ts)) (hz : Sized ts) : GofOK rl pl (GofF rl pl (leavesF pl F)) := fun r hr => by
 refine ⟨?_, Nat.le_trans (gofF_len hF hz r) (by omega)⟩
 intro b kv rv pv kl l w h
 have hx := List.getElem?_eq_getElem hr
 obtain ⟨h1, h2, h3⟩ := lv_ok hF hz rl[r] (List.getElem_mem hr)
 have hG : (leavesF pl F rl[r].ex).flatMap (gsAt pl) = GofF rl pl (leavesF pl F) r := by unfold GofF; rw [hx]
 exact rgrants_any b kv rv pv kl rl pl l r rl[r] _ _ w h hx h1 (fun m hm => by obtain ⟨p, hp, _⟩ := h3 m hm; exact (List.getElem?_eq_some_iff.1 hp).1) hG (Nat.le_trans (gofF_len hF hz r) (by omega)) h2
/-- A leaf all of whose names are there. -/
def NmOK (rl : List RV) (kd : ByteArray) (p : PV) : Prop := (p.kind = 2 → 0 ≤ findN kd p.nr rl 0) ∧ (p.kind = 3 → 0 ≤ findN kd p.nb rl 0)
theorem names_nm (kl : List (ByteArray × Nat)) (Gof : Nat → List Gr) (lvOf : Nat → List Nat) (h : rnames kl rl pl Gof lvOf = none) (x : RV) (hx : x ∈ rl) (n : Nat) (hn : n ∈ lvOf x.ex) (p : PV) (hp : pl[n]? = some p) : NmOK rl x.kd p := by
 unfold rnames at h
 rw [List.findSome?_eq_none_iff] at h
 have h1 := h x hx
 rw [List.findSome?_eq_none_iff] at h1
 have h2 := h1 n hn
 unfold unkL at h2
 rw [hp] at h2
 simp only at h2
 unfold unkP at h2
 split at h2
 ·simp at h2
 ·refine ⟨fun hk => ?_, fun hk => ?_⟩
  ·rw [if_pos hk] at h2
   split at h2
   ·simp at h2
   ·omega
  ·rw [if_neg (by omega), if_pos hk] at h2
   split at h2
   ·simp at h2
   ·omega
theorem hash1_lt (rl : List RV) (g : Gr) : ∀ r ∈ hash1 rl g, r < rl.length := by
 unfold hash1
 rcases findN_cases g.ty (relOf g) rl 0 with h | ⟨j, h, _, h2⟩
 ·rw [h]; simp
 ·rw [h]; simp; omega
theorem hangP_lt (rl : List RV) (Gof : Nat → List Gr) (kd : ByteArray) (p : PV) (hn : NmOK rl kd p) : ∀ r ∈ hangP rl Gof kd p, r < rl.length := by
 intro r hr
 unfold hangP at hr
 rcases List.mem_append.1 hr with hr | hr
 ·obtain ⟨g, _, hg⟩ := List.mem_flatMap.1 hr
  exact hash1_lt rl g r hg
 ·split at hr
  ·rename_i hk
   rw [List.mem_singleton] at hr
   have h0 := hn.1 hk
   rcases findN_cases kd p.nr rl 0 with h | ⟨j, h, _, h2⟩
   ·omega
   ·rw [h] at hr; omega
  ·split at hr
   ·unfold tiedN at hr
    obtain ⟨g, _, hg⟩ := List.mem_flatMap.1 hr
    unfold tieN1 at hg
    split at hg
    ·rw [List.mem_singleton] at hg
     rename_i hc
     rw [Bool.and_eq_true, decide_eq_true_eq] at hc
     rcases findN_cases g.ty p.nr rl 0 with h | ⟨j, h, _, h2⟩
     ·omega
     ·rw [h] at hg; omega
    ·simp at hg
   ·simp at hr
theorem hash_le (rl : List RV) : ∀ (l : List Gr), (l.flatMap (hash1 rl)).length ≤ l.length
 | [] => by simp
 | g :: l => by
  have h1 := hash1_le rl g
  have h2 := hash_le rl l
  simp only [List.flatMap_cons, List.length_append, List.length_cons]
  omega
theorem hangP_le (rl : List RV) (Gof : Nat → List Gr) (hG : ∀ r, (Gof r).length ≤ 500) (kd : ByteArray) (p : PV) : (hangP rl Gof kd p).length ≤ p.gs.length + 500 := by
 unfold hangP
 have h1 := hash_le rl p.gs
 rw [List.length_append]
 split
 ·simp only [List.length_cons, List.length_nil]; omega
 ·split
  ·have := tied_le rl p.nr (Gof (findN kd p.nb rl 0).toNat)
   have := hG (findN kd p.nb rl 0).toNat
   omega
  ·simp only [List.length_nil]; omega
theorem flat_bound {α β : Type} (f : α → List β) (n : Nat) : ∀ (l : List α), (∀ a ∈ l, (f a).length ≤ n) → (l.flatMap f).length ≤ l.length * n
 | [], _ => by simp
 | a :: l, h => by
  have h1 := h a (by simp)
  have h2 := flat_bound f n l (fun a ha => h a (by simp [ha]))
  simp only [List.flatMap_cons, List.length_append, List.length_cons, Nat.add_mul, Nat.one_mul]
  omega
/-- Leaves that are among those of a relation's expression. -/
theorem hangN_ok (hF : FlatF pl F rl (flatT ts)) (hz : Sized ts) (kl : List (ByteArray × Nat)) (h : rnames kl rl pl (GofF rl pl (leavesF pl F)) (leavesF pl F) = none) (x : RV) (hx : x ∈ rl) (lv : List Nat) (hlv : ∀ n ∈ lv, n ∈ leavesF pl F x.ex) (hl : lv.length ≤ 500) :
  (∀ m ∈ lv, ∃ p, pl[m]? = some p ∧ p.gs.length ≤ 1000 ∧ (p.kind = 2 → 0 ≤ findN x.kd p.nr rl 0) ∧ (p.kind = 3 → 0 ≤ findN x.kd p.nb rl 0)) ∧ (hangN rl pl (GofF rl pl (leavesF pl F)) x.kd lv).length ≤ 1000000 ∧ (∀ r ∈ hangN rl pl (GofF rl pl (leavesF pl F)) x.kd lv, r < rl.length) ∧ (grN rl pl lv).length ≤ 1000000 ∧ ∀ r ∈ grN rl pl lv, r < rl.length := by
 obtain ⟨_, _, h3⟩ := leaf_gs hF hz x hx
 refine ⟨fun m hm => ?_, ?_, ?_, ?_, ?_⟩
 ·obtain ⟨p, hp, hg⟩ := h3 m (hlv m hm)
  have := names_nm kl _ _ h x hx m (hlv m hm) p hp
  exact ⟨p, hp, by omega, this.1, this.2⟩
 ·refine Nat.le_trans (flat_bound _ 1000 lv (fun m hm => ?_)) (by omega)
  obtain ⟨p, hp, hg⟩ := h3 m (hlv m hm)
  unfold atP
  rw [hp]
  simp only
  have := hangP_le rl _ (gofF_len hF hz) x.kd p
  omega
 ·intro r hr
  unfold hangN at hr
  obtain ⟨m, hm, hr⟩ := List.mem_flatMap.1 hr
  obtain ⟨p, hp, hg⟩ := h3 m (hlv m hm)
  unfold atP at hr
  rw [hp] at hr
  exact hangP_lt rl _ x.kd p (names_nm kl _ _ h x hx m (hlv m hm) p hp) r hr
 ·refine Nat.le_trans (flat_bound _ 1000 lv (fun m hm => ?_)) (by omega)
  obtain ⟨p, hp, hg⟩ := h3 m (hlv m hm)
  unfold atP
  rw [hp]
  have := hash_le rl p.gs
  simp only
  unfold grP
  omega
 ·intro r hr
  unfold grN at hr
  obtain ⟨m, hm, hr⟩ := List.mem_flatMap.1 hr
  obtain ⟨p, hp, hg⟩ := h3 m (hlv m hm)
  unfold atP at hr
  rw [hp] at hr
  unfold grP at hr
  obtain ⟨g, _, hg⟩ := List.mem_flatMap.1 hr
  exact hash1_lt rl g r hg
theorem rels_ok (hF : FlatF pl F rl (flatT ts)) (hz : Sized ts) (kl : List (ByteArray × Nat)) (h : rnames kl rl pl (GofF rl pl (leavesF pl F)) (leavesF pl F) = none) : RelsOK rl pl (GofF rl pl (leavesF pl F)) (leavesF pl F) := fun x hx => by
 obtain ⟨h1, h2, h3⟩ := lv_ok hF hz x hx
 obtain ⟨h4, h5, h6, _⟩ := hangN_ok hF hz kl h x hx _ (fun n hn => hn) (leaf_gs hF hz x hx).1
 exact ⟨⟨h1, h2, h4⟩, by omega, h6⟩
end
end Go.Proofs.YtlbpnlngckgcbaaGreatDoor
