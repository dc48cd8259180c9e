import Derived.Test.YtlbpnlngckgcbaaGreatDoorM35
namespace Go.Proofs.YtlbpnlngckgcbaaGreatDoor
open Go.RowKit Go.PlainAid
set_option linter.unusedSimpArgs false
set_option linter.unusedVariables false
/-! The parts within an expression. -/
def szF (pl : List PV) : Nat → Nat → Nat
 | 0, _ => 0
 | f + 1, n => match pl[n]? with
  | none => 1
  | some p => (p.ps.map (szF pl f)).sum + 1
theorem sum_congr {f g : Nat → Nat} : ∀ {l : List Nat}, (∀ a ∈ l, f a = g a) → (l.map f).sum = (l.map g).sum
 | [], _ => rfl
 | a :: l, h => by
  simp only [List.map_cons, List.sum_cons]
  rw [h a (by simp), sum_congr (fun b hb => h b (by simp [hb]))]
theorem szF_up (pl : List PV) : ∀ (f n : Nat) (x : Ex), Tr pl f n x → szF pl (f + 1) n = szF pl f n
 | 0, _, _, h => h.elim
 | f + 1, n, x, h => by
  obtain ⟨p, hp, _⟩ := id h
  have hk := h.kids hp
  rw [szF, szF, hp]
  simp only
  rw [sum_congr (f := szF pl (f + 1)) (g := szF pl f) (fun m hm => by obtain ⟨y, hy⟩ := hk m hm; exact szF_up pl f m y hy)]
theorem szF_le (pl : List PV) {f F n : Nat} {x : Ex} (h : Tr pl f n x) (hF : f ≤ F) : szF pl F n = szF pl f n := by
 obtain ⟨d, rfl⟩ := Nat.exists_eq_add_of_le hF
 clear hF
 induction d with
 | zero => rfl
 | succ d ih => rw [← ih]; exact szF_up pl _ _ _ (Tr.le pl (Nat.le_add_right f d) h)
theorem parts_fold : ∀ (rs : List (ByteArray × Nat × Ex)) (x : Ex), (partsE (foldE x rs)).length = (partsE x).length + (rs.map fun r => (partsE r.2.2).length + 1).sum
 | [], x => by simp [foldE]
 | (t, p, y) :: rs, x => by
  rw [foldE, parts_fold rs]
  simp only [joinE, partsE, List.length_append, List.length_cons, List.length_nil, List.map_cons, List.sum_cons]
  omega
theorem sum_all2 {R : Nat → Ex → Prop} (z : Nat → Nat) (h : ∀ n x, R n x → z n ≤ (partsE x).length) : ∀ (ns : List Nat) (rs : List (ByteArray × Nat × Ex)), All2 R ns (rs.map fun r => r.2.2) → (ns.map z).sum + rs.length ≤ (rs.map fun r => (partsE r.2.2).length + 1).sum
 | [], [], _ => by simp
 | n :: ns, r :: rs, k => by
  have h1 : z n ≤ (partsE r.2.2).length := h _ _ k.1
  have h2 := sum_all2 z h ns rs k.2
  simp only [List.map_cons, List.sum_cons, List.length_cons]
  omega
 | [], _ :: _, k => k.elim
 | _ :: _, [], k => k.elim
theorem szF_parts (pl : List PV) : ∀ (f n : Nat) (x : Ex), Tr pl f n x → szF pl f n ≤ (partsE x).length
 | 0, _, _, h => h.elim
 | f + 1, n, x, ⟨p, hp, h⟩ => by
  rw [szF, hp]
  simp only
  rcases h with ⟨h1, hn, h2⟩ | ⟨h1, h0, hn, h2⟩ | ⟨h1, h0, hn, h2⟩ | ⟨h1, h0, n0, ns, x0, rs, h3, h4, h5, h6, h7, h8⟩ | ⟨h1, h0, h0', n0, ns, x0, rs, h3, h4, h5, h6, h7, h8⟩
  ·rw [hn.1, h2]; simp [partsE]
  ·rw [hn.1, h2]; simp [partsE]
  ·rw [hn.1, h2]; simp [partsE]
  ·rw [h8, h3, parts_fold]
   have k1 := szF_parts pl f _ _ h4
   have k2 := sum_all2 (szF pl f) (szF_parts pl f) ns rs h5
   have k3 : 0 < rs.length := List.length_pos_iff.2 h7.2
   simp only [List.map_cons, List.sum_cons]
   omega
  ·rw [h8, h3, parts_fold]
   have k1 := szF_parts pl f _ _ h4
   have k2 := sum_all2 (szF pl f) (szF_parts pl f) ns rs h5
   have k3 : 0 < rs.length := List.length_pos_iff.2 h7
   simp only [List.map_cons, List.sum_cons]
   omega
theorem Tr.signs {pl : List PV} {f n : Nat} {x : Ex} {p : PV} (h : Tr pl (f + 1) n x) (hp : pl[n]? = some p) : p.sg.length ≤ p.ps.length := by
 obtain ⟨p', hp', h⟩ := h
 rw [hp] at hp'
 simp only [Option.some.injEq] at hp'
 subst hp'
 rcases h with ⟨h1, hn, h2⟩ | ⟨h1, h0, hn, h2⟩ | ⟨h1, h0, hn, h2⟩ | ⟨h1, h0, n0, ns, x0, rs, h3, h4, h5, h6, h7, h8⟩ | ⟨h1, h0, h0', n0, ns, x0, rs, h3, h4, h5, h6, h7, h8⟩
 ·rw [hn.2]; simp
 ·rw [hn.2]; simp
 ·rw [hn.2]; simp
 ·have := All2.len _ _ h5
  rw [h6, h3]
  simp at this ⊢
  omega
 ·rw [h0']; simp
theorem Tr.kid_leaves {pl : List PV} {f n : Nat} {x : Ex} {p : PV} (h : Tr pl (f + 1) n x) (hp : pl[n]? = some p) : ∀ m ∈ p.ps, ∀ k ∈ leavesF pl f m, k ∈ leavesF pl (f + 1) n := by
 obtain ⟨p', hp', h⟩ := h
 rw [hp] at hp'
 simp only [Option.some.injEq] at hp'
 subst hp'
 intro m hm k hk
 rw [leavesF, hp]
 simp only
 rcases h with ⟨h1, hn, h2⟩ | ⟨h1, h0, hn, h2⟩ | ⟨h1, h0, hn, h2⟩ | ⟨h1, _⟩ | ⟨h1, _⟩
 ·rw [hn.1] at hm; simp at hm
 ·rw [hn.1] at hm; simp at hm
 ·rw [hn.1] at hm; simp at hm
 ·rw [if_pos (.inl h1)]; exact List.mem_flatMap.2 ⟨m, hm, hk⟩
 ·rw [if_pos (.inr h1)]; exact List.mem_flatMap.2 ⟨m, hm, hk⟩
def QF (pl : List PV) (F : Nat) (x : RV) (n : Nat) : Prop := ∃ f y, f ≤ F ∧ Tr pl f n y ∧ ∀ k ∈ leavesF pl F n, k ∈ leavesF pl F x.ex
theorem leaves_sz (pl : List PV) : ∀ (f n : Nat) (x : Ex), Tr pl f n x → (leavesF pl f n).length ≤ (partsE x).length := fun f n x h => by
 have := All2.len _ _ (leaves_tr pl f n x h)
 have := leavesE_le x
 omega
section
variable {pl : List PV} {rl : List RV} {ts : List Ty} {F : Nat}
theorem leaves_sub (pl : List PV) : ∀ (f n : Nat) (x : Ex), Tr pl f n x → (leavesF pl f n).length ≤ szF pl f n
 | 0, _, _, h => h.elim
 | f + 1, n, x, h => by
  obtain ⟨p, hp, _⟩ := id h
  have hk := h.kids hp
  rw [leavesF, szF, hp]
  simp only
  split
  ·rw [List.length_flatMap]
   have : ∀ l : List Nat, (∀ m ∈ l, ∃ y, Tr pl f m y) → (l.map fun a => (leavesF pl f a).length).sum ≤ (l.map (szF pl f)).sum := by
    intro l
    induction l with
    | nil => simp
    | cons a l ih =>
     intro hl
     obtain ⟨y, hy⟩ := hl a (by simp)
     have h1 := leaves_sub pl f a y hy
     have h2 := ih (fun m hm => hl m (by simp [hm]))
     simp only [List.map_cons, List.sum_cons]
     omega
   have := this p.ps hk
   omega
  ·simp
def szOK (pl : List PV) (F : Nat) (n : Nat) : Prop := szF pl F n ≤ 500
theorem sum_mem (z : Nat → Nat) : ∀ (l : List Nat), ∀ m ∈ l, z m ≤ (l.map z).sum
 | a :: l, m, hm => by
  simp only [List.map_cons, List.sum_cons]
  rcases List.mem_cons.1 hm with rfl | hm
  ·omega
  ·have := sum_mem z l m hm; omega
theorem tree_ok (hF : FlatF pl F rl (flatT ts)) (hz : Sized ts) (kl : List (ByteArray × Nat)) (h : rnames kl rl pl (GofF rl pl (leavesF pl F)) (leavesF pl F) = none) (x : RV) (hx : x ∈ rl) : TreeOK rl pl (GofF rl pl (leavesF pl F)) (leavesF pl F) x (fun n => QF pl F x n ∧ szOK pl F n) (szF pl F) := by
 obtain ⟨p, hp, _, _, _, htr⟩ := FlatF.mem rl _ hF x hx
 obtain ⟨t, ht, _, hr⟩ := flat_mem.1 hp
 obtain ⟨h1, h2⟩ := hz t ht p.2 hr
 have hsz := szF_parts pl F _ _ htr
 have hE := hangN_ok hF hz kl h x hx (leavesF pl F x.ex) (fun n hn => hn) (leaf_gs hF hz x hx).1
 have hl := (leaf_gs hF hz x hx).1
 refine ⟨⟨⟨F, _, Nat.le_refl _, htr, fun k hk => hk⟩, by unfold szOK; omega⟩, by omega, fun n hn => ?_, ⟨⟨rleaves_any pl F _ _ htr (by omega), by omega, hE.1⟩, by omega⟩⟩
 obtain ⟨⟨f, y, hf, hy, hs⟩, ho⟩ := hn
 unfold szOK at ho
 cases f with
 | zero => exact hy.elim
 | succ g =>
  obtain ⟨q, hq, _⟩ := id hy
  have e1 : szF pl F n = (q.ps.map (szF pl F)).sum + 1 := by
   rw [szF_le pl hy hf, szF, hq]
   simp only
   rw [sum_congr (f := szF pl g) (g := szF pl F) (fun m hm => by obtain ⟨z, hz⟩ := hy.kids hq m hm; exact (szF_le pl hz (by omega)).symm)]
  refine ⟨q, hq, hy.signs hq, by omega, fun m hm => ?_⟩
  obtain ⟨z, hz'⟩ := hy.kids hq m hm
  have hsub : ∀ k ∈ leavesF pl F m, k ∈ leavesF pl F x.ex := fun k hk => by
   refine hs k ?_
   rw [leavesF_le pl hy hf]
   rw [leavesF_le pl hz' (by omega)] at hk
   exact hy.kid_leaves hq m hm k hk
  have hle : szF pl F m ≤ (q.ps.map (szF pl F)).sum := sum_mem _ _ m hm
  have hlm : (leavesF pl F m).length ≤ 500 := by
   rw [leavesF_le pl hz' (by omega)]
   have := leaves_sub pl g m z hz'
   rw [← szF_le pl hz' (show g ≤ F by omega)] at this
   omega
  have hM := hangN_ok hF hz kl h x hx (leavesF pl F m) hsub hlm
  refine ⟨⟨⟨g, z, by omega, hz', hsub⟩, by unfold szOK; omega⟩, ⟨?_, by omega, hM.1⟩, by omega, ?_, ?_⟩
  ·have e : leavesF pl F m = leavesF pl g m := leavesF_le pl hz' (by omega)
   rw [e]
   exact rleaves_any pl g m z hz' (by rw [← e]; omega)
  ·intro r hr
   unfold needN at hr
   rcases List.mem_append.1 hr with hr | hr
   ·exact hM.2.2.1 r hr
   ·split at hr
    ·exact hE.2.2.2.2 r hr
    ·simp at hr
  ·unfold needN
   rw [List.length_append]
   have := hM.2.1
   have := hE.2.2.2.1
   split
   ·omega
   ·simp only [List.length_nil]; omega
end
/-! What is reached: the closure, on both sides. -/
def Rch{α:Type}(nd:α->List α)(S:List α)(x:α):Prop:=∀P:α->Prop,(∀x∈S,P x)->(∀x y,P x->y∈nd x->P y)->P x
theorem Rch.bz{α:Type}{nd:α->List α}{S x}(h:x∈S):Rch nd S x:=fun _ a _=>a x h
theorem Rch.step{α:Type}{nd:α->List α}{S x y}(h:Rch nd S x)(k:y∈nd x):Rch nd S y:=fun P a b=>b x y (h P a b) k
theorem Rch.ind{α:Type}{nd:α->List α}{S}{motive:∀x,Rch nd S x->Prop}(base:∀{x}(h:x∈S),motive x (.bz h))(step:∀{x y}(h:Rch nd S x)(k:y∈nd x),motive x h->motive y (.step h k)){x}(h:Rch nd S x):motive x h:=
 (h (fun x=>∃h,motive x h) (fun x h=>⟨_,base h⟩) (fun x y ⟨h,i⟩ k=>⟨_,step h k i⟩)).elim fun _ i=>i
theorem any_sp (f : List Sp) (x : Sp) : (f.any fun y => eqSp x y) = true ↔ x ∈ f := by
 rw [List.any_eq_true]
 constructor
 ·rintro ⟨y, hy, e⟩
  rw [(eqSp_iff x y).1 e]
  exact hy
 ·exact fun h => ⟨x, h, (eqSp_iff x x).2 rfl⟩
theorem reachL_rch (ts : List Ty) (S : List Sp) : ∀ (k : Nat) (q f : List Sp), q.length + restN (needsAtP ts) f (keysP ts) < k → (∀ x ∈ S, x ∈ f ∨ x ∈ q) → (∀ x ∈ f, Rch (needsAtP ts) S x) → (∀ x ∈ q, Rch (needsAtP ts) S x) → (∀ x ∈ f, ∀ y ∈ needsAtP ts x, y ∈ f ∨ y ∈ q) →
  ∀ x, x ∈ reachL (needsAtP ts) k q f ↔ Rch (needsAtP ts) S x
 | 0, q, f, hk, _, _, _, _ => by omega
 | k + 1, [], f, hk, h1, h2, h3, h4 => by
  intro x
  rw [reachL]
  refine ⟨h2 x, fun h => ?_⟩
  induction h using Rch.ind with
  | base h =>
   rcases h1 _ h with h | h
   ·exact h
   ·simp at h
  | step _ hy ih =>
   rcases h4 _ ih _ hy with h | h
   ·exact h
   ·simp at h
 | k + 1, z :: q, f, hk, h1, h2, h3, h4 => by
  intro x
  rw [reachL]
  simp only [List.length_cons] at hk
  by_cases hz : (f.any fun y => eqSp z y) = true
  ·rw [if_pos hz]
   have hzf := (any_sp f z).1 hz
   refine reachL_rch ts S k q f (by omega) (fun x hx => ?_) h2 (fun x hx => h3 x (by simp [hx])) (fun x hx y hy => ?_) x
   ·rcases h1 x hx with h | h
    ·exact .inl h
    ·rcases List.mem_cons.1 h with rfl | h
     ·exact .inl hzf
     ·exact .inr h
   ·rcases h4 x hx y hy with h | h
    ·exact .inl h
    ·rcases List.mem_cons.1 h with rfl | h
     ·exact .inl hzf
     ·exact .inr h
  ·rw [if_neg hz]
   have hz' : (f.any fun y => eqSp z y) = false := by
    cases e : (f.any fun y => eqSp z y)
    ·rfl
    ·exact absurd e hz
   have hs := rest_step ts f z hz'
   have hzr := h3 z (by simp)
   refine reachL_rch ts S k (q ++ needsAtP ts z) (f ++ [z]) (by rw [List.length_append]; omega) (fun x hx => ?_) (fun x hx => ?_) (fun x hx => ?_) (fun x hx y hy => ?_) x
   ·rcases h1 x hx with h | h
    ·exact .inl (by simp [h])
    ·rcases List.mem_cons.1 h with rfl | h
     ·exact .inl (by simp)
     ·exact .inr (by simp [h])
   ·rcases List.mem_append.1 hx with h | h
    ·exact h2 x h
    ·rw [List.mem_singleton.1 h]; exact hzr
   ·rcases List.mem_append.1 hx with h | h
    ·exact h3 x (by simp [h])
    ·exact .step hzr h
   ·rcases List.mem_append.1 hx with h | h
    ·rcases h4 x h y hy with h | h
     ·exact .inl (by simp [h])
     ·rcases List.mem_cons.1 h with rfl | h
      ·exact .inl (by simp)
      ·exact .inr (by simp [h])
    ·rw [List.mem_singleton.1 h] at hy
     exact .inr (by simp [hy])
theorem reachedP_iff (ts : List Ty) (S : List Sp) (x : Sp) : x ∈ reachedP ts S ↔ Rch (needsAtP ts) S x := by
 unfold reachedP roundsP
 exact reachL_rch ts S _ S [] (by omega) (fun x hx => .inr hx) (by simp) (fun x hx => .bz hx) (by simp) x
theorem hangsP_iff (ts : List Ty) (S : List Sp) (x : Sp) : hangsP ts S x = true ↔ Rch (needsAtP ts) S x := by
 unfold hangsP
 rw [any_sp, reachedP_iff]
theorem add1N_mem (o : List Nat) (x y : Nat) : y ∈ add1N o x ↔ y ∈ o ∨ y = x := by
 unfold add1N
 split
 ·rename_i h
  rw [List.any_eq_true] at h
  obtain ⟨k, hk, e⟩ := h
  have : k = x := by simpa using e
  subst this
  constructor
  ·exact .inl
  ·rintro (h | rfl)
   ·exact h
   ·exact hk
 ·simp
theorem addNN_mem : ∀ (l o : List Nat) (y : Nat), y ∈ addNN o l ↔ y ∈ o ∨ y ∈ l
 | [], o, y => by simp [addNN]
 | x :: l, o, y => by
  have := addNN_mem l (add1N o x) y
  unfold addNN at *
  rw [List.foldl_cons, this, add1N_mem, List.mem_cons]
  constructor
  ·rintro ((h | h) | h)
   ·exact .inl h
   ·exact .inr (.inl h)
   ·exact .inr (.inr h)
  ·rintro (h | h | h)
   ·exact .inl (.inl h)
   ·exact .inl (.inr h)
   ·exact .inr h
theorem add1N_pre (o : List Nat) (x : Nat) : ∃ e, add1N o x = o ++ e := by
 unfold add1N
 split
 ·exact ⟨[], by simp⟩
 ·exact ⟨[x], rfl⟩
theorem addNN_pre : ∀ (l o : List Nat), ∃ e, addNN o l = o ++ e
 | [], o => ⟨[], by simp [addNN]⟩
 | x :: l, o => by
  obtain ⟨e1, h1⟩ := add1N_pre o x
  obtain ⟨e2, h2⟩ := addNN_pre l (add1N o x)
  refine ⟨e1 ++ e2, ?_⟩
  unfold addNN at *
  rw [List.foldl_cons, h2, h1, List.append_assoc]
theorem allL_rch (H : Nat → List Nat) (S : List Nat) (m : Nat) (hH : ∀ r, ∀ x ∈ H r, x < m) : ∀ (f : Nat) (o : List Nat) (i : Nat), S.length + m < f + i → GrownN S m o → (∀ x ∈ o, Rch H S x) → (∀ k < i, ∀ r, o[k]? = some r → ∀ y ∈ H r, y ∈ o) →
  ∀ x, x ∈ allL H f o i ↔ Rch H S x
 | 0, o, i, hf, hg, h1, h2 => by
  intro x
  rw [allL]
  have hl := hg.le
  obtain ⟨ex, rfl, _, _⟩ := hg
  refine ⟨h1 x, fun h => ?_⟩
  induction h using Rch.ind with
  | base h => simp [h]
  | step _ hy ih =>
   obtain ⟨k, hk⟩ := List.mem_iff_getElem?.1 ih
   have hlt := (List.getElem?_eq_some_iff.1 hk).1
   exact h2 k (by omega) _ hk _ hy
 | f + 1, o, i, hf, hg, h1, h2 => by
  intro x
  rw [allL]
  cases hi : o[i]? with
  | none =>
   simp only
   have hge := List.getElem?_eq_none_iff.1 hi
   obtain ⟨ex, rfl, _, _⟩ := hg
   refine ⟨h1 x, fun h => ?_⟩
   induction h using Rch.ind with
   | base h => simp [h]
   | step _ hy ih =>
    obtain ⟨k, hk⟩ := List.mem_iff_getElem?.1 ih
    have hlt := (List.getElem?_eq_some_iff.1 hk).1
    exact h2 k (by omega) _ hk _ hy
  | some r =>
   simp only
   have hlt := (List.getElem?_eq_some_iff.1 hi).1
   have hr := h1 r (List.mem_of_getElem? hi)
   refine allL_rch H S m hH f _ (i + 1) (by omega) (addNN_grown _ _ hg (hH r)) (fun y hy => ?_) (fun k hk r' hr' y hy => ?_) x
   ·rcases (addNN_mem _ _ _).1 hy with h | h
    ·exact h1 y h
    ·exact .step hr h
   ·obtain ⟨e, he⟩ := addNN_pre (H r) o
    have hko : k < o.length := by omega
    rw [he, List.getElem?_append_left hko] at hr'
    rw [addNN_mem]
    rcases Nat.lt_or_ge k i with h | h
    ·exact .inl (h2 k h r' hr' y hy)
    ·have : k = i := by omega
     subst this
     rw [hi] at hr'
     simp only [Option.some.injEq] at hr'
     subst hr'
     exact .inr hy
theorem allN_iff (rl : List RV) (pl : List PV) (Gof : Nat → List Gr) (lvOf : Nat → List Nat) (h : RelsOK rl pl Gof lvOf) (S : List Nat) (x : Nat) : x ∈ allN rl pl Gof lvOf S ↔ Rch (hangR rl pl Gof lvOf) S x := by
 unfold allN
 refine allL_rch _ S rl.length (fun r x hx => ?_) _ S 0 (by omega) ⟨[], by simp, by simp, by simp⟩ (fun x hx => .bz hx) (fun k hk => by omega) x
 unfold hangR at hx
 cases hr : rl[r]? with
 | none => rw [hr] at hx; simp at hx
 | some y =>
  rw [hr] at hx
  exact (h y (List.mem_of_getElem? hr)).2.2 x hx
/-- By numbers and by spots: the same is reached. -/
theorem rch_img {α : Type} (num : α → Int) (nd : α → List α) (H : Nat → List Nat) (S : List α) (N : List Nat)
  (hS : ∀ j, j ∈ N ↔ ∃ s ∈ S, num s = (j : Nat)) (hH : ∀ (s : α) (j : Nat), num s = j → ∀ j', j' ∈ H j ↔ ∃ s' ∈ nd s, num s' = (j' : Nat)) (h0 : ∀ s, nd s ≠ [] → 0 ≤ num s) (j : Nat) : Rch H N j ↔ ∃ s, Rch nd S s ∧ num s = j := by
 constructor
 ·intro h
  induction h using Rch.ind with
  | base h =>
   obtain ⟨s, hs, e⟩ := (hS _).1 h
   exact ⟨s, .bz hs, e⟩
  | step _ hy ih =>
   obtain ⟨s, hs, e⟩ := ih
   obtain ⟨s', hs', e'⟩ := (hH s _ e _).1 hy
   exact ⟨s', .step hs hs', e'⟩
 ·rintro ⟨s, h, e⟩
  induction h using Rch.ind generalizing j with
  | base h => exact .bz ((hS _).2 ⟨_, h, e⟩)
  | @step x y _ hy ih =>
   have hx := h0 x (fun e => by rw [e] at hy; simp at hy)
   exact .step (ih (num x).toNat (by omega)) ((hH x (num x).toNat (by omega) _).2 ⟨y, hy, e⟩)
/-! What a part hangs on: the numbers are those of the spots. -/
theorem All2.memr {R : Nat → Ex → Prop} : ∀ (ns : List Nat) (xs : List Ex), All2 R ns xs → ∀ x ∈ xs, ∃ n ∈ ns, R n x
 | [], [], _, x, h => by simp at h
 | n :: ns, y :: xs, k, x, h => by
  rcases List.mem_cons.1 h with rfl | h
  ·exact ⟨n, by simp, k.1⟩
  ·obtain ⟨m, hm, hr⟩ := All2.memr ns xs k.2 x h
   exact ⟨m, by simp [hm], hr⟩
 | [], _ :: _, k, _, _ => k.elim
 | _ :: _, [], k, _, _ => k.elim
theorem tr1_det {pl : List PV} {n : Nat} {x y : Ex} (h : Tr pl 1 n x) (k : Tr pl 1 n y) : x = y := by
 obtain ⟨p, hp, h⟩ := h
 obtain ⟨q, hq, k⟩ := k
 rw [hp] at hq
 simp only [Option.some.injEq] at hq
 subst hq
 rcases h with ⟨h1, hn, rfl⟩ | ⟨h1, h0, hn, rfl⟩ | ⟨h1, h0, hn, rfl⟩ | ⟨_, _, _, _, _, _, _, h4, _⟩ | ⟨_, _, _, _, _, _, _, _, h4, _⟩
 ·rcases k with ⟨k1, kn, rfl⟩ | ⟨k1, k0, kn, rfl⟩ | ⟨k1, k0, kn, rfl⟩ | ⟨_, _, _, _, _, _, _, k4, _⟩ | ⟨_, _, _, _, _, _, _, _, k4, _⟩
  ·rfl
  ·omega
  ·omega
  ·exact k4.elim
  ·exact k4.elim
 ·rcases k with ⟨k1, kn, rfl⟩ | ⟨k1, k0, kn, rfl⟩ | ⟨k1, k0, kn, rfl⟩ | ⟨_, _, _, _, _, _, _, k4, _⟩ | ⟨_, _, _, _, _, _, _, _, k4, _⟩
  ·omega
  ·rfl
  ·omega
  ·exact k4.elim
  ·exact k4.elim
 ·rcases k with ⟨k1, kn, rfl⟩ | ⟨k1, k0, kn, rfl⟩ | ⟨k1, k0, kn, rfl⟩ | ⟨_, _, _, _, _, _, _, k4, _⟩ | ⟨_, _, _, _, _, _, _, _, k4, _⟩
  ·omega
  ·omega
  ·rfl
  ·exact k4.elim
  ·exact k4.elim
 ·exact h4.elim
 ·exact h4.elim
theorem leaf_parts : ∀ (x p : Ex), p ∈ leavesE x ↔ p ∈ partsE x ∧ p.l = none
 | ⟨n, some x, some y⟩, p => by
  have h1 := leaf_parts x p
  have h2 := leaf_parts y p
  simp only [leavesE, partsE, List.mem_append, List.mem_singleton, h1, h2]
  constructor
  ·rintro (h | h)
   ·exact ⟨.inl (.inl h.1), h.2⟩
   ·exact ⟨.inr h.1, h.2⟩
  ·rintro ⟨(h | rfl) | h, k⟩
   ·exact .inl ⟨h, k⟩
   ·simp at k
   ·exact .inr ⟨h, k⟩
 | ⟨n, none, r⟩, p => by
  simp only [leavesE, partsE, List.mem_singleton]
  constructor
  ·rintro rfl; exact ⟨rfl, rfl⟩
  ·exact fun h => h.1
 | ⟨n, some x, none⟩, p => by simp [leavesE, partsE]
theorem needs_leaf (ts : List Ty) (t : Ty) (r : Rl) (y : Ex) (s : Sp) : s ∈ needsP ts t r y ↔ ∃ e ∈ leavesE y, s ∈ needs1 ts t r e := by
 unfold needsP
 rw [List.mem_flatMap]
 constructor
 ·rintro ⟨p, hp, hs⟩
  refine ⟨p, (leaf_parts y p).2 ⟨hp, ?_⟩, hs⟩
  unfold needs1 at hs
  cases h : p.l with
  | none => rfl
  | some z => rw [h] at hs; simp at hs
 ·rintro ⟨p, hp, hs⟩
  exact ⟨p, ((leaf_parts y p).1 hp).1, hs⟩
/-- What a leaf hangs on by itself. -/
def ownS (ts : List Ty) (t : Ty) (e : Ex) : List Sp := if e.nd.kind = 0 then e.nd.gs.filterMap rel1 else if e.nd.kind = 1 then [(t.name, e.nd.n1)] else (tiedP ts t e.nd.n1 e.nd.n2).map fun u => (u.name, e.nd.n2)
/-- What is known of a model whose names are all there. -/
structure Kn (pl : List PV) (rl : List RV) (ts : List Ty) (F : Nat) : Prop where
 d : Distinct ts
 b : FlatB pl rl (flatT ts)
 f : FlatF pl F rl (flatT ts)
 g : GrsOK ts
 n : ∀ t ∈ ts, ∀ r ∈ t.rels, isNm r.name = true
 w : ∀ t ∈ ts, ∀ r ∈ t.rels, WF r.body
 z : Sized ts
 k : ∀ x ∈ rl, ∀ n ∈ leavesF pl F x.ex, ∀ p, pl[n]? = some p → NmOK rl x.kd p
section
variable {pl : List PV} {rl : List RV} {ts : List Ty} {F : Nat}
theorem Kn.noName (h : Kn pl rl ts F) (k n : ByteArray) (hn : isNm n = false) : findN k n rl 0 = -1 := by
 rcases findN_spec h.d h.b k n with ⟨e, _⟩ | ⟨j, t, r, _, h4, h5, _⟩
 ·exact e
 ·have h1 := (findTy_some h4).1
  obtain ⟨h2, h3⟩ := findRl_some h5
  have := h.n t h1 r h2
  rw [h3, hn] at this
  cases this
theorem Kn.hash (h : Kn pl rl ts F) (g : Gr) (hg : GrOK g) (j : Nat) : j ∈ hash1 rl g ↔ ∃ s, rel1 g = some s ∧ findN s.1 s.2 rl 0 = j := by
 unfold hash1 rel1
 rcases hg with ⟨h1, h2⟩ | h1 | ⟨h1, h2⟩
 ·have e : relOf g = em := by unfold relOf; rw [if_neg (by omega), h2]
  rw [e, h.noName g.ty em isNm_em, if_neg (by omega), if_neg (by omega)]
  simp
 ·have e : relOf g = sg 42 := by unfold relOf; rw [if_pos h1]
  rw [e, h.noName g.ty (sg 42) isNm_star, if_neg (by omega), if_neg (by omega)]
  simp
 ·rw [relOf_two h1, if_pos h1]
  constructor
  ·intro hj
   split at hj
   ·rw [List.mem_singleton] at hj
    exact ⟨_, rfl, by simp only; omega⟩
   ·simp at hj
  ·rintro ⟨s, e, hs⟩
   simp only [Option.some.injEq] at e
   subst e
   simp only at hs
   rw [if_pos (by omega), List.mem_singleton]
   omega
theorem Kn.gof (h : Kn pl rl ts F) {j : Nat} {k : ByteArray} {r : Rl} (hj : (flatT ts)[j]? = some (k, r)) : GofF rl pl (leavesF pl F) j = allG r.body := by
 obtain ⟨x, hx, _, _, _, htr⟩ := FlatF.get rl _ j _ h.f hj
 unfold GofF
 rw [hx, allG_leaves]
 exact gs_leaves _ _ (leaves_tr pl F _ _ htr)
theorem Kn.allg (h : Kn pl rl ts F) {t : Ty} (ht : t ∈ ts) {r : Rl} (hr : r ∈ t.rels) : ∀ g ∈ allG r.body, GrOK g := by
 rw [allG_leaves]
 intro g hg'
 obtain ⟨e', he', hg''⟩ := List.mem_flatMap.1 hg'
 exact h.g t ht r hr e' he' g hg''
theorem Kn.tie (h : Kn pl rl ts F) (y : ByteArray) (g : Gr) (hg : GrOK g) (j : Nat) : j ∈ tieN1 rl y g ↔ ∃ u, tie1 ts y g = some u ∧ findN u.name y rl 0 = j := by
 rcases tie_spec h.d h.b y g hg with ⟨e1, e2⟩ | ⟨i, u, r, e1, e2, h5, h6⟩
 ·rw [e1, e2]; simp
 ·have hn : findN u.name y rl 0 = (i : Int) := by
   have e3 := e1
   unfold tieN1 at e3
   split at e3
   ·rename_i hc
    rw [Bool.and_eq_true, decide_eq_true_eq] at hc
    simp only [List.cons.injEq, and_true] at e3
    have e4 : u.name = g.ty := by
     unfold tie1 at e2
     split at e2
     ·split at e2
      ·cases e2
      ·rename_i v hv
       split at e2
       ·simp only [Option.some.injEq] at e2
        subst e2
        exact (findTy_some hv).2
       ·cases e2
     ·cases e2
    rw [e4]
    omega
   ·cases e3
  rw [e1, e2, List.mem_singleton]
  constructor
  ·rintro rfl; exact ⟨u, rfl, hn⟩
  ·rintro ⟨v, e, hv⟩
   simp only [Option.some.injEq] at e
   subst e
   omega
theorem Kn.leaf (h : Kn pl rl ts F) (t : Ty) (ht : t ∈ ts) (n : Nat) (e : Ex) (k : Tr pl 1 n e) (he : ∀ g ∈ gsOf e, GrOK g) (hn : ∀ p, pl[n]? = some p → NmOK rl t.name p) (j : Nat) : j ∈ atP (hangP rl (GofF rl pl (leavesF pl F)) t.name) pl n ↔ ∃ s ∈ ownS ts t e, findN s.1 s.2 rl 0 = j := by
 obtain ⟨p, hp, k⟩ := k
 have hn := hn p hp
 unfold atP
 rw [hp]
 simp only
 unfold hangP ownS
 rcases k with ⟨h1, hk, rfl⟩ | ⟨h1, h0, hk, rfl⟩ | ⟨h1, h0, hk, rfl⟩ | ⟨_, _, _, _, _, _, _, h4, _⟩ | ⟨_, _, _, _, _, _, _, _, h4, _⟩
 ·simp only [h1, Nat.reduceEqDiff, if_false, List.append_nil, if_true, List.mem_flatMap, List.mem_filterMap]
  have he' : ∀ g ∈ p.gs, GrOK g := by simpa [gsOf] using he
  constructor
  ·rintro ⟨g, hg, hj⟩
   obtain ⟨s, e1, e2⟩ := (h.hash g (he' g hg) j).1 hj
   exact ⟨s, ⟨g, hg, e1⟩, e2⟩
  ·rintro ⟨s, ⟨g, hg, e1⟩, e2⟩
   exact ⟨g, hg, (h.hash g (he' g hg) j).2 ⟨s, e1, e2⟩⟩
 ·have h2 := hn.1 h1
  simp only [h0, h1, Nat.reduceEqDiff, if_false, if_true, List.flatMap_nil, List.nil_append, List.mem_singleton]
  constructor
  ·intro hj
   exact ⟨_, rfl, by simp only; omega⟩
  ·rintro ⟨s, rfl, hs⟩
   simp only at hs
   omega
 ·have h2 := hn.2 h1
  simp only [h0, h1, Nat.reduceEqDiff, if_false, if_true, List.flatMap_nil, List.nil_append]
  rcases findN_spec h.d h.b t.name p.nb with ⟨e1, _⟩ | ⟨i, t', r, e1, h4, h5, h6⟩
  ·omega
  ·rw [findTy_mem h.d ht] at h4
   simp only [Option.some.injEq] at h4
   subst h4
   have hrm := (findRl_some h5).1
   rw [e1, Int.toNat_natCast, h.gof h6]
   unfold tiedN tiedP
   rw [h5]
   simp only [List.mem_flatMap, List.mem_map, List.mem_filterMap]
   have ha := h.allg ht hrm
   constructor
   ·rintro ⟨g, hg, hj⟩
    obtain ⟨u, e2, e3⟩ := (h.tie p.nr g (ha g hg) j).1 hj
    exact ⟨_, ⟨u, ⟨g, hg, e2⟩, rfl⟩, e3⟩
   ·rintro ⟨s, ⟨u, ⟨g, hg, e2⟩, rfl⟩, e3⟩
    exact ⟨g, hg, (h.tie p.nr g (ha g hg) j).2 ⟨u, e2, e3⟩⟩
 ·exact h4.elim
 ·exact h4.elim
end
/-! What a part hangs on, whole; and whether that is the relation that it stands in. -/
section
variable {pl : List PV} {rl : List RV} {ts : List Ty} {F : Nat}
/-- A part of the expression of the relation r of the type t. -/
structure Sub (pl : List PV) (F : Nat) (x : RV) (t : Ty) (r : Rl) (m : Nat) (y : Ex) : Prop where
 tr : Tr pl F m y
 xt : Tr pl F x.ex r.body
 lv : ∀ n ∈ leavesF pl F m, n ∈ leavesF pl F x.ex
 kd : x.kd = t.name
theorem Sub.leaf {x : RV} {t : Ty} {r : Rl} {m : Nat} {y : Ex} (s : Sub pl F x t r m y) {e : Ex} (he : e ∈ leavesE y) : ∃ n ∈ leavesF pl F m, Tr pl 1 n e ∧ e ∈ leavesE r.body := by
 obtain ⟨n, hn, ht⟩ := All2.memr _ _ (leaves_tr pl F _ _ s.tr) e he
 obtain ⟨e', he', ht'⟩ := All2.mem _ _ (leaves_tr pl F _ _ s.xt) n (s.lv n hn)
 rw [tr1_det ht ht'] at *
 exact ⟨n, hn, ht', he'⟩
theorem Kn.hang (h : Kn pl rl ts F) {x : RV} (hx : x ∈ rl) {t : Ty} (ht : t ∈ ts) {r : Rl} (hr : r ∈ t.rels) {m : Nat} {y : Ex} (s : Sub pl F x t r m y) (j : Nat) : j ∈ hangN rl pl (GofF rl pl (leavesF pl F)) x.kd (leavesF pl F m) ↔ ∃ e ∈ leavesE y, ∃ s ∈ ownS ts t e, findN s.1 s.2 rl 0 = j := by
 unfold hangN
 rw [List.mem_flatMap]
 have key : ∀ n ∈ leavesF pl F m, ∀ e ∈ leavesE y, Tr pl 1 n e → (j ∈ atP (hangP rl (GofF rl pl (leavesF pl F)) x.kd) pl n ↔ ∃ s ∈ ownS ts t e, findN s.1 s.2 rl 0 = j) := fun n hn e he hte => by
  rw [s.kd]
  obtain ⟨_, _, _, hb⟩ := s.leaf he
  exact h.leaf t ht n e hte (h.g t ht r hr e hb) (fun p hp => by rw [← s.kd]; exact h.k x hx n (s.lv n hn) p hp) j
 constructor
 ·rintro ⟨n, hn, hj⟩
  obtain ⟨e, he, hte⟩ := All2.mem _ _ (leaves_tr pl F _ _ s.tr) n hn
  exact ⟨e, he, (key n hn e he hte).1 hj⟩
 ·rintro ⟨e, he, hs⟩
  obtain ⟨n, hn, hte, _⟩ := s.leaf he
  exact ⟨n, hn, (key n hn e he hte).2 hs⟩
theorem mem_relP {r : Rl} {s : Sp} : s ∈ relP r ↔ ∃ e ∈ leavesE r.body, ∃ g ∈ gsOf e, rel1 g = some s := by
 unfold relP
 rw [allG_leaves]
 simp only [List.mem_filterMap, List.mem_flatMap]
 constructor
 ·rintro ⟨g, ⟨e, he, hg⟩, hs⟩; exact ⟨e, he, g, hg, hs⟩
 ·rintro ⟨e, he, g, hg, hs⟩; exact ⟨g, ⟨e, he, hg⟩, hs⟩
theorem leaf_l {x e : Ex} (h : e ∈ leavesE x) : e.l = none := ((leaf_parts x e).1 h).2
theorem needs1_leaf {ts : List Ty} {t : Ty} {r : Rl} {e : Ex} (h : e.l = none) : needs1 ts t r e = if e.nd.kind = 0 then relP r else ownS ts t e := by
 unfold needs1 ownS
 rw [h]
 simp only
 split
 ·rfl
 ·rfl
theorem gsOf_leaf {e : Ex} (h : e.l = none) : gsOf e = if e.nd.kind = 0 then e.nd.gs else [] := by
 unfold gsOf
 rw [h]
theorem Kn.grants (h : Kn pl rl ts F) {x : RV} {t : Ty} (ht : t ∈ ts) {r : Rl} (hr : r ∈ t.rels) (hxt : Tr pl F x.ex r.body) (j : Nat) : j ∈ grN rl pl (leavesF pl F x.ex) ↔ ∃ s ∈ relP r, findN s.1 s.2 rl 0 = j := by
 unfold grN
 rw [List.mem_flatMap]
 have key : ∀ n e, Tr pl 1 n e → atP (grP rl) pl n = (gsOf e).flatMap (hash1 rl) := fun n e hte => by
  rw [← gsAt_leaf hte]
  obtain ⟨p, hp, _⟩ := hte
  unfold atP gsAt grP
  rw [hp]
 constructor
 ·rintro ⟨n, hn, hj⟩
  obtain ⟨e, he, hte⟩ := All2.mem _ _ (leaves_tr pl F _ _ hxt) n hn
  rw [key n e hte, List.mem_flatMap] at hj
  obtain ⟨g, hg, hj⟩ := hj
  obtain ⟨s, e1, e2⟩ := (h.hash g (h.g t ht r hr e he g hg) j).1 hj
  exact ⟨s, mem_relP.2 ⟨e, he, g, hg, e1⟩, e2⟩
 ·rintro ⟨s, hs, e2⟩
  obtain ⟨e, he, g, hg, e1⟩ := mem_relP.1 hs
  obtain ⟨n, hn, hte⟩ := All2.memr _ _ (leaves_tr pl F _ _ hxt) e he
  refine ⟨n, hn, ?_⟩
  rw [key n e hte, List.mem_flatMap]
  exact ⟨g, hg, (h.hash g (h.g t ht r hr e he g hg) j).2 ⟨s, e1, e2⟩⟩
theorem own_rel {ts : List Ty} {t : Ty} {r : Rl} {e : Ex} (he : e ∈ leavesE r.body) (hk : e.nd.kind = 0) {s : Sp} (hs : s ∈ ownS ts t e) : s ∈ relP r := by
 unfold ownS at hs
 rw [if_pos hk, List.mem_filterMap] at hs
 obtain ⟨g, hg, e1⟩ := hs
 exact mem_relP.2 ⟨e, he, g, by rw [gsOf_leaf (leaf_l he), if_pos hk]; exact hg, e1⟩
theorem Kn.need (h : Kn pl rl ts F) {x : RV} (hx : x ∈ rl) {t : Ty} (ht : t ∈ ts) {r : Rl} (hr : r ∈ t.rels) {m : Nat} {y : Ex} (s : Sub pl F x t r m y) (j : Nat) : j ∈ needN rl pl (GofF rl pl (leavesF pl F)) x.kd (leavesF pl F m) (leavesF pl F x.ex) ↔ ∃ s ∈ needsP ts t r y, findN s.1 s.2 rl 0 = j := by
 unfold needN
 rw [List.mem_append, h.hang hx ht hr s j]
 constructor
 ·rintro (⟨e, he, sp, hs, ej⟩ | hj)
  ·refine ⟨sp, (needs_leaf ts t r y sp).2 ⟨e, he, ?_⟩, ej⟩
   obtain ⟨_, _, _, hb⟩ := s.leaf he
   rw [needs1_leaf (leaf_l he)]
   split
   ·rename_i hk; exact own_rel hb hk hs
   ·exact hs
  ·split at hj
   ·rename_i ha
    obtain ⟨sp, hs, ej⟩ := (h.grants ht hr s.xt j).1 hj
    rw [List.any_eq_true] at ha
    obtain ⟨n, hn, hl⟩ := ha
    rw [decide_eq_true_eq] at hl
    obtain ⟨e, he, hte⟩ := All2.mem _ _ (leaves_tr pl F _ _ s.tr) n hn
    rw [gsAt_leaf hte, gsOf_leaf (leaf_l he)] at hl
    refine ⟨sp, (needs_leaf ts t r y sp).2 ⟨e, he, ?_⟩, ej⟩
    rw [needs1_leaf (leaf_l he)]
    split at hl
    ·rename_i hk; rw [if_pos hk]; exact hs
    ·simp at hl
   ·simp at hj
 ·rintro ⟨sp, hs, ej⟩
  obtain ⟨e, he, hs⟩ := (needs_leaf ts t r y sp).1 hs
  rw [needs1_leaf (leaf_l he)] at hs
  obtain ⟨n, hn, hte, hb⟩ := s.leaf he
  split at hs
  ·rename_i hk
   right
   have hw := h.w t ht r hr e ((leaf_parts _ e).1 hb).1 (leaf_l he) hk
   rw [if_pos (by
    rw [List.any_eq_true]
    refine ⟨n, hn, ?_⟩
    rw [decide_eq_true_eq, gsAt_leaf hte, gsOf_leaf (leaf_l he), if_pos hk]
    exact List.length_pos_iff.2 hw)]
   exact (h.grants ht hr s.xt j).2 ⟨sp, hs, ej⟩
  ·exact .inl ⟨e, he, sp, hs, ej⟩
theorem Kn.spot (h : Kn pl rl ts F) {s : Sp} {j : Nat} (e : findN s.1 s.2 rl 0 = j) : ∃ t r x, t ∈ ts ∧ r ∈ t.rels ∧ t.name = s.1 ∧ r.name = s.2 ∧ findTy ts s.1 = some t ∧ findRl t s.2 = some r ∧ (flatT ts)[j]? = some (s.1, r) ∧ rl[j]? = some x ∧ x.kd = t.name ∧ Tr pl F x.ex r.body := by
 rcases findN_spec h.d h.b s.1 s.2 with ⟨e1, _⟩ | ⟨i, t, r, e1, h4, h5, h6⟩
 ·omega
 ·have : i = j := by omega
  subst this
  obtain ⟨x, hx, hk, _, _, htr⟩ := FlatF.get rl _ i _ h.f h6
  obtain ⟨a1, a2⟩ := findTy_some h4
  obtain ⟨b1, b2⟩ := findRl_some h5
  exact ⟨t, r, x, a1, b1, a2, b2, h4, h5, h6, hx, by rw [hk, a2], htr⟩
theorem Kn.inj (h : Kn pl rl ts F) {s s' : Sp} {j : Nat} (e : findN s.1 s.2 rl 0 = j) (e' : findN s'.1 s'.2 rl 0 = j) : s = s' := by
 obtain ⟨t, r, x, _, _, _, h2, _, _, h6, _⟩ := h.spot e
 obtain ⟨t', r', x', _, _, _, h2', _, _, h6', _⟩ := h.spot e'
 rw [h6] at h6'
 simp only [Option.some.injEq, Prod.mk.injEq] at h6'
 obtain ⟨e1, e2⟩ := h6'
 subst e2
 exact Prod.ext e1 (by rw [← h2, ← h2'])
theorem Kn.hangr (h : Kn pl rl ts F) (s : Sp) (j : Nat) (e : findN s.1 s.2 rl 0 = j) (j' : Nat) : j' ∈ hangR rl pl (GofF rl pl (leavesF pl F)) (leavesF pl F) j ↔ ∃ s' ∈ needsAtP ts s, findN s'.1 s'.2 rl 0 = j' := by
 obtain ⟨t, r, x, ht, hr, _, _, h4, h5, h6, hx, hk, htr⟩ := h.spot e
 unfold hangR needsAtP
 rw [hx, h4]
 simp only
 rw [h5]
 simp only
 have hs : Sub pl F x t r x.ex r.body := ⟨htr, htr, fun n hn => hn, hk⟩
 rw [h.hang (List.mem_of_getElem? hx) ht hr hs]
 constructor
 ·rintro ⟨e, he, sp, hs, ej⟩
  refine ⟨sp, (needs_leaf ts t r _ sp).2 ⟨e, he, ?_⟩, ej⟩
  rw [needs1_leaf (leaf_l he)]
  split
  ·rename_i hk; exact own_rel he hk hs
  ·exact hs
 ·rintro ⟨sp, hs, ej⟩
  obtain ⟨e, he, hs⟩ := (needs_leaf ts t r _ sp).1 hs
  rw [needs1_leaf (leaf_l he)] at hs
  split at hs
  ·obtain ⟨e', he', g, hg, e1⟩ := mem_relP.1 hs
   refine ⟨e', he', sp, ?_, ej⟩
   rw [gsOf_leaf (leaf_l he')] at hg
   split at hg
   ·rename_i hk'
    unfold ownS
    rw [if_pos hk', List.mem_filterMap]
    exact ⟨g, hg, e1⟩
   ·simp at hg
  ·exact ⟨e, he, sp, hs, ej⟩
/-- By numbers and by spots: the part hangs on its own relation. -/
theorem Kn.bad (h : Kn pl rl ts F) (hR : RelsOK rl pl (GofF rl pl (leavesF pl F)) (leavesF pl F)) {x : RV} {i : Nat} (hx : rl[i]? = some x) {t : Ty} (ht : t ∈ ts) {r : Rl} (hr : r ∈ t.rels) (hi : findN t.name r.name rl 0 = i) {m : Nat} {y : Ex} (s : Sub pl F x t r m y) : badR rl pl (GofF rl pl (leavesF pl F)) (leavesF pl F) i x m = hangsP ts (needsP ts t r y) (t.name, r.name) := by
 rw [Bool.eq_iff_iff, hangsP_iff]
 unfold badR
 rw [List.any_eq_true]
 have img := rch_img (fun s : Sp => findN s.1 s.2 rl 0) (needsAtP ts) (hangR rl pl (GofF rl pl (leavesF pl F)) (leavesF pl F)) (needsP ts t r y) (needN rl pl (GofF rl pl (leavesF pl F)) x.kd (leavesF pl F m) (leavesF pl F x.ex)) (fun j => h.need (List.mem_of_getElem? hx) ht hr s j) (fun s j e j' => h.hangr s j e j') (fun s hs => by
  rcases findN_spec h.d h.b s.1 s.2 with ⟨e1, hno⟩ | ⟨i, t, r, e1, h4, h5, h6⟩
  ·refine absurd ?_ hs
   unfold needsAtP
   cases hf : findTy ts s.1 with
   | none => rfl
   | some u => simp only; rw [hno u hf]
  ·omega)
 constructor
 ·rintro ⟨k, hk, e⟩
  have : k = i := by simpa using e
  subst this
  obtain ⟨sp, hsp, e⟩ := (img k).1 ((allN_iff _ _ _ _ hR _ _).1 hk)
  rw [← h.inj (s := sp) (s' := (t.name, r.name)) e hi]
  exact hsp
 ·intro hsp
  exact ⟨i, (allN_iff _ _ _ _ hR _ _).2 ((img i).2 ⟨_, hsp, hi⟩), by simp⟩
end
/-! The places of all the signs of a model ascend. -/
def signsR (rs : List Rl) : List Nat := rs.flatMap fun r => signsE r.body
def signsT (ts : List Ty) : List Nat := ts.flatMap fun t => signsR t.rels
section
variable (T : Nat → ByteArray) (P : Nat → Nat)
theorem relR_signs (i : Nat) (r : Rl) (j : Nat) (h : relR T P i = .ok (r, j)) : AscP P i j (signsE r.body) := by
 unfold relR at h
 split at h
 ·simp at h
 ·rename_i u j1 hn
  have hm := nameThenR_mono T _ _ _ _ hn
  split at h
  ·simp at h
  ·rename_i x j2 hx
   split at h
   ·simp only [Except.ok.injEq, Prod.mk.injEq] at h
    obtain ⟨rfl, rfl⟩ := h
    exact (exprR_asc T P 4 _ _ _ hx).wide (by omega) (by omega)
   ·simp at h
theorem relsL_signs : ∀ (f : Nat) (acc : List Rl) (i : Nat) (rs : List Rl) (m : Nat), relsL T P f acc i = .ok (rs, m) → ∃ new, rs = acc ++ new ∧ i < m ∧ AscP P i m (signsR new)
 | 0, acc, i, rs, m, h => by simp [relsL] at h
 | f + 1, acc, i, rs, m, h => by
  unfold relsL at h
  split at h
  ·simp only [Except.ok.injEq, Prod.mk.injEq] at h
   obtain ⟨rfl, rfl⟩ := h
   exact ⟨[], by simp, by omega, AscP.nil _ _ _⟩
  ·split at h
   ·simp at h
   ·split at h
    ·simp at h
    ·rename_i r j hr
     have h1 := relR_signs T P i r j hr
     have h2 := (relR_place T P i r j hr).2
     obtain ⟨new, rfl, h3, h4⟩ := relsL_signs f _ _ _ _ h
     refine ⟨r :: new, by simp, by omega, ?_⟩
     exact h1.app h4 (by omega) (by omega)
theorem modelL_signs : ∀ (f : Nat) (acc : List Ty) (i : Nat) (ts : List Ty) (m : Nat), modelL T P f acc i = .ok (ts, m) → ∃ new, ts = acc ++ new ∧ i ≤ m ∧ AscP P i m (signsT new)
 | 0, acc, i, ts, m, h => by simp [modelL] at h
 | f + 1, acc, i, ts, m, h => by
  unfold modelL at h
  split at h
  ·simp only [Except.ok.injEq, Prod.mk.injEq] at h
   obtain ⟨rfl, rfl⟩ := h
   exact ⟨[], by simp, by omega, AscP.nil _ _ _⟩
  ·split at h
   ·simp at h
   ·split at h
    ·simp at h
    ·rename_i t j ht
     obtain ⟨new, rfl, h3, h4⟩ := modelL_signs f _ _ _ _ h
     rw [typeR_kind] at ht
     split at ht
     ·unfold kindR at ht
      split at ht
      ·simp at ht
      ·rename_i u j1 hn
       have hm := nameThenR_mono T _ _ _ _ hn
       split at ht
       ·simp at ht
       ·rename_i rs j2 hrs
        simp only [Except.ok.injEq, Prod.mk.injEq] at ht
        obtain ⟨rfl, rfl⟩ := ht
        obtain ⟨rn, e, h5, h6⟩ := relsL_signs T P _ _ _ _ _ hrs
        rw [List.nil_append] at e
        subst e
        refine ⟨⟨T (i + 1), P (i + 1), rs⟩ :: new, by simp, by omega, ?_⟩
        exact (h6.wide (lo' := i) (by omega) (Nat.le_refl _)).app h4 (by omega) (by omega)
     ·simp at ht
end
theorem signs_sorted {s : ByteArray} {ts : List Ty} {m : Nat} (h : modelR (TT s) (PP s) = .ok (ts, m)) (hg : Gd s m) : (signsT ts).Pairwise (· < ·) := by
 obtain ⟨new, e, _, ha⟩ := modelL_signs (TT s) (PP s) 512 [] 0 ts m h
 rw [List.nil_append] at e
 subst e
 exact ha.sorted (fun i j hij hjm => PP_lt s j i hij (fun k hk => hg k (by omega)))
/-! The first of the places is the least. -/
/-- The places of the - whose right side has a property, in the order of the text. -/
def lessE (B : Ex → Bool) : Ex → List Nat
 | ⟨n, some x, some y⟩ => lessE B x ++ (if tyOf n.kind = 246 ∧ B y = true then [n.place] else []) ++ lessE B y
 | ⟨_, none, _⟩ => []
 | ⟨_, some _, none⟩ => []
theorem less_sub (B : Ex → Bool) : ∀ (x : Ex), (lessE B x).Sublist (signsE x)
 | ⟨n, some x, some y⟩ => by
  simp only [lessE, signsE]
  have h1 := less_sub B x
  have h2 := less_sub B y
  rw [List.append_assoc]
  refine h1.append ?_
  split
  ·exact h2.cons_cons _
  ·exact h2.cons _
 | ⟨_, none, _⟩ => by simp [lessE]
 | ⟨_, some _, none⟩ => by simp [lessE]
theorem loops_head (ts : List Ty) (t : Ty) (r : Rl) : ∀ (x : Ex), (partsE x).findSome? (loopN ts t r) = (lessE (fun y => hangsP ts (needsP ts t r y) (t.name, r.name)) x).head?
 | ⟨n, some x, some y⟩ => by
  have h1 := loops_head ts t r x
  have h2 := loops_head ts t r y
  simp only [partsE, lessE, List.findSome?_append, h1, h2, List.findSome?_cons, List.findSome?_nil, List.head?_append]
  congr 2
  unfold loopN
  simp only
  by_cases ha : tyOf n.kind = 246
  ·by_cases hb : hangsP ts (needsP ts t r y) (t.name, r.name) = true
   ·simp [ha, hb]
   ·simp [ha, hb]
  ·simp [ha]
 | ⟨n, none, r'⟩ => by simp [partsE, lessE, loopN]
 | ⟨n, some x, none⟩ => by simp [partsE, lessE]
theorem head_least {l : List Nat} (h : l.Pairwise (· < ·)) : LeastI (intO l.head?) (fun q => q ∈ l) := by
 cases l with
 | nil => exact .inl ⟨rfl, by simp⟩
 | cons a l =>
  refine .inr ⟨a, rfl, by simp, fun q hq => ?_⟩
  rcases List.mem_cons.1 hq with rfl | hq
  ·exact Nat.le_refl _
  ·exact Nat.le_of_lt ((List.pairwise_cons.1 h).1 q hq)
theorem first_flat {α : Type} (f : α → List Nat) : ∀ (l : List α), (l.findSome? fun a => (f a).head?) = (l.flatMap f).head?
 | [] => rfl
 | a :: l => by
  rw [List.findSome?_cons, List.flatMap_cons, List.head?_append, ← first_flat f l]
  cases (f a).head? <;> rfl
/-- All the places of the model's - whose right side hangs on the relation. -/
def lessT (ts : List Ty) : List Nat := ts.flatMap fun t => t.rels.flatMap fun r => lessE (fun y => hangsP ts (needsP ts t r y) (t.name, r.name)) r.body
theorem sub_flat {α : Type} {f g : α → List Nat} (h : ∀ a, (f a).Sublist (g a)) : ∀ (l : List α), (l.flatMap f).Sublist (l.flatMap g)
 | [] => by simp
 | a :: l => by
  rw [List.flatMap_cons, List.flatMap_cons]
  exact (h a).append (sub_flat h l)
theorem loops_least {ts : List Ty} (h : (signsT ts).Pairwise (· < ·)) : LeastI (intO (eachN (loopsP ts) ts)) (fun q => q ∈ lessT ts) := by
 have e : eachN (loopsP ts) ts = (lessT ts).head? := by
  unfold eachN lessT
  rw [← first_flat]
  congr 1
  funext t
  rw [← first_flat]
  congr 1
  funext r
  unfold loopsP
  exact loops_head ts t r r.body
 rw [e]
 have hs : (lessT ts).Sublist (signsT ts) := by
  unfold lessT signsT signsR
  exact sub_flat (fun t => sub_flat (fun r => less_sub _ r.body) t.rels) ts
 exact head_least (h.sublist hs)
end Go.Proofs.YtlbpnlngckgcbaaGreatDoor
