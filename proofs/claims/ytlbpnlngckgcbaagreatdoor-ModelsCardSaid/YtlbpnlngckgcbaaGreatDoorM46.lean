import Derived.Test.YtlbpnlngckgcbaaGreatDoorM45
import Derived.KernelRfl
namespace Go.Proofs.YtlbpnlngckgcbaaGreatDoor
open Go.RowKit Go.PlainAid
set_option linter.unusedSimpArgs false
set_option linter.unusedVariables false
/-! P5: Print of the document. -/
def prRels (W : Nat → ByteArray) (kd : ByteArray) : List RV → ByteArray → ByteArray
 | [], s => s
 | x :: xs, s => prRels W kd xs (if eqs x.kd kd then ((((s ++ sTab) ++ x.nm) ++ sColon) ++ W x.ex) ++ sSemi else s)
def prKinds (W : Nat → ByteArray) (rl : List RV) : List (ByteArray × Nat) → ByteArray → ByteArray
 | [], s => s
 | k :: ks, s => prKinds W rl ks (prRels W k.1 rl (((s ++ sTypeB) ++ k.1) ++ sOpen) ++ sClose)
theorem prRels_le (W : Nat → ByteArray) (kd : ByteArray) : ∀ (l : List RV) (s : ByteArray), s.size ≤ (prRels W kd l s).size
 | [], s => Nat.le_refl _
 | x :: l, s => by
  have h1 := prRels_le W kd l (if eqs x.kd kd then ((((s ++ sTab) ++ x.nm) ++ sColon) ++ W x.ex) ++ sSemi else s)
  rw [prRels]
  split at h1
  ·rename_i h
   rw [if_pos h]
   simp only [bsize_app] at h1
   omega
  ·rename_i h
   rw [if_neg h]
   exact h1
theorem prKinds_le (W : Nat → ByteArray) (rl : List RV) : ∀ (l : List (ByteArray × Nat)) (s : ByteArray), s.size ≤ (prKinds W rl l s).size
 | [], s => Nat.le_refl _
 | k :: l, s => by
  have h1 := prKinds_le W rl l (prRels W k.1 rl (((s ++ sTypeB) ++ k.1) ++ sOpen) ++ sClose)
  have h2 := prRels_le W k.1 rl (((s ++ sTypeB) ++ k.1) ++ sOpen)
  rw [prKinds]
  simp only [bsize_app] at h1 h2
  omega
/-- The relations of a type: what is written of them. -/
theorem prRels_lst (W : Nat → ByteArray) (kd : ByteArray) : ∀ (l : List RV) (s : ByteArray), lst (prRels W kd l s) = lst s ++ (l.filter fun x => eqs x.kd kd).flatMap fun x => lst ((((sTab ++ x.nm) ++ sColon) ++ W x.ex) ++ sSemi)
 | [], s => by simp [prRels]
 | x :: l, s => by
  rw [prRels, prRels_lst W kd l]
  cases h : eqs x.kd kd
  ·simp [h]
  ·simp [h, lst_cat, List.append_assoc]
/-! P5: the text of Print is the program's. -/
theorem prKinds_lst (W : Nat → ByteArray) (rl : List RV) : ∀ (l : List (ByteArray × Nat)) (s : ByteArray), lst (prKinds W rl l s) = lst s ++ l.flatMap fun k => lst ((sTypeB ++ k.1) ++ sOpen) ++ ((rl.filter fun x => eqs x.kd k.1).flatMap fun x => lst ((((sTab ++ x.nm) ++ sColon) ++ W x.ex) ++ sSemi)) ++ lst sClose
 | [], s => by simp [prKinds]
 | k :: l, s => by
  rw [prKinds, prKinds_lst W rl l, lst_cat, prRels_lst, List.flatMap_cons]
  simp only [lst_cat, List.append_assoc]
theorem filter_flat {pl : List PV} {F : Nat} (f : RV → List UInt8) (g : ByteArray × Rl → List UInt8) (k : ByteArray) : ∀ (xs : List RV) (ps : List (ByteArray × Rl)), FlatF pl F xs ps → (∀ x p, p ∈ ps → x.nm = p.2.name → Tr pl F x.ex p.2.body → f x = g p) → (xs.filter fun x => eqs x.kd k).flatMap f = (ps.filter fun p => eqs p.1 k).flatMap g
 | [], [], _, _ => rfl
 | x :: xs, p :: ps, h, hf => by
  have ih := filter_flat f g k xs ps h.2 (fun x p hp => hf x p (by simp [hp]))
  obtain ⟨⟨h1, h2, _, h4⟩, _⟩ := h
  have e := hf x p (by simp) h2 h4
  rw [List.filter_cons, List.filter_cons, h1]
  cases eqs p.1 k
  ·simpa using ih
  ·simp [ih, e]
 | [], _ :: _, h, _ => h.elim
 | _ :: _, [], h, _ => h.elim
theorem flat_filter {ts : List Ty} (h : Distinct ts) {t : Ty} (ht : t ∈ ts) : ((flatT ts).filter fun p => eqs p.1 t.name) = t.rels.map fun r => (t.name, r) := by
 obtain ⟨A, B, rfl⟩ := List.append_of_mem ht
 have hp := h.ty
 rw [List.pairwise_append, List.pairwise_cons] at hp
 obtain ⟨_, ⟨h2, _⟩, h3⟩ := hp
 have no : ∀ l : List Ty, (∀ u ∈ l, u.name ≠ t.name) → ((l.flatMap fun t => t.rels.map fun r => (t.name, r)).filter fun p => eqs p.1 t.name) = [] := fun l hl => by
  rw [List.filter_eq_nil_iff]
  intro p hp he
  obtain ⟨u, hu, hp⟩ := List.mem_flatMap.1 hp
  obtain ⟨r, _, rfl⟩ := List.mem_map.1 hp
  exact hl u hu ((eqs_iff _ _).1 he)
 unfold flatT
 rw [List.flatMap_append, List.flatMap_cons, List.filter_append, List.filter_append, no A (fun u hu => h3 u hu t (by simp)), no B (fun u hu e => h2 u hu e.symm), List.nil_append, List.append_nil, List.filter_eq_self]
 intro p hp
 obtain ⟨r, _, rfl⟩ := List.mem_map.1 hp
 exact (eqs_iff _ _).2 rfl
/-- What Print gives is what the program's model is written as. -/
theorem print_eq {pl : List PV} {rl : List RV} {ts : List Ty} {F : Nat} (hd : Distinct ts) (hF : FlatF pl F rl (flatT ts)) (hw : ∀ t ∈ ts, ∀ r ∈ t.rels, Wri r.body) : lst (prKinds (fun n => wrF pl F n false false) rl (ts.map fun t => (t.name, t.place)) em) = modelT ts := by
 rw [prKinds_lst]
 unfold modelT
 have key : ∀ t ∈ ts, lst ((sTypeB ++ t.name) ++ sOpen) ++ ((rl.filter fun x => eqs x.kd t.name).flatMap fun x => lst ((((sTab ++ x.nm) ++ sColon) ++ wrF pl F x.ex false false) ++ sSemi)) ++ lst sClose = typeT t := fun t ht => by
  rw [filter_flat (fun x : RV => lst ((((sTab ++ x.nm) ++ sColon) ++ wrF pl F x.ex false false) ++ sSemi)) (fun p => lst (relW p.2)) t.name rl (flatT ts) hF (fun x p hp hn htr => by
   obtain ⟨t', ht', _, hr⟩ := flat_mem.1 hp
   rw [wr_eq pl F _ _ htr (hw t' ht' p.2 hr), wof_zero, hn]
   rfl), flat_filter hd ht]
  unfold typeT headW relsT
  rw [List.flatMap_map]
 have all : ∀ l : List Ty, (∀ t ∈ l, t ∈ ts) → ((l.map fun t => (t.name, t.place)).flatMap fun k => lst ((sTypeB ++ k.1) ++ sOpen) ++ ((rl.filter fun x => eqs x.kd k.1).flatMap fun x => lst ((((sTab ++ x.nm) ++ sColon) ++ wrF pl F x.ex false false) ++ sSemi)) ++ lst sClose) = l.flatMap typeT := by
  intro l hl
  induction l with
  | nil => rfl
  | cons t l ih => rw [List.map_cons, List.flatMap_cons, List.flatMap_cons, ih (fun t ht => hl t (by simp [ht])), key t (hl t (by simp))]
 rw [all ts (fun t ht => ht)]
 rfl
/-! P5: Print of the document: what is known of a model that was read without a fault. -/
theorem prRels_ub (W : Nat → ByteArray) (kd : ByteArray) (C : Nat) : ∀ (l : List RV) (s : ByteArray), (∀ x ∈ l, x.nm.size + (W x.ex).size + 5 ≤ C) → (prRels W kd l s).size ≤ s.size + l.length * C
 | [], s, _ => by rw [prRels]; exact Nat.le_add_right _ _
 | x :: l, s, h => by
  have h1 := prRels_ub W kd C l (if eqs x.kd kd then ((((s ++ sTab) ++ x.nm) ++ sColon) ++ W x.ex) ++ sSemi else s) (fun x hx => h x (by simp [hx]))
  have h2 := h x (by simp)
  rw [prRels, List.length_cons, Nat.succ_mul]
  generalize l.length * C = y at *
  refine Nat.le_trans h1 ?_
  clear h1 h
  split
  ·rw [bsize_app, bsize_app, bsize_app, bsize_app, bsize_app, show sTab.size = 1 from rfl, show sColon.size = 2 from rfl, show sSemi.size = 2 from rfl]
   omega
  ·omega
theorem prKinds_ub (W : Nat → ByteArray) (rl : List RV) (C D : Nat) (hx : ∀ x ∈ rl, x.nm.size + (W x.ex).size + 5 ≤ C) : ∀ (l : List (ByteArray × Nat)) (s : ByteArray), (∀ k ∈ l, k.1.size + 10 + rl.length * C ≤ D) → (prKinds W rl l s).size ≤ s.size + l.length * D
 | [], s, _ => by rw [prKinds]; exact Nat.le_add_right _ _
 | k :: l, s, h => by
  have h1 := prKinds_ub W rl C D hx l (prRels W k.1 rl (((s ++ sTypeB) ++ k.1) ++ sOpen) ++ sClose) (fun x hx => h x (by simp [hx]))
  have h2 := prRels_ub W k.1 C rl (((s ++ sTypeB) ++ k.1) ++ sOpen) hx
  have h3 := h k (by simp)
  rw [prKinds, List.length_cons, Nat.succ_mul]
  rw [bsize_app, show sClose.size = 2 from rfl] at h1
  rw [bsize_app, bsize_app, bsize_app, show sTypeB.size = 5 from rfl, show sOpen.size = 3 from rfl] at h2
  generalize l.length * D = y at *
  generalize rl.length * C = z at *
  omega
theorem ub1 (n C : Nat) (h : n ≤ 500) (hC : C = 40013) : n * C ≤ 20006500 := by subst hC; omega
theorem ub2 (n D : Nat) (h : n ≤ 5) (hD : D = 20006518) : n * D ≤ 200000000 := by subst hD; omega
theorem flatF_mem {pl : List PV} {F : Nat} : ∀ (xs : List RV) (ps : List (ByteArray × Rl)), FlatF pl F xs ps → ∀ x ∈ xs, ∃ p ∈ ps, x.kd = p.1 ∧ x.nm = p.2.name ∧ Tr pl F x.ex p.2.body
 | [], [], _, x, hx => by simp at hx
 | y :: xs, p :: ps, h, x, hx => by
  rcases List.mem_cons.1 hx with rfl | hx
  ·exact ⟨p, by simp, h.1.1, h.1.2.1, h.1.2.2.2⟩
  ·obtain ⟨q, hq, h1⟩ := flatF_mem xs ps h.2 x hx
   exact ⟨q, by simp [hq], h1⟩
 | [], _ :: _, h, _, _ => h.elim
 | _ :: _, [], h, _, _ => h.elim
/-- What Print walks: the document's model, what is written of its relations, and the text. -/
structure PrB (w : World) (b : Nat) (kv rv pv : Value) (kl : List (ByteArray × Nat)) (rl : List RV) (pl : List PV) (l : List PX) (W : Nat → Bool → Bool → ByteArray) (R : ByteArray) : Prop where
 dm : DM w b kv rv pv kl rl pl l
 wr : ∀ x ∈ rl, WrN pl x.ex (W x.ex)
 eq : prKinds (fun n => W n false false) rl kl em = R
 sz : R.size ≤ 200000000
theorem pr_ok {s : ByteArray} (hs : s.size ≤ 500) {w : World} {b : Nat} {kv rv pv : Value} {kl : List (ByteArray × Nat)} {rl : List RV} {pl : List PV} {l : List PX} {ts : List Ty} {m : Nat} (h : modelR (TT s) (PP s) = .ok (ts, m)) (hc : checkP ts = none) (hg : Gd s m) (hd : DM w b kv rv pv kl rl pl l) (hm : ModB pl kl rl ts) : ∃ W, PrB w b kv rv pv kl rl pl l W (mk (modelT ts)) := by
 obtain ⟨F, hF⟩ := FlatB.fuel rl _ hm.2
 have hz := sized h hg hs
 have hgr := grs_ok h
 have hsz := modelL_sz (TT s) (PP s) _ _ _ _ _ (by simp) h
 obtain ⟨rfl, hb⟩ := id hm
 have htw : twT [] ts = none := by
  unfold checkP at hc
  split at hc
  ·simp at hc
  ·assumption
 have hdi := (twT_none ts [] htw).2
 have hw : ∀ t ∈ ts, ∀ r ∈ t.rels, Wri r.body := fun t ht r hr => ⟨((hsz t ht).2 r hr).2, hgr t ht r hr, Nat.le_trans (hz t ht r hr).1 (by omega), Nat.le_trans (hz t ht r hr).2 (by omega)⟩
 have he := print_eq hdi hF hw
 have hx : ∀ x ∈ rl, WrN pl x.ex (wrF pl F x.ex) ∧ x.nm.size ≤ 8 ∧ (wrF pl F x.ex false false).size ≤ 40000 := fun x hx => by
  obtain ⟨p, hp, _, h2, h3⟩ := flatF_mem rl _ hF x hx
  obtain ⟨t, ht, _, hr⟩ := flat_mem.1 hp
  have hwr := hw t ht _ hr
  refine ⟨rwritten_any pl F _ _ h3 hwr, by rw [h2]; exact ((hsz t ht).2 _ hr).1, ?_⟩
  rw [wr_eq pl F _ _ h3 hwr, wof_zero]
  exact hwr.size
 have e2 : prKinds (fun n => wrF pl F n false false) rl (ts.map fun t => (t.name, t.place)) em = mk (modelT ts) := by rw [← he, mk_lst]
 refine ⟨wrF pl F, hd, fun x h => (hx x h).1, e2, ?_⟩
 obtain ⟨C, hC⟩ : ∃ C : Nat, C = 40013 := ⟨_, rfl⟩
 obtain ⟨D, hD⟩ : ∃ D : Nat, D = 20006518 := ⟨_, rfl⟩
 have hub := prKinds_ub (fun n => wrF pl F n false false) rl C D (fun x h => by
  have := (hx x h).2
  show x.nm.size + (wrF pl F x.ex false false).size + 5 ≤ C
  omega) (ts.map fun t => (t.name, t.place)) em (fun k hk => by
  obtain ⟨t, ht, rfl⟩ := List.mem_map.1 hk
  have h1 := (hsz t ht).1
  have h2 := ub1 rl.length C hd.rn hC
  show t.name.size + 10 + rl.length * C ≤ D
  generalize rl.length * C = z at *
  omega)
 have h3 := ub2 _ D hd.kn hD
 rw [e2, show em.size = 0 from rfl] at hub
 generalize (ts.map fun t => (t.name, t.place)).length * D = z at *
 clear hD hC
 omega
/-! P5: Print of the document: the walk. -/
set_option maxHeartbeats 1000000 in
set_option maxRecDepth 100000 in
theorem rprint_err (s : ByteArray) (w : World) (c p : Nat) (hc : c ≠ 0) (C : Calls Tryz.prog 80 #[.string s] w fun e w' => e = .returned (.tuple #[.pointer none, .int .i64 c, .int .i64 p]) ∧ Below w.heap.size w w') :
  Calls Tryz.prog 43 #[.string s] w fun e w' => e = .returned (.tuple #[.string ⟨#[]⟩, .int .i64 c, .int .i64 p]) ∧ Below w.heap.size w w' := by
 have hc' : ((c : Int) == 0) = false := by rw [beq_eq_false_iff_ne]; omega
 have hc2 : ((c : Int) != 0) = true := bne_iff_ne.2 (by omega)
 have HC := hide C
 clear C
 go_enter Tryz.func43, Tryz.ntmps43
 go_wp2_with fail
 refine (uh HC).mono ?_
 rintro e w1 ⟨rfl, hb1⟩
 have B1 := hide hb1
 clear hb1 HC
 go_wp2
 go_ret3
 exact ⟨rfl, uh B1⟩
set_option maxHeartbeats 2000000 in
set_option maxRecDepth 100000 in
theorem rprint_go (t : ByteArray) (w : World) (R : ByteArray) (C : Calls Tryz.prog 80 #[.string t] w fun e w' => Below w.heap.size w w' ∧ ∃ b kv rv pv kl rl pl l W, e = .returned (.tuple #[.pointer (some ⟨b, 5, none⟩), .int .i64 0, .int .i64 0]) ∧ PrB w' b kv rv pv kl rl pl l W R) :
  Calls Tryz.prog 43 #[.string t] w fun e w' => e = .returned (.tuple #[.string R, .int .i64 0, .int .i64 0]) ∧ Below w.heap.size w w' := by
 have HC := hide C
 clear C
 go_enter Tryz.func43, Tryz.ntmps43
 go_wp2_with fail
 refine (uh HC).mono ?_
 rintro e w1 ⟨hb1, b, kv, rv, pv, kl, rl, pl, l, W, rfl, hp⟩
 have hd0 := hp.dm
 have hsz := hp.sz
 have hkn := hd0.kn
 have hrn := hd0.rn
 obtain ⟨ka, kc, rfl⟩ := own_form hd0.kt
 obtain ⟨ra, rc, rfl⟩ := own_form hd0.rt
 have HD := hide hd0
 have HW := hide hp.wr
 have HR := hide (show prKinds (fun n => W n false false) rl (kl.drop 0) em = R from hp.eq)
 have B1 := hide hb1
 clear hp hd0 hb1 HC
 go_wp2_with fail
 go_loopw [8, 9] (fun uo ui wr => ∃ (i : Nat) (s : ByteArray), i ≤ kl.length ∧ ui = .int .i64 i ∧ uo = .string s ∧ Below w1.heap.size w1 wr ∧ Hid (prKinds (fun n => W n false false) rl (kl.drop i) s = R)) (fun _ ui _ => kl.length - (intOf ui).toNat)
 case atStart => exact ⟨0, em, by omega, rfl, rfl, Below.refl _ _, HR⟩
 case round =>
  clear HR
  obtain ⟨i, s, hi, rfl, rfl, hb, HQ⟩ := hrel
  have hd := (uh HD).below hb
  have c5 := hd.c5
  have c6 := hd.c6
  have HB := hide hb
  have hwr := hb.size
  by_cases hlt : i < kl.length
  ·have hkn1 : (i : Int) < (kl.length : Int) := by omega
   obtain ⟨gk, ck, e1, k0, k1⟩ := hd.kat i kl[i] (List.getElem?_eq_getElem hlt)
   simp only [Value.slice.injEq, true_and] at e1
   obtain ⟨rfl, rfl⟩ := e1
   have hq := uh HQ
   rw [List.drop_eq_getElem_cons hlt, prKinds] at hq
   have HX := hide (List.getElem?_eq_getElem hlt)
   generalize kl[i] = x at *
   have hs1 := prKinds_le (fun n => W n false false) rl (kl.drop (i + 1)) (prRels (fun n => W n false false) x.1 rl (((s ++ sTypeB) ++ x.1) ++ sOpen) ++ sClose)
   rw [hq, bsize_app] at hs1
   have hs2 := prRels_le (fun n => W n false false) x.1 rl (((s ++ sTypeB) ++ x.1) ++ sOpen)
   rw [bsize_app, bsize_app, bsize_app] at hs2
   generalize hQ : prRels (fun n => W n false false) x.1 rl (((s ++ sTypeB) ++ x.1) ++ sOpen) = Q at *
   have HQ1 := hide (show prRels (fun n => W n false false) x.1 (rl.drop 0) (((s ++ sTypeB) ++ x.1) ++ sOpen) = Q from hQ)
   have HQ2 := hide hq
   have hQs : Q.size ≤ 200000000 := by omega
   have hs3 : s.size + x.1.size ≤ 200000000 := by omega
   clear hb hd HQ hq hQ hs1 hs2
   go_wp2_with fail
   clear k0 k1 c5 c6
   go_loopw [8, 10] (fun uo uk wi => ∃ (k : Nat) (s : ByteArray), k ≤ rl.length ∧ uk = .int .i64 k ∧ uo = .string s ∧ Below w1.heap.size w1 wi ∧ Hid (prRels (fun n => W n false false) x.1 (rl.drop k) s = Q)) (fun _ uk _ => rl.length - (intOf uk).toNat)
   case atStart => exact ⟨0, _, by omega, rfl, rfl, uh HB, HQ1⟩
   case round =>
    clear HQ1
    obtain ⟨k, u, hk, rfl, rfl, hb, HI⟩ := hrel
    have hd := (uh HD).below hb
    have c5 := hd.c5
    have c6 := hd.c6
    have HBI := hide hb
    have hwi := hb.size
    obtain ⟨gk', ck', e1, k0, k1⟩ := hd.kat i x (uh HX)
    simp only [Value.slice.injEq, true_and, Option.some.injEq, Addr.mk.injEq, and_true] at e1
    obtain ⟨rfl, rfl⟩ := e1
    have hsu := prRels_le (fun n => W n false false) x.1 (rl.drop k) u
    rw [uh HI] at hsu
    by_cases hkt : k < rl.length
    ·have hkn2 : (k : Int) < (rl.length : Int) := by omega
     obtain ⟨gr, cr, e1, x0, x1, x2, x3⟩ := hd.rat k rl[k] (List.getElem?_eq_getElem hkt)
     simp only [Value.slice.injEq, true_and] at e1
     obtain ⟨rfl, rfl⟩ := e1
     have hq := uh HI
     rw [List.drop_eq_getElem_cons hkt, prRels] at hq
     have hcm := uh HW _ (List.getElem_mem hkt)
     generalize rl[k] = y at *
     by_cases he : eqs y.kd x.1 = true
     ·have he' : (y.kd.toList == x.1.toList) = true := by rw [← eqs_toList]; exact he
      rw [if_pos he] at hq
      have hs4 := prRels_le (fun n => W n false false) x.1 (rl.drop (k + 1)) (((((u ++ sTab) ++ y.nm) ++ sColon) ++ W y.ex false false) ++ sSemi)
      rw [hq, bsize_app, bsize_app, bsize_app, bsize_app, bsize_app] at hs4
      have f1 : sTab.size = 1 := rfl
      have f2 : sColon.size = 2 := rfl
      have f3 : sSemi.size = 2 := rfl
      rw [f1, f2, f3] at hs4
      have C := hide (fun (n : Nat) => hcm false false b _ _ pv kl rl l _ ((uh HD).below (below_drewN (uh HBI) n)))
      have HQ3 := hide hq
      generalize W y.ex false false = z at *
      have hs5 : u.size + y.nm.size + z.size ≤ 200000000 := by omega
      clear hb hd HI hq hcm he hs4 f1 f2 f3
      go_wp2_with fail
      go_quiet (fail)
      go_wp2_with fail
      refine (uh C _).mono ?_
      rintro e w5 ⟨rfl, hb5⟩
      have hb6 := (below_drewN (Below.refl wr.heap.size wr) _).trans (hb5.mono (below_drewN (Below.refl wr.heap.size wr) _).size)
      have B5 := hide ((uh HBI).trans (hb6.mono hwi))
      have d6 := cell_below c6 hb6
      have y1 := cell_below x1 hb6
      clear hb6
      clear hb5 C x0 x1 x2 x3 c5 c6 k0 k1
      go_wp2
      go_roundw
      case rel => exact ⟨k + 1, _, by omega, by go_num, rfl, uh B5, HQ3⟩
      case measure => simp [intOf]; omega
     ·have he' : (y.kd.toList == x.1.toList) = false := by rw [← eqs_toList]; simpa using he
      rw [if_neg he] at hq
      have HQ3 := hide hq
      clear hb hd HI hq hcm he
      go_wp2
      go_quiet (fail)
      go_wp2
      go_roundw
      case rel => exact ⟨k + 1, _, by omega, by go_num, rfl, below_drewN (uh HBI) _, HQ3⟩
      case measure => simp [intOf]; omega
    ·have hkn2 : ¬ ((k : Int) < (rl.length : Int)) := by omega
     have e : u = Q := by
      have := uh HI
      rw [List.drop_eq_nil_of_le (by omega)] at this
      exact this
     subst e
     clear hb hd HI
     go_wp2
     go_roundw
     case rel => exact ⟨i + 1, _, by omega, by go_num, rfl, uh HBI, HQ2⟩
     case measure => simp [intOf]; omega
  ·have hkn1 : ¬ ((i : Int) < (kl.length : Int)) := by omega
   have e : s = R := by
    have := uh HQ
    rw [List.drop_eq_nil_of_le (by omega)] at this
    exact this
   subst e
   have B2 := hide ((uh B1).trans (hb.mono (uh B1).size))
   clear hb hd HQ
   go_wp2
   go_ret3
   exact ⟨rfl, uh B2⟩
/-! P3 to P5: Print of both sides. -/
/-- What Print gives: the text, the fault, its place. -/
def prX (s : ByteArray) : ByteArray × Nat × Nat := match readP s with
 | .ok ts => (mk (modelT ts), 0, 0)
 | .error (some p, c) => (⟨#[]⟩, c, p)
 | .error (none, c) => (⟨#[]⟩, c, 0)
def PrPost (s : ByteArray) (w : World) (e : Ending) (w' : World) : Prop := e = .returned (.tuple #[.string (prX s).1, .int .i64 (prX s).2.1, .int .i64 (prX s).2.2]) ∧ Below w.heap.size w w'
theorem check_nz {ts : List Ty} {p c : Nat} (h : checkP ts = some (p, c)) : c ≠ 0 := by
 unfold checkP at h
 split at h
 ·simp at h; omega
 ·split at h
  ·simp at h; omega
  ·split at h
   ·simp at h; omega
   ·simp at h
theorem model_nz {s : ByteArray} (hs : s.size ≤ 500) (w : World) {c j : Nat} (h : modelR (TT s) (PP s) = .error (c, j)) : c ≠ 0 := by
 obtain ⟨e, w', fr, hp, _⟩ := parse_whole s w hs []
 have := hp.2
 rw [h] at this
 exact this.1
set_option maxHeartbeats 1000000 in
set_option maxRecDepth 100000 in
theorem print_long (s : ByteArray) (hs : 500 < s.size) (w : World) (hg : Laid w) :
  Calls Tryz.prog 14 #[.string s] w fun e w' => e = .returned (.tuple #[.string ⟨#[]⟩, .int .i64 1, .int .i64 0]) ∧ Below w.heap.size w w' := by
 have C := hide (read_long s w hs)
 have HG := hide hg
 have hl := hg.lt
 clear hg
 go_enter Tryz.func14, Tryz.ntmps14
 go_wp2_with fail
 refine (uh C).mono ?_
 rintro e w2 ⟨hb2, rfl⟩
 have B2x := hide (hb2.alloc hb2.size (.cells #[.slice none 0 0] 75))
 have L2 := hide ((uh HG).below (uh B2x) hl)
 clear hb2 C
 unfold errR errv
 have CT := hide (told_fault 1 _ (uh L2))
 unfold errv at CT
 go_wp2_with fail
 refine (uh CT).mono ?_
 rintro e w3 ⟨rfl, hb3⟩
 have B3 := hide ((uh B2x).trans (hb3.mono (uh B2x).size))
 clear hb3
 go_wp2
 go_ret3
 exact ⟨rfl, uh B3⟩
theorem prog_print (s : ByteArray) (w : World) (hg : Laid w) : Calls Tryz.prog 14 #[.string s] w (PrPost s w) := by
 by_cases hs : 500 < s.size
 ·have e : prX s = (⟨#[]⟩, 1, 0) := by unfold prX readP; rw [if_pos hs]
  unfold PrPost
  rw [e]
  exact print_long s hs w hg
 ·cases hm : modelR (TT s) (PP s) with
  | error er =>
   obtain ⟨c, j⟩ := er
   have hr : readP s = .error (some (PP s j), c) := by unfold readP; rw [if_neg hs, hm]
   have e : prX s = (⟨#[]⟩, c, PP s j) := by unfold prX; rw [hr]
   unfold PrPost
   rw [e]
   exact print_bad s _ c hr (model_nz (by omega) w hm) w hg
  | ok y =>
   obtain ⟨ts, j⟩ := y
   cases hc : checkP ts with
   | some q =>
    obtain ⟨p, c⟩ := q
    have hr : readP s = .error (some p, c) := by unfold readP; rw [if_neg hs, hm]; simp only [hc]
    have e : prX s = (⟨#[]⟩, c, p) := by unfold prX; rw [hr]
    unfold PrPost
    rw [e]
    exact print_bad s _ c hr (check_nz hc) w hg
   | none =>
    have hr : readP s = .ok ts := by unfold readP; rw [if_neg hs, hm]; simp only [hc]
    have e : prX s = (mk (modelT ts), 0, 0) := by unfold prX; rw [hr]
    unfold PrPost
    rw [e]
    exact print_ok s ts hr w hg
theorem doc_print (s : ByteArray) (w : World) : Calls Tryz.prog 43 #[.string s] w (PrPost s w) := by
 by_cases hs : 500 < s.size
 ·have e : prX s = (⟨#[]⟩, 1, 0) := by unfold prX readP; rw [if_pos hs]
  unfold PrPost
  rw [e]
  exact rprint_err s w 1 0 (by omega) (parse_long s w hs)
 ·have C := parse_whole s w (by omega)
  cases hm : modelR (TT s) (PP s) with
  | error er =>
   obtain ⟨c, j⟩ := er
   have hr : readP s = .error (some (PP s j), c) := by unfold readP; rw [if_neg hs, hm]
   have e : prX s = (⟨#[]⟩, c, PP s j) := by unfold prX; rw [hr]
   unfold PrPost
   rw [e]
   refine rprint_err s w c _ (model_nz (by omega) w hm) (C.mono fun e w' h => ?_)
   have h2 := h.2
   rw [hm] at h2
   exact ⟨h2.2, h.1⟩
  | ok y =>
   obtain ⟨ts, j⟩ := y
   cases hc : checkP ts with
   | some q =>
    obtain ⟨p, c⟩ := q
    have hr : readP s = .error (some p, c) := by unfold readP; rw [if_neg hs, hm]; simp only [hc]
    have e : prX s = (⟨#[]⟩, c, p) := by unfold prX; rw [hr]
    unfold PrPost
    rw [e]
    refine rprint_err s w c p (check_nz hc) (C.mono fun e w' h => ?_)
    have h2 := h.2
    rw [hm] at h2
    simp only [hc] at h2
    exact ⟨h2, h.1⟩
   | none =>
    have hr : readP s = .ok ts := by unfold readP; rw [if_neg hs, hm]; simp only [hc]
    have e : prX s = (mk (modelT ts), 0, 0) := by unfold prX; rw [hr]
    unfold PrPost
    rw [e]
    refine rprint_go s w _ (C.mono fun e w' h => ⟨h.1, ?_⟩)
    have h2 := h.2
    rw [hm] at h2
    simp only [hc] at h2
    obtain ⟨b, kv, rv, pv, kl, rl, pl, l, e1, hd, hmb, hg⟩ := h2
    obtain ⟨W, hW⟩ := pr_ok (by omega) hm hc hg hd hmb
    exact ⟨b, kv, rv, pv, kl, rl, pl, l, W, e1, hW⟩
/-! The tokens of a text that is put together of blanks and tokens. -/
def flat (ps : List (List UInt8 × List UInt8)) : List UInt8 := ps.flatMap fun p => p.1 ++ p.2
/-- A word, or another byte that is no blank. -/
def TkB (t : List UInt8) : Bool := match t with
 | [] => false
 | c :: r => if letter c.toNat then r.all wordC else !blankC c && r.isEmpty
def isWd (t : List UInt8) : Bool := match t with
 | [] => false
 | c :: _ => letter c.toNat
def endW (l : List UInt8) : Bool := match l with
 | [] => true
 | c :: _ => !wordC c
/-- Every gap is of blanks, every token is one, and no word runs into what follows. -/
def GoodP (tl : List UInt8) : List (List UInt8 × List UInt8) → Bool
 | [] => tl.all blankC
 | (g, t) :: r => g.all blankC && TkB t && (!isWd t || endW (flat r ++ tl)) && GoodP tl r
theorem blank_word (c : UInt8) (h : blankC c = true) : wordC c = false := by
 unfold blankC blank at h
 unfold wordC letter digit
 simp only [Bool.or_eq_true, beq_iff_eq] at h
 rcases h with (h | h) | h <;> rw [h] <;> decide
theorem takeWhile_all {α : Type} (p : α → Bool) (a b : List α) (ha : a.all p = true) (hb : ∀ c r, b = c :: r → p c = false) : (a ++ b).takeWhile p = a := by
 induction a with
 | nil => cases b with
  | nil => rfl
  | cons c r => simp [List.takeWhile, hb c r rfl]
 | cons x a ih =>
  simp only [List.all_cons, Bool.and_eq_true] at ha
  simp [List.takeWhile, ha.1, ih ha.2]
theorem tk_head (t : List UInt8) (h : TkB t = true) : ∃ c r, t = c :: r ∧ blankC c = false := by
 cases t with
 | nil => simp [TkB] at h
 | cons c r =>
  refine ⟨c, r, rfl, ?_⟩
  unfold TkB at h
  cases hb : blankC c
  ·rfl
  ·have := blank_word c hb
   unfold wordC at this
   simp only [Bool.or_eq_false_iff] at this
   simp [this.1, hb] at h
theorem tokSize_tk (t rest : List UInt8) (h : TkB t = true) (he : isWd t = true → endW rest = true) : tokSize (t ++ rest) = t.length := by
 cases t with
 | nil => simp [TkB] at h
 | cons c r =>
  unfold TkB at h
  simp only [List.cons_append, tokSize]
  cases hl : letter c.toNat
  ·simp [hl] at h
   simp [h.2]
  ·simp [hl] at h
   simp only [if_true]
   rw [takeWhile_all wordC r rest (by simpa using h) (fun c' r' hr => by
    have := he (by simp [isWd, hl])
    rw [hr] at this
    simpa [endW] using this)]
   simp; omega
/-- One token further. -/
theorem tok_one (pre g t rest : List UInt8) (hg : g.all blankC = true) (ht : TkB t = true) (he : isWd t = true → endW rest = true) :
  skip (pre ++ (g ++ t ++ rest)) pre.length = pre.length + g.length ∧ tokText (pre ++ (g ++ t ++ rest)) (pre.length + g.length) = t := by
 obtain ⟨c, r, hc, hb⟩ := tk_head t ht
 constructor
 ·unfold skip
  rw [List.drop_append_of_le_length (Nat.le_refl _), List.drop_length, List.nil_append, List.append_assoc, takeWhile_all blankC g (t ++ rest) hg (fun c' r' hr => by
   rw [hc] at hr
   simp only [List.cons_append, List.cons.injEq] at hr
   rw [← hr.1]
   exact hb)]
 ·unfold tokText
  have hd : (pre ++ (g ++ t ++ rest)).drop (pre.length + g.length) = t ++ rest := by
   rw [← List.drop_drop, List.drop_append_of_le_length (Nat.le_refl _), List.drop_length, List.nil_append, List.append_assoc, List.drop_append_of_le_length (Nat.le_refl _), List.drop_length, List.nil_append]
  rw [hd, tokSize_tk t rest ht he]
  simp
theorem tok_end (pre tl : List UInt8) (h : tl.all blankC = true) : skip (pre ++ tl) pre.length = (pre ++ tl).length ∧ tokText (pre ++ tl) (pre ++ tl).length = [] := by
 constructor
 ·unfold skip
  rw [List.drop_append_of_le_length (Nat.le_refl _), List.drop_length, List.nil_append]
  have := takeWhile_all blankC tl [] h (by simp)
  rw [List.append_nil] at this
  rw [this]
  simp
 ·unfold tokText
  rw [List.drop_length]
  rfl
def toksOf (ps : List (List UInt8 × List UInt8)) : List ByteArray := ps.map fun p => mk p.2
theorem good_split (tl : List UInt8) : ∀ (a : List (List UInt8 × List UInt8)) (g t : List UInt8) (r : List (List UInt8 × List UInt8)), GoodP tl (a ++ (g, t) :: r) = true → g.all blankC = true ∧ TkB t = true ∧ (isWd t = true → endW (flat r ++ tl) = true)
 | [], g, t, r, h => by
  simp only [List.nil_append, GoodP, Bool.and_eq_true, Bool.or_eq_true, Bool.not_eq_true'] at h
  obtain ⟨⟨⟨h1, h2⟩, h3⟩, _⟩ := h
  refine ⟨h1, h2, fun hw => ?_⟩
  rcases h3 with h3 | h3
  ·rw [hw] at h3; cases h3
  ·exact h3
 | (g', t') :: a, g, t, r, h => by
  simp only [List.cons_append, GoodP, Bool.and_eq_true] at h
  exact good_split tl a g t r h.2
theorem good_tail (tl : List UInt8) : ∀ (a : List (List UInt8 × List UInt8)), GoodP tl a = true → tl.all blankC = true
 | [], h => h
 | (g, t) :: a, h => by
  simp only [GoodP, Bool.and_eq_true] at h
  exact good_tail tl a h.2
/-- Where the tokens stand, and which they are. -/
theorem lex_at (ps : List (List UInt8 × List UInt8)) (tl : List UInt8) (s : ByteArray) (hs : lst s = flat ps ++ tl) (hg : GoodP tl ps = true) : ∀ i, i ≤ ps.length → K s i = (flat (ps.take i)).length
 | 0, _ => by simp [K, flat]
 | i + 1, hi => by
  have ih := lex_at ps tl s hs hg i (by omega)
  have hlt : i < ps.length := by omega
  have hsp : ps = ps.take i ++ ps[i] :: ps.drop (i + 1) := by
   rw [← List.drop_eq_getElem_cons hlt, List.take_append_drop]
  generalize hq : ps[i] = q at *
  obtain ⟨g, t⟩ := q
  rw [hsp] at hg
  obtain ⟨h1, h2, h3⟩ := good_split tl _ g t _ hg
  have hl : lst s = flat (ps.take i) ++ (g ++ t ++ (flat (ps.drop (i + 1)) ++ tl)) := by
   rw [hs]
   conv => lhs; rw [hsp]
   simp [flat]
  obtain ⟨e1, e2⟩ := tok_one (flat (ps.take i)) g t _ h1 h2 h3
  show next s (K s i) = _
  rw [ih]
  unfold next
  unfold tokP tokT
  rw [hl, e1, e2]
  rw [List.take_succ_eq_append_getElem hlt, hq]
  simp [flat, mk, ByteArray.size]
  omega
theorem lex_tok (ps : List (List UInt8 × List UInt8)) (tl : List UInt8) (s : ByteArray) (hs : lst s = flat ps ++ tl) (hg : GoodP tl ps = true) (i : Nat) (hlt : i < ps.length) :
  TT s i = mk ps[i].2 ∧ PP s i = (flat (ps.take i)).length + ps[i].1.length := by
 have ih := lex_at ps tl s hs hg i (by omega)
 have hsp : ps = ps.take i ++ ps[i] :: ps.drop (i + 1) := by
  rw [← List.drop_eq_getElem_cons hlt, List.take_append_drop]
 generalize hq : ps[i] = q at *
 obtain ⟨g, t⟩ := q
 rw [hsp] at hg
 obtain ⟨h1, h2, h3⟩ := good_split tl _ g t _ hg
 have hl : lst s = flat (ps.take i) ++ (g ++ t ++ (flat (ps.drop (i + 1)) ++ tl)) := by
  rw [hs]
  conv => lhs; rw [hsp]
  simp [flat]
 obtain ⟨e1, e2⟩ := tok_one (flat (ps.take i)) g t _ h1 h2 h3
 unfold TT PP tokP tokT
 rw [ih, hl, e1, e2]
 exact ⟨rfl, rfl⟩
theorem lex_end (ps : List (List UInt8 × List UInt8)) (tl : List UInt8) (s : ByteArray) (hs : lst s = flat ps ++ tl) (hg : GoodP tl ps = true) : ∀ i, TT s (ps.length + i) = em ∧ (K s (ps.length + i) = (flat ps).length ∨ K s (ps.length + i) = (flat ps ++ tl).length)
 | 0 => by
  have ih := lex_at ps tl s hs hg ps.length (Nat.le_refl _)
  rw [List.take_length] at ih
  obtain ⟨e1, e2⟩ := tok_end (flat ps) tl (good_tail tl ps hg)
  refine ⟨?_, .inl ih⟩
  show tokT s (K s ps.length) = em
  unfold tokT
  rw [ih, hs, e1, e2]
  rfl
 | i + 1 => by
  obtain ⟨_, h⟩ := lex_end ps tl s hs hg i
  obtain ⟨e1, e2⟩ := tok_end (flat ps) tl (good_tail tl ps hg)
  obtain ⟨f1, f2⟩ := tok_end (flat ps ++ tl) [] rfl
  rw [List.append_nil] at f1 f2
  have hk : K s (ps.length + (i + 1)) = (flat ps ++ tl).length := by
   show next s (K s (ps.length + i)) = _
   unfold next tokP tokT
   rcases h with h | h
   ·rw [h, hs, e1, e2]; rfl
   ·rw [h, hs, f1, e2]; rfl
  refine ⟨?_, .inr hk⟩
  show tokT s (K s (ps.length + (i + 1))) = em
  unfold tokT
  rw [hk, hs, f1, e2]
  rfl
theorem lex_all (ps : List (List UInt8 × List UInt8)) (tl : List UInt8) (s : ByteArray) (hs : lst s = flat ps ++ tl) (hg : GoodP tl ps = true) : TT s = fun i => (toksOf ps).getD i em := by
 funext i
 rcases Nat.lt_or_ge i ps.length with h | h
 ·rw [(lex_tok ps tl s hs hg i h).1]
  simp [toksOf, List.getD, List.getElem?_eq_getElem h]
 ·obtain ⟨d, rfl⟩ : ∃ d, i = ps.length + d := ⟨i - ps.length, by omega⟩
  rw [(lex_end ps tl s hs hg d).1]
  simp [toksOf, List.getD]
/-! The statement's first text: its tokens, and what is read of them. -/
def fstL : List UInt8 := [116, 121, 112, 101, 32, 97, 32, 123, 32, 98, 58, 32, 40, 40, 91, 97, 93, 41, 41, 59, 32, 99, 58, 32, 98, 32, 124, 32, 40, 98, 32, 124, 32, 98, 41, 59, 32, 100, 58, 32, 98, 32, 38, 32, 40, 98, 32, 38, 32, 98, 41, 59, 32, 101, 58, 32, 40, 98, 32, 38, 32, 98, 41, 32, 45, 32, 98, 59, 32, 102, 58, 32, 98, 32, 38, 32, 40, 98, 32, 124, 32, 98, 41, 59, 32, 125]
def fstW : List UInt8 := [116, 121, 112, 101, 32, 97, 32, 123, 10, 9, 98, 58, 32, 91, 97, 93, 59, 10, 9, 99, 58, 32, 98, 32, 124, 32, 98, 32, 124, 32, 98, 59, 10, 9, 100, 58, 32, 98, 32, 38, 32, 40, 98, 32, 38, 32, 98, 41, 59, 10, 9, 101, 58, 32, 98, 32, 38, 32, 98, 32, 45, 32, 98, 59, 10, 9, 102, 58, 32, 98, 32, 38, 32, 40, 98, 32, 124, 32, 98, 41, 59, 10, 125, 10]
def fstP : List (List UInt8 × List UInt8) := [([], [116, 121, 112, 101]), ([32], [97]), ([32], [123]), ([32], [98]), ([], [58]), ([32], [40]), ([], [40]), ([], [91]), ([], [97]), ([], [93]), ([], [41]), ([], [41]), ([], [59]), ([32], [99]), ([], [58]), ([32], [98]), ([32], [124]), ([32], [40]), ([], [98]), ([32], [124]), ([32], [98]), ([], [41]), ([], [59]), ([32], [100]), ([], [58]), ([32], [98]), ([32], [38]), ([32], [40]), ([], [98]), ([32], [38]), ([32], [98]), ([], [41]), ([], [59]), ([32], [101]), ([], [58]), ([32], [40]), ([], [98]), ([32], [38]), ([32], [98]), ([], [41]), ([32], [45]), ([32], [98]), ([], [59]), ([32], [102]), ([], [58]), ([32], [98]), ([32], [38]), ([32], [40]), ([], [98]), ([32], [124]), ([32], [98]), ([], [41]), ([], [59]), ([32], [125])]
def ToM (l : List (List UInt8)) : Nat → ByteArray := fun i => (l.map mk).getD i em
def evM (r : Res (List Ty)) : Option (List UInt8) := match r with
 | .ok (ts, _) => (match checkP ts with
  | none => some (modelT ts)
  | some _ => none)
 | .error _ => none
theorem ev_fst (P : Nat → Nat) : evM (modelR (ToM (fstP.map Prod.snd)) P) = some fstW := by kernel_rfl
theorem fst_flat : fstL = flat fstP ++ [] := by kernel_rfl
theorem fst_good : GoodP [] fstP = true := by kernel_rfl
theorem evM_some {r : Res (List Ty)} {x : List UInt8} (h : evM r = some x) : ∃ ts j, r = .ok (ts, j) ∧ checkP ts = none ∧ modelT ts = x := by
 unfold evM at h
 split at h
 ·rename_i ts j
  split at h
  ·rename_i hc
   simp only [Option.some.injEq] at h
   exact ⟨ts, j, rfl, hc, h⟩
  ·cases h
 ·cases h
theorem toks_m (ps : List (List UInt8 × List UInt8)) : (fun i => (toksOf ps).getD i em) = ToM (ps.map Prod.snd) := by
 unfold ToM toksOf
 rw [List.map_map]
 rfl
theorem read_fst : ∃ ts, readP (mk fstL) = .ok ts ∧ modelT ts = fstW := by
 have ht := lex_all fstP [] (mk fstL) (by rw [lst_mk]; exact fst_flat) fst_good
 rw [toks_m] at ht
 obtain ⟨ts, j, h1, h2, h3⟩ := evM_some (ev_fst (PP (mk fstL)))
 refine ⟨ts, ?_, h3⟩
 unfold readP
 rw [if_neg (by rw [mk_size]; exact of_decide_eq_true (by kernel_rfl)), ht, h1]
 simp only [h2]
/-! P3 to P5: the statement's own step, and the statement. -/
set_option maxHeartbeats 1000000 in
set_option maxRecDepth 100000 in
theorem step_print (p : Option Addr) (n : Int) (s r q : ByteArray) (w : World) (hg : Laid w) :
  Calls Tryz.prog 15 #[.pointer p, .agg #[.int .i64 1, .int .i64 n, .string s, .string r, .string q]] w fun e w' => e = .returned (.bool true) ∧ Below w.heap.size w w' := by
 have hl := hg.lt
 have B0 := hide (show Below w.heap.size w (w.alloc (.cells #[.int .i64 1, .int .i64 n, .string s, .string r, .string q] 34)) from (Below.refl _ w).alloc (Nat.le_refl _) _)
 have K0 := hide (Blk.new w #[.int .i64 1, .int .i64 n, .string s, .string r, .string q] 34)
 have L0 := hide (hg.below (uh B0) hl)
 have C1 := hide (prog_print s _ (uh L0))
 have C2 := hide (fun w' => doc_print s w')
 unfold PrPost at C1 C2
 generalize prX s = X at C1 C2
 obtain ⟨x, c, a⟩ := X
 have hx : (x.toList == x.toList) = true := by simp
 simp only at C1 C2
 clear hg
 go_enter Tryz.func15, Tryz.ntmps15
 go_wp2_with fail
 refine (uh C1).mono ?_
 rintro e w1 ⟨rfl, hb1⟩
 have B1 := hide ((uh B0).trans (hb1.mono (uh B0).size))
 obtain ⟨d0, d1, d2, d3, d4⟩ := ((uh K0).below hb1).five
 clear hb1 C1
 go_wp2_with fail
 refine (uh C2 w1).mono ?_
 rintro e w2 ⟨rfl, hb2⟩
 have B2 := hide ((uh B1).trans (hb2.mono (uh B1).size))
 clear hb2 C2
 go_wp2
 go_ret
 exact ⟨rfl, uh B2⟩
/-- A slice of strings that came in. -/
def RawS (w : World) (v : Value) (n : Nat) : Prop := (v = .slice none 0 0 ∧ n = 0) ∨ ∃ (ad : Addr) (c : Nat) (z : Nat → ByteArray), v = .slice (some ad) n c ∧ n ≤ c ∧ c ≤ maxLen ∧ ∀ j, j < n → w.cell? (ad.add j) = some (.string (z j))
theorem RawS.cell {w w' : World} {ad : Addr} {n c j : Nat} (h : RawS w (.slice (some ad) n c) n) (k : Below w.heap.size w w') (hj : j < n) : ∃ s, w'.cell? (ad.add j) = some (.string s) := by
 rcases h with ⟨h, _⟩ | ⟨ad', c', z, e, _, _, hz⟩
 ·cases h
 ·simp only [Value.slice.injEq, Option.some.injEq, true_and] at e
  obtain ⟨rfl, rfl⟩ := e
  exact ⟨z j, cell_below (hz j hj) k⟩
set_option maxHeartbeats 2000000 in
set_option maxRecDepth 100000 in
theorem models_law (v : Value) (n : Nat) (w : World) (h : RawS w v n) (hg : Laid w) :
  Calls Tryz.prog 3 #[v] w fun e w' => e = .returned (.bool true) ∧ Below w.heap.size w w' := by
 have hv : ∃ a c, v = .slice a n c ∧ n ≤ maxLen ∧ (0 < n → ∃ ad, a = some ad) := by
  rcases h with ⟨rfl, rfl⟩ | ⟨ad, c, z, rfl, h1, h2, _⟩
  ·exact ⟨_, _, rfl, by unfold maxLen; omega, by omega⟩
  ·exact ⟨_, _, rfl, by omega, fun _ => ⟨_, rfl⟩⟩
 obtain ⟨ra, rc, rfl, hn, hra⟩ := hv
 have HR := hide h
 have HG := hide hg
 have HRA := hide hra
 have hl := hg.lt
 have hn' : n ≤ 9223372036854775807 := by unfold maxLen at hn; omega
 obtain ⟨ts, hr, ht⟩ := read_fst
 have C1 := hide (print_ok _ ts hr w hg)
 rw [ht] at C1
 obtain ⟨tw, htw⟩ : ∃ tw, tw = mk fstW := ⟨_, rfl⟩
 rw [← htw] at C1
 have hw1 : (tw.toList == [116, 121, 112, 101, 32, 97, 32, 123, 10, 9, 98, 58, 32, 91, 97, 93, 59, 10, 9, 99, 58, 32, 98, 32, 124, 32, 98, 32, 124, 32, 98, 59, 10, 9, 100, 58, 32, 98, 32, 38, 32, 40, 98, 32, 38, 32, 98, 41, 59, 10, 9, 101, 58, 32, 98, 32, 38, 32, 98, 32, 45, 32, 98, 59, 10, 9, 102, 58, 32, 98, 32, 38, 32, 40, 98, 32, 124, 32, 98, 41, 59, 10, 125, 10]) = true := by rw [htw, toList_lst, lst_mk]; kernel_rfl
 clear h hg hra hr ht hn htw
 go_enter Tryz.func3, Tryz.ntmps3
 go_wp2_with fail
 refine (uh C1).mono ?_
 rintro e w1 ⟨rfl, hb1⟩
 have B1 := hide (hb1.alloc hb1.size (.cells #[.slice none 0 0, .slice none 0 0, .slice none 0 0] 31))
 clear hb1 C1
 go_wp2_with fail
 go_loopw [7] (fun u wr => ∃ k : Nat, k ≤ n ∧ u = .int .i64 k ∧ Below w.heap.size w wr) (fun u _ => n - (intOf u).toNat)
 case atStart => exact ⟨0, by omega, rfl, uh B1⟩
 case round =>
  obtain ⟨k, hk, rfl, hb⟩ := hrel
  have HB := hide hb
  have L := hide ((uh HG).below hb hl)
  have hwr := hb.size
  by_cases hlt : k < n
  ·have hkn : (k : Int) < (n : Int) := by omega
   obtain ⟨ad, rfl⟩ := uh HRA (by omega)
   obtain ⟨s, hs⟩ := (uh HR).cell hb hlt
   have C2 := hide (fun W hL => step_print (some ⟨w1.heap.size, 0, none⟩) 0 s ⟨#[]⟩ ⟨#[]⟩ W hL)
   clear hb
   go_wp2_with fail
   refine (uh C2 _ (uh L)).mono ?_
   rintro e w2 ⟨rfl, hb2⟩
   have B2 := hide ((uh HB).trans (hb2.mono hwr))
   clear hb2 C2
   go_wp2
   go_roundw
   case rel => exact ⟨k + 1, by omega, by go_num, uh B2⟩
   case measure => simp [intOf]; omega
  ·have hkn : ¬ ((k : Int) < (n : Int)) := by omega
   clear hb
   go_wp2
   go_ret
   exact ⟨rfl, uh HB⟩
end Go.Proofs.YtlbpnlngckgcbaaGreatDoor
