import Derived.Test.YtlbpnlngckgcbaaGreatDoorM30
import Derived.Test.YtlbpnlngckgcbaaGreatDoorM23
import Derived.Test.YtlbpnlngckgcbaaGreatDoorM24
import Derived.Test.YtlbpnlngckgcbaaGreatDoorM21
namespace Go.Proofs.YtlbpnlngckgcbaaGreatDoor
open Go.RowKit Go.PlainAid
set_option linter.unusedSimpArgs false
set_option linter.unusedVariables false
theorem own_inj {w : World} {b1 b2 : Nat} {e : TypeId} {size : Nat} {v : Value} {n1 n2 : Nat} {x1 x2 : List Value} (h1 : w.ownsRow b1 e size v n1 x1) (h2 : w.ownsRow b2 e size v n2 x2) : n1 = n2 ∧ x1 = x2 := by
 have hn : n1 = n2 := by
  obtain ⟨a, c, rfl⟩ := own_form h1
  obtain ⟨a', c', e⟩ := own_form h2
  simp only [Value.slice.injEq] at e
  exact e.2.1
 subst hn
 refine ⟨rfl, List.ext_getElem? fun k => ?_⟩
 have hl : x1.length = x2.length := h1.1.trans h2.1.symm
 rcases Nat.lt_or_ge k x1.length with h | h
 ·obtain ⟨g, c, e1, c1⟩ := own_cell h1 k _ (List.getElem?_eq_getElem h)
  obtain ⟨g', c', e2, c2⟩ := own_cell h2 k _ (List.getElem?_eq_getElem (show k < x2.length by omega))
  rw [e1] at e2
  simp only [Value.slice.injEq, Option.some.injEq, Addr.mk.injEq] at e2
  obtain ⟨⟨rfl, _⟩, _⟩ := e2
  rw [c1] at c2
  rw [List.getElem?_eq_getElem h, List.getElem?_eq_getElem (show k < x2.length by omega)]
  exact c2
 ·rw [List.getElem?_eq_none h, List.getElem?_eq_none (by omega)]
theorem c3_inj : ∀ (a c : List E3), a.flatMap c3 = c.flatMap c3 → a = c
 | [], [], _ => rfl
 | [], e :: c, h => by simp [c3] at h
 | e :: a, [], h => by simp [c3] at h
 | (p, n, v) :: a, (p', n', v') :: c, h => by
  simp only [List.flatMap_cons, c3, List.cons_append, List.nil_append, List.cons.injEq, Value.int.injEq, Value.string.injEq, true_and] at h
  obtain ⟨h1, h2, h3, h4⟩ := h
  rw [c3_inj a c h4, h2, h3, show p = p' by omega]
theorem Row3.inj {w : World} {T : TypeId} {v : Value} {l1 l2 : List E3} (h1 : Row3 w T v l1) (h2 : Row3 w T v l2) : l1 = l2 := c3_inj _ _ (own_inj h1 h2).2
/-- P4: of names and their places: the place of the first that was there ahead. -/
def twN : List ByteArray → List (ByteArray × Nat) → Option Nat
 | _, [] => none
 | ah, (n, p) :: r => if ah.any (fun m => eqs m n) then some p else twN (ah ++ [n]) r
theorem find3_any (n : ByteArray) (l : List E3) : (find3 n l).isSome = (l.map fun e => e.2.1).any (fun m => eqs m n) := by
 unfold find3
 rw [List.any_map, Bool.eq_iff_iff, List.any_eq_true, List.find?_isSome]
 rfl
theorem twice3_tw : ∀ (l ah : List E3), twice3 ah l = twN (ah.map fun e => e.2.1) (l.map fun e => (e.2.1, e.1))
 | [], ah => rfl
 | e :: l, ah => by
  have := twice3_tw l (ah ++ [e])
  simp only [twice3, List.map_cons, twN, find3_any]
  rw [this, List.map_append]
  rfl
def twR (rs : List Rl) : Option Nat := twN [] (rs.map fun r => (r.name, r.place))
def twT : List ByteArray → List Ty → Option Nat
 | _, [] => none
 | ah, t :: r => if ah.any (fun m => eqs m t.name) then some t.place else match twR t.rels with
  | some p => some p
  | none => twT (ah ++ [t.name]) r
theorem twiceT3_tw (inn : E3 → Option Nat) : ∀ (l al : List (Ty × Value)), (∀ p ∈ l, inn (t3 p) = twR p.1.rels) → twiceT3 inn (al.map t3) (l.map t3) = twT (al.map fun p => p.1.name) (l.map Prod.fst)
 | [], al, _ => rfl
 | p :: l, al, h => by
  have ih := twiceT3_tw inn l (al ++ [p]) (fun q hq => h q (by simp [hq]))
  have hp := h p (by simp)
  simp only [List.map_cons, twiceT3, twT, find3_any, hp]
  rw [List.map_append, List.map_append] at ih
  simp only [List.map_cons, List.map_nil] at ih
  rw [ih, List.map_map]
  rfl
theorem inn_ex (w : World) : ∃ inn : E3 → Option Nat, ∀ e l, Row3 w 159 e.2.2 l → inn e = twice3 [] l := by
 classical
 refine ⟨fun e => if h : ∃ l : List E3, Row3 w 159 e.2.2 l then twice3 [] h.choose else none, ?_⟩
 intro e l h
 have hx : ∃ l : List E3, Row3 w 159 e.2.2 l := ⟨l, h⟩
 simp only
 rw [dif_pos hx, Row3.inj hx.choose_spec h]
theorem mtwice_any (b : Nat) (sv : Value) (ts : List Ty) (tl : List (Ty × Value)) (w : World) (h : MC b w sv ts tl) :
  Calls Tryz.prog 115 #[.agg #[sv]] w fun e w' => e = .returned (errO 4 (twT [] ts)) ∧ Below w.heap.size w w' := by
 obtain ⟨inn, hinn⟩ := inn_ex w
 have key : twiceT3 inn [] (tl.map t3) = twT [] ts := by
  have := twiceT3_tw inn tl [] (fun p hp => by
   obtain ⟨rl, hr⟩ := h.rels p hp
   rw [hinn (t3 p) _ hr.row, twice3_tw, twR, ← hr.fst, List.map_map, List.map_map]
   rfl)
  rw [h.fst] at this
  exact this
 rw [← key]
 refine twiceT_any inn sv (tl.map t3) w h.llen h.row ?_ ?_
 ·intro e he
  rw [List.mem_map] at he
  obtain ⟨p, hp, rfl⟩ := he
  obtain ⟨rl, hr⟩ := h.rels p hp
  exact hr.form
 ·intro e he w' hb
  rw [List.mem_map] at he
  obtain ⟨p, hp, rfl⟩ := he
  obtain ⟨rl, hr⟩ := h.rels p hp
  rw [hinn (t3 p) _ hr.row]
  refine twiceR_any _ _ _ _ w' hr.llen (hr.row.below hb) ?_
  intro e he
  rw [List.mem_map] at he
  obtain ⟨q, hq, rfl⟩ := he
  exact (hr.ex q hq).isI
/-- P4: what is wrong with a model that reads well: place and number. -/
def checkP (ts : List Ty) : Option (Nat × Nat) := match twT [] ts with
 | some p => some (p, 4)
 | none => match eachN (namesP ts) ts with
  | some p => some (p, 5)
  | none => match eachN (loopsP ts) ts with
   | some p => some (p, 6)
   | none => none
def errQ : Option (Nat × Nat) → Value
 | none => .nilIface
 | some (p, c) => placed p c
set_option maxHeartbeats 1000000 in
set_option maxRecDepth 100000 in
theorem check_any (b : Nat) (sv : Value) (ts : List Ty) (tl : List (Ty × Value)) (w : World) (h : MC b w sv ts tl) :
  Calls Tryz.prog 74 #[.agg #[sv]] w fun e w' => e = .returned (errQ (checkP ts)) ∧ Below w.heap.size w w' := by
 obtain ⟨ma, mn, mc, rfl⟩ := h.form
 have W0 : Below w.heap.size w (w.alloc (.cells #[.slice ma mn mc] 75)) := (Below.refl _ _).alloc (Nat.le_refl _) _
 have HW0 := hide W0
 have HM0 := hide (h.below W0)
 have MB := hide (Blk.new w #[.slice ma mn mc] 75)
 have C0 := hide (mtwice_any b _ ts tl _ (uh HM0))
 have C1 := hide (fun w' (hw : Below w.heap.size w w') => each_names b 5 _ ts tl (namesP ts) w' (h.below hw) (fun w'' t tv rl r bv h1 h2 h3 h4 => checkNames_any b _ ts tl t tv rl r bv w'' h1 h2 h3 h4))
 have C2 := hide (fun w' (hw : Below w.heap.size w w') => each_loops b 6 _ ts tl (loopsP ts) w' (h.below hw) (fun w'' t tv rl r bv h1 h2 h3 h4 => checkLoops_any b _ ts tl t tv rl r bv w'' h1 h2 h3 h4))
 unfold checkP
 clear W0 h
 cases h1 : twT [] ts with
 | some p =>
  rw [h1] at C0
  clear h1
  simp only [errQ]
  go_enter Tryz.func74, Tryz.ntmps74
  go_wp2_with fail
  refine (uh C0).mono ?_
  rintro e w2 ⟨rfl, hb2⟩
  have B2 := hide ((uh HW0).trans (hb2.mono (uh HW0).size))
  clear hb2
  unfold errO placed
  go_wp2
  go_ret
  exact ⟨rfl, uh B2⟩
 | none =>
  rw [h1] at C0
  clear h1
  simp only
  cases h2 : eachN (namesP ts) ts with
  | some p =>
   rw [h2] at C1
   clear h2
   simp only [errQ]
   go_enter Tryz.func74, Tryz.ntmps74
   go_wp2_with fail
   refine (uh C0).mono ?_
   rintro e w2 ⟨rfl, hb2⟩
   have B2 := hide ((uh HW0).trans (hb2.mono (uh HW0).size))
   have m0 : w2.cell? ⟨w.heap.size, 0, none⟩ = some (.slice ma mn mc) := ((uh MB).below hb2).cell rfl
   have ml := ((uh MB).below hb2).lt
   clear hb2
   unfold errO
   go_wp2_with fail
   refine (uh C1 _ (uh B2)).mono ?_
   rintro e w3 ⟨rfl, hb3⟩
   have B3 := hide ((uh B2).trans (hb3.mono (uh B2).size))
   clear hb3
   unfold errO placed
   go_wp2
   go_ret
   exact ⟨rfl, uh B3⟩
  | none =>
   rw [h2] at C1
   clear h2
   simp only
   cases h3 : eachN (loopsP ts) ts with
   | some p =>
    rw [h3] at C2
    clear h3
    simp only [errQ]
    go_enter Tryz.func74, Tryz.ntmps74
    go_wp2_with fail
    refine (uh C0).mono ?_
    rintro e w2 ⟨rfl, hb2⟩
    have B2 := hide ((uh HW0).trans (hb2.mono (uh HW0).size))
    have m0 : w2.cell? ⟨w.heap.size, 0, none⟩ = some (.slice ma mn mc) := ((uh MB).below hb2).cell rfl
    have ml := ((uh MB).below hb2).lt
    have MB2 := hide ((uh MB).below hb2)
    clear hb2
    unfold errO
    go_wp2_with fail
    refine (uh C1 _ (uh B2)).mono ?_
    rintro e w3 ⟨rfl, hb3⟩
    have B3 := hide ((uh B2).trans (hb3.mono (uh B2).size))
    have m1 : w3.cell? ⟨w.heap.size, 0, none⟩ = some (.slice ma mn mc) := ((uh MB2).below hb3).cell rfl
    have ml1 := ((uh MB2).below hb3).lt
    clear hb3
    unfold errO
    go_wp2_with fail
    refine (uh C2 _ (uh B3)).mono ?_
    rintro e w4 ⟨rfl, hb4⟩
    have B4 := hide ((uh B3).trans (hb4.mono (uh B3).size))
    clear hb4
    unfold errO placed
    go_wp2
    go_ret
    exact ⟨rfl, uh B4⟩
   | none =>
    rw [h3] at C2
    clear h3
    simp only [errQ]
    go_enter Tryz.func74, Tryz.ntmps74
    go_wp2_with fail
    refine (uh C0).mono ?_
    rintro e w2 ⟨rfl, hb2⟩
    have B2 := hide ((uh HW0).trans (hb2.mono (uh HW0).size))
    have m0 : w2.cell? ⟨w.heap.size, 0, none⟩ = some (.slice ma mn mc) := ((uh MB).below hb2).cell rfl
    have ml := ((uh MB).below hb2).lt
    have MB2 := hide ((uh MB).below hb2)
    clear hb2
    unfold errO
    go_wp2_with fail
    refine (uh C1 _ (uh B2)).mono ?_
    rintro e w3 ⟨rfl, hb3⟩
    have B3 := hide ((uh B2).trans (hb3.mono (uh B2).size))
    have m1 : w3.cell? ⟨w.heap.size, 0, none⟩ = some (.slice ma mn mc) := ((uh MB2).below hb3).cell rfl
    have ml1 := ((uh MB2).below hb3).lt
    clear hb3
    unfold errO
    go_wp2_with fail
    refine (uh C2 _ (uh B3)).mono ?_
    rintro e w4 ⟨rfl, hb4⟩
    have B4 := hide ((uh B3).trans (hb4.mono (uh B3).size))
    clear hb4
    unfold errO
    go_wp2
    go_ret
    exact ⟨rfl, uh B4⟩
/-! P4: the least place of a name that is defined again is the first one in the text. -/
/-- c is the least of the places, or -1 where there are none. -/
def LeastI (c : Int) (S : Nat → Prop) : Prop := (c = -1 ∧ ∀ q, ¬ S q) ∨ ∃ p : Nat, c = p ∧ S p ∧ ∀ q, S q → p ≤ q
theorem LeastI.unique {c d : Int} {S : Nat → Prop} (h : LeastI c S) (k : LeastI d S) : c = d := by
 rcases h with ⟨rfl, h⟩ | ⟨p, rfl, hp, h⟩
 ·rcases k with ⟨rfl, _⟩ | ⟨q, rfl, hq, _⟩
  ·rfl
  ·exact absurd hq (h q)
 ·rcases k with ⟨rfl, k⟩ | ⟨q, rfl, hq, k⟩
  ·exact absurd hp (k p)
  ·have := h q hq
   have := k p hp
   omega
theorem LeastI.congr {c : Int} {S T : Nat → Prop} (h : LeastI c S) (e : ∀ q, S q ↔ T q) : LeastI c T := by
 rcases h with ⟨h1, h2⟩ | ⟨p, h1, h2, h3⟩
 ·exact .inl ⟨h1, fun q hq => h2 q ((e q).2 hq)⟩
 ·exact .inr ⟨p, h1, (e p).1 h2, fun q hq => h3 q ((e q).2 hq)⟩
theorem LeastI.step {c : Int} {S : Nat → Prop} (h : LeastI c S) (p : Nat) : LeastI (stepB c p) (fun q => S q ∨ q = p) := by
 unfold stepB
 rcases h with ⟨rfl, h⟩ | ⟨q, rfl, hq, h⟩
 ·rw [if_pos (.inl (by omega))]
  exact .inr ⟨p, rfl, .inr rfl, fun q hq => by
   rcases hq with hq | rfl
   ·exact absurd hq (h q)
   ·exact Nat.le_refl _⟩
 ·split
  ·rename_i hlt
   refine .inr ⟨p, rfl, .inr rfl, fun r hr => ?_⟩
   rcases hr with hr | rfl
   ·have := h r hr
    omega
   ·exact Nat.le_refl _
  ·rename_i hlt
   refine .inr ⟨q, rfl, .inl hq, fun r hr => ?_⟩
   rcases hr with hr | rfl
   ·exact h r hr
   ·omega
theorem stepB_idem (c : Int) (p : Nat) : stepB (stepB c p) p = stepB c p := by
 unfold stepB
 by_cases h : c < 0 ∨ (p : Int) < c
 ·rw [if_pos h]
  split <;> rfl
 ·rw [if_neg h, if_neg h]
theorem twKin_eq (x : ByteArray × Nat) : ∀ (acc : List (ByteArray × Nat)) (c : Int), twKin x acc c = if (acc.any fun y => eqs y.1 x.1) then stepB c x.2 else c
 | [], c => rfl
 | y :: ys, c => by
  rw [twKin, twKin_eq x ys]
  cases h : eqs y.1 x.1 <;> cases h2 : (ys.any fun y => eqs y.1 x.1) <;> simp [h, h2, stepB_idem]
theorem twRin_eq (x : RV) : ∀ (acc : List RV) (c : Int), twRin x acc c = if (acc.any fun y => eqs y.kd x.kd && eqs y.nm x.nm) then stepB c x.pl else c
 | [], c => rfl
 | y :: ys, c => by
  rw [twRin, twRin_eq x ys]
  cases h : (eqs y.kd x.kd && eqs y.nm x.nm) <;> cases h2 : (ys.any fun y => eqs y.kd x.kd && eqs y.nm x.nm) <;> simp [h, h2, stepB_idem]
/-- The places of what has its like ahead of it. -/
def Flg {α : Type} (like : α → α → Prop) (pl : α → Nat) (acc l : List α) (q : Nat) : Prop := ∃ A x B, l = A ++ x :: B ∧ (∃ y ∈ acc ++ A, like y x) ∧ q = pl x
theorem Flg.cons {α : Type} {like : α → α → Prop} {pl : α → Nat} {acc l : List α} {x : α} {q : Nat} : Flg like pl acc (x :: l) q ↔ ((∃ y ∈ acc, like y x) ∧ q = pl x) ∨ Flg like pl (acc ++ [x]) l q := by
 constructor
 ·rintro ⟨A, z, B, e, hl, hq⟩
  cases A with
  | nil =>
   simp only [List.nil_append, List.cons.injEq] at e
   obtain ⟨rfl, rfl⟩ := e
   exact .inl ⟨by simpa using hl, hq⟩
  | cons a A =>
   simp only [List.cons_append, List.cons.injEq] at e
   obtain ⟨rfl, rfl⟩ := e
   exact .inr ⟨A, z, B, rfl, by simpa using hl, hq⟩
 ·rintro (⟨h, hq⟩ | ⟨A, z, B, rfl, hl, hq⟩)
  ·exact ⟨[], x, l, rfl, by simpa using h, hq⟩
  ·exact ⟨x :: A, z, B, rfl, by simpa using hl, hq⟩
theorem Flg.nil {α : Type} {like : α → α → Prop} {pl : α → Nat} {acc : List α} {q : Nat} : ¬ Flg like pl acc [] q := by
 rintro ⟨A, x, B, e, _⟩
 cases A <;> simp at e
def likeK (y x : ByteArray × Nat) : Prop := y.1 = x.1
def likeR (y x : RV) : Prop := y.kd = x.kd ∧ y.nm = x.nm
theorem twKout_least : ∀ (l acc : List (ByteArray × Nat)) (c : Int) (S : Nat → Prop), LeastI c S → LeastI (twKout acc l c) (fun q => S q ∨ Flg likeK Prod.snd acc l q)
 | [], acc, c, S, h => h.congr (fun q => ⟨.inl, fun h => h.elim id (fun h => absurd h Flg.nil)⟩)
 | x :: l, acc, c, S, h => by
  rw [twKout, twKin_eq]
  cases hd : (acc.any fun y => eqs y.1 x.1)
  ·simp only [Bool.false_eq_true, if_false]
   refine (twKout_least l (acc ++ [x]) c S h).congr (fun q => ?_)
   rw [Flg.cons]
   constructor
   ·rintro (h | h)
    ·exact .inl h
    ·exact .inr (.inr h)
   ·rintro (h | ⟨⟨y, hy, hl⟩, _⟩ | h)
    ·exact .inl h
    ·rw [List.any_eq_false] at hd
     exact absurd ((eqs_iff _ _).2 hl) (hd y hy)
    ·exact .inr h
  ·simp only [if_true]
   refine (twKout_least l (acc ++ [x]) _ _ (h.step x.2)).congr (fun q => ?_)
   rw [Flg.cons]
   rw [List.any_eq_true] at hd
   obtain ⟨y, hy, hl⟩ := hd
   have hl' : likeK y x := (eqs_iff _ _).1 hl
   constructor
   ·rintro ((h | h) | h)
    ·exact .inl h
    ·exact .inr (.inl ⟨⟨y, hy, hl'⟩, h⟩)
    ·exact .inr (.inr h)
   ·rintro (h | ⟨_, h⟩ | h)
    ·exact .inl (.inl h)
    ·exact .inl (.inr h)
    ·exact .inr h
theorem twRout_least : ∀ (l acc : List RV) (c : Int) (S : Nat → Prop), LeastI c S → LeastI (twRout acc l c) (fun q => S q ∨ Flg likeR RV.pl acc l q)
 | [], acc, c, S, h => h.congr (fun q => ⟨.inl, fun h => h.elim id (fun h => absurd h Flg.nil)⟩)
 | x :: l, acc, c, S, h => by
  rw [twRout, twRin_eq]
  have hq : ∀ y : RV, (eqs y.kd x.kd && eqs y.nm x.nm) = true ↔ likeR y x := fun y => by rw [Bool.and_eq_true, eqs_iff, eqs_iff]; rfl
  cases hd : (acc.any fun y => eqs y.kd x.kd && eqs y.nm x.nm)
  ·simp only [Bool.false_eq_true, if_false]
   refine (twRout_least l (acc ++ [x]) c S h).congr (fun q => ?_)
   rw [Flg.cons]
   constructor
   ·rintro (h | h)
    ·exact .inl h
    ·exact .inr (.inr h)
   ·rintro (h | ⟨⟨y, hy, hl⟩, _⟩ | h)
    ·exact .inl h
    ·rw [List.any_eq_false] at hd
     exact absurd ((hq y).2 hl) (hd y hy)
    ·exact .inr h
  ·simp only [if_true]
   refine (twRout_least l (acc ++ [x]) _ _ (h.step x.pl)).congr (fun q => ?_)
   rw [Flg.cons]
   rw [List.any_eq_true] at hd
   obtain ⟨y, hy, hl⟩ := hd
   have hl' : likeR y x := (hq y).1 hl
   constructor
   ·rintro ((h | h) | h)
    ·exact .inl h
    ·exact .inr (.inl ⟨⟨y, hy, hl'⟩, h⟩)
    ·exact .inr (.inr h)
   ·rintro (h | ⟨_, h⟩ | h)
    ·exact .inl (.inl h)
    ·exact .inl (.inr h)
    ·exact .inr h
theorem rtwice_least (kl : List (ByteArray × Nat)) (rl : List RV) : LeastI (rtwice kl rl) (fun q => Flg likeK Prod.snd [] kl q ∨ Flg likeR RV.pl [] rl q) := by
 have h := twRout_least rl [] _ _ (twKout_least kl [] (-1) (fun _ => False) (.inl ⟨rfl, fun _ h => h⟩))
 exact h.congr (fun q => by simp)
/-! The same of the program's check: the first in the text. -/
theorem Flg.mem {α : Type} {like : α → α → Prop} {pl : α → Nat} {acc l : List α} {q : Nat} (h : Flg like pl acc l q) : q ∈ l.map pl := by
 obtain ⟨A, x, B, rfl, _, rfl⟩ := h
 simp
theorem Flg.append {α : Type} {like : α → α → Prop} {pl : α → Nat} {q : Nat} : ∀ (l1 acc l2 : List α), Flg like pl acc (l1 ++ l2) q ↔ Flg like pl acc l1 q ∨ Flg like pl (acc ++ l1) l2 q
 | [], acc, l2 => by
  rw [List.nil_append, List.append_nil]
  exact ⟨.inr, fun h => h.elim (fun h => absurd h Flg.nil) id⟩
 | x :: l1, acc, l2 => by
  rw [List.cons_append, Flg.cons, Flg.cons, Flg.append l1 (acc ++ [x]) l2, List.append_assoc, List.singleton_append, or_assoc]
theorem twN_least : ∀ (l acc : List (ByteArray × Nat)), (l.map Prod.snd).Pairwise (· < ·) → LeastI (intO (twN (acc.map Prod.fst) l)) (fun q => Flg likeK Prod.snd acc l q)
 | [], acc, _ => .inl ⟨rfl, fun q h => absurd h Flg.nil⟩
 | (n, p) :: l, acc, ho => by
  rw [twN]
  simp only [List.map_cons, List.pairwise_cons] at ho
  rw [List.any_map]
  cases hd : (acc.any ((fun m => eqs m n) ∘ Prod.fst))
  ·simp only [Bool.false_eq_true, if_false]
   have ih := twN_least l (acc ++ [(n, p)]) ho.2
   rw [List.map_append] at ih
   refine ih.congr (fun q => ?_)
   rw [Flg.cons]
   constructor
   ·exact .inr
   ·rintro (⟨⟨y, hy, hl⟩, _⟩ | h)
    ·rw [List.any_eq_false] at hd
     exact absurd ((eqs_iff _ _).2 hl) (hd y hy)
    ·exact h
  ·simp only [if_true]
   rw [List.any_eq_true] at hd
   obtain ⟨y, hy, hl⟩ := hd
   refine .inr ⟨p, rfl, ?_, fun q hq => ?_⟩
   ·show Flg likeK Prod.snd acc ((n, p) :: l) p
    rw [Flg.cons]
    exact .inl ⟨⟨y, hy, (eqs_iff _ _).1 hl⟩, rfl⟩
   ·have hm := Flg.mem hq
    rw [List.map_cons, List.mem_cons] at hm
    rcases hm with rfl | hm
    ·exact Nat.le_refl _
    ·exact Nat.le_of_lt (ho.1 q hm)
def likeT (y x : Ty) : Prop := y.name = x.name
def likeF (y x : ByteArray × Rl) : Prop := y.1 = x.1 ∧ y.2.name = x.2.name
def plF (p : ByteArray × Rl) : Nat := p.2.place
def placesT (ts : List Ty) : List Nat := ts.flatMap fun t => t.place :: t.rels.map fun r => r.place
theorem flat_fst (ts : List Ty) (p : ByteArray × Rl) (h : p ∈ flatT ts) : ∃ t ∈ ts, t.name = p.1 := by
 unfold flatT at h
 obtain ⟨t, ht, h⟩ := List.mem_flatMap.1 h
 obtain ⟨r, _, rfl⟩ := List.mem_map.1 h
 exact ⟨t, ht, rfl⟩
theorem flat_place (ts : List Ty) (q : Nat) (h : q ∈ (flatT ts).map plF) : q ∈ placesT ts := by
 obtain ⟨p, hp, rfl⟩ := List.mem_map.1 h
 unfold flatT at hp
 obtain ⟨t, ht, hp⟩ := List.mem_flatMap.1 hp
 obtain ⟨r, hr, rfl⟩ := List.mem_map.1 hp
 exact List.mem_flatMap.2 ⟨t, ht, by simp [plF]; exact .inr ⟨r, hr, rfl⟩⟩
theorem ty_place (ts : List Ty) (q : Nat) (h : q ∈ ts.map Ty.place) : q ∈ placesT ts := by
 obtain ⟨t, ht, rfl⟩ := List.mem_map.1 h
 exact List.mem_flatMap.2 ⟨t, ht, by simp⟩
theorem rels_flg (ah0 : List Ty) (t : Ty) (hn : ¬ ∃ y ∈ ah0, y.name = t.name) (q : Nat) : ∀ (l acc : List Rl), Flg likeF plF (flatT ah0 ++ acc.map fun r => (t.name, r)) (l.map fun r => (t.name, r)) q ↔ Flg likeK Prod.snd (acc.map fun r => (r.name, r.place)) (l.map fun r => (r.name, r.place)) q
 | [], acc => ⟨fun h => absurd h Flg.nil, fun h => absurd h Flg.nil⟩
 | r :: l, acc => by
  have ih := rels_flg ah0 t hn q l (acc ++ [r])
  rw [List.map_append, List.map_append, List.map_cons, List.map_nil, List.map_cons, List.map_nil, ← List.append_assoc] at ih
  rw [List.map_cons, List.map_cons, Flg.cons, Flg.cons, ih]
  have key : (∃ y ∈ flatT ah0 ++ acc.map (fun r => (t.name, r)), likeF y (t.name, r)) ↔ ∃ y ∈ acc.map (fun r => (r.name, r.place)), likeK y (r.name, r.place) := by
   constructor
   ·rintro ⟨y, hy, h1, h2⟩
    rcases List.mem_append.1 hy with hy | hy
    ·obtain ⟨t', ht', e⟩ := flat_fst ah0 y hy
     exact absurd ⟨t', ht', e.trans h1⟩ hn
    ·obtain ⟨r', hr', rfl⟩ := List.mem_map.1 hy
     exact ⟨_, List.mem_map.2 ⟨r', hr', rfl⟩, h2⟩
   ·rintro ⟨y, hy, h⟩
    obtain ⟨r', hr', rfl⟩ := List.mem_map.1 hy
    exact ⟨(t.name, r'), List.mem_append.2 (.inr (List.mem_map.2 ⟨r', hr', rfl⟩)), rfl, h⟩
  rw [key]
  rfl
theorem twT_least : ∀ (bs ah0 : List Ty), (placesT bs).Pairwise (· < ·) → LeastI (intO (twT (ah0.map Ty.name) bs)) (fun q => Flg likeT Ty.place ah0 bs q ∨ Flg likeF plF (flatT ah0) (flatT bs) q)
 | [], ah0, _ => .inl ⟨rfl, fun q h => h.elim (fun h => Flg.nil h) (fun h => Flg.nil h)⟩
 | t :: bs, ah0, ho => by
  have eF : flatT (t :: bs) = (t.rels.map fun r => (t.name, r)) ++ flatT bs := by simp [flatT]
  have eP : placesT (t :: bs) = (t.place :: t.rels.map fun r => r.place) ++ placesT bs := by simp [placesT]
  have eA : flatT (ah0 ++ [t]) = flatT ah0 ++ t.rels.map fun r => (t.name, r) := by simp [flatT]
  rw [eP, List.pairwise_append] at ho
  obtain ⟨ho1, ho2, ho3⟩ := ho
  rw [List.pairwise_cons] at ho1
  have hall : ∀ q, (Flg likeT Ty.place ah0 (t :: bs) q ∨ Flg likeF plF (flatT ah0) (flatT (t :: bs)) q) → t.place ≤ q := fun q hq => by
   have hm : q ∈ placesT (t :: bs) := by
    rcases hq with hq | hq
    ·exact ty_place _ _ (Flg.mem hq)
    ·exact flat_place _ _ (Flg.mem hq)
   rw [eP, List.mem_append, List.mem_cons] at hm
   rcases hm with (rfl | hm) | hm
   ·exact Nat.le_refl _
   ·exact Nat.le_of_lt (ho1.1 q hm)
   ·exact Nat.le_of_lt (ho3 t.place (by simp) q hm)
  rw [twT, List.any_map]
  cases hd : (ah0.any ((fun m => eqs m t.name) ∘ Ty.name))
  ·have hn : ¬ ∃ y ∈ ah0, y.name = t.name := fun ⟨y, hy, e⟩ => by
    rw [List.any_eq_false] at hd
    exact hd y hy ((eqs_iff _ _).2 e)
   simp only [Bool.false_eq_true, if_false]
   have hr := twN_least (t.rels.map fun r => (r.name, r.place)) [] (by rw [List.map_map]; exact ho1.2)
   have hfl : ∀ q, (Flg likeT Ty.place ah0 (t :: bs) q ∨ Flg likeF plF (flatT ah0) (flatT (t :: bs)) q) ↔ Flg likeK Prod.snd [] (t.rels.map fun r => (r.name, r.place)) q ∨ (Flg likeT Ty.place (ah0 ++ [t]) bs q ∨ Flg likeF plF (flatT (ah0 ++ [t])) (flatT bs) q) := fun q => by
    rw [Flg.cons, eF, Flg.append, eA]
    have hk := rels_flg ah0 t hn q t.rels []
    simp only [List.map_nil, List.append_nil] at hk
    rw [hk]
    constructor
    ·rintro ((⟨⟨y, hy, e⟩, _⟩ | h) | h | h)
     ·exact absurd ⟨y, hy, e⟩ hn
     ·exact .inr (.inl h)
     ·exact .inl h
     ·exact .inr (.inr h)
    ·rintro (h | h | h)
     ·exact .inr (.inl h)
     ·exact .inl (.inr h)
     ·exact .inr (.inr h)
   have hlate : ∀ q, (Flg likeT Ty.place (ah0 ++ [t]) bs q ∨ Flg likeF plF (flatT (ah0 ++ [t])) (flatT bs) q) → q ∈ placesT bs := fun q hq => by
    rcases hq with hq | hq
    ·exact ty_place _ _ (Flg.mem hq)
    ·exact flat_place _ _ (Flg.mem hq)
   unfold twR
   cases hw : twN [] (t.rels.map fun r => (r.name, r.place)) with
   | some p =>
    rw [show ([] : List (ByteArray × Nat)).map Prod.fst = [] from rfl, hw] at hr
    simp only
    rcases hr with ⟨h1, _⟩ | ⟨p', h1, h2, h3⟩
    ·simp only [intO] at h1
     omega
    ·simp only [intO] at h1
     obtain rfl : p = p' := by omega
     refine .inr ⟨p, rfl, (hfl p).2 (.inl h2), fun q hq => ?_⟩
     rcases (hfl q).1 hq with hq | hq
     ·exact h3 q hq
     ·have hp := Flg.mem h2
      rw [List.map_map] at hp
      exact Nat.le_of_lt (ho3 p (by simp only [List.mem_cons]; exact .inr hp) q (hlate q hq))
   | none =>
    rw [show ([] : List (ByteArray × Nat)).map Prod.fst = [] from rfl, hw] at hr
    simp only
    have hnone : ∀ q, ¬ Flg likeK Prod.snd [] (t.rels.map fun r => (r.name, r.place)) q := by
     rcases hr with ⟨_, h⟩ | ⟨p', h1, _⟩
     ·exact h
     ·simp only [intO] at h1
      omega
    have ih := twT_least bs (ah0 ++ [t]) ho2
    rw [List.map_append] at ih
    refine ih.congr (fun q => ?_)
    rw [hfl q]
    exact ⟨.inr, fun h => h.elim (fun h => absurd h (hnone q)) id⟩
  ·simp only [if_true]
   rw [List.any_eq_true] at hd
   obtain ⟨y, hy, hl⟩ := hd
   exact .inr ⟨t.place, rfl, .inl (Flg.cons.2 (.inl ⟨⟨y, hy, (eqs_iff _ _).1 hl⟩, rfl⟩)), hall⟩
/-- The tables' flags are the text's. -/
theorem Flg.map {α β : Type} {like : α → α → Prop} {like' : β → β → Prop} {pl : α → Nat} {pl' : β → Nat} (f : α → β) (h1 : ∀ y x, like y x ↔ like' (f y) (f x)) (h2 : ∀ x, pl x = pl' (f x)) (q : Nat) : ∀ (l acc : List α), Flg like pl acc l q ↔ Flg like' pl' (acc.map f) (l.map f) q
 | [], acc => ⟨fun h => absurd h Flg.nil, fun h => absurd h Flg.nil⟩
 | x :: l, acc => by
  have ih := Flg.map f h1 h2 q l (acc ++ [x])
  rw [List.map_append] at ih
  rw [List.map_cons, Flg.cons, Flg.cons, ih, h2 x]
  have key : (∃ y ∈ acc, like y x) ↔ ∃ y ∈ acc.map f, like' y (f x) := by
   constructor
   ·rintro ⟨y, hy, h⟩
    exact ⟨f y, List.mem_map.2 ⟨y, hy, rfl⟩, (h1 y x).1 h⟩
   ·rintro ⟨y, hy, h⟩
    obtain ⟨z, hz, rfl⟩ := List.mem_map.1 hy
    exact ⟨z, hz, (h1 z x).2 h⟩
  rw [key]
  rfl
def tri (x : RV) : ByteArray × ByteArray × Nat := (x.kd, x.nm, x.pl)
def triF (p : ByteArray × Rl) : ByteArray × ByteArray × Nat := (p.1, p.2.name, p.2.place)
theorem FlatB.tri {pl : List PV} : ∀ (rl : List RV) (ps : List (ByteArray × Rl)), FlatB pl rl ps → rl.map tri = ps.map triF
 | [], [], _ => rfl
 | x :: xs, p :: ps, h => by
  obtain ⟨⟨h1, h2, h3, _⟩, h4⟩ := h
  rw [List.map_cons, List.map_cons, FlatB.tri xs ps h4]
  unfold Go.Proofs.YtlbpnlngckgcbaaGreatDoor.tri triF
  rw [h1, h2, h3]
 | [], _ :: _, h => h.elim
 | _ :: _, [], h => h.elim
theorem rtwice_twT {pl : List PV} {kl : List (ByteArray × Nat)} {rl : List RV} {ts : List Ty} (h : ModB pl kl rl ts) (ho : (placesT ts).Pairwise (· < ·)) : rtwice kl rl = intO (twT [] ts) := by
 refine (rtwice_least kl rl).unique ((twT_least ts [] ho).congr (fun q => ?_))
 have e1 := Flg.map (like := likeT) (like' := likeK) (pl := Ty.place) (pl' := Prod.snd) (fun t : Ty => (t.name, t.place)) (fun y x => Iff.rfl) (fun x => rfl) q ts []
 have e2 := Flg.map (like := likeR) (like' := fun (y x : ByteArray × ByteArray × Nat) => y.1 = x.1 ∧ y.2.1 = x.2.1) (pl := RV.pl) (pl' := fun x => x.2.2) tri (fun y x => Iff.rfl) (fun x => rfl) q rl []
 have e3 := Flg.map (like := likeF) (like' := fun (y x : ByteArray × ByteArray × Nat) => y.1 = x.1 ∧ y.2.1 = x.2.1) (pl := plF) (pl' := fun x => x.2.2) triF (fun y x => Iff.rfl) (fun x => rfl) q (flatT ts) []
 rw [FlatB.tri rl _ h.2] at e2
 rw [h.1]
 simp only [List.map_nil] at e1 e2 e3
 show Flg likeT Ty.place [] ts q ∨ Flg likeF plF (flatT []) (flatT ts) q ↔ _
 rw [show flatT [] = [] from rfl, e1, e3, e2]
/-! The places of a model that was read ascend. -/
def AscP (P : Nat → Nat) (lo hi : Nat) (l : List Nat) : Prop := ∃ ks : List Nat, l = ks.map P ∧ ks.Pairwise (· < ·) ∧ ∀ k ∈ ks, lo ≤ k ∧ k < hi
theorem AscP.nil (P : Nat → Nat) (lo hi : Nat) : AscP P lo hi [] := ⟨[], rfl, by simp, by simp⟩
theorem AscP.one (P : Nat → Nat) {lo hi k : Nat} (h1 : lo ≤ k) (h2 : k < hi) : AscP P lo hi [P k] := ⟨[k], rfl, by simp, by simp; omega⟩
theorem AscP.app {P : Nat → Nat} {lo mid hi : Nat} {l1 l2 : List Nat} (h : AscP P lo mid l1) (k : AscP P mid hi l2) (h1 : lo ≤ mid) (h2 : mid ≤ hi) : AscP P lo hi (l1 ++ l2) := by
 obtain ⟨a, rfl, a1, a2⟩ := h
 obtain ⟨c, rfl, c1, c2⟩ := k
 refine ⟨a ++ c, by rw [List.map_append], ?_, ?_⟩
 ·rw [List.pairwise_append]
  exact ⟨a1, c1, fun x hx y hy => by have := (a2 x hx).2; have := (c2 y hy).1; omega⟩
 ·intro x hx
  rcases List.mem_append.1 hx with hx | hx
  ·have := a2 x hx; omega
  ·have := c2 x hx; omega
theorem AscP.wide {P : Nat → Nat} {lo hi lo' hi' : Nat} {l : List Nat} (h : AscP P lo hi l) (h1 : lo' ≤ lo) (h2 : hi ≤ hi') : AscP P lo' hi' l := by
 obtain ⟨a, rfl, a1, a2⟩ := h
 exact ⟨a, rfl, a1, fun x hx => by have := a2 x hx; omega⟩
theorem AscP.sorted {P : Nat → Nat} {lo hi : Nat} {l : List Nat} (h : AscP P lo hi l) (hP : ∀ i j, i < j → j < hi → P i < P j) : l.Pairwise (· < ·) := by
 obtain ⟨a, rfl, a1, a2⟩ := h
 rw [List.pairwise_map]
 refine List.Pairwise.imp_of_mem (fun {x y} hx hy hxy => hP x y hxy (a2 y hy).2) a1
section
variable (T : Nat → ByteArray) (P : Nat → Nat)
theorem relR_place (i : Nat) (r : Rl) (j : Nat) (h : relR T P i = .ok (r, j)) : r.place = P i ∧ i < j := by
 refine ⟨?_, relR_mono T P _ _ _ h⟩
 unfold relR at h
 split at h
 ·simp at h
 ·split at h
  ·simp at h
  ·split at h
   ·simp only [Except.ok.injEq, Prod.mk.injEq] at h
    rw [← h.1]
   ·simp at h
theorem relsL_asc : ∀ (f : Nat) (acc : List Rl) (i : Nat) (rs : List Rl) (m : Nat), relsL T P f acc i = .ok (rs, m) → ∃ new, rs = acc ++ new ∧ i < m ∧ AscP P i m (new.map fun r => r.place)
 | 0, acc, i, rs, m, h => by simp [relsL] at h
 | f + 1, acc, i, rs, m, h => by
  unfold relsL at h
  split at h
  ·simp only [Except.ok.injEq, Prod.mk.injEq] at h
   obtain ⟨rfl, rfl⟩ := h
   exact ⟨[], by simp, by omega, AscP.nil _ _ _⟩
  ·split at h
   ·simp at h
   ·split at h
    ·simp at h
    ·rename_i r j hr
     obtain ⟨h1, h2⟩ := relR_place T P i r j hr
     obtain ⟨new, rfl, h3, h4⟩ := relsL_asc f _ _ _ _ h
     refine ⟨r :: new, by simp, by omega, ?_⟩
     have := (AscP.one P (lo := i) (hi := j) (Nat.le_refl i) h2).app h4 (by omega) (by omega)
     rw [List.map_cons, h1]
     exact this
theorem modelL_asc : ∀ (f : Nat) (acc : List Ty) (i : Nat) (ts : List Ty) (m : Nat), modelL T P f acc i = .ok (ts, m) → ∃ new, ts = acc ++ new ∧ i ≤ m ∧ AscP P i m (placesT new)
 | 0, acc, i, ts, m, h => by simp [modelL] at h
 | f + 1, acc, i, ts, m, h => by
  unfold modelL at h
  split at h
  ·simp only [Except.ok.injEq, Prod.mk.injEq] at h
   obtain ⟨rfl, rfl⟩ := h
   exact ⟨[], by simp, by omega, AscP.nil _ _ _⟩
  ·split at h
   ·simp at h
   ·split at h
    ·simp at h
    ·rename_i t j ht
     obtain ⟨new, rfl, h3, h4⟩ := modelL_asc f _ _ _ _ h
     rw [typeR_kind] at ht
     split at ht
     ·unfold kindR at ht
      split at ht
      ·simp at ht
      ·rename_i u j1 hn
       have hm := nameThenR_mono T _ _ _ _ hn
       split at ht
       ·simp at ht
       ·rename_i rs j2 hrs
        simp only [Except.ok.injEq, Prod.mk.injEq] at ht
        obtain ⟨rfl, rfl⟩ := ht
        obtain ⟨rn, e, h5, h6⟩ := relsL_asc T P _ _ _ _ _ hrs
        rw [List.nil_append] at e
        subst e
        refine ⟨⟨T (i + 1), P (i + 1), rs⟩ :: new, by simp, by omega, ?_⟩
        have a1 := AscP.one P (lo := i) (hi := j1) (k := i + 1) (by omega) (by omega)
        have a2 := (a1.app h6 (by omega) (by omega)).app h4 (by omega) (by omega)
        simpa [placesT] using a2
     ·simp at ht
/-- The places of the signs of an expression, in the order of the text. -/
def signsE : Ex → List Nat
 | ⟨n, some x, some y⟩ => signsE x ++ n.place :: signsE y
 | ⟨_, none, _⟩ => []
 | ⟨_, some _, none⟩ => []
def AscR (r : Nat → Res Ex) : Prop := ∀ i x j, r i = .ok (x, j) → AscP P i j (signsE x)
theorem joinL_asc (l : List ByteArray) (part : Nat → Res Ex) (hm : Mono part) (hp : AscR P part) : ∀ f y i0 i x j, joinL T P l part f y i = .ok (x, j) → i0 ≤ i → AscP P i0 i (signsE y) → AscP P i0 j (signsE x)
 | 0, y, i0, i, x, j, h, _, _ => by simp [joinL] at h
 | f + 1, y, i0, i, x, j, h, h0, ha => by
  unfold joinL at h
  split at h
  ·split at h
   ·simp at h
   ·rename_i z j1 hz
    have h1 := hm _ _ _ hz
    refine joinL_asc l part hm hp f _ i0 j1 x j h (by omega) ?_
    simp only [joinE, signsE]
    have a1 := ha.app (AscP.one P (lo := i) (hi := i + 1) (Nat.le_refl i) (by omega)) h0 (by omega)
    have a2 := a1.app (hp _ _ _ hz) (by omega) (by omega)
    simpa using a2
  ·simp only [Except.ok.injEq, Prod.mk.injEq] at h
   obtain ⟨rfl, rfl⟩ := h
   exact ha
theorem joinR_asc (l : List ByteArray) (part : Nat → Res Ex) (hm : Mono part) (hp : AscR P part) : AscR P (joinR T P l part) := by
 intro i x j h
 unfold joinR at h
 split at h
 ·simp at h
 ·rename_i y j1 hy
  have h1 := hm _ _ _ hy
  exact joinL_asc T P l part hm hp _ _ i j1 x j h (by omega) (hp _ _ _ hy)
theorem unitR_asc (room : Bool) (inner : Nat → Res Ex) (hm : Mono inner) (hp : AscR P inner) : AscR P (unitR T P room inner) := by
 intro i x j h
 unfold unitR at h
 split at h
 ·unfold listR at h
  split at h
  ·simp at h
  ·simp only [Except.ok.injEq, Prod.mk.injEq] at h
   rw [← h.1]
   exact AscP.nil _ _ _
 ·split at h
  ·split at h
   ·split at h
    ·simp at h
    ·rename_i y j1 hy
     have h1 := hm _ _ _ hy
     split at h
     ·simp only [Except.ok.injEq, Prod.mk.injEq] at h
      obtain ⟨rfl, rfl⟩ := h
      exact (hp _ _ _ hy).wide (by omega) (by omega)
     ·simp at h
   ·simp at h
  ·unfold ownTie at h
   split at h
   ·simp at h
   ·split at h
    ·split at h
     ·simp at h
     ·simp only [Except.ok.injEq, Prod.mk.injEq] at h
      rw [← h.1]
      exact AscP.nil _ _ _
    ·simp only [Except.ok.injEq, Prod.mk.injEq] at h
     rw [← h.1]
     exact AscP.nil _ _ _
theorem exprR_asc : ∀ n, AscR P (exprR T P n)
 | 0 => joinR_asc T P _ _ (chainR_mono T P false _ (fun i x j h => by simp at h)) (joinR_asc T P _ _ (unitR_mono T P false _ (fun i x j h => by simp at h)) (unitR_asc T P false _ (fun i x j h => by simp at h) (fun i x j h => by simp at h)))
 | n + 1 => joinR_asc T P _ _ (chainR_mono T P true _ (exprR_mono T P n)) (joinR_asc T P _ _ (unitR_mono T P true _ (exprR_mono T P n)) (unitR_asc T P true _ (exprR_mono T P n) (exprR_asc n)))
end
end Go.Proofs.YtlbpnlngckgcbaaGreatDoor
