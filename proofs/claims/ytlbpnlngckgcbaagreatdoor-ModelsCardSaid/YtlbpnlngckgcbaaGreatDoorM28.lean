import Derived.Test.YtlbpnlngckgcbaaGreatDoorM27
import Derived.Deep.LoopGhost
import Derived.Deep.Upon
namespace Go.Proofs.YtlbpnlngckgcbaaGreatDoor
open Go.RowKit Go.PlainAid
set_option linter.unusedSimpArgs false
set_option linter.unusedVariables false
/-- All blocks but those of spots are as they were. -/
def NS (w w' : World) : Prop := ∀ (g : Nat) (cs : Array Value) (T : TypeId) (f : Nat × Nat), w.heap[g]? = some (Obj.cells cs T f) → T ≠ 291 → w'.heap[g]? = w.heap[g]?
theorem NS.below {w w' : World} (h : Below w.heap.size w w') : NS w w' := fun g cs T f hh _ => h.block g (lt_of_some hh)
theorem NS.trans {x y z : World} (h : NS x y) (k : NS y z) : NS x z := fun g cs T f hh ht => (k g cs T f ((h g cs T f hh ht).trans hh) ht).trans (h g cs T f hh ht)
theorem NS.refl (w : World) : NS w w := fun _ _ _ _ _ _ => rfl
theorem NS.g {b : Nat} {w w' : World} (h : NS w w') : GKept b w w' := fun g cs f _ hh => h g cs _ f hh (by decide)
theorem RC.ns {b : Nat} {w w' : World} {sv : Value} {rs : List Rl} {rl : List (Rl × Value)} (h : RC b w sv rs rl) (k : NS w w') : RC b w' sv rs rl :=
 ⟨h.fst, ownsRow_frame h.row (fun g cs f _ hh => k g cs _ f hh (by decide)), fun p hp => RepEx.frame k.g _ _ (h.ex p hp), h.len, h.okp, h.okg, h.wf⟩
theorem MC.ns {b : Nat} {w w' : World} {sv : Value} {ts : List Ty} {tl : List (Ty × Value)} (h : MC b w sv ts tl) (k : NS w w') (hs : w.heap.size ≤ w'.heap.size) : MC b w' sv ts tl :=
 ⟨h.fst, ownsRow_frame h.row (fun g cs f _ hh => k g cs _ f hh (by decide)), fun p hp => by obtain ⟨rl, hr⟩ := h.rels p hp; exact ⟨rl, hr.ns k⟩, h.len, Nat.lt_of_lt_of_le h.blt hs⟩
theorem Blk.ns {w w' : World} {g : Nat} {cs : Array Value} {T : TypeId} (h : Blk w g cs T) (k : NS w w') (ht : T ≠ 291) : Blk w' g cs T := (k g cs T (0, 0) h ht).trans h
/-- How many spots may still come, of those that were not found. -/
def restN (nd : Sp → List Sp) (f : List Sp) : List Sp → Nat
 | [] => 0
 | k :: ks => (if f.any (fun y => eqSp k y) then 0 else (nd k).length) + restN nd f ks
theorem restN_mono (nd : Sp → List Sp) (f : List Sp) (x : Sp) : ∀ ks, restN nd (f ++ [x]) ks ≤ restN nd f ks
 | [] => Nat.le_refl _
 | k :: ks => by
  have h := restN_mono nd f x ks
  simp only [restN, List.any_append]
  cases f.any (fun y => eqSp k y) <;> simp
  ·split <;> omega
  ·exact h
theorem restN_add (nd : Sp → List Sp) (f : List Sp) (x : Sp) (hx : f.any (fun y => eqSp x y) = false) : ∀ ks, x ∈ ks → (nd x).length + restN nd (f ++ [x]) ks ≤ restN nd f ks
 | [], h => by simp at h
 | k :: ks, h => by
  have h1 := restN_mono nd f x ks
  by_cases hk : k = x
  ·subst hk
   have e : eqSp k k = true := (eqSp_iff k k).2 rfl
   simp only [restN, List.any_append, hx, Bool.false_or, List.any_cons, e, List.any_nil, Bool.or_false, if_true, Bool.false_eq_true, if_false]
   omega
  ·have h2 := restN_add nd f x hx ks (by
    rcases List.mem_cons.1 h with e | e
    ·exact absurd e.symm hk
    ·exact e)
   simp only [restN, List.any_append, List.any_cons, List.any_nil, Bool.or_false]
   have e : eqSp k x = false := by
    cases e : eqSp k x
    ·rfl
    ·exact absurd ((eqSp_iff k x).1 e) hk
   rw [e, Bool.or_false]
   omega
theorem restN_nil (nd : Sp → List Sp) (f : List Sp) (x : Sp) (ks : List Sp) (h : nd x = []) : (nd x).length + restN nd (f ++ [x]) ks ≤ restN nd f ks := by
 have := restN_mono nd f x ks
 rw [h]
 simpa using this
def keysP (ts : List Ty) : List Sp := ts.flatMap fun t => t.rels.map fun r => (t.name, r.name)
theorem keys_of (ts : List Ty) (s : Sp) (h : needsAtP ts s ≠ []) : s ∈ keysP ts := by
 unfold needsAtP at h
 split at h
 ·exact absurd rfl h
 ·rename_i t ht
  split at h
  ·exact absurd rfl h
  ·rename_i r hr
   unfold keysP
   rw [List.mem_flatMap]
   refine ⟨t, List.mem_of_find?_eq_some ht, ?_⟩
   rw [List.mem_map]
   refine ⟨r, List.mem_of_find?_eq_some hr, ?_⟩
   have e1 := (eqs_iff _ _).1 (List.find?_some (p := fun t : Ty => eqs t.name s.1) ht)
   have e2 := (eqs_iff _ _).1 (List.find?_some (p := fun r : Rl => eqs r.name s.2) hr)
   obtain ⟨s1, s2⟩ := s
   simp only at e1 e2
   rw [e1, e2]
theorem rest_step (ts : List Ty) (f : List Sp) (x : Sp) (hx : f.any (fun y => eqSp x y) = false) : (needsAtP ts x).length + restN (needsAtP ts) (f ++ [x]) (keysP ts) ≤ restN (needsAtP ts) f (keysP ts) := by
 by_cases h : needsAtP ts x = []
 ·exact restN_nil _ _ _ _ h
 ·exact restN_add _ _ _ hx _ (keys_of ts x h)
/-- What is reached from a list of spots: each once, in the order in which they come. -/
def reachL (nd : Sp → List Sp) : Nat → List Sp → List Sp → List Sp
 | 0, _, f => f
 | _ + 1, [], f => f
 | k + 1, x :: q, f => if f.any (fun y => eqSp x y) then reachL nd k q f else reachL nd k (q ++ nd x) (f ++ [x])
def roundsP (ts : List Ty) (l0 : List Sp) : Nat := l0.length + restN (needsAtP ts) [] (keysP ts)
def reachedP (ts : List Ty) (l0 : List Sp) : List Sp := reachL (needsAtP ts) (roundsP ts l0 + 1) l0 []
def hangsP (ts : List Ty) (l0 : List Sp) (x : Sp) : Bool := (reachedP ts l0).any (fun y => eqSp x y)
theorem kept_block {w w' : World} {may : MemPlace → Prop} (h : w.keptBut w' may) {i : Nat} (hi : i < w.heap.size) (hn : ∀ j, ¬ may (.cell i j)) (hm : ¬ may (.map i)) : w'.heap[i]? = w.heap[i]? := by
 have h3 := h.2.2 i hi
 revert h3
 cases e1 : w.heap[i]? with
 | none => cases e2 : w'.heap[i]? with
  | none => simp
  | some o' => intro h3; exact h3
 | some o => cases e2 : w'.heap[i]? with
  | none => cases o <;> (intro h3; exact h3)
  | some o' =>
   cases o with
   | cells c t fr =>
    cases o' with
    | cells c' t' fr' =>
     rintro ⟨rfl, rfl, hs, hc⟩
     have : c' = c := Array.ext_getElem? (fun j => hc j (hn j))
     rw [this]
    | _ => intro h3; exact h3
   | map es cl =>
    cases o' with
    | map es' cl' =>
     intro h3
     rcases h3 with h3 | ⟨rfl, rfl⟩
     ·exact absurd h3 hm
     ·rfl
    | _ => intro h3; exact h3
   | _ => intro h3; exact h3
/-- A row of spots, anywhere in its block. -/
structure QR (base : Nat) (w : World) (ao : Option Addr) (g off cap : Nat) (l : List Sp) : Prop where
 came : Came w 2 ao g off l.length cap (spCells l)
 max : cap ≤ maxLen
 at_ : 0 < cap → base ≤ g
theorem QR.of_own {base : Nat} {w : World} {v : Value} {l : List Sp} (h : w.ownsRow base 291 2 v l.length (spCells l)) : ∃ ao g cap, v = .slice ao l.length cap ∧ QR base w ao g 0 cap l ∧ (0 < cap → v.ownBlock = some g) := by
 rcases h with ⟨h1, ⟨rfl, h2⟩ | ⟨g, cap, cur, rfl, hg, hh, hle, hm, hs, ht⟩⟩
 ·refine ⟨none, 0, 0, by rw [h2], ⟨⟨by omega, by omega, by omega, spCells_length _, ?_, by intro j hj; omega⟩, by unfold maxLen; omega, by omega⟩, by omega⟩
  intro j u hj
  have := (List.getElem?_eq_some_iff.1 hj).1
  rw [spCells_length] at this
  omega
 ·refine ⟨_, g, cap, rfl, ⟨⟨hle, fun _ => rfl, fun _ => lt_of_some hh, spCells_length _, ?_, ?_⟩, hm, fun _ => hg⟩, fun _ => rfl⟩
  ·intro j u hj
   have hlt := (List.getElem?_eq_some_iff.1 hj).1
   rw [← ht, List.getElem?_take] at hj
   split at hj
   ·simp [World.cell?, hh] at hj ⊢
    exact hj
   ·simp at hj
  ·intro j hj
   have : 0 + l.length * 2 + j < cur.size := by rw [hs]; rw [Nat.sub_mul] at hj; omega
   refine ⟨?_, ?_⟩
   ·simp [World.cell?, hh]
    omega
   ·simp [World.frozen?, hh]
theorem QR.frame {base : Nat} {w w' : World} {ao : Option Addr} {g off cap : Nat} {l : List Sp} (h : QR base w ao g off cap l) (hg : 0 < cap → w'.heap[g]? = w.heap[g]?) (hs : w.heap.size ≤ w'.heap.size) : QR base w' ao g off cap l := by
 obtain ⟨hc, hm, ha⟩ := h
 refine ⟨⟨hc.le, hc.addr, fun h0 => Nat.lt_of_lt_of_le (hc.lt h0) hs, hc.oldsLen, ?_, ?_⟩, hm, ha⟩
 ·intro j u hj
  have hlt := (List.getElem?_eq_some_iff.1 hj).1
  have h0 : 0 < cap := by have := hc.le; rw [spCells_length] at hlt; omega
  exact (World.cell?_of_block (a := ⟨g, off + j, none⟩) (hg h0)).trans (hc.olds j u hj)
 ·intro j hj
  have h0 : 0 < cap := by
   rcases Nat.eq_zero_or_pos cap with e | e
   ·subst e; simp at hj
   ·exact e
  have e1 := World.cell?_of_block (a := ⟨g, off + l.length * 2 + j, none⟩) (hg h0)
  have e2 := World.frozen?_of_block (a := ⟨g, off + l.length * 2 + j, none⟩) (hg h0)
  rw [e1, e2]
  exact hc.spare j hj
theorem QR.head {base : Nat} {w : World} {ao : Option Addr} {g off cap : Nat} {x : Sp} {l : List Sp} (h : QR base w ao g off cap (x :: l)) : 0 < cap ∧ ao = some ⟨g, off, none⟩ ∧ w.cell? ⟨g, off, none⟩ = some (.string x.1) ∧ w.cell? ⟨g, off + 1, none⟩ = some (.string x.2) := by
 have h0 : 0 < cap := by have := h.came.le; simp at this; omega
 refine ⟨h0, h.came.addr h0, ?_, ?_⟩
 ·exact h.came.olds 0 _ (by simp [spCells, spC])
 ·exact h.came.olds 1 _ (by simp [spCells, spC])
theorem QR.tail {base : Nat} {w : World} {ao : Option Addr} {g off cap : Nat} {x : Sp} {l : List Sp} (h : QR base w ao g off cap (x :: l)) (ao' : Option Addr) (ha : 0 < cap - 1 → ao' = some ⟨g, off + 2, none⟩) : QR base w ao' g (off + 2) (cap - 1) l := by
 obtain ⟨hc, hm, hat⟩ := h
 have hle := hc.le
 simp only [List.length_cons] at hle
 refine ⟨⟨by omega, ha, fun h0 => hc.lt (by omega), spCells_length _, ?_, ?_⟩, by omega, fun h0 => hat (by omega)⟩
 ·intro j u hj
  rw [show off + 2 + j = off + (j + 2) by omega]
  exact hc.olds (j + 2) u (by simpa [spCells, spC] using hj)
 ·intro j hj
  have := hc.spare j (by simp only [List.length_cons]; rw [show cap - (l.length + 1) = cap - 1 - l.length by omega]; exact hj)
  simp only [List.length_cons] at this
  rw [show off + 2 + l.length * 2 + j = off + (l.length + 1) * 2 + j by omega]
  exact this
theorem QR.app {base : Nat} {w w' : World} {ao : Option Addr} {g off cap r : Nat} {q nl : List Sp} {v' : Value} (h : QR base w ao g off cap q) (hb : base ≤ w.heap.size) (U : Upon w 291 2 ao g off q.length cap (spCells q) w' v' nl.length (spCells nl) r) :
  ∃ ao' g' off' cap', v' = .slice ao' (q ++ nl).length cap' ∧ QR base w' ao' g' off' cap' (q ++ nl) ∧ (0 < cap' → (0 < cap ∧ g' = g) ∨ w.heap.size ≤ g') := by
 have hks := U.kept.size
 rcases U.val with ⟨hle, hv, hr⟩ | ⟨hgt, g2, c2, hv, ho⟩
 ·refine ⟨ao, g, off, cap, by rw [hv, List.length_append], ⟨⟨by rw [List.length_append]; exact hle, h.came.addr, fun h0 => Nat.lt_of_lt_of_le (h.came.lt h0) hks, spCells_length _, ?_, ?_⟩, h.max, h.at_⟩, fun h0 => .inl ⟨h0, rfl⟩⟩
  ·intro j u hj
   have hlt := (List.getElem?_eq_some_iff.1 hj).1
   rw [spCells_length, List.length_append] at hlt
   have h0 : 0 < cap := by omega
   rw [U.inArray h.came h0 hr j (by omega), ← spCells_append]
   exact hj
  ·intro j hj
   rw [List.length_append] at hj ⊢
   have h0 : 0 < cap := by
    rcases Nat.eq_zero_or_pos cap with e | e
    ·subst e; simp at hj
    ·exact e
   have hs := h.came.spare (nl.length * 2 + j) (by rw [Nat.sub_mul] at hj ⊢; omega)
   rw [show off + (q.length + nl.length) * 2 + j = off + q.length * 2 + (nl.length * 2 + j) by omega]
   have hkl := U.ksLen
   rw [U.old (h.came.lt h0) (fun j' hj' ⟨_, e⟩ => by omega), U.frozen _ (h.came.lt h0)]
   exact hs
 ·refine ⟨_, g2, 0, c2, by rw [hv, List.length_append], ⟨⟨by rw [List.length_append]; exact ho.le, fun _ => rfl, ?_, spCells_length _, ?_, ?_⟩, ho.max, fun _ => Nat.le_trans hb ho.new⟩, fun _ => .inr ho.new⟩
  ·intro h0
   have := (ho.there 0 (by omega)).1
   exact World.block_lt_of_cell? _ _ (Option.isSome_iff_exists.1 this).choose_spec
  ·intro j u hj
   have hlt := (List.getElem?_eq_some_iff.1 hj).1
   rw [spCells_length, List.length_append] at hlt
   rw [Nat.zero_add, ho.holds j (by omega), ← spCells_append]
   exact hj
  ·intro j hj
   rw [List.length_append, Nat.sub_mul] at hj
   rw [List.length_append]
   exact ho.there _ (by omega)
theorem QR.others {w w' : World} {ao : Option Addr} {g off len cap r n : Nat} {q ks : List Value} {v' : Value} (U : Upon w 291 2 ao g off len cap q w' v' n ks r) {i : Nat} (hi : i < w.heap.size) (hne : 0 < cap → i ≠ g) : w'.heap[i]? = w.heap[i]? := by
 refine kept_block U.kept hi ?_ ?_
 ·rintro j ⟨j', hj', e⟩
  have h0 := U.capPos hj'
  injection e with e1 e2
  exact hne h0 e1
 ·rintro ⟨j', hj', e⟩
  cases e
theorem QR.src {base : Nat} {w : World} {sv : Value} {l : List Sp} (h : w.ownsRow base 291 2 sv l.length (spCells l)) : Src Tryz.prog 2 288 sv l.length (spCells l) w := by
 rcases h with ⟨h1, ⟨rfl, h2⟩ | ⟨g, cap, cur, rfl, hg, hh, hle, hm, hs, ht⟩⟩
 ·have : l = [] := List.eq_nil_of_length_eq_zero h2
  subst this
  exact Src.ofNil w Tryz.underlying288 0
 ·refine Src.ofSlice w Tryz.underlying288 _ _ _ _ (spCells_length _) ?_ (sp_one l)
  intro j u hj
  have hlt := (List.getElem?_eq_some_iff.1 hj).1
  rw [← ht, List.getElem?_take] at hj
  split at hj
  ·rw [Addr.add_lit]
   simp [World.cell?, hh] at hj ⊢
   exact hj
  ·simp at hj
theorem tape_setCells (b : Nat) : ∀ (vs : List Value) (o : Nat) (w : World), (w.setCells b o vs).tape = w.tape
 | [], _, _ => rfl
 | v :: r, o, w => (tape_setCells b r (o + 1) _).trans ((Below.refl 0 w).setCell (p := ⟨b, o, none⟩) (Nat.zero_le _) v).tape
theorem run_append_q {P : Program} (hT : P.underlying 288 = some (.slice 291)) {base : Nat} {w : World} {ao : Option Addr} {g off cap : Nat} {q nl : List Sp} (h : QR base w ao g off cap q) (ty : TypeId) (i : TypeInfo) (z : Value) (hi : P.info? 291 = some i) (hz : i.zero = some z) (hs2 : i.size = 2) (hby : i.bytes = 32) (hzs : z.cells.size = 2)
  (x : Value) (hs : Src P 2 288 x nl.length (spCells nl) w) (hl : q.length + nl.length ≤ 4000000000000) :
  ∃ v' w', (Builtin.append_ #[288, 288] ty #[.slice ao q.length cap, x]).run P w = .ok v' w' ∧ Upon w 291 2 ao g off q.length cap (spCells q) w' v' nl.length (spCells nl) (Upon.next q.length cap 2 0 0 nl.length) ∧ w'.tape = w.tape := by
 obtain ⟨v', w', e, U⟩ := run_append_upon (P := P) h.came 288 288 ty i z 32 hT hi hz hs2 hby hzs (Upon.start h.came) x nl.length (spCells nl) hs (by unfold maxLen; omega) (by omega)
 refine ⟨v', w', e, by simpa using U, ?_⟩
 have hkl := spCells_length nl
 by_cases hroom : q.length + nl.length ≤ cap
 ·by_cases h0 : 0 < cap
  ·have ea := h.came.addr h0
   subst ea
   have := run_append_room_src (P := P) (w := w) 288 288 ty 291 i hT hi g off q.length cap x nl.length (spCells nl) (by rw [hs2]; exact hs) hroom
    (fun j hj => by rw [hs2]; exact (h.came.spare j (by rw [Nat.sub_mul]; omega)).1) (fun j hj => by rw [hs2]; exact (h.came.spare j (by rw [Nat.sub_mul]; omega)).2)
   rw [e] at this
   injection this with h1 h2
   rw [h2]
   exact tape_setCells _ _ _ _
  ·have hn : nl = [] := List.eq_nil_of_length_eq_zero (by omega)
   subst hn
   have := run_append_nothing (P := P) w 288 288 ty 291 i hT hi ao q.length cap h.came.le x (by rw [hs2]; exact hs)
   rw [e] at this
   injection this with h1 h2
   rw [h2]
 ·have hold : (Builtin.firstCells i.size q.length (.slice ao q.length cap)).run P w.drew = .ok (spCells q).toArray w.drew := by
   rw [hs2]
   by_cases h0 : 0 < cap
   ·rw [h.came.addr h0]
    exact run_firstCells_some w.drew 2 q.length _ _ _ _ (spCells_length _) (fun j v hj => by rw [Addr.add_lit]; exact h.came.olds j v hj)
   ·have hle := h.came.le
    have hn : q = [] := List.eq_nil_of_length_eq_zero (by omega)
    subst hn
    cases ao with
    | none => exact run_firstCells_none _ _ _ _ _
    | some a => exact run_firstCells_some w.drew 2 0 _ _ _ [] (by simp) (fun j v hj => by simp at hj)
  have := run_append_grow_src (P := P) (w := w) 288 288 ty 291 i z hT hi hz ao q.length cap (spCells q) hold x nl.length (spCells nl) (by rw [hs2]; exact hs) (by omega) (by omega) (growslice_fits (by omega) (by rw [hby]; omega))
  rw [e] at this
  injection this with h1 h2
  rw [h2]
  rfl
theorem wpList_append_q {P : Program} (hT : P.underlying 288 = some (.slice 291)) {base : Nat} {w : World} {ops : Array Oper} {rest : List Oper} {o : Oper} {a : Act} {Q : Exit → Act → World → Prop} (hgd : o.guard = none) (s x : Operand)
  (ho : o.op = .call { callee := .builtin .append, args := #[s, x], argTypes := #[288, 288] }) {ao : Option Addr} {g off cap : Nat} {q nl : List Sp} (h : QR base w ao g off cap q)
  (i : TypeInfo) (z : Value) (hi : P.info? 291 = some i) (hz : i.zero = some z) (hs2 : i.size = 2) (hby : i.bytes = 32) (hzs : z.cells.size = 2) (hv : a.eval s = .slice ao q.length cap)
  (xv : Value) (hx : a.eval x = xv) (hs : Src P 2 288 xv nl.length (spCells nl) w) (hl : q.length + nl.length ≤ 4000000000000) (hb : base ≤ w.heap.size)
  (hK : ∀ ao' g' off' cap' w', QR base w' ao' g' off' cap' (q ++ nl) → (0 < cap' → (0 < cap ∧ g' = g) ∨ w.heap.size ≤ g') → w.heap.size ≤ w'.heap.size → w'.os = w.os → w'.tape = w.tape → w'.output = w.output → (∀ i, i < w.heap.size → (0 < cap → i ≠ g) → w'.heap[i]? = w.heap[i]?) → wpList P ops Q rest (a.put o.dst (.slice ao' (q.length + nl.length) cap')) w') : wpList P ops Q (o :: rest) a w := by
 refine wpList_plain hgd fun K hK' => ?_
 obtain ⟨v', w', hrun, U, ht⟩ := run_append_q hT h o.type i z hi hz hs2 hby hzs xv hs hl
 unfold Oper.wp
 simp [execOp, ho, resolve, invoke, builtin, hv, hx, hrun, Result.andThen]
 obtain ⟨ao', g', off', cap', rfl, hq, hd⟩ := h.app hb U
 refine hK' _ _ ?_
 rw [List.length_append]
 exact hK ao' g' off' cap' w' hq hd U.kept.size U.kept.1 ht U.kept.2.1 (fun i hi hne => QR.others U hi hne)
theorem ownsRow_frame_own {w w' : World} {base : Nat} {e : TypeId} {size : Nat} {v : Value} {n : Nat} {xs : List Value} (h : w.ownsRow base e size v n xs)
  (k : ∀ g cs f, v.ownBlock = some g → w.heap[g]? = some (.cells cs e f) → w'.heap[g]? = w.heap[g]?) : w'.ownsRow base e size v n xs := by
 obtain ⟨h1, h2⟩ := h
 refine ⟨h1, ?_⟩
 rcases h2 with h2 | ⟨g, cap, cur, hv, hg, hh, r⟩
 ·exact Or.inl h2
 ·exact Or.inr ⟨g, cap, cur, hv, hg, (k g cur (0, 0) (by rw [hv]; rfl) hh).trans hh, r⟩
theorem reachL_len (nd : Sp → List Sp) : ∀ (k : Nat) (q f : List Sp), (reachL nd k q f).length ≤ f.length + k
 | 0, _, f => by simp [reachL]
 | k + 1, [], f => by simp [reachL]
 | k + 1, x :: q, f => by
  simp only [reachL]
  split
  ·have := reachL_len nd k q f; omega
  ·have := reachL_len nd k (q ++ nd x) (f ++ [x])
   simp at this
   omega
theorem reached_len (ts : List Ty) (l0 : List Sp) : (reachedP ts l0).length ≤ roundsP ts l0 + 1 := by
 have := reachL_len (needsAtP ts) (roundsP ts l0 + 1) l0 []
 simpa [reachedP] using this
theorem restN_le (nd : Sp → List Sp) (n : Nat) (h : ∀ k, (nd k).length ≤ n) (f : List Sp) : ∀ ks, restN nd f ks ≤ ks.length * n
 | [] => by simp [restN]
 | k :: ks => by
  have h1 := restN_le nd n h f ks
  have h2 := h k
  simp only [restN, List.length_cons, Nat.add_mul, Nat.one_mul]
  split <;> omega
/-- How it stands in the rounds: the model's box; the spots that are to come; those that were found. -/
structure RSt (base : Nat) (w wr : World) (mv : Value) (ao : Option Addr) (g off cap : Nat) (q : List Sp) (fv : Value) (f : List Sp) : Prop where
 bel : Below base w wr
 ns : NS w wr
 sz : w.heap.size + 1 ≤ wr.heap.size
 mb : Blk wr w.heap.size #[mv] 75
 qr : QR base wr ao g off cap q
 ro : wr.ownsRow w.heap.size 291 2 fv f.length (spCells f)
 far : 0 < cap → g ≠ w.heap.size
 old : 0 < cap → ∀ cs T fr, w.heap[g]? = some (.cells cs T fr) → T = 291
 ne : 0 < cap → fv.ownBlock ≠ some g
section
variable {base : Nat} {w wr w' : World} {mv : Value} {ao : Option Addr} {g off cap : Nat} {q : List Sp} {fv : Value} {f : List Sp}
theorem RSt.below (h : RSt base w wr mv ao g off cap q fv f) (hb : base ≤ w.heap.size) (k : Below wr.heap.size wr w') : RSt base w w' mv ao g off cap q fv f :=
 have h2 := h.sz
 ⟨h.bel.trans (k.mono (by omega)), h.ns.trans (NS.below k), Nat.le_trans h.sz k.size, h.mb.below k, h.qr.frame (fun h0 => k.block g (h.qr.came.lt h0)) k.size, ownsRow_frame h.ro (fun g cs f _ hh => k.block g (lt_of_some hh)), h.far, h.old, h.ne⟩
theorem RSt.tail {x : Sp} (h : RSt base w wr mv ao g off cap (x :: q) fv f) (ao' : Option Addr) (ha : 0 < cap - 1 → ao' = some ⟨g, off + 2, none⟩) : RSt base w wr mv ao' g (off + 2) (cap - 1) q fv f :=
 ⟨h.bel, h.ns, h.sz, h.mb, h.qr.tail ao' ha, h.ro, fun h0 => h.far (by omega), fun h0 => h.old (by omega), fun h0 => h.ne (by omega)⟩
theorem RSt.grown {W w6 : World} {g' cap' : Nat} {y : Sp} (h : RSt base w wr mv ao g off cap q fv f) (hb : base ≤ w.heap.size) (k : Below wr.heap.size wr W) (hg : W.grownBy w6 fv.ownBlock)
  (hown : w6.ownsRow w.heap.size 291 2 (.slice (some ⟨g', 0, none⟩) (f.length + 1) cap') (f.length + 1) (spCells f ++ spC y)) (hat : fv.ownBlock = some g' ∨ g' = W.heap.size) : RSt base w w6 mv ao g off cap q (.slice (some ⟨g', 0, none⟩) (f.length + 1) cap') (f ++ [y]) := by
 have h' := h.below hb k
 have s1 := h'.sz
 refine ⟨Below.grown h'.bel hg (by omega) (fun k hk => Nat.le_trans hb (h'.ro.lt k hk).1), ?_, ?_, ?_, ?_, ?_, h.far, h.old, ?_⟩
 ·intro q cs T fr hh ht
  have e := h'.ns q cs T fr hh ht
  exact (hg.block q (lt_of_some (e.trans hh)) (own_nf h'.ro (e.trans hh) ht)).trans e
 ·have := hg.size; omega
 ·exact (hg.block _ h'.mb.lt (own_ne h'.ro h'.mb (by decide))).trans h'.mb
 ·exact h'.qr.frame (fun h0 => hg.block g (h'.qr.came.lt h0) (fun e => h'.ne h0 e.symm)) hg.size
 ·rw [List.length_append, spCells_append, show spCells [y] = spC y from by simp [spCells]]
  exact hown
 ·intro h0 e
  simp only [Value.ownBlock, Option.some.injEq] at e
  rcases hat with e2 | e2
  ·exact h.ne h0 (by rw [e2, e])
  ·have := h'.qr.came.lt h0
   omega
theorem RSt.app {W : World} {ao' : Option Addr} {g' off' cap' : Nat} {nl : List Sp} (h : RSt base w wr mv ao g off cap q fv f) (hb : base ≤ w.heap.size) (k : Below wr.heap.size wr W) (hq : QR base w' ao' g' off' cap' (q ++ nl)) (hd : 0 < cap' → (0 < cap ∧ g' = g) ∨ W.heap.size ≤ g')
  (hs : W.heap.size ≤ w'.heap.size) (ho : w'.os = W.os) (ht : w'.tape = W.tape) (hu : w'.output = W.output) (hfr : ∀ i, i < W.heap.size → (0 < cap → i ≠ g) → w'.heap[i]? = W.heap[i]?) : RSt base w w' mv ao' g' off' cap' (q ++ nl) fv f := by
 have h' := h.below hb k
 have s1 := h'.sz
 have bw : Below base W w' := ⟨ho, ht, hu, hs, fun j hj => hfr j (by omega) (fun h0 e => by have := h.qr.at_ h0; omega)⟩
 refine ⟨h'.bel.trans bw, ?_, by omega, ?_, hq, ?_, ?_, ?_, ?_⟩
 ·intro j cs T fr hh ht
  have e := h'.ns j cs T fr hh ht
  refine (hfr j (lt_of_some (e.trans hh)) (fun h0 e2 => ?_)).trans e
  subst e2
  exact ht (h.old h0 cs T fr hh)
 ·exact (hfr _ h'.mb.lt (fun h0 e => h.far h0 e.symm)).trans h'.mb
 ·refine ownsRow_frame_own h'.ro (fun j cs fr hj hh => hfr j (lt_of_some hh) (fun h0 e2 => ?_))
  subst e2
  exact h.ne h0 hj
 ·intro h0
  rcases hd h0 with ⟨h1, rfl⟩ | h1
  ·exact h.far h1
  ·omega
 ·intro h0 cs T fr hh
  rcases hd h0 with ⟨h1, rfl⟩ | h1
  ·exact h.old h1 cs T fr hh
  ·have := lt_of_some hh
   omega
 ·intro h0 e
  rcases hd h0 with ⟨h1, rfl⟩ | h1
  ·exact h.ne h1 e
  ·have := (h'.ro.lt _ e).2
   omega
end
set_option maxHeartbeats 4000000 in
set_option maxRecDepth 100000 in
theorem reached_any (b base : Nat) (sv : Value) (ts : List Ty) (tl : List (Ty × Value)) (fv : Value) (l0 : List Sp) (w : World) (h : MC b w sv ts tl) (hf : w.ownsRow base 291 2 fv l0.length (spCells l0)) (hb : base ≤ w.heap.size) (hNB : roundsP ts l0 ≤ 2000000000000) :
  Calls Tryz.prog 151 #[.agg #[sv], fv] w fun e' w' => ∃ v', e' = .returned v' ∧ Below base w w' ∧ NS w w' ∧ w'.ownsRow w.heap.size 291 2 v' (reachedP ts l0).length (spCells (reachedP ts l0)) := by
 obtain ⟨i0, hi, hz0, hz1, hz2⟩ := info_parts Tryz.info291
 have HI := hide hi
 have HZ0 := hide hz0
 have HZ1 := hide hz1
 have HZ2 := hide hz2
 clear hi hz0 hz1 hz2
 obtain ⟨ma, mn, mc, rfl⟩ := h.form
 obtain ⟨ao, g, cap, rfl, hq, hgb⟩ := QR.of_own hf
 have H := hide h
 generalize hR : reachedP ts l0 = R
 have HRR := hide (show reachL (needsAtP ts) (roundsP ts l0 + 1) l0 [] = R from hR)
 have HK := hide (show l0.length + restN (needsAtP ts) [] (keysP ts) ≤ roundsP ts l0 from Nat.le_refl _)
 have W0 : Below w.heap.size w (w.alloc (.cells #[.slice ma mn mc] 75)) := (Below.refl _ _).alloc (Nat.le_refl _) _
 have HST0 := hide (show RSt base w (w.alloc (.cells #[.slice ma mn mc] 75)) (.slice ma mn mc) ao g 0 cap l0 (.slice none 0 0) [] from
  ⟨W0.mono hb, NS.below W0, by simp, Blk.new w _ _, hq.frame (fun h0 => W0.block g (hq.came.lt h0)) W0.size, World.ownsRow_nil _ _ _ _, fun h0 => by have := hq.came.lt h0; omega, fun h0 cs T fr hh => by
   rcases hf with ⟨_, ⟨e, _⟩ | ⟨g', cap', cur, e, _, hh', _⟩⟩
   ·simp only [Value.slice.injEq] at e
    omega
   ·simp only [Value.slice.injEq] at e
    have e2 := hq.came.addr h0
    rw [e.1] at e2
    simp only [Option.some.injEq, Addr.mk.injEq] at e2
    rw [← e2.1, hh'] at hh
    simp only [Option.some.injEq, Obj.cells.injEq] at hh
    exact hh.2.1.symm, fun h0 e => by cases e⟩)
 have hgk := hq.came.le
 clear h hf hR W0 hq hgb
 go_enter Tryz.func151, Tryz.ntmps151
 go_wp2_with fail
 go_loopg [1, 5] (roundsP ts l0 + 1) (fun k u1 u5 wr => ∃ (q f : List Sp) (ao : Option Addr) (g off cap : Nat) (fa : Option Addr) (fc : Nat), u1 = .slice ao q.length cap ∧ u5 = .slice fa f.length fc ∧ RSt base w wr (.slice ma mn mc) ao g off cap q (.slice fa f.length fc) f ∧ Hid (f.length + (q.length + restN (needsAtP ts) f (keysP ts)) ≤ roundsP ts l0 ∧ q.length + restN (needsAtP ts) f (keysP ts) < k ∧ reachL (needsAtP ts) k q f = R))
 case atStart => exact ⟨l0, [], ao, g, 0, cap, none, 0, rfl, rfl, uh HST0, hide ⟨by simpa using uh HK, by have := uh HK; omega, uh HRR⟩⟩
 case round =>
  clear HST0 HK HRR hgk
  obtain ⟨q, f, ao, g, off, cap, fa, fc, rfl, rfl, hst, HQ⟩ := hrel
  have hk0 := (uh HQ).2.1
  obtain ⟨k, rfl⟩ : ∃ k, gk = k + 1 := ⟨gk - 1, by omega⟩
  clear hk0
  have HS := hide hst
  have wrs := hst.sz
  cases q with
  | nil =>
   have hR := (uh HQ).2.2
   simp only [reachL] at hR
   have HR := hide hR
   clear hst hR HQ
   go_wp2
   go_ret
   rw [← uh HR]
   exact ⟨_, rfl, (uh HS).bel, (uh HS).ns, (uh HS).ro⟩
  | cons x q =>
   obtain ⟨hcp, rfl, c0, c1⟩ := hst.qr.head
   have hcl := hst.qr.came.le
   have hqb : f.length + (q.length + 1) ≤ 2000000000000 := by have := (uh HQ).1; simp at this; omega
   simp only [List.length_cons] at hcl
   clear hst
   go_wp2_with fail
   ·subst h
    have HT := hide (show RSt base w wr (.slice ma mn mc) (some ⟨g, off, none⟩) g (off + 2) 0 q (.slice fa f.length fc) f from (uh HS).tail (some ⟨g, off, none⟩) (fun h => by omega))
    clear HS
    have hbx : Below wr.heap.size wr (wr.alloc (.cells #[.string x.1, .string x.2] 291)) := (Below.refl _ _).alloc (Nat.le_refl _) _
    have HST := hide ((uh HT).below hb hbx)
    have XB := hide (Blk.new wr #[.string x.1, .string x.2] 291)
    have hfar : ∀ q, (Value.slice fa f.length fc).ownBlock = some q → q < wr.heap.size := fun q hq => ((uh HT).ro.lt q hq).2
    have hgar : 0 < 0 → g < wr.heap.size := fun h0 => (uh HT).qr.came.lt h0
    clear hbx c0 c1
    refine (containsSp _ _ f x _ (by omega) (uh HST).ro).mono ?_
    rintro e w5 ⟨rfl, hb5⟩
    have HS5 := hide ((uh HST).below hb hb5)
    have XB5 := hide ((uh XB).below hb5)
    obtain ⟨y0, y1⟩ := (uh XB5).two
    have yl := (uh XB5).lt
    have s5 := (uh HS5).sz
    clear hb5 XB HST HT
    cases ha : f.any (fun z => eqSp x z)
    ·obtain ⟨hq1, hq2, hq3⟩ := uh HQ
     simp only [reachL, ha, Bool.false_eq_true, if_false] at hq3
     have hrs := rest_step ts f x ha
     have HQ3 := hide hq3
     have hq4 : f.length + 1 + (q.length + (needsAtP ts x).length + restN (needsAtP ts) (f ++ [x]) (keysP ts)) ≤ roundsP ts l0 := by simp at hq1; omega
     have hq5 : q.length + (needsAtP ts x).length + restN (needsAtP ts) (f ++ [x]) (keysP ts) < k := by simp at hq2; omega
     clear hq1 hq2 hq3 hrs HQ ha
     go_wp2_with (at_builtin; go_must (refine wpList_append_lies _ rfl _ _ 288 rfl w.heap.size 291 i0 _ 2 32 Tryz.underlying288 (uh HI) (uh HZ0) (uh HZ1) (uh HZ2) rfl (by decide) (.slice fa f.length fc) f.length (spCells f) rfl ?hownB ⟨w5.heap.size, 0, none⟩ 1 1 (spC x) rfl rfl ?hnewsB ?honeB (by decide) ?h63B ?hbytesB ?hbaseB (w5.heap.size + 1) ?hHB ?hrestB))
     case hownB => exact ((uh HS5).ro).alloc _
     case hnewsB => exact World.news_of_block (B := w5.heap.size) (cs := #[.string x.1, .string x.2]) (t := 291) (fr := (0, 0)) (Blk.new w5 _ _)
     case honeB =>
      intro z hz
      simp [spC] at hz
      rcases hz with rfl | rfl <;> rfl
     case h63B => unfold maxLen; omega
     case hbytesB => omega
     case hbaseB => simp; omega
     case hHB => simp
     intro g6 cap6 w6 hown6 hgrow6 hat6 hgl6
     have bx5 : Below w5.heap.size w5 (w5.alloc (.cells #[.string x.1, .string x.2] 291)) := (Below.refl _ _).alloc (Nat.le_refl _) _
     have HS6 := hide ((uh HS5).grown hb bx5 hgrow6 hown6 (by simpa using hat6))
     have XB6 : Blk w6 wr.heap.size #[.string x.1, .string x.2] 291 := (hgrow6.block wr.heap.size (by simp; omega) (fun e => by have := hfar _ e.symm; omega)).trans ((uh XB5).alloc _)
     obtain ⟨z0, z1⟩ := XB6.two
     have zl := XB6.lt
     have m0 : w6.cell? ⟨w.heap.size, 0, none⟩ = some (.slice ma mn mc) := (uh HS6).mb.cell rfl
     have HM6 := hide ((uh H).ns (uh HS6).ns (uh HS6).bel.size)
     have s6 := (uh HS6).sz
     clear hown6 hgrow6 hat6 hgl6 bx5 HS5 XB5 y0 y1 yl s5 XB6 hfar hgar
     go_wp2_with fail
     refine (needsAt_any b _ ts tl x.1 x.2 _ (uh HM6)).mono ?_
     rintro e w7 ⟨sv7, rfl, hb7, hrs⟩
     obtain ⟨na, nc, rfl⟩ := hrs.form
     have HS7 := hide ((uh HS6).below hb hb7)
     have SRC := hide (show Src Tryz.prog 2 288 (.slice na (needsAtP ts x).length nc) (needsAtP ts x).length (spCells (needsAtP ts x)) w7 from QR.src hrs.1)
     have hb7' : base ≤ w7.heap.size := by have := hb7.size; omega
     clear hb7 hrs HS6 HM6 z0 z1 zl m0
     go_wp2_with (at_builtin; go_must (refine wpList_append_q Tryz.underlying288 rfl _ _ rfl (uh HS7).qr i0 _ (uh HI) (uh HZ0) (uh HZ1) (uh HZ2) rfl rfl (.slice na (needsAtP ts x).length nc) rfl (uh SRC) ?hlB hb7' ?hKB))
     case hlB => omega
     intro ao8 g8 off8 cap8 w8 hq8 hd8 hs8 ho8 ht8 hu8 hfr8
     have HS8 := hide ((uh HS7).app hb (Below.refl _ _) hq8 (fun h0 => by have := hd8 h0; first | exact this | exact .inr this) hs8 ho8 ht8 hu8 (fun i hi hne => by first | exact hfr8 i hi hne | exact hfr8 i hi))
     clear hq8 hd8 hs8 ho8 ht8 hu8 hfr8 HS7 SRC
     go_wp2
     go_roundg k
     case measure => omega
     case rel => exact ⟨q ++ needsAtP ts x, f ++ [x], ao8, g8, off8, cap8, some ⟨g6, 0, none⟩, cap6, by simp, by simp, by simpa using uh HS8, hide ⟨by simp; omega, by simp; omega, uh HQ3⟩⟩
    ·obtain ⟨hq1, hq2, hq3⟩ := uh HQ
     simp only [reachL, ha, if_true] at hq3
     have HQ3 := hide hq3
     have hq4 : f.length + (q.length + restN (needsAtP ts) f (keysP ts)) ≤ roundsP ts l0 := by simp at hq1; omega
     have hq5 : q.length + restN (needsAtP ts) f (keysP ts) < k := by simp at hq2; omega
     clear hq1 hq2 hq3 HQ ha
     go_wp2
     go_roundg k
     case measure => omega
     case rel => exact ⟨q, f, _, g, off + 2, 0, fa, fc, rfl, rfl, uh HS5, hide ⟨hq4, hq5, uh HQ3⟩⟩
   ·have HT := hide ((uh HS).tail (some ⟨g, off + 2, none⟩) (fun h => rfl))
    clear HS h
    have hbx : Below wr.heap.size wr (wr.alloc (.cells #[.string x.1, .string x.2] 291)) := (Below.refl _ _).alloc (Nat.le_refl _) _
    have HST := hide ((uh HT).below hb hbx)
    have XB := hide (Blk.new wr #[.string x.1, .string x.2] 291)
    have hfar : ∀ q, (Value.slice fa f.length fc).ownBlock = some q → q < wr.heap.size := fun q hq => ((uh HT).ro.lt q hq).2
    have hgar : 0 < cap - 1 → g < wr.heap.size := fun h0 => (uh HT).qr.came.lt h0
    clear hbx c0 c1
    refine (containsSp _ _ f x _ (by omega) (uh HST).ro).mono ?_
    rintro e w5 ⟨rfl, hb5⟩
    have HS5 := hide ((uh HST).below hb hb5)
    have XB5 := hide ((uh XB).below hb5)
    obtain ⟨y0, y1⟩ := (uh XB5).two
    have yl := (uh XB5).lt
    have s5 := (uh HS5).sz
    clear hb5 XB HST HT
    cases ha : f.any (fun z => eqSp x z)
    ·obtain ⟨hq1, hq2, hq3⟩ := uh HQ
     simp only [reachL, ha, Bool.false_eq_true, if_false] at hq3
     have hrs := rest_step ts f x ha
     have HQ3 := hide hq3
     have hq4 : f.length + 1 + (q.length + (needsAtP ts x).length + restN (needsAtP ts) (f ++ [x]) (keysP ts)) ≤ roundsP ts l0 := by simp at hq1; omega
     have hq5 : q.length + (needsAtP ts x).length + restN (needsAtP ts) (f ++ [x]) (keysP ts) < k := by simp at hq2; omega
     clear hq1 hq2 hq3 hrs HQ ha
     go_wp2_with (at_builtin; go_must (refine wpList_append_lies _ rfl _ _ 288 rfl w.heap.size 291 i0 _ 2 32 Tryz.underlying288 (uh HI) (uh HZ0) (uh HZ1) (uh HZ2) rfl (by decide) (.slice fa f.length fc) f.length (spCells f) rfl ?hownA ⟨w5.heap.size, 0, none⟩ 1 1 (spC x) rfl rfl ?hnewsA ?honeA (by decide) ?h63A ?hbytesA ?hbaseA (w5.heap.size + 1) ?hHA ?hrestA))
     case hownA => exact ((uh HS5).ro).alloc _
     case hnewsA => exact World.news_of_block (B := w5.heap.size) (cs := #[.string x.1, .string x.2]) (t := 291) (fr := (0, 0)) (Blk.new w5 _ _)
     case honeA =>
      intro z hz
      simp [spC] at hz
      rcases hz with rfl | rfl <;> rfl
     case h63A => unfold maxLen; omega
     case hbytesA => omega
     case hbaseA => simp; omega
     case hHA => simp
     intro g6 cap6 w6 hown6 hgrow6 hat6 hgl6
     have bx5 : Below w5.heap.size w5 (w5.alloc (.cells #[.string x.1, .string x.2] 291)) := (Below.refl _ _).alloc (Nat.le_refl _) _
     have HS6 := hide ((uh HS5).grown hb bx5 hgrow6 hown6 (by simpa using hat6))
     have XB6 : Blk w6 wr.heap.size #[.string x.1, .string x.2] 291 := (hgrow6.block wr.heap.size (by simp; omega) (fun e => by have := hfar _ e.symm; omega)).trans ((uh XB5).alloc _)
     obtain ⟨z0, z1⟩ := XB6.two
     have zl := XB6.lt
     have m0 : w6.cell? ⟨w.heap.size, 0, none⟩ = some (.slice ma mn mc) := (uh HS6).mb.cell rfl
     have HM6 := hide ((uh H).ns (uh HS6).ns (uh HS6).bel.size)
     have s6 := (uh HS6).sz
     clear hown6 hgrow6 hat6 hgl6 bx5 HS5 XB5 y0 y1 yl s5 XB6 hfar hgar
     go_wp2_with fail
     refine (needsAt_any b _ ts tl x.1 x.2 _ (uh HM6)).mono ?_
     rintro e w7 ⟨sv7, rfl, hb7, hrs⟩
     obtain ⟨na, nc, rfl⟩ := hrs.form
     have HS7 := hide ((uh HS6).below hb hb7)
     have SRC := hide (show Src Tryz.prog 2 288 (.slice na (needsAtP ts x).length nc) (needsAtP ts x).length (spCells (needsAtP ts x)) w7 from QR.src hrs.1)
     have hb7' : base ≤ w7.heap.size := by have := hb7.size; omega
     clear hb7 hrs HS6 HM6 z0 z1 zl m0
     go_wp2_with (at_builtin; go_must (refine wpList_append_q Tryz.underlying288 rfl _ _ rfl (uh HS7).qr i0 _ (uh HI) (uh HZ0) (uh HZ1) (uh HZ2) rfl rfl (.slice na (needsAtP ts x).length nc) rfl (uh SRC) ?hlA hb7' ?hKA))
     case hlA => omega
     intro ao8 g8 off8 cap8 w8 hq8 hd8 hs8 ho8 ht8 hu8 hfr8
     have HS8 := hide ((uh HS7).app hb (Below.refl _ _) hq8 (fun h0 => by have := hd8 h0; first | exact this | exact .inr this) hs8 ho8 ht8 hu8 (fun i hi hne => by first | exact hfr8 i hi hne | exact hfr8 i hi))
     clear hq8 hd8 hs8 ho8 ht8 hu8 hfr8 HS7 SRC
     go_wp2
     go_roundg k
     case measure => omega
     case rel => exact ⟨q ++ needsAtP ts x, f ++ [x], ao8, g8, off8, cap8, some ⟨g6, 0, none⟩, cap6, by simp, by simp, by simpa using uh HS8, hide ⟨by simp; omega, by simp; omega, uh HQ3⟩⟩
    ·obtain ⟨hq1, hq2, hq3⟩ := uh HQ
     simp only [reachL, ha, if_true] at hq3
     have HQ3 := hide hq3
     have hq4 : f.length + (q.length + restN (needsAtP ts) f (keysP ts)) ≤ roundsP ts l0 := by simp at hq1; omega
     have hq5 : q.length + restN (needsAtP ts) f (keysP ts) < k := by simp at hq2; omega
     clear hq1 hq2 hq3 HQ ha
     go_wp2
     go_roundg k
     case measure => omega
     case rel => exact ⟨q, f, _, g, off + 2, cap - 1, fa, fc, rfl, rfl, uh HS5, hide ⟨hq4, hq5, uh HQ3⟩⟩
end Go.Proofs.YtlbpnlngckgcbaaGreatDoor
