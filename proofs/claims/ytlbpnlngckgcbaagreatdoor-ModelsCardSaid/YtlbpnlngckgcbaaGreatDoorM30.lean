import Derived.Test.YtlbpnlngckgcbaaGreatDoorM29
import Derived.RangeFuncNested
import Derived.RangeFuncBound
import Derived.RangeFuncCalls
import Derived.RangeFuncLeaves
import Derived.Shelf.Abstract
import Derived.Shelf.RegionOpen
import Derived.OwnWalkIn
import Derived.TacticsInMore
import Derived.LoopNIn
import Derived.LoopIn
namespace Go.Proofs.YtlbpnlngckgcbaaGreatDoor
open Go.RowKit Go.PlainAid Go.Shelf
set_option linter.unusedSimpArgs false
set_option linter.unusedVariables false
attribute [local go_sem] Oper.semAt_some

def eachN (N : Ty → Rl → Option Nat) (ts : List Ty) : Option Nat := ts.findSome? fun t => t.rels.findSome? (N t)

/-- All blocks of cells are as they were. -/
def CK (W W' : World) : Prop := W.heap.size ≤ W'.heap.size ∧ ∀ (g : Nat) (cs : Array Value) (T : TypeId) (f : Nat × Nat), W.heap[g]? = some (Obj.cells cs T f) → W'.heap[g]? = W.heap[g]?
theorem CK.trans {X Y Z : World} (h : CK X Y) (k : CK Y Z) : CK X Z := ⟨Nat.le_trans h.1 k.1, fun g cs T f hh => (k.2 g cs T f ((h.2 g cs T f hh).trans hh)).trans (h.2 g cs T f hh)⟩
theorem CK.below {W W' : World} (h : Below W.heap.size W W') : CK W W' := ⟨h.size, fun g cs T f hh => h.block g (lt_of_some hh)⟩
theorem CK.ns {W W' : World} (h : CK W W') : NS W W' := fun g cs T f hh _ => h.2 g cs T f hh
theorem CK.b {w : World} (W : World) (l : Nat) (o o' : Obj) (hl : w.heap.size ≤ l) (h : W.heap[l]? = some o) (hc : o.isCells = false) (hw : o.isWalk = false) : CK W (W.putObj l o') :=
 ⟨(grownBy_putObj' W l o').size, fun g cs T f hh => World.putObj_heap_other (fun e => by
  subst e
  rw [h] at hh
  cases hh
  cases hc)⟩
theorem CK.blk {W W' : World} (h : CK W W') {g : Nat} {cs : Array Value} {T : TypeId} (k : Blk W g cs T) : Blk W' g cs T := (h.2 g cs T (0, 0) k).trans k
theorem CK.mc {W W' : World} (h : CK W W') {b : Nat} {sv : Value} {ts : List Ty} {tl : List (Ty × Value)} (k : MC b W sv ts tl) : MC b W' sv ts tl := k.ns h.ns h.1
theorem CK.rc {W W' : World} (h : CK W W') {b : Nat} {sv : Value} {rs : List Rl} {rl : List (Rl × Value)} (k : RC b W sv rs rl) : RC b W' sv rs rl := k.ns h.ns

/-! A relation with its type, and what stands for them. -/
abbrev It := (Ty × Value) × (Rl × Value)
def itE (x : It) : Array Value := #[.agg #[.int .i64 x.1.1.place, .string x.1.1.name, x.1.2], .agg #[.int .i64 x.2.1.place, .string x.2.1.name, x.2.2]]
def ItOK (b : Nat) (w : World) (tl : List (Ty × Value)) (x : It) : Prop := x.1 ∈ tl ∧ ∃ rl, RC b w x.1.2 x.1.1.rels rl ∧ x.2 ∈ rl
/-- What stands for the relations of each type. -/
def RlF (b : Nat) (w : World) (tl : List (Ty × Value)) (rlf : Ty × Value → List (Rl × Value)) : Prop := ∀ p ∈ tl, RC b w p.2 p.1.rels (rlf p)
theorem rlF_ex {b : Nat} {w : World} {sv : Value} {ts : List Ty} {tl : List (Ty × Value)} (h : MC b w sv ts tl) : ∃ rlf, RlF b w tl rlf := by
 have : ∀ p : Ty × Value, ∃ rl, p ∈ tl → RC b w p.2 p.1.rels rl := fun p => by
  by_cases hp : p ∈ tl
  ·obtain ⟨rl, hr⟩ := h.rels p hp
   exact ⟨rl, fun _ => hr⟩
  ·exact ⟨[], fun e => absurd e hp⟩
 exact ⟨fun p => Classical.choose (this p), fun p hp => Classical.choose_spec (this p) hp⟩
def itL (rlf : Ty × Value → List (Rl × Value)) (tl : List (Ty × Value)) : List It := tl.flatMap fun p => (rlf p).map fun q => (p, q)
theorem itL_ok {b : Nat} {w : World} {tl : List (Ty × Value)} {rlf : Ty × Value → List (Rl × Value)} (h : RlF b w tl rlf) (x : It) (hx : x ∈ itL rlf tl) : ItOK b w tl x := by
 unfold itL at hx
 rw [List.mem_flatMap] at hx
 obtain ⟨p, hp, hx⟩ := hx
 rw [List.mem_map] at hx
 obtain ⟨q, hq, rfl⟩ := hx
 exact ⟨hp, rlf p, h p hp, hq⟩
theorem each_flat (N : Ty → Rl → Option Nat) (b : Nat) (w : World) (rlf : Ty × Value → List (Rl × Value)) : ∀ (tl : List (Ty × Value)), RlF b w tl rlf → eachN N (tl.map Prod.fst) = (itL rlf tl).findSome? fun x => N x.1.1 x.2.1
 | [], _ => rfl
 | p :: tl, h => by
  have ih := each_flat N b w rlf tl (fun q hq => h q (by simp [hq]))
  have e : (itL rlf (p :: tl)) = ((rlf p).map fun q => (p, q)) ++ itL rlf tl := by simp [itL]
  rw [e, List.findSome?_append, List.findSome?_map, ← ih]
  have hr := h p (by simp)
  have e2 : p.1.rels.findSome? (N p.1) = (rlf p).findSome? ((fun x : It => N x.1.1 x.2.1) ∘ fun q => (p, q)) := by
   rw [← hr.fst, List.findSome?_map]
   rfl
  rw [← e2]
  unfold eachN
  rw [List.map_cons, List.findSome?_cons]
  cases p.1.rels.findSome? (N p.1) <;> rfl
theorem list_sub {α : Type} (P : α → Prop) : ∀ (l : List α), (∀ x ∈ l, P x) → ∃ L : List {x // P x}, L.map Subtype.val = l
 | [], _ => ⟨[], rfl⟩
 | x :: l, h => by
  obtain ⟨L, hL⟩ := list_sub P l (fun y hy => h y (by simp [hy]))
  exact ⟨⟨x, h x (by simp)⟩ :: L, by simp [hL]⟩
theorem prefix_some {α β : Type} (f : α → Option β) : ∀ (l p : List α) (x : α) (y : β), p ++ [x] <+: l → (∀ z ∈ p, f z = none) → f x = some y → l.findSome? f = some y := by
 rintro l p x y ⟨r, rfl⟩ h1 h2
 rw [List.findSome?_append, List.findSome?_append]
 have : p.findSome? f = none := List.findSome?_eq_none_iff.2 h1
 rw [this]
 simp [h2]

theorem relations_any (sv : Value) (w : World) (hs : ∃ a n c, sv = .slice a n c) : Calls Tryz.prog 150 #[.agg #[sv]] w fun e w' => e = .returned (.func (.func 208) #[] #[.pointer (some ⟨w.heap.size, 0, none⟩)]) ∧ w' = w.alloc (.cells #[sv] 75) := by
 obtain ⟨a, n, c, rfl⟩ := hs
 go_enter Tryz.func150, Tryz.ntmps150
 go_wp2
 go_ret
 exact ⟨rfl, rfl⟩

set_option maxRecDepth 100000 in
set_option maxHeartbeats 1000000 in
theorem rel1_in (b : Nat) (w0 : World) (sv : Value) (ts : List Ty) (tl : List (Ty × Value)) (hM : MC b w0 sv ts tl) (rlf : Ty × Value → List (Rl × Value)) (hF : RlF b w0 tl rlf) (n : Nat) (hn : 1 ≤ n) (l Bn : Nat) (L : List {x : It // ItOK b w0 tl x}) (hL : L.map Subtype.val = itL rlf tl) (J Jx : List {x : It // ItOK b w0 tl x} → World → Prop)
  (W : World) (hW : Below w0.heap.size w0 W) (hJ : AbidesFrom W.heap.size J)
  (hY : ∀ pre x W1, J pre W1 → pre.length < L.length → YieldAt Fence.wide (n - 1) Tryz.prog l (itE x.1) W1 fun e W' => (e = .returned (.bool true) ∧ J (pre ++ [x]) W' ∧ CK W1 W') ∨ (e = .returned (.bool false) ∧ Jx (pre ++ [x]) W'))
  (hBn : W.cell? ⟨Bn, 0, none⟩ = some sv) (h0 : J [] W) :
  CallsIn Fence.wide n Tryz.prog 208 #[.func (.yield l) #[] #[], .pointer (some ⟨Bn, 0, none⟩)] W fun e W' => (∃ v, e = .returned v) ∧ ((∃ ys, ys = L ∧ J ys W') ∨ (∃ pre, pre <+: L ∧ Jx pre W')) := by
 obtain ⟨ma, mn, mc, rfl⟩ := hM.form
 have hmn : mn = tl.length := by
  obtain ⟨a', c', e⟩ := own_form hM.row
  simp only [Value.slice.injEq, List.length_map] at e
  exact e.2.1
 have hm1 : mn ≤ tl.length := by omega
 have hm2 : tl.length ≤ mn := by omega
 clear hmn
 have htl : tl.length ≤ 1000 := by have := hM.llen; simpa using this
 have HM := hide hM
 have HF := hide hF
 have HL := hide hL
 have HY := hide hY
 have HJ := hide hJ
 have HW := hide (show CK w0 W from CK.below hW)
 clear hM hF hY hJ hW hL
 refine callsIn_of_wp Tryz.func208 rfl trivial ?_ rfl
 simp only [Tryz.ntmps208, List.size_toArray, List.length_cons, List.length_nil, Nat.reduceAdd, Nat.reduceSub, Array.replicate_succ, Array.replicate_zero, List.push_toArray, List.append_toArray, List.nil_append, List.cons_append]
 gi_wp2
 gi_loopw [10] (fun u wr => ∃ (k : Nat) (pre rest : List {x : It // ItOK b w0 tl x}), k ≤ mn ∧ u = .int .i64 k ∧ CK w0 wr ∧ W.heap.size ≤ wr.heap.size ∧ Hid (L = pre ++ rest ∧ rest.map Subtype.val = itL rlf (tl.drop k)) ∧ J pre wr) (fun u _ => mn - (intOf u).toNat)
 case atStart => exact ⟨0, [], L, by omega, rfl, uh HW, Nat.le_refl _, hide ⟨rfl, uh HL⟩, h0⟩
 case round =>
  obtain ⟨k, pre, rest, hk, rfl, hck, hsw, HQ, hJs⟩ := hrel
  obtain ⟨hq1, hq2⟩ := uh HQ
  by_cases hlt : k < mn
  ·have hlt' : k < tl.length := by omega
   obtain ⟨g, c', e1, k0, k1, k2⟩ := (hck.mc (uh HM)).row.cell k (by simpa using hlt')
   simp only [Value.slice.injEq] at e1
   obtain ⟨rfl, hxx, rfl⟩ := e1
   clear hxx HQ
   simp only [List.getElem_map, t3] at k0 k1 k2
   have hrc := uh HF tl[k] (List.getElem_mem hlt')
   have hL2 : itL rlf (tl.drop k) = ((rlf tl[k]).map fun q => (tl[k], q)) ++ itL rlf (tl.drop (k + 1)) := by
    rw [List.drop_eq_getElem_cons hlt']
    simp only [itL, List.flatMap_cons]
   rw [hL2] at hq2
   clear hL2
   generalize tl[k] = p at *
   obtain ⟨t, tv⟩ := p
   simp only at k0 k1 k2 hrc
   obtain ⟨va, vn, vc, rfl⟩ := hrc.form
   generalize hrlq : rlf (t, .slice va vn vc) = rl at *
   clear hrlq
   have hvn : vn = rl.length := by
    obtain ⟨a', c', e⟩ := own_form hrc.row
    simp only [Value.slice.injEq, List.length_map] at e
    exact e.2.1
   have hv1 : vn ≤ rl.length := by omega
   have hv2 : rl.length ≤ vn := by omega
   clear hvn
   have hrl : rl.length ≤ 1000 := by have := hrc.llen; simpa using this
   have bx : Below wr.heap.size wr (wr.alloc (.cells #[.int .i64 t.place, .string t.name, .slice va vn vc] 110)) := (Below.refl _ _).alloc (Nat.le_refl _) _
   have HCX := hide (hck.trans (CK.below bx))
   have HRC := hide hrc
   have TB := hide (Blk.new wr #[.int .i64 t.place, .string t.name, .slice va vn vc] 110)
   have HJX := hide (uh HJ pre wr (wr.alloc (.cells #[.int .i64 t.place, .string t.name, .slice va vn vc] 110)) none hJs (World.grownBy_alloc wr _ none) (fun r e => by cases e))
   have hkn : (k : Int) < (mn : Int) := by omega
   have HQ2 := hide (And.intro hq1 hq2)
   have hsX : W.heap.size ≤ (wr.alloc (.cells #[.int .i64 t.place, .string t.name, .slice va vn vc] 110)).heap.size := by simp; omega
   clear hrc bx hq1 hq2 hck hJs
   gi_wp2
   generalize (wr.alloc (.cells #[.int .i64 t.place, .string t.name, .slice va vn vc] 110)) = W1 at *
   generalize wr.heap.size = tb at *
   gi_loopw [17] (fun u wi => ∃ (j : Nat) (pre rest : List {x : It // ItOK b w0 tl x}), j ≤ vn ∧ u = .int .i64 j ∧ CK W1 wi ∧ Hid (L = pre ++ rest ∧ rest.map Subtype.val = ((rl.drop j).map fun q => ((t, Value.slice va vn vc), q)) ++ itL rlf (tl.drop (k + 1))) ∧ J pre wi) (fun u _ => vn - (intOf u).toNat)
   case atStart => exact ⟨0, pre, rest, by omega, rfl, ⟨Nat.le_refl _, fun _ _ _ _ _ => rfl⟩, hide (uh HQ2), uh HJX⟩
   case round =>
    obtain ⟨j, pre, rest, hj, rfl, hck, HQ, hJs⟩ := hrel
    obtain ⟨hq1, hq2⟩ := uh HQ
    clear HQ
    by_cases hjt : j < vn
    ·have hjt' : j < rl.length := by omega
     obtain ⟨g, c', e1, x0, x1, x2⟩ := (((uh HCX).trans hck).rc (uh HRC)).row.cell j (by simpa using hjt')
     simp only [Value.slice.injEq] at e1
     obtain ⟨rfl, hxx, rfl⟩ := e1
     clear hxx
     simp only [List.getElem_map, r3] at x0 x1 x2
     have hex := (((uh HCX).trans hck).rc (uh HRC)).ex rl[j] (List.getElem_mem hjt')
     rw [List.drop_eq_getElem_cons hjt'] at hq2
     generalize rl[j] = p at *
     obtain ⟨r, bv⟩ := p
     simp only at x0 x1 x2 hex
     obtain ⟨ra, rv, rfl⟩ := hex.isI
     cases rest with
     | nil => simp at hq2
     | cons x rest =>
      simp only [List.map_cons, List.cons_append, List.cons.injEq] at hq2
      obtain ⟨hx, hq2⟩ := hq2
      obtain ⟨t0, t1, t2⟩ := (hck.blk (uh TB)).three
      have tlt := (hck.blk (uh TB)).lt
      have bx : Below wr.heap.size wr (wr.alloc (.cells #[.int .i64 r.place, .string r.name, .iface ra rv] 159)) := (Below.refl _ _).alloc (Nat.le_refl _) _
      have HJ2 := uh HJ pre wr (wr.alloc (.cells #[.int .i64 r.place, .string r.name, .iface ra rv] 159)) none hJs (World.grownBy_alloc wr _ none) (fun r e => by cases e)
      obtain ⟨fn, tmps, assign, body, hy, hR⟩ := uh HY pre x _ HJ2 (by rw [hq1]; simp)
      rw [hx] at hy
      simp only [itE] at hy
      have HCK := hide (hck.trans (CK.below bx))
      have hjn : (j : Int) < (vn : Int) := by omega
      have HQ3 := hide (And.intro hq1 hq2)
      clear hex bx hq1 hq2 hck hJs hx HJ2
      gi_wp2
      refine hR.mono ?_
      rintro e W3 (⟨rfl, hJ3, hk3⟩ | ⟨rfl, hJx3⟩)
      ·gi_wp2
       go_roundw
       case rel => exact ⟨j + 1, pre ++ [x], rest, by omega, by go_num, (uh HCK).trans hk3, hide ⟨by rw [(uh HQ3).1]; simp, (uh HQ3).2⟩, hJ3⟩
       case measure => simp [intOf]; omega
      ·gi_wp2
       refine bodyPost_ret (results_none rfl _ _ _) rfl ?_
       exact ⟨⟨_, rfl⟩, .inr ⟨pre ++ [x], ⟨rest, by rw [(uh HQ3).1]; simp⟩, hJx3⟩⟩
    ·have hjn : ¬ ((j : Int) < (vn : Int)) := by omega
     rw [List.drop_of_length_le (by omega)] at hq2
     have HQ3 := hide (And.intro hq1 hq2)
     have HCK := hide hck
     clear hq1 hq2 hck
     gi_wp2
     go_roundw
     case rel => exact ⟨k + 1, pre, rest, by omega, by go_num, (uh HCX).trans (uh HCK), Nat.le_trans hsX (uh HCK).1, hide ⟨(uh HQ3).1, by simpa using (uh HQ3).2⟩, hJs⟩
     case measure => simp [intOf]; omega
  ·have hkn : ¬ ((k : Int) < (mn : Int)) := by omega
   rw [List.drop_of_length_le (by omega)] at hq2
   simp only [itL, List.flatMap_nil, List.map_eq_nil_iff] at hq2
   subst hq2
   clear HQ hck
   gi_wp2
   go_end0
   refine ⟨⟨_, rfl⟩, .inl ?_⟩
   first | exact hJs | exact ⟨pre, by rw [hq1]; simp, hJs⟩
theorem rel_stops (b : Nat) (w0 : World) (sv : Value) (ts : List Ty) (tl : List (Ty × Value)) (hM : MC b w0 sv ts tl) (rlf : Ty × Value → List (Rl × Value)) (hF : RlF b w0 tl rlf) (n : Nat) (hn : 1 ≤ n) (Bn : Nat) (hBn : Blk w0 Bn #[sv] 75) (L : List {x : It // ItOK b w0 tl x}) (hL : L.map Subtype.val = itL rlf tl) :
  SeqStopsK Fence.wide n Tryz.prog 208 #[.pointer (some ⟨Bn, 0, none⟩)] (fun x : {x : It // ItOK b w0 tl x} => itE x.1) CK (fun ys => ys = L) (fun pre => pre <+: L) L.length w0 := fun l J Jx W hW hJ _ hY h0 =>
 rel1_in b w0 sv ts tl hM rlf hF n hn l Bn L hL J Jx W hW hJ hY ((hBn.below hW).cell rfl) h0
theorem keepsFrom_below {B : Nat} {W W' : World} (h : Below W.heap.size W W') : KeepsFrom B W W' := ⟨h.size, fun k o _ hk _ => (h.block k (Array.getElem?_eq_some_iff.1 hk).1).trans hk⟩
theorem ownFrom_blk {β : Type} (B g : Nat) (cs : Array Value) (T : TypeId) : OwnFrom B (fun (_ : β) W => Blk W g cs T) := fun _ X Y row hs hg hr =>
 (hg.block g (Blk.lt hs) (fun e => by
  obtain ⟨_, o, ho, hc⟩ := hr g e.symm
  unfold Blk at hs
  rw [hs] at ho
  cases ho
  cases hc)).trans hs

set_option maxHeartbeats 2000000 in
set_option maxRecDepth 100000 in
theorem each_names (b c : Nat) (sv : Value) (ts : List Ty) (tl : List (Ty × Value)) (N : Ty → Rl → Option Nat) (w : World) (h : MC b w sv ts tl)
  (hp : ∀ w' t tv rl r bv, MC b w' sv ts tl → RC b w' tv t.rels rl → RepEx b w' r.body bv → r ∈ t.rels → Calls Tryz.prog 117 #[.agg #[sv], .agg #[.int .i64 t.place, .string t.name, tv], .agg #[.int .i64 r.place, .string r.name, bv]] w' fun e' w'' => e' = .returned (errO c (N t r)) ∧ Below w'.heap.size w' w'') :
  Calls Tryz.prog 116 #[.agg #[sv], .func (.func 117) #[.agg #[sv]] #[]] w fun e' w' => e' = .returned (errO c (eachN N ts)) ∧ Below w.heap.size w w' := by
 obtain ⟨ma, mn, mc, rfl⟩ := h.form
 refine (callsIn_wide (n := 8)).1 ?_
 refine callsIn_of_wp_marks Tryz.func116 rfl trivial ?_ rfl
 simp only [Tryz.ntmps116, List.size_toArray, List.length_cons, List.length_nil, Nat.reduceAdd, Nat.reduceSub, Array.replicate_succ, Array.replicate_zero, List.push_toArray, List.append_toArray, List.nil_append, List.cons_append]
 gi_wp2_with fail
 refine ⟨trivial, (callsIn_wide.2 (relations_any _ _ ⟨_, _, _, rfl⟩)).mono ?_⟩
 rintro e w' ⟨rfl, rfl⟩
 gi_wp2_with fail
 have hB0 : Below w.heap.size w ((((w.alloc (.cells #[.slice ma mn mc] 75)).alloc (.cells #[.func (.func 117) #[.agg #[.slice ma mn mc]] #[]] 222)).alloc (.cells #[.nilIface] 77)).alloc (.cells #[.slice ma mn mc] 75)) := ((((Below.refl _ w).alloc (Nat.le_refl _) _).alloc (by simp) _).alloc (by simp; omega) _).alloc (by simp; omega) _
 have bC : Blk ((((w.alloc (.cells #[.slice ma mn mc] 75)).alloc (.cells #[.func (.func 117) #[.agg #[.slice ma mn mc]] #[]] 222)).alloc (.cells #[.nilIface] 77)).alloc (.cells #[.slice ma mn mc] 75)) (w.heap.size + 1) #[.func (.func 117) #[.agg #[.slice ma mn mc]] #[]] 222 := ((Blk.new' (w.alloc (.cells #[.slice ma mn mc] 75)) _ _ (w.heap.size + 1) (by simp)).alloc _).alloc _
 have bR : Blk ((((w.alloc (.cells #[.slice ma mn mc] 75)).alloc (.cells #[.func (.func 117) #[.agg #[.slice ma mn mc]] #[]] 222)).alloc (.cells #[.nilIface] 77)).alloc (.cells #[.slice ma mn mc] 75)) (w.heap.size + 1 + 1) #[.nilIface] 77 := (Blk.new' ((w.alloc (.cells #[.slice ma mn mc] 75)).alloc (.cells #[.func (.func 117) #[.agg #[.slice ma mn mc]] #[]] 222)) _ _ (w.heap.size + 1 + 1) (by simp)).alloc _
 have bM : Blk ((((w.alloc (.cells #[.slice ma mn mc] 75)).alloc (.cells #[.func (.func 117) #[.agg #[.slice ma mn mc]] #[]] 222)).alloc (.cells #[.nilIface] 77)).alloc (.cells #[.slice ma mn mc] 75)) (w.heap.size + 1 + 1 + 1) #[.slice ma mn mc] 75 := Blk.new' _ _ _ _ (by simp)
 have hsz : ((((w.alloc (.cells #[.slice ma mn mc] 75)).alloc (.cells #[.func (.func 117) #[.agg #[.slice ma mn mc]] #[]] 222)).alloc (.cells #[.nilIface] 77)).alloc (.cells #[.slice ma mn mc] 75)).heap.size = w.heap.size + 4 := by simp
 have HM := h.below hB0
 obtain ⟨W0, hW0⟩ : ∃ W0, ((((w.alloc (.cells #[.slice ma mn mc] 75)).alloc (.cells #[.func (.func 117) #[.agg #[.slice ma mn mc]] #[]] 222)).alloc (.cells #[.nilIface] 77)).alloc (.cells #[.slice ma mn mc] 75)) = W0 := ⟨_, rfl⟩
 rw [hW0] at hB0 bC bR bM hsz HM ⊢
 clear hW0
 obtain ⟨rlf, hF⟩ := rlF_ex HM
 obtain ⟨L, hL⟩ : ∃ L : List {x : It // ItOK b W0 tl x}, L.map Subtype.val = itL rlf tl := list_sub _ _ (itL_ok hF)
 have hE : eachN N ts = L.findSome? (fun x => N x.1.1.1 x.1.2.1) := by
  rw [← HM.fst, each_flat N b W0 rlf tl hF, ← hL, List.findSome?_map]
  rfl
 refine wpIn_rangeFunc_ownH (F := Fence.wide) rfl (by decide) (gf := 208) (lb := #[.pointer (some ⟨w.heap.size + 1 + 1 + 1, 0, none⟩)]) rfl trivial (enters_of Tryz.func208 (by kernel_rfl) rfl)
  (rel_stops b W0 _ ts tl HM rlf hF _ (by decide) _ bM L hL) (fun h k => CK.trans h k) (CK.b (w := W0)) (Below.refl _ _) (fun _ => rfl)
  (fun pre W => (∀ x ∈ pre, N x.1.1.1 x.1.2.1 = none) ∧ Below W0.heap.size W0 W)
  (fun cd pre W => (cd = .ret ∧ ∃ p0 x q, pre = p0 ++ [x] ∧ (∀ y ∈ p0, N y.1.1.1 y.1.2.1 = none) ∧ N x.1.1.1 x.1.2.1 = some q ∧ Blk W (w.heap.size + 1 + 1) #[errO c (some q)] 77) ∧ Below w.heap.size w W)
  (OwnFrom.and (ownFrom_pure _ _) (ownFrom_below (Nat.le_refl _) (Nat.le_refl _)))
  (fun cd => OwnFrom.and (fun s X Y row hs hg hr => by
   obtain ⟨h1, p0, x, q, h2, h3, h4, h5⟩ := hs
   exact ⟨h1, p0, x, q, h2, h3, h4, ownFrom_blk (β := Unit) W0.heap.size _ _ _ () X Y row h5 hg hr⟩) (ownFrom_below (Nat.le_refl _) (by omega)))
  ⟨by simp, Below.refl _ _⟩
  (fun x a' W => ∃ Bt, W0.heap.size ≤ Bt ∧ Blk W Bt #[.int .i64 x.1.1.1.place, .string x.1.1.1.name, x.1.1.2] 110 ∧ Blk W (Bt + 1) #[.int .i64 x.1.2.1.place, .string x.1.2.1.name, x.1.2.2] 159 ∧ a' = { tmps := #[.agg #[.slice ma mn mc], .func (.func 117) #[.agg #[.slice ma mn mc]] #[], .pointer (some ⟨w.heap.size, 0, none⟩), .pointer (some ⟨w.heap.size + 1, 0, none⟩), .pointer (some ⟨w.heap.size + 1 + 1, 0, none⟩), .pointer (some ⟨Bt, 0, none⟩), .pointer (some ⟨Bt + 1, 0, none⟩), undef, .agg #[.slice ma mn mc], .func (.func 208) #[] #[.pointer (some ⟨w.heap.size + 1 + 1 + 1, 0, none⟩)], .agg #[.int .i64 x.1.1.1.place, .string x.1.1.1.name, x.1.1.2], .agg #[.int .i64 x.1.2.1.place, .string x.1.2.1.name, x.1.2.2], undef, undef, undef, undef, undef, undef, undef], defers := [] })
  (fun x a' _ X Y row hs hg hr => by
   obtain ⟨Bt, h1, h2, h3, h4⟩ := hs
   exact ⟨Bt, h1, ownFrom_blk (β := Unit) W0.heap.size _ _ _ () X Y row h2 hg hr, ownFrom_blk (β := Unit) W0.heap.size _ _ _ () X Y row h3 hg hr, h4⟩)
  ?assign ?body ?done ?stop
 case assign =>
  rintro l pre x W K ⟨hpre, hB1⟩ hK
  obtain ⟨⟨⟨t, tv⟩, ⟨r, bv⟩⟩, hx⟩ := x
  obtain ⟨rl, hrc, hin⟩ := hx.2
  simp only at hrc hin hK
  obtain ⟨va, vn, vc, rfl⟩ := hrc.form
  obtain ⟨ra, rv, hbv⟩ := (hrc.ex _ hin).isI
  simp only at hbv
  subst hbv
  simp only [itE]
  have b1 := (Below.refl _ W).alloc (Nat.le_refl _) (.cells #[.int .i64 t.place, .string t.name, .slice va vn vc] 110)
  have b2 := b1.alloc b1.size (.cells #[.int .i64 r.place, .string r.name, .iface ra rv] 159)
  gi_wp2_with fail
  exact hK _ _ (((KeepsOthers.alloc _ _).trans (KeepsOthers.alloc _ _)).from _) (CK.below b2) ⟨hpre, hB1.trans (b2.mono hB1.size)⟩ ⟨W.heap.size, hB1.size, (Blk.new W _ _).alloc _, Blk.new' _ _ _ _ (by simp), rfl⟩
 case body =>
  rintro l pre x a' W hl ⟨rr, hr⟩ ⟨hpre, hB1⟩ ⟨Bt, hBt, bT, bL, rfl⟩ hlt
  obtain ⟨⟨⟨t, tv⟩, ⟨r, bv⟩⟩, hx⟩ := x
  obtain ⟨rl, hrc, hin⟩ := hx.2
  simp only at hrc hin bT bL
  obtain ⟨va, vn, vc, rfl⟩ := hrc.form
  obtain ⟨ra, rv, hbv⟩ := (hrc.ex _ hin).isI
  simp only at hbv
  subst hbv
  obtain ⟨t0, t1, t2⟩ := bT.three
  obtain ⟨r0, r1, r2⟩ := bL.three
  have c0 : W.cell? ⟨w.heap.size + 1, 0, none⟩ = some (.func (.func 117) #[.agg #[.slice ma mn mc]] #[]) := (bC.below hB1).cell rfl
  have hmem : r ∈ t.rels := by rw [← hrc.fst]; exact List.mem_map.2 ⟨_, hin, rfl⟩
  have C := hp W t _ rl r _ (HM.below hB1) (hrc.below hB1) ((hrc.ex _ hin).but (But.of_below hB1)) hmem
  cases hn : N t r with
  | none =>
   rw [hn] at C
   clear hp
   gi_wp2_with fail
   refine ⟨trivial, (CallsIn.inRound l (callsIn_wide.2 C)).mono ?_⟩
   rintro e w3 ⟨rfl, hb3⟩
   unfold errO
   gi_wp2
   exact ⟨keepsFrom_below hb3, CK.below hb3, fun y hy => by
    rw [List.mem_append, List.mem_singleton] at hy
    rcases hy with hy | rfl
    ·exact hpre y hy
    ·exact hn, hB1.trans (hb3.mono hB1.size)⟩
  | some q =>
   rw [hn] at C
   clear hp
   gi_wp2_with fail
   refine ⟨trivial, (CallsIn.inRound l (callsIn_wide.2 C)).mono ?_⟩
   rintro e w3 ⟨rfl, hb3⟩
   have hbR := (bR.below hB1).below hb3
   have q0 : w3.cell? ⟨w.heap.size + 1 + 1, 0, none⟩ = some .nilIface := hbR.cell rfl
   have qz := hbR.fz
   have hb4 := (hB0.trans (hB1.mono (by omega))).trans (hb3.mono (by have := hB1.size; omega))
   unfold errO placed
   gi_wp2
   exact ⟨(keepsFrom_below hb3).trans ((KeepsOthers.setCell _ _ _).from _), ⟨rfl, pre, _, q, rfl, hpre, hn, hbR.set 0 _⟩, hb4.setCell (p := ⟨w.heap.size + 1 + 1, 0, none⟩) (by simp; omega) _⟩
 case done =>
  rintro D ys W hD rfl ⟨hpre, hB1⟩ hK
  have hbR := bR.below hB1
  have q0 : W.cell? ⟨w.heap.size + 1 + 1, 0, none⟩ = some .nilIface := hbR.cell rfl
  have qz := hbR.fz
  have hE2 : eachN N ts = none := by rw [hE]; exact List.findSome?_eq_none_iff.2 hpre
  gi_wp2
  have hK' := (KeepsOthers.setCell W ⟨w.heap.size + 1 + 1, 0, none⟩ .nilIface).same D _ hK rfl
  refine ⟨by simp, .inl ⟨_, _, rfl, run_takeDeferred hK', ?_⟩⟩
  have hc5 := cell_kept (World.cell?_setCell_same' W ⟨w.heap.size + 1 + 1, 0, none⟩ .nilIface (by rw [q0]; rfl)) (grownBy_putObj' _ D (.deferred none)) (fun r e => by cases e; exact ⟨_, hK', rfl⟩)
  refine ⟨.nilIface, ?_, by rw [hE2]; rfl, ((hB0.trans (hB1.mono (by omega))).setCell (p := ⟨w.heap.size + 1 + 1, 0, none⟩) (by simp; omega) _).trans (belowK_b (w := w) (Nat.le_refl _) _ D _ _ (by omega) hK' rfl rfl)⟩
  simp [results, Tryz.f116, go_sem, hc5]
 case stop =>
  rintro D cd pre W hD hpx ⟨⟨rfl, p0, x, q, rfl, h1, h2, h3⟩, hB1⟩ hK
  have hE2 : eachN N ts = some q := by rw [hE]; exact prefix_some _ L p0 x q hpx h1 h2
  gi_wp2
  refine ⟨by simp, .inl ⟨_, _, rfl, run_takeDeferred hK, ?_⟩⟩
  have hc5 := cell_kept (h3.cell (o := 0) rfl) (grownBy_putObj' _ D (.deferred none)) (fun r e => by cases e; exact ⟨_, hK, rfl⟩)
  refine ⟨errO c (some q), ?_, by rw [hE2], hB1.trans (belowK_b (w := w) (Nat.le_refl _) W D _ _ (by omega) hK rfl rfl)⟩
  simp [results, Tryz.f116, go_sem, hc5]

set_option maxHeartbeats 2000000 in
set_option maxRecDepth 100000 in
theorem each_loops (b c : Nat) (sv : Value) (ts : List Ty) (tl : List (Ty × Value)) (N : Ty → Rl → Option Nat) (w : World) (h : MC b w sv ts tl)
  (hp : ∀ w' t tv rl r bv, MC b w' sv ts tl → RC b w' tv t.rels rl → RepEx b w' r.body bv → r ∈ t.rels → Calls Tryz.prog 118 #[.agg #[sv], .agg #[.int .i64 t.place, .string t.name, tv], .agg #[.int .i64 r.place, .string r.name, bv]] w' fun e' w'' => e' = .returned (errO c (N t r)) ∧ Below w'.heap.size w' w'') :
  Calls Tryz.prog 116 #[.agg #[sv], .func (.func 118) #[.agg #[sv]] #[]] w fun e' w' => e' = .returned (errO c (eachN N ts)) ∧ Below w.heap.size w w' := by
 obtain ⟨ma, mn, mc, rfl⟩ := h.form
 refine (callsIn_wide (n := 8)).1 ?_
 refine callsIn_of_wp_marks Tryz.func116 rfl trivial ?_ rfl
 simp only [Tryz.ntmps116, List.size_toArray, List.length_cons, List.length_nil, Nat.reduceAdd, Nat.reduceSub, Array.replicate_succ, Array.replicate_zero, List.push_toArray, List.append_toArray, List.nil_append, List.cons_append]
 gi_wp2_with fail
 refine ⟨trivial, (callsIn_wide.2 (relations_any _ _ ⟨_, _, _, rfl⟩)).mono ?_⟩
 rintro e w' ⟨rfl, rfl⟩
 gi_wp2_with fail
 have hB0 : Below w.heap.size w ((((w.alloc (.cells #[.slice ma mn mc] 75)).alloc (.cells #[.func (.func 118) #[.agg #[.slice ma mn mc]] #[]] 222)).alloc (.cells #[.nilIface] 77)).alloc (.cells #[.slice ma mn mc] 75)) := ((((Below.refl _ w).alloc (Nat.le_refl _) _).alloc (by simp) _).alloc (by simp; omega) _).alloc (by simp; omega) _
 have bC : Blk ((((w.alloc (.cells #[.slice ma mn mc] 75)).alloc (.cells #[.func (.func 118) #[.agg #[.slice ma mn mc]] #[]] 222)).alloc (.cells #[.nilIface] 77)).alloc (.cells #[.slice ma mn mc] 75)) (w.heap.size + 1) #[.func (.func 118) #[.agg #[.slice ma mn mc]] #[]] 222 := ((Blk.new' (w.alloc (.cells #[.slice ma mn mc] 75)) _ _ (w.heap.size + 1) (by simp)).alloc _).alloc _
 have bR : Blk ((((w.alloc (.cells #[.slice ma mn mc] 75)).alloc (.cells #[.func (.func 118) #[.agg #[.slice ma mn mc]] #[]] 222)).alloc (.cells #[.nilIface] 77)).alloc (.cells #[.slice ma mn mc] 75)) (w.heap.size + 1 + 1) #[.nilIface] 77 := (Blk.new' ((w.alloc (.cells #[.slice ma mn mc] 75)).alloc (.cells #[.func (.func 118) #[.agg #[.slice ma mn mc]] #[]] 222)) _ _ (w.heap.size + 1 + 1) (by simp)).alloc _
 have bM : Blk ((((w.alloc (.cells #[.slice ma mn mc] 75)).alloc (.cells #[.func (.func 118) #[.agg #[.slice ma mn mc]] #[]] 222)).alloc (.cells #[.nilIface] 77)).alloc (.cells #[.slice ma mn mc] 75)) (w.heap.size + 1 + 1 + 1) #[.slice ma mn mc] 75 := Blk.new' _ _ _ _ (by simp)
 have hsz : ((((w.alloc (.cells #[.slice ma mn mc] 75)).alloc (.cells #[.func (.func 118) #[.agg #[.slice ma mn mc]] #[]] 222)).alloc (.cells #[.nilIface] 77)).alloc (.cells #[.slice ma mn mc] 75)).heap.size = w.heap.size + 4 := by simp
 have HM := h.below hB0
 obtain ⟨W0, hW0⟩ : ∃ W0, ((((w.alloc (.cells #[.slice ma mn mc] 75)).alloc (.cells #[.func (.func 118) #[.agg #[.slice ma mn mc]] #[]] 222)).alloc (.cells #[.nilIface] 77)).alloc (.cells #[.slice ma mn mc] 75)) = W0 := ⟨_, rfl⟩
 rw [hW0] at hB0 bC bR bM hsz HM ⊢
 clear hW0
 obtain ⟨rlf, hF⟩ := rlF_ex HM
 obtain ⟨L, hL⟩ : ∃ L : List {x : It // ItOK b W0 tl x}, L.map Subtype.val = itL rlf tl := list_sub _ _ (itL_ok hF)
 have hE : eachN N ts = L.findSome? (fun x => N x.1.1.1 x.1.2.1) := by
  rw [← HM.fst, each_flat N b W0 rlf tl hF, ← hL, List.findSome?_map]
  rfl
 refine wpIn_rangeFunc_ownH (F := Fence.wide) rfl (by decide) (gf := 208) (lb := #[.pointer (some ⟨w.heap.size + 1 + 1 + 1, 0, none⟩)]) rfl trivial (enters_of Tryz.func208 (by kernel_rfl) rfl)
  (rel_stops b W0 _ ts tl HM rlf hF _ (by decide) _ bM L hL) (fun h k => CK.trans h k) (CK.b (w := W0)) (Below.refl _ _) (fun _ => rfl)
  (fun pre W => (∀ x ∈ pre, N x.1.1.1 x.1.2.1 = none) ∧ Below W0.heap.size W0 W)
  (fun cd pre W => (cd = .ret ∧ ∃ p0 x q, pre = p0 ++ [x] ∧ (∀ y ∈ p0, N y.1.1.1 y.1.2.1 = none) ∧ N x.1.1.1 x.1.2.1 = some q ∧ Blk W (w.heap.size + 1 + 1) #[errO c (some q)] 77) ∧ Below w.heap.size w W)
  (OwnFrom.and (ownFrom_pure _ _) (ownFrom_below (Nat.le_refl _) (Nat.le_refl _)))
  (fun cd => OwnFrom.and (fun s X Y row hs hg hr => by
   obtain ⟨h1, p0, x, q, h2, h3, h4, h5⟩ := hs
   exact ⟨h1, p0, x, q, h2, h3, h4, ownFrom_blk (β := Unit) W0.heap.size _ _ _ () X Y row h5 hg hr⟩) (ownFrom_below (Nat.le_refl _) (by omega)))
  ⟨by simp, Below.refl _ _⟩
  (fun x a' W => ∃ Bt, W0.heap.size ≤ Bt ∧ Blk W Bt #[.int .i64 x.1.1.1.place, .string x.1.1.1.name, x.1.1.2] 110 ∧ Blk W (Bt + 1) #[.int .i64 x.1.2.1.place, .string x.1.2.1.name, x.1.2.2] 159 ∧ a' = { tmps := #[.agg #[.slice ma mn mc], .func (.func 118) #[.agg #[.slice ma mn mc]] #[], .pointer (some ⟨w.heap.size, 0, none⟩), .pointer (some ⟨w.heap.size + 1, 0, none⟩), .pointer (some ⟨w.heap.size + 1 + 1, 0, none⟩), .pointer (some ⟨Bt, 0, none⟩), .pointer (some ⟨Bt + 1, 0, none⟩), undef, .agg #[.slice ma mn mc], .func (.func 208) #[] #[.pointer (some ⟨w.heap.size + 1 + 1 + 1, 0, none⟩)], .agg #[.int .i64 x.1.1.1.place, .string x.1.1.1.name, x.1.1.2], .agg #[.int .i64 x.1.2.1.place, .string x.1.2.1.name, x.1.2.2], undef, undef, undef, undef, undef, undef, undef], defers := [] })
  (fun x a' _ X Y row hs hg hr => by
   obtain ⟨Bt, h1, h2, h3, h4⟩ := hs
   exact ⟨Bt, h1, ownFrom_blk (β := Unit) W0.heap.size _ _ _ () X Y row h2 hg hr, ownFrom_blk (β := Unit) W0.heap.size _ _ _ () X Y row h3 hg hr, h4⟩)
  ?assign ?body ?done ?stop
 case assign =>
  rintro l pre x W K ⟨hpre, hB1⟩ hK
  obtain ⟨⟨⟨t, tv⟩, ⟨r, bv⟩⟩, hx⟩ := x
  obtain ⟨rl, hrc, hin⟩ := hx.2
  simp only at hrc hin hK
  obtain ⟨va, vn, vc, rfl⟩ := hrc.form
  obtain ⟨ra, rv, hbv⟩ := (hrc.ex _ hin).isI
  simp only at hbv
  subst hbv
  simp only [itE]
  have b1 := (Below.refl _ W).alloc (Nat.le_refl _) (.cells #[.int .i64 t.place, .string t.name, .slice va vn vc] 110)
  have b2 := b1.alloc b1.size (.cells #[.int .i64 r.place, .string r.name, .iface ra rv] 159)
  gi_wp2_with fail
  exact hK _ _ (((KeepsOthers.alloc _ _).trans (KeepsOthers.alloc _ _)).from _) (CK.below b2) ⟨hpre, hB1.trans (b2.mono hB1.size)⟩ ⟨W.heap.size, hB1.size, (Blk.new W _ _).alloc _, Blk.new' _ _ _ _ (by simp), rfl⟩
 case body =>
  rintro l pre x a' W hl ⟨rr, hr⟩ ⟨hpre, hB1⟩ ⟨Bt, hBt, bT, bL, rfl⟩ hlt
  obtain ⟨⟨⟨t, tv⟩, ⟨r, bv⟩⟩, hx⟩ := x
  obtain ⟨rl, hrc, hin⟩ := hx.2
  simp only at hrc hin bT bL
  obtain ⟨va, vn, vc, rfl⟩ := hrc.form
  obtain ⟨ra, rv, hbv⟩ := (hrc.ex _ hin).isI
  simp only at hbv
  subst hbv
  obtain ⟨t0, t1, t2⟩ := bT.three
  obtain ⟨r0, r1, r2⟩ := bL.three
  have c0 : W.cell? ⟨w.heap.size + 1, 0, none⟩ = some (.func (.func 118) #[.agg #[.slice ma mn mc]] #[]) := (bC.below hB1).cell rfl
  have hmem : r ∈ t.rels := by rw [← hrc.fst]; exact List.mem_map.2 ⟨_, hin, rfl⟩
  have C := hp W t _ rl r _ (HM.below hB1) (hrc.below hB1) ((hrc.ex _ hin).but (But.of_below hB1)) hmem
  cases hn : N t r with
  | none =>
   rw [hn] at C
   clear hp
   gi_wp2_with fail
   refine ⟨trivial, (CallsIn.inRound l (callsIn_wide.2 C)).mono ?_⟩
   rintro e w3 ⟨rfl, hb3⟩
   unfold errO
   gi_wp2
   exact ⟨keepsFrom_below hb3, CK.below hb3, fun y hy => by
    rw [List.mem_append, List.mem_singleton] at hy
    rcases hy with hy | rfl
    ·exact hpre y hy
    ·exact hn, hB1.trans (hb3.mono hB1.size)⟩
  | some q =>
   rw [hn] at C
   clear hp
   gi_wp2_with fail
   refine ⟨trivial, (CallsIn.inRound l (callsIn_wide.2 C)).mono ?_⟩
   rintro e w3 ⟨rfl, hb3⟩
   have hbR := (bR.below hB1).below hb3
   have q0 : w3.cell? ⟨w.heap.size + 1 + 1, 0, none⟩ = some .nilIface := hbR.cell rfl
   have qz := hbR.fz
   have hb4 := (hB0.trans (hB1.mono (by omega))).trans (hb3.mono (by have := hB1.size; omega))
   unfold errO placed
   gi_wp2
   exact ⟨(keepsFrom_below hb3).trans ((KeepsOthers.setCell _ _ _).from _), ⟨rfl, pre, _, q, rfl, hpre, hn, hbR.set 0 _⟩, hb4.setCell (p := ⟨w.heap.size + 1 + 1, 0, none⟩) (by simp; omega) _⟩
 case done =>
  rintro D ys W hD rfl ⟨hpre, hB1⟩ hK
  have hbR := bR.below hB1
  have q0 : W.cell? ⟨w.heap.size + 1 + 1, 0, none⟩ = some .nilIface := hbR.cell rfl
  have qz := hbR.fz
  have hE2 : eachN N ts = none := by rw [hE]; exact List.findSome?_eq_none_iff.2 hpre
  gi_wp2
  have hK' := (KeepsOthers.setCell W ⟨w.heap.size + 1 + 1, 0, none⟩ .nilIface).same D _ hK rfl
  refine ⟨by simp, .inl ⟨_, _, rfl, run_takeDeferred hK', ?_⟩⟩
  have hc5 := cell_kept (World.cell?_setCell_same' W ⟨w.heap.size + 1 + 1, 0, none⟩ .nilIface (by rw [q0]; rfl)) (grownBy_putObj' _ D (.deferred none)) (fun r e => by cases e; exact ⟨_, hK', rfl⟩)
  refine ⟨.nilIface, ?_, by rw [hE2]; rfl, ((hB0.trans (hB1.mono (by omega))).setCell (p := ⟨w.heap.size + 1 + 1, 0, none⟩) (by simp; omega) _).trans (belowK_b (w := w) (Nat.le_refl _) _ D _ _ (by omega) hK' rfl rfl)⟩
  simp [results, Tryz.f116, go_sem, hc5]
 case stop =>
  rintro D cd pre W hD hpx ⟨⟨rfl, p0, x, q, rfl, h1, h2, h3⟩, hB1⟩ hK
  have hE2 : eachN N ts = some q := by rw [hE]; exact prefix_some _ L p0 x q hpx h1 h2
  gi_wp2
  refine ⟨by simp, .inl ⟨_, _, rfl, run_takeDeferred hK, ?_⟩⟩
  have hc5 := cell_kept (h3.cell (o := 0) rfl) (grownBy_putObj' _ D (.deferred none)) (fun r e => by cases e; exact ⟨_, hK, rfl⟩)
  refine ⟨errO c (some q), ?_, by rw [hE2], hB1.trans (belowK_b (w := w) (Nat.le_refl _) W D _ _ (by omega) hK rfl rfl)⟩
  simp [results, Tryz.f116, go_sem, hc5]
end Go.Proofs.YtlbpnlngckgcbaaGreatDoor
