import Derived.Test.YtlbpnlngckgcbaaGreatDoorM10
import Derived.Test.YtlbpnlngckgcbaaGreatDoorM02
namespace Go.Proofs.YtlbpnlngckgcbaaGreatDoor
open Go.RowKit Go.PlainAid
set_option linter.unusedSimpArgs false
set_option linter.unusedVariables false
def t3 (p : Ty × Value) : E3 := (p.1.place, p.1.name, p.2)
def r3 (p : Rl × Value) : E3 := (p.1.place, p.1.name, p.2)
def findTy (ts : List Ty) (x : ByteArray) : Option Ty := ts.find? fun t => eqs t.name x
def findRl (t : Ty) (x : ByteArray) : Option Rl := t.rels.find? fun r => eqs r.name x
theorem c3_t3 (l : List (Ty × Value)) : (l.map t3).flatMap c3 = l.flatMap tyCells := by rw [List.flatMap_map]; rfl
theorem c3_r3 (l : List (Rl × Value)) : (l.map r3).flatMap c3 = l.flatMap rlCells := by rw [List.flatMap_map]; rfl
theorem find3_t3 (x : ByteArray) (l : List (Ty × Value)) : find3 x (l.map t3) = (l.find? fun p => eqs p.1.name x).map t3 := by
 unfold find3; rw [List.find?_map]; rfl
theorem find3_r3 (x : ByteArray) (l : List (Rl × Value)) : find3 x (l.map r3) = (l.find? fun p => eqs p.1.name x).map r3 := by
 unfold find3; rw [List.find?_map]; rfl
theorem findTy_map (x : ByteArray) (l : List (Ty × Value)) : findTy (l.map Prod.fst) x = (l.find? fun p => eqs p.1.name x).map Prod.fst := by
 unfold findTy; rw [List.find?_map]; rfl
/-- What the relations of a type lie in memory as, with the bounds that hold of what was read. -/
structure RC (b : Nat) (w : World) (sv : Value) (rs : List Rl) (rl : List (Rl × Value)) : Prop where
 fst : rl.map Prod.fst = rs
 row : Row3 w 159 sv (rl.map r3)
 ex : ∀ p ∈ rl, RepEx b w p.1.body p.2
 len : rs.length ≤ 1000
 okp : ∀ r ∈ rs, (partsE r.body).length ≤ 1000
 okg : ∀ r ∈ rs, (allG r.body).length ≤ 1000
 wf : ∀ r ∈ rs, WF r.body
structure MC (b : Nat) (w : World) (sv : Value) (ts : List Ty) (tl : List (Ty × Value)) : Prop where
 fst : tl.map Prod.fst = ts
 row : Row3 w 110 sv (tl.map t3)
 rels : ∀ p ∈ tl, ∃ rl, RC b w p.2 p.1.rels rl
 len : ts.length ≤ 1000
 blt : b < w.heap.size
theorem RC.below {b : Nat} {w w' : World} {sv : Value} {rs : List Rl} {rl : List (Rl × Value)} (h : RC b w sv rs rl) (k : Below w.heap.size w w') : RC b w' sv rs rl :=
 ⟨h.fst, h.row.below k, fun p hp => (h.ex p hp).but (But.of_below k), h.len, h.okp, h.okg, h.wf⟩
theorem MC.below {b : Nat} {w w' : World} {sv : Value} {ts : List Ty} {tl : List (Ty × Value)} (h : MC b w sv ts tl) (k : Below w.heap.size w w') : MC b w' sv ts tl :=
 ⟨h.fst, h.row.below k, fun p hp => by obtain ⟨rl, hr⟩ := h.rels p hp; exact ⟨rl, hr.below k⟩, h.len, Nat.lt_of_lt_of_le h.blt k.size⟩
theorem RC.form {b : Nat} {w : World} {sv : Value} {rs : List Rl} {rl : List (Rl × Value)} (h : RC b w sv rs rl) : ∃ a n c, sv = .slice a n c := by
 obtain ⟨a, c, e⟩ := own_form h.row
 exact ⟨a, _, c, e⟩
theorem MC.form {b : Nat} {w : World} {sv : Value} {ts : List Ty} {tl : List (Ty × Value)} (h : MC b w sv ts tl) : ∃ a n c, sv = .slice a n c := by
 obtain ⟨a, c, e⟩ := own_form h.row
 exact ⟨a, _, c, e⟩
theorem RC.llen {b : Nat} {w : World} {sv : Value} {rs : List Rl} {rl : List (Rl × Value)} (h : RC b w sv rs rl) : (rl.map r3).length ≤ 1000 := by
 have := h.len; rw [← h.fst] at this; simpa using this
theorem MC.llen {b : Nat} {w : World} {sv : Value} {ts : List Ty} {tl : List (Ty × Value)} (h : MC b w sv ts tl) : (tl.map t3).length ≤ 1000 := by
 have := h.len; rw [← h.fst] at this; simpa using this
/-- m.find: a type of this name. -/
theorem mfind_no (b : Nat) (sv : Value) (ts : List Ty) (tl : List (Ty × Value)) (x : ByteArray) (w : World) (h : MC b w sv ts tl) (hf : findTy ts x = none) :
  Calls Tryz.prog 57 #[.agg #[sv], .string x] w fun e w' => e = .returned (.tuple #[.agg #[.int .i64 0, .string ⟨#[]⟩, .slice none 0 0], errv 5]) ∧ Below w.heap.size w w' := by
 refine find_no_T sv (tl.map t3) x w h.llen h.row ?_
 rw [← h.fst, findTy_map] at hf
 rw [find3_t3]
 cases hq : tl.find? (fun p => eqs p.1.name x) with
 | none => rfl
 | some y => rw [hq] at hf; cases hf
theorem mfind_yes (b : Nat) (sv : Value) (ts : List Ty) (tl : List (Ty × Value)) (x : ByteArray) (w : World) (h : MC b w sv ts tl) (t : Ty) (hf : findTy ts x = some t) :
  ∃ va vn vc rl, RC b w (.slice va vn vc) t.rels rl ∧ Calls Tryz.prog 57 #[.agg #[sv], .string x] w fun e w' => e = .returned (.tuple #[.agg #[.int .i64 t.place, .string t.name, .slice va vn vc], .nilIface]) ∧ Below w.heap.size w w' := by
 rw [← h.fst, findTy_map] at hf
 cases hq : tl.find? (fun p => eqs p.1.name x) with
 | none => rw [hq] at hf; cases hf
 | some y =>
  rw [hq] at hf
  simp only [Option.map_some, Option.some.injEq] at hf
  subst hf
  obtain ⟨rl, hr⟩ := h.rels y (List.mem_of_find?_eq_some hq)
  obtain ⟨a, n, c, e⟩ := hr.form
  have hr' := hr
  rw [e] at hr'
  refine ⟨a, n, c, rl, hr', ?_⟩
  have := find_yes_T sv (tl.map t3) x w h.llen h.row (t3 y) (by rw [find3_t3, hq]; rfl) ⟨a, n, c, e⟩
  have e2 : (t3 y).2.2 = .slice a n c := e
  rw [e2] at this
  exact this
theorem tfind_no (b pp : Nat) (nn : ByteArray) (sv : Value) (t : Ty) (rl : List (Rl × Value)) (x : ByteArray) (w : World) (h : RC b w sv t.rels rl) (hf : findRl t x = none) :
  Calls Tryz.prog 145 #[.agg #[.int .i64 pp, .string nn, sv], .string x] w fun e w' => e = .returned (.tuple #[.agg #[.int .i64 0, .string ⟨#[]⟩, .nilIface], errv 5]) ∧ Below w.heap.size w w' := by
 refine find_no_R pp nn sv (rl.map r3) x w h.llen h.row ?_
 unfold findRl at hf
 rw [← h.fst, List.find?_map] at hf
 rw [find3_r3]
 cases hq : rl.find? (fun p => eqs p.1.name x) with
 | none => rfl
 | some y => rw [show ((fun r : Rl => eqs r.name x) ∘ Prod.fst) = (fun p : Rl × Value => eqs p.1.name x) from rfl, hq] at hf; cases hf
theorem tfind_yes (b pp : Nat) (nn : ByteArray) (sv : Value) (t : Ty) (rl : List (Rl × Value)) (x : ByteArray) (w : World) (h : RC b w sv t.rels rl) (r : Rl) (hf : findRl t x = some r) :
  ∃ ta va, RepEx b w r.body (.iface ta va) ∧ r ∈ t.rels ∧ Calls Tryz.prog 145 #[.agg #[.int .i64 pp, .string nn, sv], .string x] w fun e w' => e = .returned (.tuple #[.agg #[.int .i64 r.place, .string r.name, .iface ta va], .nilIface]) ∧ Below w.heap.size w w' := by
 have hmem : r ∈ t.rels := List.mem_of_find?_eq_some hf
 unfold findRl at hf
 rw [← h.fst, List.find?_map, show ((fun r : Rl => eqs r.name x) ∘ Prod.fst) = (fun p : Rl × Value => eqs p.1.name x) from rfl] at hf
 cases hq : rl.find? (fun p => eqs p.1.name x) with
 | none => rw [hq] at hf; cases hf
 | some y =>
  rw [hq] at hf
  simp only [Option.map_some, Option.some.injEq] at hf
  subst hf
  have hr := h.ex y (List.mem_of_find?_eq_some hq)
  obtain ⟨ta, va, e⟩ := hr.isI
  have hr' := hr
  rw [e] at hr'
  refine ⟨ta, va, hr', hmem, ?_⟩
  have := find_yes_R pp nn sv (rl.map r3) x w h.llen h.row (r3 y) (by rw [find3_r3, hq]; rfl) ⟨ta, va, e⟩
  have e2 : (r3 y).2.2 = .iface ta va := e
  rw [e2] at this
  exact this
theorem gs_get (g : Gr) : ∀ (l : List Gr) (i : Nat), l[i]? = some g → (gsCells l)[i * 5]? = some (.int .i64 g.tp) ∧ (gsCells l)[i * 5 + 1]? = some (.string g.ty) ∧ (gsCells l)[i * 5 + 2]? = some (.int .i64 g.reach) ∧ (gsCells l)[i * 5 + 3]? = some (.int .i64 g.rp) ∧ (gsCells l)[i * 5 + 4]? = some (.string g.rel)
 | [], i, h => by simp at h
 | e' :: l, 0, h => by simp at h; subst h; simp [gsCells, grCells]
 | e' :: l, i + 1, h => by
  have := gs_get g l i (by simpa using h)
  rw [show gsCells (e' :: l) = (grCells e').toList ++ gsCells l from rfl, show (i + 1) * 5 = i * 5 + 5 by omega]
  simpa [grCells] using this
theorem Row5.cell {w : World} {base : Nat} {v : Value} {l : List Gr} (h : w.ownsRow base 207 5 v l.length (gsCells l)) (i : Nat) (g : Gr) (hi : l[i]? = some g) :
  ∃ q c, v = .slice (some ⟨q, 0, none⟩) l.length c ∧ w.cell? ⟨q, i * 5, none⟩ = some (.int .i64 g.tp) ∧ w.cell? ⟨q, i * 5 + 1, none⟩ = some (.string g.ty) ∧ w.cell? ⟨q, i * 5 + 2, none⟩ = some (.int .i64 g.reach) ∧ w.cell? ⟨q, i * 5 + 3, none⟩ = some (.int .i64 g.rp) ∧ w.cell? ⟨q, i * 5 + 4, none⟩ = some (.string g.rel) := by
 obtain ⟨h0, h1, h2, h3, h4⟩ := gs_get g l i hi
 obtain ⟨q, c, rfl, e0⟩ := own_cell h _ _ h0
 have go : ∀ k u, (gsCells l)[k]? = some u → w.cell? ⟨q, k, none⟩ = some u := fun k u hu => by
  obtain ⟨q', c', e', e1⟩ := own_cell h k u hu
  simp only [Value.slice.injEq, Option.some.injEq, Addr.mk.injEq] at e'
  obtain ⟨⟨rfl, _⟩, _⟩ := e'
  exact e1
 exact ⟨q, c, rfl, e0, go _ _ h1, go _ _ h2, go _ _ h3, go _ _ h4⟩
/-- P4: of one grant: the place of a name that is not there. -/
def grantN (ts : List Ty) (g : Gr) : Option Nat := match findTy ts g.ty with
 | none => some g.tp
 | some t => if g.reach = 2 then (match findRl t g.rel with
   | none => some g.rp
   | some _ => none) else none
def listN (ts : List Ty) (gs : List Gr) : Option Nat := gs.findSome? (grantN ts)
theorem listN_step (ts : List Ty) (gs : List Gr) (k : Nat) (hk : k < gs.length) : listN ts (gs.drop k) = match grantN ts gs[k] with
  | some p => some p
  | none => listN ts (gs.drop (k + 1)) := by
 unfold listN
 rw [List.drop_eq_getElem_cons hk, List.findSome?_cons]
 cases grantN ts gs[k] <;> rfl
set_option maxHeartbeats 2000000 in
set_option maxRecDepth 100000 in
theorem checkList_any (b lp : Nat) (sv : Value) (ts : List Ty) (tl : List (Ty × Value)) (gv : Value) (gs : List Gr) (w : World) (h : MC b w sv ts tl) (hg : w.ownsRow (b + 1) 207 5 gv gs.length (gsCells gs)) (hgl : gs.length ≤ 1000) :
  Calls Tryz.prog 174 #[.agg #[sv], .agg #[.int .i64 lp, gv]] w fun e' w' => e' = .returned (errO 5 (listN ts gs)) ∧ Below w.heap.size w w' := by
 obtain ⟨ma, mn, mc, rfl⟩ := h.form
 obtain ⟨ga, gc, rfl⟩ := own_form hg
 have H := hide h
 have HG := hide hg
 generalize hR : listN ts gs = R
 have HRR := hide hR
 clear h hg hR
 go_enter Tryz.func174, Tryz.ntmps174
 go_wp2_with fail
 go_loopw [14] (fun u wr => ∃ (k : Nat), k ≤ gs.length ∧ u = .int .i64 k ∧ Below w.heap.size w wr ∧ Blk wr w.heap.size #[.slice ma mn mc] 75 ∧ Hid (listN ts (gs.drop k) = R)) (fun u _ => gs.length - (intOf u).toNat)
 case atStart => exact ⟨0, by omega, rfl, ((Below.refl _ _).alloc (Nat.le_refl _) _).alloc (by simp) _, (Blk.new w _ _).alloc _, HRR⟩
 case round =>
  obtain ⟨k, hk, rfl, hb, hbl, HQ⟩ := hrel
  have HB := hide hb
  have HL := hide hbl
  have wrs := hb.size
  by_cases hlt : k < gs.length
  ·have hR := uh HQ
   rw [listN_step ts gs k hlt] at hR
   obtain ⟨q, c, e1, k0, k1, k2, k3, k4⟩ := Row5.cell (ownsRow_frame (w' := wr) (uh HG) (fun g cs f _ hh => hb.block g (lt_of_some hh))) k gs[k] (List.getElem?_eq_getElem hlt)
   simp only [Value.slice.injEq] at e1
   obtain ⟨rfl, _, rfl⟩ := e1
   generalize gs[k] = g at *
   have bx : Below w.heap.size w (wr.alloc (.cells #[.int .i64 g.tp, .string g.ty, .int .i64 g.reach, .int .i64 g.rp, .string g.rel] 207)) := hb.alloc wrs _
   have HM := hide ((uh H).below bx)
   have L1 := hbl.alloc (.cells #[.int .i64 g.tp, .string g.ty, .int .i64 g.reach, .int .i64 g.rp, .string g.rel] 207)
   have G1 := Blk.new wr #[.int .i64 g.tp, .string g.ty, .int .i64 g.reach, .int .i64 g.rp, .string g.rel] 207
   have m0 : wr.cell? ⟨w.heap.size, 0, none⟩ = some (.slice ma mn mc) := hbl.cell rfl
   have ml := hbl.lt
   have HBX := hide bx
   have HL1 := hide L1
   have HG1 := hide G1
   clear hb hbl bx L1 G1
   unfold grantN at hR
   cases hf : findTy ts g.ty with
   | none =>
    rw [hf] at hR
    have HR2 := hide hR
    have C := hide (mfind_no b _ ts tl g.ty _ (uh HM) hf)
    clear hR hf
    go_wp2_with fail
    refine (uh C).mono ?_
    rintro e w2 ⟨rfl, hb2⟩
    have B2 := hide ((uh HBX).trans (hb2.mono (uh HBX).size))
    obtain ⟨g0, g1, g2, g3, g4⟩ := ((uh HG1).below hb2).five
    have gl := ((uh HG1).below hb2).lt
    have sz2 := (uh B2).size
    clear hb2
    unfold errv
    go_wp2_with (go_at_call 73; refine (wrap_err _ 5 _).mono ?_; rintro e w3 ⟨rfl, rfl⟩)
    go_ret
    rw [← uh HR2]
    exact ⟨rfl, (by repeat (first | with_reducible exact uh B2 | with_reducible refine Below.drew ?_ | (with_reducible refine Below.setCell ?_ ?_ _; rotate_left; exact (by first | omega | (simp; omega) | simp | (simp; done))) | (with_reducible refine Below.alloc ?_ ?_ _; rotate_left; exact (by first | omega | (simp; omega) | simp | (simp; done)))))⟩
   | some t =>
    rw [hf] at hR
    obtain ⟨va, vn, vc, rl, hrc, hcall⟩ := mfind_yes b _ ts tl g.ty _ (uh HM) t hf
    have C := hide hcall
    have RCH := hide hrc
    clear hf hcall hrc
    simp only at hR
    by_cases h2 : g.reach = 2
    ·have h2' : ((g.reach : Int) != 2) = false := by rw [h2]; rfl
     rw [if_pos h2] at hR
     clear h2
     go_wp2_with fail
     refine (uh C).mono ?_
     rintro e w2 ⟨rfl, hb2⟩
     have b2 := (uh HBX).trans (hb2.mono (uh HBX).size)
     have B2 := hide b2
     have L2 := hide ((uh HL1).below hb2)
     have RC2 := hide (((uh RCH).below hb2).below ((Below.refl w2.heap.size w2).alloc (Nat.le_refl _) (.cells #[.int .i64 t.place, .string t.name, .slice va vn vc] 110)))
     have G2 := hide ((uh HG1).below hb2)
     obtain ⟨g0, g1, g2, g3, g4⟩ := (uh G2).five
     have gl := (uh G2).lt
     have sz2 := b2.size
     clear hb2 b2 C
     cases hq : findRl t g.rel with
     | none =>
      rw [hq] at hR
      have HR2 := hide hR
      have C := hide (tfind_no b t.place t.name _ t rl g.rel _ (uh RC2) hq)
      clear hR hq
      go_wp2_with fail
      refine (uh C).mono ?_
      rintro e w3 ⟨rfl, hb3⟩
      have B3 := hide (((uh B2).alloc sz2 (.cells #[.int .i64 t.place, .string t.name, .slice va vn vc] 110)).trans (hb3.mono (by simp; omega)))
      obtain ⟨n0, n1, n2, n3, n4⟩ := (((uh G2).alloc (.cells #[.int .i64 t.place, .string t.name, .slice va vn vc] 110)).below hb3).five
      have nl := (((uh G2).alloc (.cells #[.int .i64 t.place, .string t.name, .slice va vn vc] 110)).below hb3).lt
      have sz3 := (uh B3).size
      clear hb3 g0 g1 g2 g3 g4
      unfold errv
      go_wp2_with (go_at_call 73; refine (wrap_err _ 5 _).mono ?_; rintro e w3 ⟨rfl, rfl⟩)
      go_ret
      rw [← uh HR2]
      exact ⟨rfl, (by repeat (first | with_reducible exact uh B3 | with_reducible refine Below.drew ?_ | (with_reducible refine Below.setCell ?_ ?_ _; rotate_left; exact (by first | omega | (simp; omega) | simp | (simp; done))) | (with_reducible refine Below.alloc ?_ ?_ _; rotate_left; exact (by first | omega | (simp; omega) | simp | (simp; done)))))⟩
     | some r =>
      rw [hq] at hR
      have HR2 := hide hR
      obtain ⟨xa, xv, _, _, hcall⟩ := tfind_yes b t.place t.name _ t rl g.rel _ (uh RC2) r hq
      have C := hide hcall
      clear hR hq hcall
      go_wp2_with fail
      refine (uh C).mono ?_
      rintro e w3 ⟨rfl, hb3⟩
      have B3 := hide (((uh B2).alloc sz2 (.cells #[.int .i64 t.place, .string t.name, .slice va vn vc] 110)).trans (hb3.mono (by simp; omega)))
      have L3 := hide (((uh L2).alloc (.cells #[.int .i64 t.place, .string t.name, .slice va vn vc] 110)).below hb3)
      have sz3 := (uh B3).size
      clear hb3
      go_wp2
      go_roundw
      case rel => exact ⟨k + 1, by omega, by go_num, (by repeat (first | with_reducible exact uh B3 | with_reducible refine Below.drew ?_ | (with_reducible refine Below.setCell ?_ ?_ _; rotate_left; exact (by first | omega | (simp; omega) | simp | (simp; done))) | (with_reducible refine Below.alloc ?_ ?_ _; rotate_left; exact (by first | omega | (simp; omega) | simp | (simp; done))))), (by repeat (first | with_reducible exact uh L3 | with_reducible apply Blk.alloc | with_reducible apply Blk.drew | with_reducible apply Blk.set | (with_reducible apply Blk.other; case ha => exact (by first | omega | (simp; omega) | simp | (simp; done))))), HR2⟩
      case measure => simp [intOf]; omega
    ·have h2' : ((g.reach : Int) != 2) = true := by rw [bne_iff_ne]; omega
     rw [if_neg h2] at hR
     have HR2 := hide hR
     clear h2 hR
     go_wp2_with fail
     refine (uh C).mono ?_
     rintro e w2 ⟨rfl, hb2⟩
     have B2 := hide ((uh HBX).trans (hb2.mono (uh HBX).size))
     have L2 := hide ((uh HL1).below hb2)
     obtain ⟨g0, g1, g2, g3, g4⟩ := ((uh HG1).below hb2).five
     have gl := ((uh HG1).below hb2).lt
     have sz2 := (uh B2).size
     clear hb2 C
     go_wp2
     go_roundw
     case rel => exact ⟨k + 1, by omega, by go_num, (by repeat (first | with_reducible exact uh B2 | with_reducible refine Below.drew ?_ | (with_reducible refine Below.setCell ?_ ?_ _; rotate_left; exact (by first | omega | (simp; omega) | simp | (simp; done))) | (with_reducible refine Below.alloc ?_ ?_ _; rotate_left; exact (by first | omega | (simp; omega) | simp | (simp; done))))), (by repeat (first | with_reducible exact uh L2 | with_reducible apply Blk.alloc | with_reducible apply Blk.drew | with_reducible apply Blk.set | (with_reducible apply Blk.other; case ha => exact (by first | omega | (simp; omega) | simp | (simp; done))))), HR2⟩
     case measure => simp [intOf]; omega
  ·have hR := uh HQ
   rw [List.drop_of_length_le (by omega)] at hR
   have HR2 := hide hR
   clear hb hbl hR
   go_wp2
   go_ret
   rw [← uh HR2]
   exact ⟨rfl, uh HB⟩
set_option maxHeartbeats 400000 in
theorem rletter_any (c : Int) (w : World) : Calls Tryz.prog 185 #[.int .u8 c] w fun e w' => e = .returned (.bool (letter c)) ∧ w' = w := by
 by_cases h1 : 97 ≤ c
 ·go_enter Tryz.func185, Tryz.ntmps185
  go_wp2
  go_ret
  exact ⟨by simp [letter, h1], rfl⟩
 ·go_enter Tryz.func185, Tryz.ntmps185
  go_wp2
  go_ret
  exact ⟨by simp [letter]; omega, rfl⟩
set_option maxHeartbeats 400000 in
theorem rdigit_any (c : Int) (w : World) : Calls Tryz.prog 186 #[.int .u8 c] w fun e w' => e = .returned (.bool (digit c)) ∧ w' = w := by
 by_cases h1 : 48 ≤ c
 ·go_enter Tryz.func186, Tryz.ntmps186
  go_wp2
  go_ret
  exact ⟨by simp [digit, h1], rfl⟩
 ·go_enter Tryz.func186, Tryz.ntmps186
  go_wp2
  go_ret
  exact ⟨by simp [digit]; omega, rfl⟩
theorem own_put {w : World} {base : Nat} {e : TypeId} {size n g cap : Nat} {xs : List Value} (h : w.ownsRow base e size (.slice (some ⟨g, 0, none⟩) n cap) n xs) (j : Nat) (u : Value) : (w.setCell ⟨g, j, none⟩ u).ownsRow base e size (.slice (some ⟨g, 0, none⟩) n cap) n (xs.set j u) := by
 obtain ⟨hl, h⟩ := h
 rcases h with ⟨h, _⟩ | ⟨g', cap', cur, e1, hb, hh, h1, h2, h3, h4⟩
 ·cases h
 ·simp only [Value.slice.injEq, Option.some.injEq, Addr.mk.injEq] at e1
  obtain ⟨⟨rfl, _, _⟩, _, rfl⟩ := e1
  refine ⟨by simp [hl], .inr ⟨g, cap, cur.setIfInBounds j u, rfl, hb, Blk.set hh j u, h1, h2, by simp [h3], ?_⟩⟩
  rw [Array.toList_setIfInBounds, List.take_set, h4]
theorem own_blk {w : World} {base : Nat} {e : TypeId} {size n m g cap : Nat} {xs : List Value} (h : w.ownsRow base e size (.slice (some ⟨g, 0, none⟩) m cap) n xs) : ∃ cur, Blk w g cur e ∧ base ≤ g := by
 rcases h.2 with ⟨h, _⟩ | ⟨g', cap', cur, e1, hb, hh, h1, h2, h3, h4⟩
 ·cases h
 ·simp only [Value.slice.injEq, Option.some.injEq, Addr.mk.injEq] at e1
  obtain ⟨⟨rfl, _, _⟩, _, rfl⟩ := e1
  exact ⟨cur, hh, hb⟩
theorem mk_app (a c : List UInt8) : mk a ++ mk c = mk (a ++ c) := by
 rw [← mk_lst (mk a ++ mk c)]
 congr 1
theorem tks_at (l : List Tk) (i : Nat) (t : Tk) (h : l[i]? = some t) : (tksCells l)[i * 3]? = some (.string (mk t.text)) ∧ (tksCells l)[i * 3 + 1]? = some (.int .i64 t.place) ∧ (tksCells l)[i * 3 + 2]? = some (.bool t.word) := by
 unfold tksCells
 induction l generalizing i with
 | nil => simp at h
 | cons a l ih =>
  cases i with
  | zero =>
   simp at h
   subst h
   simp [tkCells]
  | succ i =>
   simp at h
   have := ih i h
   rw [List.flatMap_cons, show (i + 1) * 3 = i * 3 + 3 by omega]
   simp only [tkCells, List.cons_append, List.nil_append, List.getElem?_cons_succ]
   exact this
theorem tks_len (l : List Tk) : (tksCells l).length = l.length * 3 := by
 unfold tksCells
 induction l with
 | nil => rfl
 | cons a l ih => rw [List.flatMap_cons, List.length_append, ih]; simp [tkCells]; omega
theorem tks_ext (l : List Tk) (t : Tk) (c : UInt8) : tksCells (l ++ [⟨t.text ++ [c], t.place, t.word⟩]) = (tksCells (l ++ [t])).set (l.length * 3) (.string (mk (t.text ++ [c]))) := by
 unfold tksCells
 rw [List.flatMap_append, List.flatMap_append, List.set_append_right _ _ (by rw [← tksCells, tks_len]; omega), ← tksCells, tks_len]
 simp [tkCells]
theorem Tryz.infoTk : (Tryz.prog.info? 259).map (fun i => (i.zero, i.size, i.bytes)) = some (some (.agg #[.string ⟨#[]⟩, .int .i64 0, .bool false]), 3, 32) := by kernel_rfl
theorem byte_mk (s : ByteArray) (k : Nat) (h : k < s.size) : s.extract k (k + 1) = mk [(lst s)[k]'(by rw [lst_length]; exact h)] := by
 rw [extract_mk, show k + 1 - k = 1 by omega]
 rw [List.drop_eq_getElem_cons (by rw [lst_length]; exact h)]
 rfl
set_option maxHeartbeats 2000000 in
set_option maxRecDepth 100000 in
theorem rtokens_any (s : ByteArray) (w : World) (hs : s.size ≤ 500) :
  Calls Tryz.prog 126 #[.string s] w fun e w' => ∃ v, e = .returned v ∧ Below w.heap.size w w' ∧ w'.ownsRow w.heap.size 259 3 v (toks s).length (tksCells (toks s)) := by
 have gb := get_bt s
 have HS := hide hs
 obtain ⟨i0, hi, hz0, hz1, hz2⟩ := info_parts Tryz.infoTk
 have HI := hide hi
 have HZ0 := hide hz0
 have HZ1 := hide hz1
 have HZ2 := hide hz2
 clear hi hz0 hz1 hz2
 go_enter Tryz.func126, Tryz.ntmps126
 go_wp2
 go_loopw [3, 4, 5] (fun vl vo vi wr => ∃ (k : Nat) (l : List Tk) (o : Bool), k ≤ s.size ∧ vo = .bool o ∧ vi = .int .i64 k ∧ Below w.heap.size w wr ∧ wr.ownsRow w.heap.size 259 3 vl l.length (tksCells l) ∧ l.length ≤ k ∧ (o = true → l ≠ []) ∧ (∀ t ∈ l, t.text.length ≤ k) ∧ Hid (foldT k ((lst s).drop k) (l, o) = foldT 0 (lst s) ([], false))) (fun _ _ vi _ => s.size - (intOf vi).toNat)
 case atStart => exact ⟨0, [], false, by omega, rfl, rfl, Below.refl _ _, World.ownsRow_nil _ _ _ _, by simp, by simp, by simp, hide rfl⟩
 case round =>
  obtain ⟨k, l, o, hk, rfl, rfl, hb, hrow, hlk, hol, htx, HF⟩ := hrel
  have HTX := hide htx
  obtain ⟨la, lc, rfl⟩ := own_form hrow
  have HB := hide hb
  have HR := hide hrow
  have HO := hide hol
  clear hb hrow hol htx
  by_cases hlt : k < s.size
  ·have hkl : k < (lst s).length := by rw [lst_length]; exact hlt
   have HC := hide (bt_lst s k hkl)
   have hF := uh HF
   rw [List.drop_eq_getElem_cons hkl] at hF
   simp only [foldT, stepT] at hF
   have hX := byte_mk s k hlt
   generalize hcc : (lst s)[k] = c at *
   by_cases hbl : blank (bt s k) = true
   ·have hbc : blankC c = true := by unfold blankC; rw [← uh HC]; exact hbl
    rw [if_pos hbc] at hF
    have HF' := hide hF
    have h3 : bt s k = 32 ∨ bt s k = 9 ∨ bt s k = 10 := by
     unfold blank at hbl
     simpa [or_assoc] using hbl
    clear hF HF hbl hX hcc
    rcases h3 with h3 | h3 | h3
    all_goals
     go_wp2_with (first | (go_at_call 185; refine (rletter_any _ _).mono ?_; rintro e w' ⟨rfl, rfl⟩) | (go_at_call 186; refine (rdigit_any _ _).mono ?_; rintro e w' ⟨rfl, rfl⟩))
     go_roundw
     case rel => exact ⟨k + 1, l, false, by omega, rfl, by go_num, uh HB, uh HR, by omega, by simp, fun t ht => Nat.le_succ_of_le (uh HTX t ht), HF'⟩
     case measure => simp [intOf]; omega
   ·have hbf : blank (bt s k) = false := by simpa using hbl
    have hbc : blankC c = false := by unfold blankC; rw [← uh HC]; exact hbf
    have n3 : ¬ (bt s k = 32) ∧ ¬ (bt s k = 9) ∧ ¬ (bt s k = 10) := by
     unfold blank at hbf
     simp at hbf
     exact ⟨hbf.1.1, hbf.1.2, hbf.2⟩
    obtain ⟨n31, n32, n33⟩ := n3
    have m31 : (bt s k == 32) = false := beq_eq_false_iff_ne.2 n31
    have m32 : (bt s k == 9) = false := beq_eq_false_iff_ne.2 n32
    have m33 : (bt s k == 10) = false := beq_eq_false_iff_ne.2 n33
    rw [if_neg (by rw [hbc]; simp)] at hF
    have HX := hide hX
    clear hbl hbf hbc HF hX hcc
    have hwd : wordC c = (letter (bt s k) || digit (bt s k)) := by unfold wordC; rw [uh HC]
    have hlt2 : letter c.toNat = letter (bt s k) := by rw [uh HC]
    rw [hwd, hlt2] at hF
    have HF := hide hF
    clear hF hwd hlt2
    by_cases hw : (o && (letter (bt s k) || digit (bt s k))) = true
    ·have hF := uh HF
     rw [if_pos hw] at hF
     rw [Bool.and_eq_true] at hw
     obtain ⟨rfl, hw⟩ := hw
     obtain ⟨l0, t, rfl⟩ : ∃ l0 t, l = l0 ++ [t] := ⟨l.dropLast, l.getLast (uh HO rfl), (List.dropLast_concat_getLast _).symm⟩
     rw [extT_last] at hF
     have HF' := hide hF
     clear hF HF HO
     have hlen : (l0 ++ [t]).length = l0.length + 1 := by simp
     rw [hlen] at HR
     rw [hlen]
     obtain ⟨g, gc, e1, k0⟩ := own_cell (uh HR) (l0.length * 3) _ (tks_at (l0 ++ [t]) l0.length t (by simp)).1
     simp only [Value.slice.injEq] at e1
     obtain ⟨rfl, _, rfl⟩ := e1
     obtain ⟨cur, hblk, hgb⟩ := own_blk (uh HR)
     have zg := Blk.fz hblk
     have lg := Blk.lt hblk
     have htl := uh HTX t (by simp)
     have hmx : ¬ (9223372036854775807 < (mk t.text).size + (s.extract k (k + 1)).size) := by
      rw [uh HX, ← lst_length, ← lst_length, lst_mk, lst_mk]; simp; omega
     have HTX' := hide (show ∀ x ∈ l0 ++ [⟨t.text ++ [c], t.place, t.word⟩], x.text.length ≤ k + 1 from fun x hx => by
      rw [List.mem_append, List.mem_singleton] at hx
      rcases hx with hx | rfl
      ·exact Nat.le_succ_of_le (uh HTX x (by simp [hx]))
      ·simp; omega)
     have hlk' : l0.length + 1 ≤ k := by rw [hlen] at hlk; exact hlk
     clear hblk hlen hlk HTX htl
     have HN := hide (show (tksCells (l0 ++ [t])).set (l0.length * 3) (.string (mk t.text ++ s.extract k (k + 1))) = tksCells (l0 ++ [⟨t.text ++ [c], t.place, t.word⟩]) from by rw [tks_ext, uh HX, mk_app])
     cases hl : letter (bt s k)
     ·have hd : digit (bt s k) = true := by rw [hl] at hw; simpa using hw
      clear hw
      go_wp2_with (first | (go_at_call 185; refine (rletter_any _ _).mono ?_; rintro e w' ⟨rfl, rfl⟩) | (go_at_call 186; refine (rdigit_any _ _).mono ?_; rintro e w' ⟨rfl, rfl⟩))
      go_region
      go_wp2
      go_roundw
      case rel => exact ⟨k + 1, l0 ++ [⟨t.text ++ [c], t.place, t.word⟩], true, by omega, rfl, by go_num, Below.drew ((uh HB).setCell hgb _), (by
       have := own_put (uh HR) (l0.length * 3) (.string (mk t.text ++ s.extract k (k + 1)))
       rw [uh HN] at this
       rw [show (l0 ++ [(⟨t.text ++ [c], t.place, t.word⟩ : Tk)]).length = l0.length + 1 by simp]
       exact this), by simp; omega, by simp, uh HTX', HF'⟩
      case measure => simp [intOf]; omega
     ·clear hw
      go_wp2_with (first | (go_at_call 185; refine (rletter_any _ _).mono ?_; rintro e w' ⟨rfl, rfl⟩) | (go_at_call 186; refine (rdigit_any _ _).mono ?_; rintro e w' ⟨rfl, rfl⟩))
      go_region
      go_wp2
      go_roundw
      case rel => exact ⟨k + 1, l0 ++ [⟨t.text ++ [c], t.place, t.word⟩], true, by omega, rfl, by go_num, Below.drew ((uh HB).setCell hgb _), (by
       have := own_put (uh HR) (l0.length * 3) (.string (mk t.text ++ s.extract k (k + 1)))
       rw [uh HN] at this
       rw [show (l0 ++ [(⟨t.text ++ [c], t.place, t.word⟩ : Tk)]).length = l0.length + 1 by simp]
       exact this), by simp; omega, by simp, uh HTX', HF'⟩
      case measure => simp [intOf]; omega
    ·have hF := uh HF
     rw [if_neg hw] at hF
     have HF' := hide hF
     have HTX' := hide (show ∀ x ∈ l ++ [⟨[c], k, letter (bt s k)⟩], x.text.length ≤ k + 1 from fun x hx => by
      rw [List.mem_append, List.mem_singleton] at hx
      rcases hx with hx | rfl
      ·exact Nat.le_succ_of_le (uh HTX x hx)
      ·simp)
     clear hF HF HTX HO
     cases o
     ·clear hw
      cases hl : letter (bt s k)
      ·rw [hl] at HF' HTX'
       go_wp2_with (first | (go_at_call 185; refine (rletter_any _ _).mono ?_; rintro e w' ⟨rfl, rfl⟩) | (go_at_call 186; refine (rdigit_any _ _).mono ?_; rintro e w' ⟨rfl, rfl⟩) | (at_builtin; go_must (refine wpList_append_lies _ rfl _ _ 249 rfl w.heap.size 259 i0 _ 3 32 Tryz.underlying249 (uh HI) (uh HZ0) (uh HZ1) (uh HZ2) rfl (by decide) (.slice la l.length lc) l.length (tksCells l) rfl ?hownA ⟨w'.heap.size, 0, none⟩ 1 1 [.string (s.extract k (k + 1)), .int .i64 k, .bool false] rfl rfl ?hnewsA ?honeA (by decide) ?h63A ?hbytesA ?hbaseA (w'.heap.size + 1) ?hHA ?hrestA)))
       case hownA => exact (uh HR).alloc _
       case hnewsA => exact World.news_of_block (B := w'.heap.size) (cs := #[.string (s.extract k (k + 1)), .int .i64 k, .bool false]) (t := 259) (fr := (0, 0)) (Blk.new _ _ _)
       case honeA =>
        intro u hu
        simp at hu
        rcases hu with rfl | rfl | rfl <;> rfl
       case h63A => unfold maxLen; omega
       case hbytesA => omega
       case hbaseA => have := (uh HB).size; simp; omega
       case hHA => simp
       case hrestA =>
        intro g5 cap5 w5 hown5 hgrow5 hat5 hgl5
        have O4' := (uh HR).alloc (.cells #[.string (s.extract k (k + 1)), .int .i64 k, .bool false] 259)
        have B5 := hide (Below.grown ((uh HB).alloc (uh HB).size (.cells #[.string (s.extract k (k + 1)), .int .i64 k, .bool false] 259)) hgrow5 (by have := (uh HB).size; simp; omega) (fun k hk => (O4'.lt k hk).1))
        have O5 := hide (show w5.ownsRow w.heap.size 259 3 (.slice (some ⟨g5, 0, none⟩) (l.length + 1) cap5) (l ++ [(⟨[c], k, false⟩ : Tk)]).length (tksCells (l ++ [⟨[c], k, false⟩])) from by
         rw [show (l ++ [(⟨[c], k, false⟩ : Tk)]).length = l.length + 1 by simp]
         have e : tksCells (l ++ [⟨[c], k, false⟩]) = tksCells l ++ [.string (s.extract k (k + 1)), .int .i64 k, .bool false] := by
          unfold tksCells
          rw [List.flatMap_append, uh HX]
          simp [tkCells]
         rw [e]
         exact hown5)
        clear O4' hown5 hgrow5 hat5
        go_wp2
        go_roundw
        case rel => exact ⟨k + 1, l ++ [⟨[c], k, false⟩], false, by omega, rfl, by go_num, uh B5, uh O5, by simp; omega, by simp, uh HTX', HF'⟩
        case measure => simp [intOf]; omega
      ·rw [hl] at HF' HTX'
       go_wp2_with (first | (go_at_call 185; refine (rletter_any _ _).mono ?_; rintro e w' ⟨rfl, rfl⟩) | (go_at_call 186; refine (rdigit_any _ _).mono ?_; rintro e w' ⟨rfl, rfl⟩) | (at_builtin; go_must (refine wpList_append_lies _ rfl _ _ 249 rfl w.heap.size 259 i0 _ 3 32 Tryz.underlying249 (uh HI) (uh HZ0) (uh HZ1) (uh HZ2) rfl (by decide) (.slice la l.length lc) l.length (tksCells l) rfl ?hownB ⟨w'.heap.size, 0, none⟩ 1 1 [.string (s.extract k (k + 1)), .int .i64 k, .bool true] rfl rfl ?hnewsB ?honeB (by decide) ?h63B ?hbytesB ?hbaseB (w'.heap.size + 1) ?hHB ?hrestB)))
       case hownB => exact (uh HR).alloc _
       case hnewsB => exact World.news_of_block (B := w'.heap.size) (cs := #[.string (s.extract k (k + 1)), .int .i64 k, .bool true]) (t := 259) (fr := (0, 0)) (Blk.new _ _ _)
       case honeB =>
        intro u hu
        simp at hu
        rcases hu with rfl | rfl | rfl <;> rfl
       case h63B => unfold maxLen; omega
       case hbytesB => omega
       case hbaseB => have := (uh HB).size; simp; omega
       case hHB => simp
       case hrestB =>
        intro g5 cap5 w5 hown5 hgrow5 hat5 hgl5
        have O4' := (uh HR).alloc (.cells #[.string (s.extract k (k + 1)), .int .i64 k, .bool true] 259)
        have B5 := hide (Below.grown ((uh HB).alloc (uh HB).size (.cells #[.string (s.extract k (k + 1)), .int .i64 k, .bool true] 259)) hgrow5 (by have := (uh HB).size; simp; omega) (fun k hk => (O4'.lt k hk).1))
        have O5 := hide (show w5.ownsRow w.heap.size 259 3 (.slice (some ⟨g5, 0, none⟩) (l.length + 1) cap5) (l ++ [(⟨[c], k, true⟩ : Tk)]).length (tksCells (l ++ [⟨[c], k, true⟩])) from by
         rw [show (l ++ [(⟨[c], k, true⟩ : Tk)]).length = l.length + 1 by simp]
         have e : tksCells (l ++ [⟨[c], k, true⟩]) = tksCells l ++ [.string (s.extract k (k + 1)), .int .i64 k, .bool true] := by
          unfold tksCells
          rw [List.flatMap_append, uh HX]
          simp [tkCells]
         rw [e]
         exact hown5)
        clear O4' hown5 hgrow5 hat5
        go_wp2
        go_roundw
        case rel => exact ⟨k + 1, l ++ [⟨[c], k, true⟩], true, by omega, rfl, by go_num, uh B5, uh O5, by simp; omega, by simp, uh HTX', HF'⟩
        case measure => simp [intOf]; omega
     ·have hl : letter (bt s k) = false := by
       cases h : letter (bt s k)
       ·rfl
       ·rw [h] at hw; simp at hw
      have hd : digit (bt s k) = false := by
       cases h : digit (bt s k)
       ·rfl
       ·rw [h] at hw; simp at hw
      clear hw
      rw [hl] at HF' HTX'
      go_wp2_with (first | (go_at_call 185; refine (rletter_any _ _).mono ?_; rintro e w' ⟨rfl, rfl⟩) | (go_at_call 186; refine (rdigit_any _ _).mono ?_; rintro e w' ⟨rfl, rfl⟩) | (at_builtin; go_must (refine wpList_append_lies _ rfl _ _ 249 rfl w.heap.size 259 i0 _ 3 32 Tryz.underlying249 (uh HI) (uh HZ0) (uh HZ1) (uh HZ2) rfl (by decide) (.slice la l.length lc) l.length (tksCells l) rfl ?hownC ⟨w'.heap.size, 0, none⟩ 1 1 [.string (s.extract k (k + 1)), .int .i64 k, .bool false] rfl rfl ?hnewsC ?honeC (by decide) ?h63C ?hbytesC ?hbaseC (w'.heap.size + 1) ?hHC ?hrestC)))
      case hownC => exact (uh HR).alloc _
      case hnewsC => exact World.news_of_block (B := w'.heap.size) (cs := #[.string (s.extract k (k + 1)), .int .i64 k, .bool false]) (t := 259) (fr := (0, 0)) (Blk.new _ _ _)
      case honeC =>
       intro u hu
       simp at hu
       rcases hu with rfl | rfl | rfl <;> rfl
      case h63C => unfold maxLen; omega
      case hbytesC => omega
      case hbaseC => have := (uh HB).size; simp; omega
      case hHC => simp
      case hrestC =>
       intro g5 cap5 w5 hown5 hgrow5 hat5 hgl5
       have O4' := (uh HR).alloc (.cells #[.string (s.extract k (k + 1)), .int .i64 k, .bool false] 259)
       have B5 := hide (Below.grown ((uh HB).alloc (uh HB).size (.cells #[.string (s.extract k (k + 1)), .int .i64 k, .bool false] 259)) hgrow5 (by have := (uh HB).size; simp; omega) (fun k hk => (O4'.lt k hk).1))
       have O5 := hide (show w5.ownsRow w.heap.size 259 3 (.slice (some ⟨g5, 0, none⟩) (l.length + 1) cap5) (l ++ [(⟨[c], k, false⟩ : Tk)]).length (tksCells (l ++ [⟨[c], k, false⟩])) from by
        rw [show (l ++ [(⟨[c], k, false⟩ : Tk)]).length = l.length + 1 by simp]
        have e : tksCells (l ++ [⟨[c], k, false⟩]) = tksCells l ++ [.string (s.extract k (k + 1)), .int .i64 k, .bool false] := by
         unfold tksCells
         rw [List.flatMap_append, uh HX]
         simp [tkCells]
        rw [e]
        exact hown5)
       clear O4' hown5 hgrow5 hat5
       go_wp2
       go_roundw
       case rel => exact ⟨k + 1, l ++ [⟨[c], k, false⟩], false, by omega, rfl, by go_num, uh B5, uh O5, by simp; omega, by simp, uh HTX', HF'⟩
       case measure => simp [intOf]; omega
  ·have hks : k = s.size := by omega
   subst hks
   have hF := uh HF
   have HD := hide (show toks s = l ++ [endT s.size] from by
    rw [List.drop_of_length_le (by rw [lst_length]; exact Nat.le_refl _)] at hF
    simp only [foldT] at hF
    unfold toks toksK
    rw [List.drop_zero, ← hF])
   clear hF HF HTX HO
   go_wp2_with (at_builtin; go_must (refine wpList_append_lies _ rfl _ _ 249 rfl w.heap.size 259 i0 _ 3 32 Tryz.underlying249 (uh HI) (uh HZ0) (uh HZ1) (uh HZ2) rfl (by decide) (.slice la l.length lc) l.length (tksCells l) rfl ?hownE ⟨wr.heap.size, 0, none⟩ 1 1 [.string ⟨#[]⟩, .int .i64 s.size, .bool false] rfl rfl ?hnewsE ?honeE (by decide) ?h63E ?hbytesE ?hbaseE (wr.heap.size + 1) ?hHE ?hrestE))
   case hownE => exact (uh HR).alloc _
   case hnewsE => exact World.news_of_block (B := wr.heap.size) (cs := #[.string ⟨#[]⟩, .int .i64 s.size, .bool false]) (t := 259) (fr := (0, 0)) (Blk.new _ _ _)
   case honeE =>
    intro u hu
    simp at hu
    rcases hu with rfl | rfl | rfl <;> rfl
   case h63E => unfold maxLen; omega
   case hbytesE => omega
   case hbaseE => have := (uh HB).size; simp; omega
   case hHE => simp
   case hrestE =>
    intro g5 cap5 w5 hown5 hgrow5 hat5 hgl5
    have O4' := (uh HR).alloc (.cells #[.string ⟨#[]⟩, .int .i64 s.size, .bool false] 259)
    have B5 := hide (Below.grown ((uh HB).alloc (uh HB).size (.cells #[.string ⟨#[]⟩, .int .i64 s.size, .bool false] 259)) hgrow5 (by have := (uh HB).size; simp; omega) (fun k hk => (O4'.lt k hk).1))
    have O5 := hide (show w5.ownsRow w.heap.size 259 3 (.slice (some ⟨g5, 0, none⟩) (l.length + 1) cap5) (toks s).length (tksCells (toks s)) from by
     rw [uh HD, show (l ++ [endT s.size]).length = l.length + 1 by simp]
     have e : tksCells (l ++ [endT s.size]) = tksCells l ++ [.string ⟨#[]⟩, .int .i64 s.size, .bool false] := by
      unfold tksCells
      rw [List.flatMap_append]
      simp [tkCells, endT, mk]
     rw [e]
     exact hown5)
    clear O4' hown5 hgrow5 hat5
    go_wp2
    go_ret
    exact ⟨_, rfl, uh B5, uh O5⟩
end Go.Proofs.YtlbpnlngckgcbaaGreatDoor
