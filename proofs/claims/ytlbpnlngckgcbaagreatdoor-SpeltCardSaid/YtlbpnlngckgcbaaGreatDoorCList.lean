import Derived.Test.YtlbpnlngckgcbaaGreatDoorGrants
namespace Go.Proofs.YtlbpnlngckgcbaaGreatDoor
open Go.RowKit Go.PlainAid
set_option linter.unusedSimpArgs false
set_option linter.unusedVariables false

def t3 (p : Ty × Value) : E3 := (p.1.place, p.1.name, p.2)
def r3 (p : Rl × Value) : E3 := (p.1.place, p.1.name, p.2)
def findTy (ts : List Ty) (x : ByteArray) : Option Ty := ts.find? fun t => eqs t.name x
def findRl (t : Ty) (x : ByteArray) : Option Rl := t.rels.find? fun r => eqs r.name x
theorem c3_t3 (l : List (Ty × Value)) : (l.map t3).flatMap c3 = l.flatMap tyCells := by rw [List.flatMap_map]; rfl
theorem c3_r3 (l : List (Rl × Value)) : (l.map r3).flatMap c3 = l.flatMap rlCells := by rw [List.flatMap_map]; rfl
theorem find3_t3 (x : ByteArray) (l : List (Ty × Value)) : find3 x (l.map t3) = (l.find? fun p => eqs p.1.name x).map t3 := by
  unfold find3; rw [List.find?_map]; rfl
theorem find3_r3 (x : ByteArray) (l : List (Rl × Value)) : find3 x (l.map r3) = (l.find? fun p => eqs p.1.name x).map r3 := by
  unfold find3; rw [List.find?_map]; rfl
theorem findTy_map (x : ByteArray) (l : List (Ty × Value)) : findTy (l.map Prod.fst) x = (l.find? fun p => eqs p.1.name x).map Prod.fst := by
  unfold findTy; rw [List.find?_map]; rfl

/-- What the relations of a type lie in memory as, with the bounds that hold of what was read. -/
structure RC (b : Nat) (w : World) (sv : Value) (rs : List Rl) (rl : List (Rl × Value)) : Prop where
  fst : rl.map Prod.fst = rs
  row : Row3 w 159 sv (rl.map r3)
  ex : ∀ p ∈ rl, RepEx b w p.1.body p.2
  len : rs.length ≤ 1000
  okp : ∀ r ∈ rs, (partsE r.body).length ≤ 1000
  okg : ∀ r ∈ rs, (allG r.body).length ≤ 1000
  wf : ∀ r ∈ rs, WF r.body
structure MC (b : Nat) (w : World) (sv : Value) (ts : List Ty) (tl : List (Ty × Value)) : Prop where
  fst : tl.map Prod.fst = ts
  row : Row3 w 110 sv (tl.map t3)
  rels : ∀ p ∈ tl, ∃ rl, RC b w p.2 p.1.rels rl
  len : ts.length ≤ 1000
  blt : b < w.heap.size
theorem RC.below {b : Nat} {w w' : World} {sv : Value} {rs : List Rl} {rl : List (Rl × Value)} (h : RC b w sv rs rl) (k : Below w.heap.size w w') : RC b w' sv rs rl :=
  ⟨h.fst, h.row.below k, fun p hp => (h.ex p hp).but (But.of_below k), h.len, h.okp, h.okg, h.wf⟩
theorem MC.below {b : Nat} {w w' : World} {sv : Value} {ts : List Ty} {tl : List (Ty × Value)} (h : MC b w sv ts tl) (k : Below w.heap.size w w') : MC b w' sv ts tl :=
  ⟨h.fst, h.row.below k, fun p hp => by obtain ⟨rl, hr⟩ := h.rels p hp; exact ⟨rl, hr.below k⟩, h.len, Nat.lt_of_lt_of_le h.blt k.size⟩
theorem RC.form {b : Nat} {w : World} {sv : Value} {rs : List Rl} {rl : List (Rl × Value)} (h : RC b w sv rs rl) : ∃ a n c, sv = .slice a n c := by
  obtain ⟨a, c, e⟩ := own_form h.row
  exact ⟨a, _, c, e⟩
theorem MC.form {b : Nat} {w : World} {sv : Value} {ts : List Ty} {tl : List (Ty × Value)} (h : MC b w sv ts tl) : ∃ a n c, sv = .slice a n c := by
  obtain ⟨a, c, e⟩ := own_form h.row
  exact ⟨a, _, c, e⟩
theorem RC.llen {b : Nat} {w : World} {sv : Value} {rs : List Rl} {rl : List (Rl × Value)} (h : RC b w sv rs rl) : (rl.map r3).length ≤ 1000 := by
  have := h.len; rw [← h.fst] at this; simpa using this
theorem MC.llen {b : Nat} {w : World} {sv : Value} {ts : List Ty} {tl : List (Ty × Value)} (h : MC b w sv ts tl) : (tl.map t3).length ≤ 1000 := by
  have := h.len; rw [← h.fst] at this; simpa using this

/-- m.find: a type of this name. -/
theorem mfind_no (b : Nat) (sv : Value) (ts : List Ty) (tl : List (Ty × Value)) (x : ByteArray) (w : World) (h : MC b w sv ts tl) (hf : findTy ts x = none) :
    Calls Tryz.prog 57 #[.agg #[sv], .string x] w fun e w' => e = .returned (.tuple #[.agg #[.int .i64 0, .string ⟨#[]⟩, .slice none 0 0], errv 5]) ∧ Below w.heap.size w w' := by
  refine find_no_T sv (tl.map t3) x w h.llen h.row ?_
  rw [← h.fst, findTy_map] at hf
  rw [find3_t3]
  cases hq : tl.find? (fun p => eqs p.1.name x) with
  | none => rfl
  | some y => rw [hq] at hf; cases hf
theorem mfind_yes (b : Nat) (sv : Value) (ts : List Ty) (tl : List (Ty × Value)) (x : ByteArray) (w : World) (h : MC b w sv ts tl) (t : Ty) (hf : findTy ts x = some t) :
    ∃ va vn vc rl, RC b w (.slice va vn vc) t.rels rl ∧ Calls Tryz.prog 57 #[.agg #[sv], .string x] w fun e w' => e = .returned (.tuple #[.agg #[.int .i64 t.place, .string t.name, .slice va vn vc], .nilIface]) ∧ Below w.heap.size w w' := by
  rw [← h.fst, findTy_map] at hf
  cases hq : tl.find? (fun p => eqs p.1.name x) with
  | none => rw [hq] at hf; cases hf
  | some y =>
    rw [hq] at hf
    simp only [Option.map_some, Option.some.injEq] at hf
    subst hf
    obtain ⟨rl, hr⟩ := h.rels y (List.mem_of_find?_eq_some hq)
    obtain ⟨a, n, c, e⟩ := hr.form
    have hr' := hr
    rw [e] at hr'
    refine ⟨a, n, c, rl, hr', ?_⟩
    have := find_yes_T sv (tl.map t3) x w h.llen h.row (t3 y) (by rw [find3_t3, hq]; rfl) ⟨a, n, c, e⟩
    have e2 : (t3 y).2.2 = .slice a n c := e
    rw [e2] at this
    exact this
theorem tfind_no (b pp : Nat) (nn : ByteArray) (sv : Value) (t : Ty) (rl : List (Rl × Value)) (x : ByteArray) (w : World) (h : RC b w sv t.rels rl) (hf : findRl t x = none) :
    Calls Tryz.prog 145 #[.agg #[.int .i64 pp, .string nn, sv], .string x] w fun e w' => e = .returned (.tuple #[.agg #[.int .i64 0, .string ⟨#[]⟩, .nilIface], errv 5]) ∧ Below w.heap.size w w' := by
  refine find_no_R pp nn sv (rl.map r3) x w h.llen h.row ?_
  unfold findRl at hf
  rw [← h.fst, List.find?_map] at hf
  rw [find3_r3]
  cases hq : rl.find? (fun p => eqs p.1.name x) with
  | none => rfl
  | some y => rw [show ((fun r : Rl => eqs r.name x) ∘ Prod.fst) = (fun p : Rl × Value => eqs p.1.name x) from rfl, hq] at hf; cases hf
theorem tfind_yes (b pp : Nat) (nn : ByteArray) (sv : Value) (t : Ty) (rl : List (Rl × Value)) (x : ByteArray) (w : World) (h : RC b w sv t.rels rl) (r : Rl) (hf : findRl t x = some r) :
    ∃ ta va, RepEx b w r.body (.iface ta va) ∧ r ∈ t.rels ∧ Calls Tryz.prog 145 #[.agg #[.int .i64 pp, .string nn, sv], .string x] w fun e w' => e = .returned (.tuple #[.agg #[.int .i64 r.place, .string r.name, .iface ta va], .nilIface]) ∧ Below w.heap.size w w' := by
  have hmem : r ∈ t.rels := List.mem_of_find?_eq_some hf
  unfold findRl at hf
  rw [← h.fst, List.find?_map, show ((fun r : Rl => eqs r.name x) ∘ Prod.fst) = (fun p : Rl × Value => eqs p.1.name x) from rfl] at hf
  cases hq : rl.find? (fun p => eqs p.1.name x) with
  | none => rw [hq] at hf; cases hf
  | some y =>
    rw [hq] at hf
    simp only [Option.map_some, Option.some.injEq] at hf
    subst hf
    have hr := h.ex y (List.mem_of_find?_eq_some hq)
    obtain ⟨ta, va, e⟩ := hr.isI
    have hr' := hr
    rw [e] at hr'
    refine ⟨ta, va, hr', hmem, ?_⟩
    have := find_yes_R pp nn sv (rl.map r3) x w h.llen h.row (r3 y) (by rw [find3_r3, hq]; rfl) ⟨ta, va, e⟩
    have e2 : (r3 y).2.2 = .iface ta va := e
    rw [e2] at this
    exact this

theorem gs_get (g : Gr) : ∀ (l : List Gr) (i : Nat), l[i]? = some g → (gsCells l)[i * 5]? = some (.int .i64 g.tp) ∧ (gsCells l)[i * 5 + 1]? = some (.string g.ty) ∧ (gsCells l)[i * 5 + 2]? = some (.int .i64 g.reach) ∧ (gsCells l)[i * 5 + 3]? = some (.int .i64 g.rp) ∧ (gsCells l)[i * 5 + 4]? = some (.string g.rel)
  | [], i, h => by simp at h
  | e' :: l, 0, h => by simp at h; subst h; simp [gsCells, grCells]
  | e' :: l, i + 1, h => by
    have := gs_get g l i (by simpa using h)
    rw [show gsCells (e' :: l) = (grCells e').toList ++ gsCells l from rfl, show (i + 1) * 5 = i * 5 + 5 by omega]
    simpa [grCells] using this
theorem Row5.cell {w : World} {base : Nat} {v : Value} {l : List Gr} (h : w.ownsRow base 207 5 v l.length (gsCells l)) (i : Nat) (g : Gr) (hi : l[i]? = some g) :
    ∃ q c, v = .slice (some ⟨q, 0, none⟩) l.length c ∧ w.cell? ⟨q, i * 5, none⟩ = some (.int .i64 g.tp) ∧ w.cell? ⟨q, i * 5 + 1, none⟩ = some (.string g.ty) ∧ w.cell? ⟨q, i * 5 + 2, none⟩ = some (.int .i64 g.reach) ∧ w.cell? ⟨q, i * 5 + 3, none⟩ = some (.int .i64 g.rp) ∧ w.cell? ⟨q, i * 5 + 4, none⟩ = some (.string g.rel) := by
  obtain ⟨h0, h1, h2, h3, h4⟩ := gs_get g l i hi
  obtain ⟨q, c, rfl, e0⟩ := own_cell h _ _ h0
  have go : ∀ k u, (gsCells l)[k]? = some u → w.cell? ⟨q, k, none⟩ = some u := fun k u hu => by
    obtain ⟨q', c', e', e1⟩ := own_cell h k u hu
    simp only [Value.slice.injEq, Option.some.injEq, Addr.mk.injEq] at e'
    obtain ⟨⟨rfl, _⟩, _⟩ := e'
    exact e1
  exact ⟨q, c, rfl, e0, go _ _ h1, go _ _ h2, go _ _ h3, go _ _ h4⟩

/-- P4: of one grant: the place of a name that is not there. -/
def grantN (ts : List Ty) (g : Gr) : Option Nat := match findTy ts g.ty with
  | none => some g.tp
  | some t => if g.reach = 2 then (match findRl t g.rel with
      | none => some g.rp
      | some _ => none) else none
def listN (ts : List Ty) (gs : List Gr) : Option Nat := gs.findSome? (grantN ts)
theorem listN_step (ts : List Ty) (gs : List Gr) (k : Nat) (hk : k < gs.length) : listN ts (gs.drop k) = match grantN ts gs[k] with
    | some p => some p
    | none => listN ts (gs.drop (k + 1)) := by
  unfold listN
  rw [List.drop_eq_getElem_cons hk, List.findSome?_cons]
  cases grantN ts gs[k] <;> rfl

set_option maxHeartbeats 2000000 in
set_option maxRecDepth 100000 in
theorem checkList_any (b lp : Nat) (sv : Value) (ts : List Ty) (tl : List (Ty × Value)) (gv : Value) (gs : List Gr) (w : World) (h : MC b w sv ts tl) (hg : w.ownsRow (b + 1) 207 5 gv gs.length (gsCells gs)) (hgl : gs.length ≤ 1000) :
    Calls Tryz.prog 174 #[.agg #[sv], .agg #[.int .i64 lp, gv]] w fun e' w' => e' = .returned (errO 5 (listN ts gs)) ∧ Below w.heap.size w w' := by
  obtain ⟨ma, mn, mc, rfl⟩ := h.form
  obtain ⟨ga, gc, rfl⟩ := own_form hg
  have H := hide h
  have HG := hide hg
  generalize hR : listN ts gs = R
  have HRR := hide hR
  clear h hg hR
  go_enter Tryz.func174, Tryz.ntmps174
  go_wp2_with fail
  go_loopw [14] (fun u wr => ∃ (k : Nat), k ≤ gs.length ∧ u = .int .i64 k ∧ Below w.heap.size w wr ∧ Blk wr w.heap.size #[.slice ma mn mc] 75 ∧ Hid (listN ts (gs.drop k) = R)) (fun u _ => gs.length - (intOf u).toNat)
  case atStart => exact ⟨0, by omega, rfl, ((Below.refl _ _).alloc (Nat.le_refl _) _).alloc (by simp) _, (Blk.new w _ _).alloc _, HRR⟩
  case round =>
    obtain ⟨k, hk, rfl, hb, hbl, HQ⟩ := hrel
    have HB := hide hb
    have HL := hide hbl
    have wrs := hb.size
    by_cases hlt : k < gs.length
    · have hR := unhide HQ
      rw [listN_step ts gs k hlt] at hR
      obtain ⟨q, c, e1, k0, k1, k2, k3, k4⟩ := Row5.cell (ownsRow_frame (w' := wr) (unhide HG) (fun g cs f _ hh => hb.block g (lt_of_some hh))) k gs[k] (List.getElem?_eq_getElem hlt)
      simp only [Value.slice.injEq] at e1
      obtain ⟨rfl, _, rfl⟩ := e1
      generalize gs[k] = g at *
      have bx : Below w.heap.size w (wr.alloc (.cells #[.int .i64 g.tp, .string g.ty, .int .i64 g.reach, .int .i64 g.rp, .string g.rel] 207)) := hb.alloc wrs _
      have HM := hide ((unhide H).below bx)
      have L1 := hbl.alloc (.cells #[.int .i64 g.tp, .string g.ty, .int .i64 g.reach, .int .i64 g.rp, .string g.rel] 207)
      have G1 := Blk.new wr #[.int .i64 g.tp, .string g.ty, .int .i64 g.reach, .int .i64 g.rp, .string g.rel] 207
      have m0 : wr.cell? ⟨w.heap.size, 0, none⟩ = some (.slice ma mn mc) := hbl.cell rfl
      have ml := hbl.lt
      have HBX := hide bx
      have HL1 := hide L1
      have HG1 := hide G1
      clear hb hbl bx L1 G1
      unfold grantN at hR
      cases hf : findTy ts g.ty with
      | none =>
        rw [hf] at hR
        have HR2 := hide hR
        have C := hide (mfind_no b _ ts tl g.ty _ (unhide HM) hf)
        clear hR hf
        go_wp2_with fail
        refine (unhide C).mono ?_
        rintro e w2 ⟨rfl, hb2⟩
        have B2 := hide ((unhide HBX).trans (hb2.mono (unhide HBX).size))
        obtain ⟨g0, g1, g2, g3, g4⟩ := ((unhide HG1).below hb2).five
        have gl := ((unhide HG1).below hb2).lt
        have sz2 := (unhide B2).size
        clear hb2
        unfold errv
        go_wp2_with (go_at_call 73; refine (wrap_err _ 5 _).mono ?_; rintro e w3 ⟨rfl, rfl⟩)
        go_ret
        rw [← unhide HR2]
        exact ⟨rfl, (by repeat (first | with_reducible exact unhide B2 | with_reducible refine Below.drew ?_ | (with_reducible refine Below.setCell ?_ ?_ _; rotate_left; exact (by first | omega | (simp; omega) | simp | (simp; done))) | (with_reducible refine Below.alloc ?_ ?_ _; rotate_left; exact (by first | omega | (simp; omega) | simp | (simp; done)))))⟩
      | some t =>
        rw [hf] at hR
        obtain ⟨va, vn, vc, rl, hrc, hcall⟩ := mfind_yes b _ ts tl g.ty _ (unhide HM) t hf
        have C := hide hcall
        have RCH := hide hrc
        clear hf hcall hrc
        simp only at hR
        by_cases h2 : g.reach = 2
        · have h2' : ((g.reach : Int) != 2) = false := by rw [h2]; rfl
          rw [if_pos h2] at hR
          clear h2
          go_wp2_with fail
          refine (unhide C).mono ?_
          rintro e w2 ⟨rfl, hb2⟩
          have b2 := (unhide HBX).trans (hb2.mono (unhide HBX).size)
          have B2 := hide b2
          have L2 := hide ((unhide HL1).below hb2)
          have RC2 := hide (((unhide RCH).below hb2).below ((Below.refl w2.heap.size w2).alloc (Nat.le_refl _) (.cells #[.int .i64 t.place, .string t.name, .slice va vn vc] 110)))
          have G2 := hide ((unhide HG1).below hb2)
          obtain ⟨g0, g1, g2, g3, g4⟩ := (unhide G2).five
          have gl := (unhide G2).lt
          have sz2 := b2.size
          clear hb2 b2 C
          cases hq : findRl t g.rel with
          | none =>
            rw [hq] at hR
            have HR2 := hide hR
            have C := hide (tfind_no b t.place t.name _ t rl g.rel _ (unhide RC2) hq)
            clear hR hq
            go_wp2_with fail
            refine (unhide C).mono ?_
            rintro e w3 ⟨rfl, hb3⟩
            have B3 := hide (((unhide B2).alloc sz2 (.cells #[.int .i64 t.place, .string t.name, .slice va vn vc] 110)).trans (hb3.mono (by simp; omega)))
            obtain ⟨n0, n1, n2, n3, n4⟩ := (((unhide G2).alloc (.cells #[.int .i64 t.place, .string t.name, .slice va vn vc] 110)).below hb3).five
            have nl := (((unhide G2).alloc (.cells #[.int .i64 t.place, .string t.name, .slice va vn vc] 110)).below hb3).lt
            have sz3 := (unhide B3).size
            clear hb3 g0 g1 g2 g3 g4
            unfold errv
            go_wp2_with (go_at_call 73; refine (wrap_err _ 5 _).mono ?_; rintro e w3 ⟨rfl, rfl⟩)
            go_ret
            rw [← unhide HR2]
            exact ⟨rfl, (by repeat (first | with_reducible exact unhide B3 | with_reducible refine Below.drew ?_ | (with_reducible refine Below.setCell ?_ ?_ _; rotate_left; exact (by first | omega | (simp; omega) | simp | (simp; done))) | (with_reducible refine Below.alloc ?_ ?_ _; rotate_left; exact (by first | omega | (simp; omega) | simp | (simp; done)))))⟩
          | some r =>
            rw [hq] at hR
            have HR2 := hide hR
            obtain ⟨xa, xv, _, _, hcall⟩ := tfind_yes b t.place t.name _ t rl g.rel _ (unhide RC2) r hq
            have C := hide hcall
            clear hR hq hcall
            go_wp2_with fail
            refine (unhide C).mono ?_
            rintro e w3 ⟨rfl, hb3⟩
            have B3 := hide (((unhide B2).alloc sz2 (.cells #[.int .i64 t.place, .string t.name, .slice va vn vc] 110)).trans (hb3.mono (by simp; omega)))
            have L3 := hide (((unhide L2).alloc (.cells #[.int .i64 t.place, .string t.name, .slice va vn vc] 110)).below hb3)
            have sz3 := (unhide B3).size
            clear hb3
            go_wp2
            go_roundw
            case rel => exact ⟨k + 1, by omega, by go_num, (by repeat (first | with_reducible exact unhide B3 | with_reducible refine Below.drew ?_ | (with_reducible refine Below.setCell ?_ ?_ _; rotate_left; exact (by first | omega | (simp; omega) | simp | (simp; done))) | (with_reducible refine Below.alloc ?_ ?_ _; rotate_left; exact (by first | omega | (simp; omega) | simp | (simp; done))))), (by repeat (first | with_reducible exact unhide L3 | with_reducible apply Blk.alloc | with_reducible apply Blk.drew | with_reducible apply Blk.set | (with_reducible apply Blk.other; case ha => exact (by first | omega | (simp; omega) | simp | (simp; done))))), HR2⟩
            case measure => simp [intOf]; omega
        · have h2' : ((g.reach : Int) != 2) = true := by rw [bne_iff_ne]; omega
          rw [if_neg h2] at hR
          have HR2 := hide hR
          clear h2 hR
          go_wp2_with fail
          refine (unhide C).mono ?_
          rintro e w2 ⟨rfl, hb2⟩
          have B2 := hide ((unhide HBX).trans (hb2.mono (unhide HBX).size))
          have L2 := hide ((unhide HL1).below hb2)
          obtain ⟨g0, g1, g2, g3, g4⟩ := ((unhide HG1).below hb2).five
          have gl := ((unhide HG1).below hb2).lt
          have sz2 := (unhide B2).size
          clear hb2 C
          go_wp2
          go_roundw
          case rel => exact ⟨k + 1, by omega, by go_num, (by repeat (first | with_reducible exact unhide B2 | with_reducible refine Below.drew ?_ | (with_reducible refine Below.setCell ?_ ?_ _; rotate_left; exact (by first | omega | (simp; omega) | simp | (simp; done))) | (with_reducible refine Below.alloc ?_ ?_ _; rotate_left; exact (by first | omega | (simp; omega) | simp | (simp; done))))), (by repeat (first | with_reducible exact unhide L2 | with_reducible apply Blk.alloc | with_reducible apply Blk.drew | with_reducible apply Blk.set | (with_reducible apply Blk.other; case ha => exact (by first | omega | (simp; omega) | simp | (simp; done))))), HR2⟩
          case measure => simp [intOf]; omega
    · have hR := unhide HQ
      rw [List.drop_of_length_le (by omega)] at hR
      have HR2 := hide hR
      clear hb hbl hR
      go_wp2
      go_ret
      rw [← unhide HR2]
      exact ⟨rfl, unhide HB⟩
end Go.Proofs.YtlbpnlngckgcbaaGreatDoor
