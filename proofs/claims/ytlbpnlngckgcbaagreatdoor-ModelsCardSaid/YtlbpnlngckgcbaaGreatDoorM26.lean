import Derived.Test.YtlbpnlngckgcbaaGreatDoorM25
namespace Go.Proofs.YtlbpnlngckgcbaaGreatDoor
open Go.RowKit Go.PlainAid
set_option linter.unusedSimpArgs false
set_option linter.unusedVariables false
/-- A relation of a type, by their names. -/
abbrev Sp := ByteArray × ByteArray
def spC (s : Sp) : List Value := [.string s.1, .string s.2]
def spCells (l : List Sp) : List Value := l.flatMap spC
theorem sp_get (s : Sp) : ∀ (l : List Sp) (i : Nat), l[i]? = some s → (spCells l)[i * 2]? = some (.string s.1) ∧ (spCells l)[i * 2 + 1]? = some (.string s.2)
 | [], i, h => by simp at h
 | e' :: l, 0, h => by simp at h; subst h; simp [spCells, spC]
 | e' :: l, i + 1, h => by
  have := sp_get s l i (by simpa using h)
  rw [show spCells (e' :: l) = spC e' ++ spCells l from rfl, show (i + 1) * 2 = i * 2 + 2 by omega]
  simpa [spC] using this
theorem Row2.cell {w : World} {base : Nat} {v : Value} {l : List Sp} (h : w.ownsRow base 291 2 v l.length (spCells l)) (i : Nat) (s : Sp) (hi : l[i]? = some s) :
  ∃ q c, v = .slice (some ⟨q, 0, none⟩) l.length c ∧ w.cell? ⟨q, i * 2, none⟩ = some (.string s.1) ∧ w.cell? ⟨q, i * 2 + 1, none⟩ = some (.string s.2) := by
 obtain ⟨h0, h1⟩ := sp_get s l i hi
 obtain ⟨q, c, rfl, e0⟩ := own_cell h _ _ h0
 obtain ⟨q', c', e', e1⟩ := own_cell h _ _ h1
 simp only [Value.slice.injEq, Option.some.injEq, Addr.mk.injEq] at e'
 obtain ⟨⟨rfl, _⟩, _⟩ := e'
 exact ⟨q, c, rfl, e0, e1⟩
theorem spCells_append (a c : List Sp) : spCells (a ++ c) = spCells a ++ spCells c := by simp [spCells]
theorem spCells_length (a : List Sp) : (spCells a).length = a.length * 2 := by
 induction a with
 | nil => rfl
 | cons g r ih => simp [spCells, spC] at *; omega
theorem sp_one (l : List Sp) : ∀ u ∈ spCells l, u.oneCell' = true := by
 intro u hu
 unfold spCells at hu
 rw [List.mem_flatMap] at hu
 obtain ⟨g, _, hu⟩ := hu
 simp [spC] at hu
 rcases hu with rfl | rfl <;> rfl
theorem Tryz.info291 : (Tryz.prog.info? 291).map (fun i => (i.zero, i.size, i.bytes)) = some (some (.agg #[.string ⟨#[]⟩, .string ⟨#[]⟩]), 2, 32) := by kernel_rfl
/-- The slice holds the spots; an empty one is nil. -/
def RepSp (base : Nat) (w : World) (sv : Value) (l : List Sp) : Prop := w.ownsRow base 291 2 sv l.length (spCells l) ∧ (l = [] → sv = .slice none 0 0)
theorem RepSp.nil (base : Nat) (w : World) : RepSp base w (.slice none 0 0) [] := ⟨World.ownsRow_nil _ _ _ _, fun _ => rfl⟩
theorem RepSp.below {base : Nat} {w w' : World} {sv : Value} {l : List Sp} (h : RepSp base w sv l) (k : Below w.heap.size w w') : RepSp base w' sv l := ⟨ownsRow_frame h.1 (fun g cs f _ hh => k.block g (lt_of_some hh)), h.2⟩
theorem RepSp.form {base : Nat} {w : World} {sv : Value} {l : List Sp} (h : RepSp base w sv l) : ∃ a c, sv = .slice a l.length c := own_form h.1
theorem RepSp.base {base base' : Nat} {w : World} {sv : Value} {l : List Sp} (h : RepSp base w sv l) (hb : base' ≤ base) : RepSp base' w sv l := ⟨ownsRow_base h.1 hb, h.2⟩
def rel1 (g : Gr) : Option Sp := if g.reach = 2 then some (g.ty, g.rel) else none
def relK (k : Nat) (gs : List Gr) : List Sp := (gs.take k).filterMap rel1
def relP (r : Rl) : List Sp := (allG r.body).filterMap rel1
theorem relK_step {k : Nat} {gs : List Gr} {g : Gr} (h : gs[k]? = some g) : relK (k + 1) gs = relK k gs ++ (rel1 g).toList := by
 have hlt : k < gs.length := by
  rcases Nat.lt_or_ge k gs.length with h' | h'
  ·exact h'
  ·rw [List.getElem?_eq_none h'] at h; cases h
 rw [List.getElem?_eq_getElem hlt] at h
 simp only [Option.some.injEq] at h
 unfold relK
 rw [List.take_succ_eq_append_getElem hlt, List.filterMap_append, h]
 cases hq : rel1 g <;> simp [hq]
theorem relK_le (k : Nat) (gs : List Gr) : (relK k gs).length ≤ k := by
 unfold relK
 have := List.length_filterMap_le rel1 (gs.take k)
 rw [List.length_take] at this
 omega
set_option maxHeartbeats 2000000 in
set_option maxRecDepth 100000 in
theorem related_any (b : Nat) (r : Rl) (v : Value) (w : World) (hb : b < w.heap.size) (h : RepEx b w r.body v) (hp : (partsE r.body).length ≤ 1000) (hg : (allG r.body).length ≤ 1000) (hwf : WF r.body) :
  Calls Tryz.prog 225 #[.agg #[.int .i64 r.place, .string r.name, v]] w fun e' w' => ∃ sv, e' = .returned sv ∧ Below w.heap.size w w' ∧ RepSp w.heap.size w' sv (relP r) := by
 obtain ⟨i0, hi, hz0, hz1, hz2⟩ := info_parts Tryz.info291
 have HI := hide hi
 have HZ0 := hide hz0
 have HZ1 := hide hz1
 have HZ2 := hide hz2
 clear hi hz0 hz1 hz2
 obtain ⟨ra, rv, rfl⟩ := h.isI
 have H := hide h
 have HWF := hide hwf
 clear h hwf
 go_enter Tryz.func225, Tryz.ntmps225
 go_wp2_with fail
 refine (grants_any r.place r.name b r.body _ _ (by simp; omega) ((uh H).but ((But.refl b w).alloc _)) hp hg (uh HWF)).mono ?_
 rintro e w3 ⟨gv, rfl, hb3, hrow⟩
 obtain ⟨ga, gc, rfl⟩ := own_form hrow
 have B3 := hide (((Below.refl _ w).alloc (Nat.le_refl _) (.cells #[.int .i64 r.place, .string r.name, .iface ra rv] 159)).trans (hb3.mono (by simp)))
 have HROW := hide hrow
 have sz3 := (uh B3).size
 clear hb3 hrow
 go_wp2_with fail
 go_loopw [3, 9] (fun u3 u9 wr => ∃ (k : Nat) (sv : Value), k ≤ (allG r.body).length ∧ u9 = .int .i64 k ∧ u3 = sv ∧ Below w3.heap.size w3 wr ∧ RepSp w3.heap.size wr sv (relK k (allG r.body))) (fun _ u _ => (allG r.body).length - (intOf u).toNat)
 case atStart => exact ⟨0, _, by omega, rfl, rfl, Below.refl _ _, RepSp.nil _ _⟩
 case round =>
  obtain ⟨k, sv, hk, rfl, hu3, hbr, ho⟩ := hrel
  obtain ⟨sa, sc, hsv⟩ := ho.form
  have hkl := relK_le k (allG r.body)
  have ho0 := ho.2
  have ho1 := ho.1
  generalize hL : relK k (allG r.body) = L at *
  have HLL := hide hL
  clear hL
  subst hsv
  subst hu3
  have HB := hide hbr
  have HO0 := hide ho0
  have HO := hide ho1
  have wrs := hbr.size
  by_cases hlt : k < (allG r.body).length
  ·have hkn : (k : Int) < ((allG r.body).length : Int) := by omega
   obtain ⟨q, c, e1, k0, k1, k2, k3, k4⟩ := Row5.cell (ownsRow_frame (w' := wr) (uh HROW) (fun g cs f _ hh => hbr.block g (lt_of_some hh))) k (allG r.body)[k] (List.getElem?_eq_getElem hlt)
   simp only [Value.slice.injEq] at e1
   obtain ⟨rfl, _, rfl⟩ := e1
   have hg' : (allG r.body)[k]? = some (allG r.body)[k] := List.getElem?_eq_getElem hlt
   generalize (allG r.body)[k] = g at *
   have HST := hide (relK_step hg')
   clear hbr ho ho0 ho1 hg'
   by_cases h2 : g.reach = 2
   ·have h2' : ((g.reach : Int) == 2) = true := by rw [h2]; rfl
    have ht1 : rel1 g = some (g.ty, g.rel) := by simp [rel1, h2]
    clear h2
    go_wp2_with (at_builtin; go_must (refine wpList_append_lies _ rfl _ _ 288 rfl w3.heap.size 291 i0 _ 2 32 Tryz.underlying288 (uh HI) (uh HZ0) (uh HZ1) (uh HZ2) rfl (by decide) (.slice sa L.length sc) L.length (spCells L) rfl ?hown ⟨wr.heap.size + 1, 0, none⟩ 1 1 (spC (g.ty, g.rel)) rfl rfl ?hnews ?hone (by decide) ?h63 ?hbytes ?hbase (wr.heap.size + 2) ?hH ?hrest))
    case hown => exact ((uh HO).alloc _).alloc _
    case hnews => exact World.news_of_block (B := wr.heap.size + 1) (cs := #[.string g.ty, .string g.rel]) (t := 291) (fr := (0, 0)) (Blk.new' (wr.alloc _) _ _ _ (by simp))
    case hone =>
     intro z hz
     simp [spC] at hz
     rcases hz with rfl | rfl <;> rfl
    case h63 => unfold maxLen; omega
    case hbytes => omega
    case hbase => simp; omega
    case hH => simp
    case hrest =>
     intro g6 cap6 w6 hown6 hgrow6 hat6 hgl6
     have O5' := ((uh HO).alloc (.cells #[.int .i64 g.tp, .string g.ty, .int .i64 g.reach, .int .i64 g.rp, .string g.rel] 207)).alloc (.cells #[.string g.ty, .string g.rel] 291)
     have B6 := hide (Below.grown (((uh HB).alloc wrs (.cells #[.int .i64 g.tp, .string g.ty, .int .i64 g.reach, .int .i64 g.rp, .string g.rel] 207)).alloc (by simp; omega) (.cells #[.string g.ty, .string g.rel] 291)) hgrow6 (by simp; omega) (fun k hk => (O5'.lt k hk).1))
     have O6 := hide hown6
     clear hown6 hgrow6 hat6 O5'
     go_wp2
     go_roundw
     case rel => exact ⟨k + 1, .slice (some ⟨g6, 0, none⟩) (L.length + 1) cap6, by omega, by go_num, rfl, uh B6, by rw [uh HST, ht1, uh HLL]; exact ⟨by rw [Option.toList_some, List.length_append, spCells_append]; exact uh O6, fun h => by simp at h⟩⟩
     case measure => simp [intOf]; omega
   ·have h2' : ((g.reach : Int) == 2) = false := by rw [beq_eq_false_iff_ne]; omega
    have ht1 : rel1 g = none := by simp [rel1, h2]
    have BX := hide ((uh HB).alloc wrs (.cells #[.int .i64 g.tp, .string g.ty, .int .i64 g.reach, .int .i64 g.rp, .string g.rel] 207))
    have OX := hide ((uh HO).alloc (.cells #[.int .i64 g.tp, .string g.ty, .int .i64 g.reach, .int .i64 g.rp, .string g.rel] 207))
    clear h2
    go_wp2
    go_roundw
    case rel => exact ⟨k + 1, .slice sa L.length sc, by omega, by go_num, rfl, uh BX, by rw [uh HST, ht1, uh HLL]; exact ⟨by simpa using uh OX, fun h => uh HO0 (by simpa using h)⟩⟩
    case measure => simp [intOf]; omega
  ·have hkn : ¬ ((k : Int) < ((allG r.body).length : Int)) := by omega
   have hall : relK k (allG r.body) = relP r := by
    unfold relK relP
    rw [List.take_of_length_le (by omega)]
   have hLP : L = relP r := (uh HLL).symm.trans hall
   have HLP := hide hLP
   clear hbr ho ho0 ho1 hall hLP
   go_wp2
   go_ret
   exact ⟨.slice sa L.length sc, rfl, (uh B3).trans ((uh HB).mono sz3), by rw [← uh HLP]; exact ⟨ownsRow_base (uh HO) sz3, uh HO0⟩⟩
theorem tied_any (b tp p1 p2 : Nat) (n1 n2 : ByteArray) (sv : Value) (ts : List Ty) (tl : List (Ty × Value)) (t : Ty) (tv : Value) (rl : List (Rl × Value)) (w : World) (h : MC b w sv ts tl) (ht : RC b w tv t.rels rl) :
  Calls Tryz.prog 223 #[.agg #[sv], .agg #[.int .i64 t.place, .string t.name, tv], .agg #[.int .i64 tp, .int .i64 p1, .string n1, .int .i64 p2, .string n2]] w fun e' w' => ∃ (sv' : Value) (l3 : List E3), e' = .returned sv' ∧ Below w.heap.size w w' ∧ w'.ownsRow w.heap.size 110 3 sv' l3.length (l3.flatMap c3) ∧ l3.map (fun e => e.2.1) = (tiedP ts t n1 n2).map Ty.name ∧ l3.length ≤ 1000 ∧ ∀ e ∈ l3, ∃ a n c, e.2.2 = .slice a n c := by
 unfold tiedP
 cases hf : findRl t n1 with
 | none =>
  refine (tied_none b tp p1 p2 n1 n2 sv ts tl t tv rl w h ht hf).mono ?_
  rintro e w' ⟨rfl, hb⟩
  exact ⟨_, [], rfl, hb, World.ownsRow_nil _ _ _ _, rfl, by simp, by simp⟩
 | some r =>
  refine (tied_some b tp p1 p2 n1 n2 sv ts tl t tv rl w h ht r hf).mono ?_
  rintro e w' ⟨sv', l3, rfl, hb, h1, h2, h3⟩
  refine ⟨_, l3, rfl, hb, h1, h2, ?_, h3⟩
  have e1 := congrArg List.length h2
  rw [List.length_map, List.length_map] at e1
  have e2 := List.length_filterMap_le (tie1 ts n2) (allG r.body)
  have e3 := ht.okg r (List.mem_of_find?_eq_some hf)
  omega
/-- What one part of the relation's expression hangs on at first hand. -/
def needs1 (ts : List Ty) (t : Ty) (r : Rl) (p : Ex) : List Sp := match p.l with
 | some _ => []
 | none => if p.nd.kind = 0 then relP r
  else if p.nd.kind = 1 then [(t.name, p.nd.n1)]
  else (tiedP ts t p.nd.n1 p.nd.n2).map fun u => (u.name, p.nd.n2)
def needsP (ts : List Ty) (t : Ty) (r : Rl) (e : Ex) : List Sp := (partsE e).flatMap (needs1 ts t r)
def NK (ts : List Ty) (t : Ty) (r : Rl) (e : Ex) (k : Nat) : List Sp := ((partsE e).take k).flatMap (needs1 ts t r)
theorem nk_step {ts : List Ty} {t : Ty} {r : Rl} {e : Ex} {k : Nat} {p : Ex} (hk : (partsE e)[k]? = some p) : NK ts t r e (k + 1) = NK ts t r e k ++ needs1 ts t r p := by
 unfold NK
 have hlt : k < (partsE e).length := by
  rcases Nat.lt_or_ge k (partsE e).length with h | h
  ·exact h
  ·rw [List.getElem?_eq_none h] at hk; cases hk
 rw [List.take_succ_eq_append_getElem hlt, List.flatMap_append]
 rw [List.getElem?_eq_getElem hlt] at hk
 simp only [Option.some.injEq] at hk
 simp [hk]
theorem relP_le (r : Rl) : (relP r).length ≤ (allG r.body).length := List.length_filterMap_le _ _
theorem tiedP_le {b : Nat} {w : World} {tv : Value} {rl : List (Rl × Value)} (ts : List Ty) (t : Ty) (ht : RC b w tv t.rels rl) (x y : ByteArray) : (tiedP ts t x y).length ≤ 1000 := by
 unfold tiedP
 cases hf : findRl t x with
 | none => simp
 | some r =>
  have e2 := List.length_filterMap_le (tie1 ts y) (allG r.body)
  have e3 := ht.okg r (List.mem_of_find?_eq_some hf)
  simp only
  omega
theorem needs1_le {b : Nat} {w : World} {tv : Value} {rl : List (Rl × Value)} (ts : List Ty) (t : Ty) (ht : RC b w tv t.rels rl) (r : Rl) (hg : (allG r.body).length ≤ 1000) (p : Ex) : (needs1 ts t r p).length ≤ 1000 := by
 unfold needs1
 have h1 := relP_le r
 have h2 := tiedP_le ts t ht p.nd.n1 p.nd.n2
 split
 ·simp
 ·split
  ·omega
  ·split
   ·simp
   ·simpa using h2
theorem nk_le {b : Nat} {w : World} {tv : Value} {rl : List (Rl × Value)} (ts : List Ty) (t : Ty) (ht : RC b w tv t.rels rl) (r : Rl) (hg : (allG r.body).length ≤ 1000) (e : Ex) : ∀ k, (NK ts t r e k).length ≤ 1000 * k
 | 0 => by simp [NK]
 | k + 1 => by
  have ih := nk_le ts t ht r hg e k
  rcases Nat.lt_or_ge k (partsE e).length with h | h
  ·rw [nk_step (List.getElem?_eq_getElem h), List.length_append]
   have := needs1_le ts t ht r hg (partsE e)[k]
   omega
  ·have : NK ts t r e (k + 1) = NK ts t r e k := by
    unfold NK
    rw [List.take_of_length_le (by omega), List.take_of_length_le h]
   rw [this]; omega
/-- An append of nothing, at the list of a plain region's operations. -/
theorem wpList_append_none {P : Program} {w : World} {ops : Array Oper} {rest : List Oper} {o : Oper} {a : Act} {Q : Exit → Act → World → Prop} (hgd : o.guard = none) (s x : Operand) (t : TypeId)
  (ho : o.op = .call { callee := .builtin .append, args := #[s, x], argTypes := #[t, t] }) (v : Value) (hs : a.eval s = v) (hx : a.eval x = .slice none 0 0)
  (hr : ∀ ty, (Builtin.append_ #[t, t] ty #[v, .slice none 0 0]).run P w = .ok v w)
  (h : wpList P ops Q rest (a.put o.dst v) w) : wpList P ops Q (o :: rest) a w :=
 wpList_plain hgd fun _ hK => by
  unfold Oper.wp execOp
  simp only [ho, resolve, invoke, builtin, Sem.run_bind, Sem.run_pure, Result.andThen_ok, List.map_toArray, List.map_cons, List.map_nil, hs, hx, hr]
  exact hK _ _ h
set_option maxHeartbeats 4000000 in
set_option maxRecDepth 100000 in
theorem needs_any (b : Nat) (sv : Value) (ts : List Ty) (tl : List (Ty × Value)) (t : Ty) (tv : Value) (rl : List (Rl × Value)) (r : Rl) (bv : Value) (e : Ex) (ev : Value) (w : World) (h : MC b w sv ts tl) (ht : RC b w tv t.rels rl) (hr : RepEx b w r.body bv) (hmem : r ∈ t.rels) (he : RepEx b w e ev) (hpe : (partsE e).length ≤ 1000) :
  Calls Tryz.prog 177 #[.agg #[sv], .agg #[.int .i64 t.place, .string t.name, tv], .agg #[.int .i64 r.place, .string r.name, bv], ev] w fun e' w' => ∃ sv, e' = .returned sv ∧ Below w.heap.size w w' ∧ RepSp w.heap.size w' sv (needsP ts t r e) := by
 obtain ⟨i0, hi, hz0, hz1, hz2⟩ := info_parts Tryz.info291
 have HI := hide hi
 have HZ0 := hide hz0
 have HZ1 := hide hz1
 have HZ2 := hide hz2
 clear hi hz0 hz1 hz2
 obtain ⟨ma, mn, mc, rfl⟩ := h.form
 obtain ⟨va, vn, vc, rfl⟩ := ht.form
 obtain ⟨ra, rv, rfl⟩ := hr.isI
 obtain ⟨ea, ex, rfl⟩ := he.isI
 have W0 : Below w.heap.size w (((w.alloc (.cells #[.slice ma mn mc] 75)).alloc (.cells #[.int .i64 t.place, .string t.name, .slice va vn vc] 110)).alloc (.cells #[.int .i64 r.place, .string r.name, .iface ra rv] 159)) := (((Below.refl _ _).alloc (Nat.le_refl _) _).alloc (by simp) _).alloc (by simp; omega) _
 have HM0 := hide (h.below W0)
 have HT0 := hide (ht.below W0)
 have HX0 := hide (hr.but (But.of_below W0))
 have HE0 := hide (he.but (But.of_below W0))
 have MB := hide (((Blk.new w #[.slice ma mn mc] 75).alloc (.cells #[.int .i64 t.place, .string t.name, .slice va vn vc] 110)).alloc (.cells #[.int .i64 r.place, .string r.name, .iface ra rv] 159))
 have YB := hide ((Blk.new' (w.alloc (.cells #[.slice ma mn mc] 75)) #[.int .i64 t.place, .string t.name, .slice va vn vc] 110 (w.heap.size + 1) (by simp)).alloc (.cells #[.int .i64 r.place, .string r.name, .iface ra rv] 159))
 have RB := hide (Blk.new' ((w.alloc (.cells #[.slice ma mn mc] 75)).alloc (.cells #[.int .i64 t.place, .string t.name, .slice va vn vc] 110)) #[.int .i64 r.place, .string r.name, .iface ra rv] 159 (w.heap.size + 2) (by simp))
 have okp := ht.okp r hmem
 have okg := ht.okg r hmem
 have HWF := hide (ht.wf r hmem)
 have HNK := hide (nk_le ts t ht r okg e)
 have HN1 := hide (needs1_le ts t ht r okg)
 have HW0 := hide W0
 have blt0 := (uh HM0).blt
 clear W0 h ht hr hmem he
 go_enter Tryz.func177, Tryz.ntmps177
 go_wp2_with fail
 refine (parts_any e b _ _ blt0 (uh HE0) hpe).mono ?_
 rintro e1 w2 ⟨sv2, rfl, hb2, l, l1, l2, l3⟩
 obtain ⟨oa, oc, rfl⟩ := own_form l3
 have ll : l.length = (partsE e).length := by rw [← l1]; simp
 have B2 := hide ((uh HW0).trans (hb2.mono (uh HW0).size))
 have L1 := hide l1
 have L2 := hide l2
 have L3 := hide l3
 have M2 := hide ((uh HM0).below hb2)
 have T2 := hide ((uh HT0).below hb2)
 have X2 := hide ((uh HX0).but (But.of_below hb2))
 have MB2 := hide ((uh MB).below hb2)
 have YB2 := hide ((uh YB).below hb2)
 have RB2 := hide ((uh RB).below hb2)
 have sz2 := (uh B2).size
 clear hb2 l1 l2 l3
 have f0 := ta_List_List
 have f1 := ta_Own_List
 have f2 := ta_Tie_List
 have f3 := ta_Either_List
 have f4 := ta_Both_List
 have f5 := ta_Less_List
 have g1 := ta_Own_Own
 have g2 := ta_Tie_Own
 have g3 := ta_Either_Own
 have g4 := ta_Both_Own
 have g5 := ta_Less_Own
 have h2 := ta_Tie_Tie
 have h3 := ta_Either_Tie
 have h4 := ta_Both_Tie
 have h5 := ta_Less_Tie
 go_wp2_with fail
 go_loopw [9, 20] (fun u9 u20 wr => ∃ (k : Nat) (sv : Value), k ≤ (partsE e).length ∧ u20 = .int .i64 k ∧ u9 = sv ∧ Below w2.heap.size w2 wr ∧ RepSp w2.heap.size wr sv (NK ts t r e k)) (fun _ u _ => (partsE e).length - (intOf u).toNat)
 case atStart => exact ⟨0, _, by omega, rfl, rfl, Below.refl _ _, RepSp.nil _ _⟩
 case round =>
  obtain ⟨k, sv, hk, rfl, hu9, hbr, ho⟩ := hrel
  obtain ⟨sa, sc, hsv⟩ := ho.form
  have hkl := uh HNK k
  have ho0 := ho.2
  have ho1 := ho.1
  generalize hL : NK ts t r e k = L at *
  have HLL := hide hL
  clear hL
  subst hsv
  subst hu9
  have HB := hide hbr
  have HO0 := hide ho0
  have HO := hide ho1
  have wrs := hbr.size
  by_cases hlt : k < (partsE e).length
  ·have hkl' : k < l.length := by omega
   obtain ⟨q1, c1, e1, kc⟩ := own_cell (ownsRow_frame (w' := wr) (uh L3) (fun g cs f _ hh => hbr.block g (lt_of_some hh))) k l[k].2 (by simp [List.getElem?_eq_getElem hkl'])
   simp only [Value.slice.injEq] at e1
   obtain ⟨rfl, _, rfl⟩ := e1
   have hrep := (uh L2 l[k] (List.getElem_mem hkl')).but (b := b) (But.of_below hbr)
   have hk' : (partsE e)[k]? = some l[k].1 := by rw [← uh L1]; simp [List.getElem?_eq_getElem hkl']
   generalize l[k] = q at *
   obtain ⟨q1, qv⟩ := q
   simp only at kc hrep hk'
   have hkn : (k : Int) < ((partsE e).length : Int) := by omega
   have HST := hide (nk_step (ts := ts) (t := t) (r := r) hk')
   have hn1 := uh HN1 q1
   have m0 : wr.cell? ⟨w.heap.size, 0, none⟩ = some (.slice ma mn mc) := ((uh MB2).below hbr).cell rfl
   have ml := ((uh MB2).below hbr).lt
   obtain ⟨y0, y1, y2⟩ := ((uh YB2).below hbr).three
   have yl := ((uh YB2).below hbr).lt
   obtain ⟨z0, z1, z2⟩ := ((uh RB2).below hbr).three
   have zl := ((uh RB2).below hbr).lt
   have HMR := hide ((uh M2).below hbr)
   have HTR := hide ((uh T2).below hbr)
   have HXR := hide ((uh X2).but (But.of_below hbr))
   have bltr := (uh HMR).blt
   clear hbr ho ho0 ho1 hk'
   match q1, hrep, hn1, HST with
   | ⟨nq, some xq, some yq⟩, ⟨vx, vy, hv, rx, ry⟩, hn1, HST =>
    subst hv
    clear rx ry
    rcases tyOf_cases nq.kind with htt | htt | htt
    all_goals
     rw [htt] at kc
     clear htt
     go_wp2
     go_roundw
     case rel => exact ⟨k + 1, .slice sa L.length sc, by omega, by go_num, rfl, uh HB, by rw [uh HST, uh HLL]; simp only [needs1, List.append_nil]; exact ⟨uh HO, uh HO0⟩⟩
     case measure => simp [intOf]; omega
   | ⟨nq, none, rq⟩, hrep, hn1, HST =>
    rcases hrep with ⟨hkd, gv, hv, hrow⟩ | ⟨hkd, hv⟩ | ⟨hkd, hv⟩
    ·obtain ⟨xa, xn, xc, rfl⟩ : ∃ a n c, gv = .slice a n c := by
      obtain ⟨a, c, e⟩ := own_form hrow
      exact ⟨a, _, c, e⟩
     have hnn : needs1 ts t r ⟨nq, none, rq⟩ = relP r := by simp [needs1, hkd]
     rw [hnn] at hn1 HST
     subst hv
     have bx : Below wr.heap.size wr (wr.alloc (.cells #[.int .i64 nq.place, .slice xa xn xc] 236)) := (Below.refl _ _).alloc (Nat.le_refl _) _
     have HBX := hide ((uh HB).trans (bx.mono wrs))
     have C := hide (related_any b r _ _ (by simp; omega) ((uh HXR).but (But.of_below bx)) okp okg (uh HWF))
     have OX := hide ((uh HO).alloc (.cells #[.int .i64 nq.place, .slice xa xn xc] 236))
     clear hrow hkd hnn bx
     go_wp2_with fail
     refine (uh C).mono ?_
     rintro e w3 ⟨sv3, rfl, hb3, hrs⟩
     have B3 := hide ((uh HBX).trans (hb3.mono (uh HBX).size))
     have sz3 := (uh B3).size
     have o3 := ownsRow_frame (w' := w3) (uh OX) (fun g cs f _ hh => hb3.block g (lt_of_some hh))
     have O3 := hide o3
     by_cases hz : relP r = []
     ·have e3 := hrs.2 hz
      subst e3
      rw [hz] at HST
      have HAP := hide (fun ty => run_append_owned_none (P := Tryz.prog) w3 w2.heap.size 288 ty 291 i0 2 Tryz.underlying288 (uh HI) (.slice sa L.length sc) L.length (spCells L) o3)
      clear hb3 hrs o3 hz C
      go_wp2_with (at_builtin; go_must (refine wpList_append_none rfl _ _ 288 rfl (.slice sa L.length sc) rfl rfl (uh HAP) ?_))
      go_roundw
      case rel => exact ⟨k + 1, .slice sa L.length sc, by omega, by go_num, rfl, uh B3, by rw [uh HST, uh HLL, List.append_nil]; exact ⟨uh O3, uh HO0⟩⟩
      case measure => simp [intOf]; omega
     ·have hpos : 0 < (relP r).length := List.length_pos_iff.2 hz
      obtain ⟨gg, gc, rfl, nl, nw⟩ := own_news' hrs.1 hpos
      have NL := hide nl
      have NW := hide nw
      clear hb3 hrs o3 hz C nl nw
      go_wp2_with (at_builtin; go_must (refine wpList_append_lies _ rfl _ _ 288 rfl w2.heap.size 291 i0 _ 2 32 Tryz.underlying288 (uh HI) (uh HZ0) (uh HZ1) (uh HZ2) rfl (by decide) (.slice sa L.length sc) L.length (spCells L) rfl (uh O3) ⟨gg, 0, none⟩ (relP r).length gc (spCells (relP r)) rfl (uh NL) (uh NW) (sp_one _) hpos ?h63 ?hbytes sz3 w3.heap.size rfl ?hrest))
      case h63 => unfold maxLen; omega
      case hbytes => omega
      case hrest =>
       intro g6 cap6 w6 hown6 hgrow6 hat6 hgl6
       have B6 := hide (Below.grown (uh B3) hgrow6 sz3 (fun k hk => ((uh O3).lt k hk).1))
       have O6 := hide hown6
       clear hown6 hgrow6 hat6
       go_wp2
       go_roundw
       case rel => exact ⟨k + 1, .slice (some ⟨g6, 0, none⟩) (L.length + (relP r).length) cap6, by omega, by go_num, rfl, uh B6, by rw [uh HST, uh HLL]; exact ⟨by rw [List.length_append, spCells_append]; exact uh O6, fun h => by simp at h; rw [h.2] at hpos; simp at hpos⟩⟩
       case measure => simp [intOf]; omega
    ·have hnn : needs1 ts t r ⟨nq, none, rq⟩ = [(t.name, nq.n1)] := by simp [needs1, hkd]
     rw [hnn] at hn1 HST
     subst hv
     clear hnn hkd
     go_wp2_with (at_builtin; go_must (refine wpList_append_lies _ rfl _ _ 288 rfl w2.heap.size 291 i0 _ 2 32 Tryz.underlying288 (uh HI) (uh HZ0) (uh HZ1) (uh HZ2) rfl (by decide) (.slice sa L.length sc) L.length (spCells L) rfl ?hown ⟨wr.heap.size + 1, 0, none⟩ 1 1 (spC (t.name, nq.n1)) rfl rfl ?hnews ?hone (by decide) ?h63 ?hbytes ?hbase (wr.heap.size + 2) ?hH ?hrest))
     case hown => exact ((uh HO).alloc _).alloc _
     case hnews => exact World.news_of_block (B := wr.heap.size + 1) (cs := #[.string t.name, .string nq.n1]) (t := 291) (fr := (0, 0)) (Blk.new' (wr.alloc _) _ _ _ (by simp))
     case hone =>
      intro z hz
      simp [spC] at hz
      rcases hz with rfl | rfl <;> rfl
     case h63 => unfold maxLen; omega
     case hbytes => omega
     case hbase => simp; omega
     case hH => simp
     case hrest =>
      intro g6 cap6 w6 hown6 hgrow6 hat6 hgl6
      have O5' := ((uh HO).alloc (.cells #[.int .i64 nq.place, .string nq.n1] 238)).alloc (.cells #[.string t.name, .string nq.n1] 291)
      have B6 := hide (Below.grown (((uh HB).alloc wrs (.cells #[.int .i64 nq.place, .string nq.n1] 238)).alloc (by simp; omega) (.cells #[.string t.name, .string nq.n1] 291)) hgrow6 (by simp; omega) (fun k hk => (O5'.lt k hk).1))
      have O6 := hide hown6
      clear hown6 hgrow6 hat6 O5'
      go_wp2
      go_roundw
      case rel => exact ⟨k + 1, .slice (some ⟨g6, 0, none⟩) (L.length + 1) cap6, by omega, by go_num, rfl, uh B6, by rw [uh HST, uh HLL]; exact ⟨by rw [List.length_append, spCells_append]; exact uh O6, fun h => by simp at h⟩⟩
      case measure => simp [intOf]; omega
    ·have hnn : needs1 ts t r ⟨nq, none, rq⟩ = (tiedP ts t nq.n1 nq.n2).map fun u => (u.name, nq.n2) := by simp [needs1, hkd]
     rw [hnn] at hn1 HST
     subst hv
     have bx : Below wr.heap.size wr (wr.alloc (.cells #[.int .i64 nq.place, .int .i64 nq.p1, .string nq.n1, .int .i64 nq.p2, .string nq.n2] 240)) := (Below.refl _ _).alloc (Nat.le_refl _) _
     have HBX := hide ((uh HB).trans (bx.mono wrs))
     have C := hide (tied_any b nq.place nq.p1 nq.p2 nq.n1 nq.n2 _ ts tl t _ rl _ ((uh HMR).below bx) ((uh HTR).below bx))
     have OX := hide ((uh HO).alloc (.cells #[.int .i64 nq.place, .int .i64 nq.p1, .string nq.n1, .int .i64 nq.p2, .string nq.n2] 240))
     have TQ := hide (Blk.new wr #[.int .i64 nq.place, .int .i64 nq.p1, .string nq.n1, .int .i64 nq.p2, .string nq.n2] 240)
     clear bx hnn hkd
     go_wp2_with fail
     refine (uh C).mono ?_
     rintro e w3 ⟨sv3, l3', rfl, hb3, h31, h32, h33, h34⟩
     obtain ⟨ta, tc, rfl⟩ := own_form h31
     have B3 := hide ((uh HBX).trans (hb3.mono (uh HBX).size))
     have sz3 := (uh B3).size
     have TQ3 := hide ((uh TQ).below hb3)
     have O3 := hide (show RepSp w2.heap.size w3 (.slice sa L.length sc) L from ⟨ownsRow_frame (w' := w3) (uh OX) (fun g cs f _ hh => hb3.block g (lt_of_some hh)), uh HO0⟩)
     have H31 := hide h31
     have H34 := hide h34
     have hmap : (tiedP ts t nq.n1 nq.n2).map (fun u => (u.name, nq.n2)) = l3'.map (fun e => (e.2.1, nq.n2)) := by
      have := congrArg (List.map (fun n => (n, nq.n2))) h32
      simp only [List.map_map] at this
      exact this.symm
     rw [hmap] at hn1 HST
     clear hb3 h31 h32 h34 hmap C
     go_wp2_with fail
     go_loopw [9, 53] (fun u9 u53 wi => ∃ (j : Nat) (sv : Value), j ≤ l3'.length ∧ u53 = .int .i64 j ∧ u9 = sv ∧ Below w2.heap.size w2 wi ∧ Blk wi wr.heap.size #[.int .i64 nq.place, .int .i64 nq.p1, .string nq.n1, .int .i64 nq.p2, .string nq.n2] 240 ∧ wi.ownsRow 0 110 3 (.slice ta l3'.length tc) l3'.length (l3'.flatMap c3) ∧ RepSp w2.heap.size wi sv (L ++ (l3'.take j).map (fun e => (e.2.1, nq.n2)))) (fun _ u _ => l3'.length - (intOf u).toNat)
     case atStart => exact ⟨0, _, by omega, rfl, rfl, uh B3, uh TQ3, ownsRow_base (uh H31) (Nat.zero_le _), by simpa using uh O3⟩
     case round =>
      obtain ⟨j, svj, hj, rfl, hu9, hbi, htq, hro, hoi⟩ := hrel
      obtain ⟨ja, jc, hsv⟩ := hoi.form
      generalize hLJ : L ++ (l3'.take j).map (fun e => (e.2.1, nq.n2)) = LJ at *
      have hjl : LJ.length ≤ L.length + j := by
       rw [← hLJ, List.length_append, List.length_map, List.length_take]
       omega
      have HLJ := hide hLJ
      clear hLJ
      have hi0 := hoi.2
      have hi1 := hoi.1
      subst hsv
      subst hu9
      have HBI := hide hbi
      have HTQ := hide htq
      have HRO := hide hro
      have HI0 := hide hi0
      have HI1 := hide hi1
      have wis := hbi.size
      by_cases hjt : j < l3'.length
      ·obtain ⟨q, c, e1, k0, k1, k2⟩ := Row3.cell (T := 110) (v := .slice ta l3'.length tc) (l := l3') (w := wr) hro j hjt
       simp only [Value.slice.injEq] at e1
       obtain ⟨rfl, _, rfl⟩ := e1
       obtain ⟨ua, un, uc, hu⟩ := uh H34 l3'[j] (List.getElem_mem hjt)
       have HSJ := hide (show L ++ (l3'.take (j + 1)).map (fun e => (e.2.1, nq.n2)) = LJ ++ [(l3'[j].2.1, nq.n2)] from by
        rw [← uh HLJ, List.take_succ_eq_append_getElem hjt, List.map_append, List.append_assoc]; rfl)
       generalize l3'[j] = y at *
       obtain ⟨yp, yn, yu⟩ := y
       simp only at k0 k1 k2 hu HSJ
       subst hu
       obtain ⟨t0, t1, t2, t3', t4⟩ := htq.five
       have tl' := htq.lt
       have hjn : (j : Int) < (l3'.length : Int) := by omega
       clear hbi hoi hi0 hi1 htq hro
       go_wp2_with (at_builtin; go_must (refine wpList_append_lies _ rfl _ _ 288 rfl w2.heap.size 291 i0 _ 2 32 Tryz.underlying288 (uh HI) (uh HZ0) (uh HZ1) (uh HZ2) rfl (by decide) (.slice ja LJ.length jc) LJ.length (spCells LJ) rfl ?hown ⟨wr.heap.size + 1, 0, none⟩ 1 1 (spC (yn, nq.n2)) rfl rfl ?hnews ?hone (by decide) ?h63 ?hbytes ?hbase (wr.heap.size + 2) ?hH ?hrest))
       case hown => exact ((uh HI1).alloc _).alloc _
       case hnews => exact World.news_of_block (B := wr.heap.size + 1) (cs := #[.string yn, .string nq.n2]) (t := 291) (fr := (0, 0)) (Blk.new' (wr.alloc _) _ _ _ (by simp))
       case hone =>
        intro z hz
        simp [spC] at hz
        rcases hz with rfl | rfl <;> rfl
       case h63 => unfold maxLen; omega
       case hbytes => omega
       case hbase => simp; omega
       case hH => simp
       case hrest =>
        intro g6 cap6 w6 hown6 hgrow6 hat6 hgl6
        have O5' := ((uh HI1).alloc (.cells #[.int .i64 yp, .string yn, .slice ua un uc] 110)).alloc (.cells #[.string yn, .string nq.n2] 291)
        have bx := ((Below.refl wr.heap.size wr).alloc (Nat.le_refl _) (.cells #[.int .i64 yp, .string yn, .slice ua un uc] 110)).alloc (by simp) (.cells #[.string yn, .string nq.n2] 291)
        have B6 := hide (Below.grown ((uh HBI).trans (bx.mono wis)) hgrow6 (by simp; omega) (fun k hk => (O5'.lt k hk).1))
        have T6 := hide ((hgrow6.block _ ((uh HTQ).below bx).lt (own_ne O5' ((uh HTQ).below bx) (by decide))).trans ((uh HTQ).below bx))
        have R6 := hide (ownsRow_frame (w' := w6) (uh HRO) (fun g cs f _ hh => (hgrow6.block g (Nat.lt_of_lt_of_le (lt_of_some hh) bx.size) (own_nf O5' ((bx.block g (lt_of_some hh)).trans hh) (by decide))).trans (bx.block g (lt_of_some hh))))
        have O6 := hide hown6
        clear hown6 hgrow6 hat6 O5' bx
        go_wp2
        go_roundw
        case rel => exact ⟨j + 1, .slice (some ⟨g6, 0, none⟩) (LJ.length + 1) cap6, by omega, by go_num, rfl, uh B6, uh T6, uh R6, by rw [uh HSJ]; exact ⟨by rw [List.length_append, spCells_append]; exact uh O6, fun h => by simp at h⟩⟩
        case measure => simp [intOf]; omega
      ·have hjn : ¬ ((j : Int) < (l3'.length : Int)) := by omega
       have hLE : L ++ l3'.map (fun e => (e.2.1, nq.n2)) = LJ := by
        rw [← uh HLJ, List.take_of_length_le (by omega)]
       have HLE := hide hLE
       clear hbi hoi hi0 hi1 htq hro hLE
       go_wp2
       go_roundw
       case rel => exact ⟨k + 1, .slice ja LJ.length jc, by omega, by go_num, rfl, uh HBI, by rw [uh HST, uh HLL, uh HLE]; exact ⟨uh HI1, uh HI0⟩⟩
       case measure => simp [intOf]; omega
   | ⟨nq, some xq, none⟩, hrep, hn1, HST => exact hrep.elim
  ·have hkn : ¬ ((k : Int) < ((partsE e).length : Int)) := by omega
   have hLP : L = needsP ts t r e := by
    rw [← uh HLL]
    unfold NK needsP
    rw [List.take_of_length_le (by omega)]
   have HLP := hide hLP
   clear hbr ho ho0 ho1 hLP
   go_wp2
   go_ret
   exact ⟨.slice sa L.length sc, rfl, (uh B2).trans ((uh HB).mono sz2), by rw [← uh HLP]; exact ⟨ownsRow_base (uh HO) sz2, uh HO0⟩⟩
end Go.Proofs.YtlbpnlngckgcbaaGreatDoor
