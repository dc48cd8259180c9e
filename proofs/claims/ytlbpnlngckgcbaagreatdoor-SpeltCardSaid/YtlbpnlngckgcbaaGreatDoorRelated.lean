import Derived.Test.YtlbpnlngckgcbaaGreatDoorCNames
namespace Go.Proofs.YtlbpnlngckgcbaaGreatDoor
open Go.RowKit Go.PlainAid
set_option linter.unusedSimpArgs false
set_option linter.unusedVariables false

/-- A relation of a type, by their names. -/
abbrev Sp := ByteArray × ByteArray
def spC (s : Sp) : List Value := [.string s.1, .string s.2]
def spCells (l : List Sp) : List Value := l.flatMap spC
theorem sp_get (s : Sp) : ∀ (l : List Sp) (i : Nat), l[i]? = some s → (spCells l)[i * 2]? = some (.string s.1) ∧ (spCells l)[i * 2 + 1]? = some (.string s.2)
  | [], i, h => by simp at h
  | e' :: l, 0, h => by simp at h; subst h; simp [spCells, spC]
  | e' :: l, i + 1, h => by
    have := sp_get s l i (by simpa using h)
    rw [show spCells (e' :: l) = spC e' ++ spCells l from rfl, show (i + 1) * 2 = i * 2 + 2 by omega]
    simpa [spC] using this
theorem Row2.cell {w : World} {base : Nat} {v : Value} {l : List Sp} (h : w.ownsRow base 291 2 v l.length (spCells l)) (i : Nat) (s : Sp) (hi : l[i]? = some s) :
    ∃ q c, v = .slice (some ⟨q, 0, none⟩) l.length c ∧ w.cell? ⟨q, i * 2, none⟩ = some (.string s.1) ∧ w.cell? ⟨q, i * 2 + 1, none⟩ = some (.string s.2) := by
  obtain ⟨h0, h1⟩ := sp_get s l i hi
  obtain ⟨q, c, rfl, e0⟩ := own_cell h _ _ h0
  obtain ⟨q', c', e', e1⟩ := own_cell h _ _ h1
  simp only [Value.slice.injEq, Option.some.injEq, Addr.mk.injEq] at e'
  obtain ⟨⟨rfl, _⟩, _⟩ := e'
  exact ⟨q, c, rfl, e0, e1⟩
theorem spCells_append (a c : List Sp) : spCells (a ++ c) = spCells a ++ spCells c := by simp [spCells]
theorem spCells_length (a : List Sp) : (spCells a).length = a.length * 2 := by
  induction a with
  | nil => rfl
  | cons g r ih => simp [spCells, spC] at *; omega
theorem sp_one (l : List Sp) : ∀ u ∈ spCells l, u.oneCell' = true := by
  intro u hu
  unfold spCells at hu
  rw [List.mem_flatMap] at hu
  obtain ⟨g, _, hu⟩ := hu
  simp [spC] at hu
  rcases hu with rfl | rfl <;> rfl
theorem Tryz.info291 : (Tryz.prog.info? 291).map (fun i => (i.zero, i.size, i.bytes)) = some (some (.agg #[.string ⟨#[]⟩, .string ⟨#[]⟩]), 2, 32) := by kernel_rfl
/-- The slice holds the spots; an empty one is nil. -/
def RepSp (base : Nat) (w : World) (sv : Value) (l : List Sp) : Prop := w.ownsRow base 291 2 sv l.length (spCells l) ∧ (l = [] → sv = .slice none 0 0)
theorem RepSp.nil (base : Nat) (w : World) : RepSp base w (.slice none 0 0) [] := ⟨World.ownsRow_nil _ _ _ _, fun _ => rfl⟩
theorem RepSp.below {base : Nat} {w w' : World} {sv : Value} {l : List Sp} (h : RepSp base w sv l) (k : Below w.heap.size w w') : RepSp base w' sv l := ⟨ownsRow_frame h.1 (fun g cs f _ hh => k.block g (lt_of_some hh)), h.2⟩
theorem RepSp.form {base : Nat} {w : World} {sv : Value} {l : List Sp} (h : RepSp base w sv l) : ∃ a c, sv = .slice a l.length c := own_form h.1
theorem RepSp.base {base base' : Nat} {w : World} {sv : Value} {l : List Sp} (h : RepSp base w sv l) (hb : base' ≤ base) : RepSp base' w sv l := ⟨ownsRow_base h.1 hb, h.2⟩

def rel1 (g : Gr) : Option Sp := if g.reach = 2 then some (g.ty, g.rel) else none
def relK (k : Nat) (gs : List Gr) : List Sp := (gs.take k).filterMap rel1
def relP (r : Rl) : List Sp := (allG r.body).filterMap rel1
theorem relK_step {k : Nat} {gs : List Gr} {g : Gr} (h : gs[k]? = some g) : relK (k + 1) gs = relK k gs ++ (rel1 g).toList := by
  have hlt : k < gs.length := by
    rcases Nat.lt_or_ge k gs.length with h' | h'
    · exact h'
    · rw [List.getElem?_eq_none h'] at h; cases h
  rw [List.getElem?_eq_getElem hlt] at h
  simp only [Option.some.injEq] at h
  unfold relK
  rw [List.take_succ_eq_append_getElem hlt, List.filterMap_append, h]
  cases hq : rel1 g <;> simp [hq]
theorem relK_le (k : Nat) (gs : List Gr) : (relK k gs).length ≤ k := by
  unfold relK
  have := List.length_filterMap_le rel1 (gs.take k)
  rw [List.length_take] at this
  omega

set_option maxHeartbeats 2000000 in
set_option maxRecDepth 100000 in
theorem related_any (b : Nat) (r : Rl) (v : Value) (w : World) (hb : b < w.heap.size) (h : RepEx b w r.body v) (hp : (partsE r.body).length ≤ 1000) (hg : (allG r.body).length ≤ 1000) (hwf : WF r.body) :
    Calls Tryz.prog 225 #[.agg #[.int .i64 r.place, .string r.name, v]] w fun e' w' => ∃ sv, e' = .returned sv ∧ Below w.heap.size w w' ∧ RepSp w.heap.size w' sv (relP r) := by
  obtain ⟨i0, hi, hz0, hz1, hz2⟩ := info_parts Tryz.info291
  have HI := hide hi
  have HZ0 := hide hz0
  have HZ1 := hide hz1
  have HZ2 := hide hz2
  clear hi hz0 hz1 hz2
  obtain ⟨ra, rv, rfl⟩ := h.isI
  have H := hide h
  have HWF := hide hwf
  clear h hwf
  go_enter Tryz.func225, Tryz.ntmps225
  go_wp2_with fail
  refine (grants_any r.place r.name b r.body _ _ (by simp; omega) ((unhide H).but ((But.refl b w).alloc _)) hp hg (unhide HWF)).mono ?_
  rintro e w3 ⟨gv, rfl, hb3, hrow⟩
  obtain ⟨ga, gc, rfl⟩ := own_form hrow
  have B3 := hide (((Below.refl _ w).alloc (Nat.le_refl _) (.cells #[.int .i64 r.place, .string r.name, .iface ra rv] 159)).trans (hb3.mono (by simp)))
  have HROW := hide hrow
  have sz3 := (unhide B3).size
  clear hb3 hrow
  go_wp2_with fail
  go_loopw [3, 9] (fun u3 u9 wr => ∃ (k : Nat) (sv : Value), k ≤ (allG r.body).length ∧ u9 = .int .i64 k ∧ u3 = sv ∧ Below w3.heap.size w3 wr ∧ RepSp w3.heap.size wr sv (relK k (allG r.body))) (fun _ u _ => (allG r.body).length - (intOf u).toNat)
  case atStart => exact ⟨0, _, by omega, rfl, rfl, Below.refl _ _, RepSp.nil _ _⟩
  case round =>
    obtain ⟨k, sv, hk, rfl, hu3, hbr, ho⟩ := hrel
    obtain ⟨sa, sc, hsv⟩ := ho.form
    have hkl := relK_le k (allG r.body)
    have ho0 := ho.2
    have ho1 := ho.1
    generalize hL : relK k (allG r.body) = L at *
    have HLL := hide hL
    clear hL
    subst hsv
    subst hu3
    have HB := hide hbr
    have HO0 := hide ho0
    have HO := hide ho1
    have wrs := hbr.size
    by_cases hlt : k < (allG r.body).length
    · have hkn : (k : Int) < ((allG r.body).length : Int) := by omega
      obtain ⟨q, c, e1, k0, k1, k2, k3, k4⟩ := Row5.cell (ownsRow_frame (w' := wr) (unhide HROW) (fun g cs f _ hh => hbr.block g (lt_of_some hh))) k (allG r.body)[k] (List.getElem?_eq_getElem hlt)
      simp only [Value.slice.injEq] at e1
      obtain ⟨rfl, _, rfl⟩ := e1
      have hg' : (allG r.body)[k]? = some (allG r.body)[k] := List.getElem?_eq_getElem hlt
      generalize (allG r.body)[k] = g at *
      have HST := hide (relK_step hg')
      clear hbr ho ho0 ho1 hg'
      by_cases h2 : g.reach = 2
      · have h2' : ((g.reach : Int) == 2) = true := by rw [h2]; rfl
        have ht1 : rel1 g = some (g.ty, g.rel) := by simp [rel1, h2]
        clear h2
        go_wp2_with (at_builtin; go_must (refine wpList_append_lies _ rfl _ _ 288 rfl w3.heap.size 291 i0 _ 2 32 Tryz.underlying288 (unhide HI) (unhide HZ0) (unhide HZ1) (unhide HZ2) rfl (by decide) (.slice sa L.length sc) L.length (spCells L) rfl ?hown ⟨wr.heap.size + 1, 0, none⟩ 1 1 (spC (g.ty, g.rel)) rfl rfl ?hnews ?hone (by decide) ?h63 ?hbytes ?hbase (wr.heap.size + 2) ?hH ?hrest))
        case hown => exact ((unhide HO).alloc _).alloc _
        case hnews => exact World.news_of_block (B := wr.heap.size + 1) (cs := #[.string g.ty, .string g.rel]) (t := 291) (fr := (0, 0)) (Blk.new' (wr.alloc _) _ _ _ (by simp))
        case hone =>
          intro z hz
          simp [spC] at hz
          rcases hz with rfl | rfl <;> rfl
        case h63 => unfold maxLen; omega
        case hbytes => omega
        case hbase => simp; omega
        case hH => simp
        case hrest =>
          intro g6 cap6 w6 hown6 hgrow6 hat6 hgl6
          have O5' := ((unhide HO).alloc (.cells #[.int .i64 g.tp, .string g.ty, .int .i64 g.reach, .int .i64 g.rp, .string g.rel] 207)).alloc (.cells #[.string g.ty, .string g.rel] 291)
          have B6 := hide (Below.grown (((unhide HB).alloc wrs (.cells #[.int .i64 g.tp, .string g.ty, .int .i64 g.reach, .int .i64 g.rp, .string g.rel] 207)).alloc (by simp; omega) (.cells #[.string g.ty, .string g.rel] 291)) hgrow6 (by simp; omega) (fun k hk => (O5'.lt k hk).1))
          have O6 := hide hown6
          clear hown6 hgrow6 hat6 O5'
          go_wp2
          go_roundw
          case rel => exact ⟨k + 1, .slice (some ⟨g6, 0, none⟩) (L.length + 1) cap6, by omega, by go_num, rfl, unhide B6, by rw [unhide HST, ht1, unhide HLL]; exact ⟨by rw [Option.toList_some, List.length_append, spCells_append]; exact unhide O6, fun h => by simp at h⟩⟩
          case measure => simp [intOf]; omega
      · have h2' : ((g.reach : Int) == 2) = false := by rw [beq_eq_false_iff_ne]; omega
        have ht1 : rel1 g = none := by simp [rel1, h2]
        have BX := hide ((unhide HB).alloc wrs (.cells #[.int .i64 g.tp, .string g.ty, .int .i64 g.reach, .int .i64 g.rp, .string g.rel] 207))
        have OX := hide ((unhide HO).alloc (.cells #[.int .i64 g.tp, .string g.ty, .int .i64 g.reach, .int .i64 g.rp, .string g.rel] 207))
        clear h2
        go_wp2
        go_roundw
        case rel => exact ⟨k + 1, .slice sa L.length sc, by omega, by go_num, rfl, unhide BX, by rw [unhide HST, ht1, unhide HLL]; exact ⟨by simpa using unhide OX, fun h => unhide HO0 (by simpa using h)⟩⟩
        case measure => simp [intOf]; omega
    · have hkn : ¬ ((k : Int) < ((allG r.body).length : Int)) := by omega
      have hall : relK k (allG r.body) = relP r := by
        unfold relK relP
        rw [List.take_of_length_le (by omega)]
      have hLP : L = relP r := (unhide HLL).symm.trans hall
      have HLP := hide hLP
      clear hbr ho ho0 ho1 hall hLP
      go_wp2
      go_ret
      exact ⟨.slice sa L.length sc, rfl, (unhide B3).trans ((unhide HB).mono sz3), by rw [← unhide HLP]; exact ⟨ownsRow_base (unhide HO) sz3, unhide HO0⟩⟩

theorem tied_any (b tp p1 p2 : Nat) (n1 n2 : ByteArray) (sv : Value) (ts : List Ty) (tl : List (Ty × Value)) (t : Ty) (tv : Value) (rl : List (Rl × Value)) (w : World) (h : MC b w sv ts tl) (ht : RC b w tv t.rels rl) :
    Calls Tryz.prog 223 #[.agg #[sv], .agg #[.int .i64 t.place, .string t.name, tv], .agg #[.int .i64 tp, .int .i64 p1, .string n1, .int .i64 p2, .string n2]] w fun e' w' => ∃ (sv' : Value) (l3 : List E3), e' = .returned sv' ∧ Below w.heap.size w w' ∧ w'.ownsRow w.heap.size 110 3 sv' l3.length (l3.flatMap c3) ∧ l3.map (fun e => e.2.1) = (tiedP ts t n1 n2).map Ty.name ∧ l3.length ≤ 1000 ∧ ∀ e ∈ l3, ∃ a n c, e.2.2 = .slice a n c := by
  unfold tiedP
  cases hf : findRl t n1 with
  | none =>
    refine (tied_none b tp p1 p2 n1 n2 sv ts tl t tv rl w h ht hf).mono ?_
    rintro e w' ⟨rfl, hb⟩
    exact ⟨_, [], rfl, hb, World.ownsRow_nil _ _ _ _, rfl, by simp, by simp⟩
  | some r =>
    refine (tied_some b tp p1 p2 n1 n2 sv ts tl t tv rl w h ht r hf).mono ?_
    rintro e w' ⟨sv', l3, rfl, hb, h1, h2, h3⟩
    refine ⟨_, l3, rfl, hb, h1, h2, ?_, h3⟩
    have e1 := congrArg List.length h2
    rw [List.length_map, List.length_map] at e1
    have e2 := List.length_filterMap_le (tie1 ts n2) (allG r.body)
    have e3 := ht.okg r (List.mem_of_find?_eq_some hf)
    omega
end Go.Proofs.YtlbpnlngckgcbaaGreatDoor
