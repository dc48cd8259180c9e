import Derived.Test.YtlbpnlngckgcbaaGreatDoorM11
namespace Go.Proofs.YtlbpnlngckgcbaaGreatDoor
open Go.RowKit Go.PlainAid
set_option linter.unusedSimpArgs false
set_option linter.unusedVariables false
/-- The type that a grant by itself ties, if it has the relation. -/
def tie1 (ts : List Ty) (y : ByteArray) (g : Gr) : Option Ty := if g.reach = 0 then (match findTy ts g.ty with
 | none => none
 | some u => if (findRl u y).isSome then some u else none) else none
def tk (ts : List Ty) (y : ByteArray) (k : Nat) (gs : List Gr) : List Ty := (gs.take k).filterMap (tie1 ts y)
def tiedP (ts : List Ty) (t : Ty) (x y : ByteArray) : List Ty := match findRl t x with
 | none => []
 | some r => (allG r.body).filterMap (tie1 ts y)
theorem tk_step {ts : List Ty} {y : ByteArray} {k : Nat} {gs : List Gr} {g : Gr} (h : gs[k]? = some g) : tk ts y (k + 1) gs = tk ts y k gs ++ (tie1 ts y g).toList := by
 have hlt : k < gs.length := by
  rcases Nat.lt_or_ge k gs.length with h' | h'
  ·exact h'
  ·rw [List.getElem?_eq_none h'] at h; cases h
 rw [List.getElem?_eq_getElem hlt] at h
 simp only [Option.some.injEq] at h
 unfold tk
 rw [List.take_succ_eq_append_getElem hlt, List.filterMap_append, h]
 cases hq : tie1 ts y g <;> simp [hq]
theorem tk_le (ts : List Ty) (y : ByteArray) (k : Nat) (gs : List Gr) : (tk ts y k gs).length ≤ k := by
 unfold tk
 have := List.length_filterMap_le (tie1 ts y) (gs.take k)
 rw [List.length_take] at this
 omega
set_option maxHeartbeats 1000000 in
set_option maxRecDepth 100000 in
theorem tied_none (b tp p1 p2 : Nat) (n1 n2 : ByteArray) (sv : Value) (ts : List Ty) (tl : List (Ty × Value)) (t : Ty) (tv : Value) (rl : List (Rl × Value)) (w : World) (h : MC b w sv ts tl) (ht : RC b w tv t.rels rl) (hf : findRl t n1 = none) :
  Calls Tryz.prog 223 #[.agg #[sv], .agg #[.int .i64 t.place, .string t.name, tv], .agg #[.int .i64 tp, .int .i64 p1, .string n1, .int .i64 p2, .string n2]] w fun e' w' => e' = .returned (.slice none 0 0) ∧ Below w.heap.size w w' := by
 obtain ⟨ma, mn, mc, rfl⟩ := h.form
 obtain ⟨va, vn, vc, rfl⟩ := ht.form
 have W0 : Below w.heap.size w (((w.alloc (.cells #[.slice ma mn mc] 75)).alloc (.cells #[.int .i64 t.place, .string t.name, .slice va vn vc] 110)).alloc (.cells #[.int .i64 tp, .int .i64 p1, .string n1, .int .i64 p2, .string n2] 240)) := (((Below.refl _ _).alloc (Nat.le_refl _) _).alloc (by simp) _).alloc (by simp; omega) _
 have C := hide (tfind_no b t.place t.name _ t rl n1 _ (ht.below W0) hf)
 have HW0 := hide W0
 clear W0 h ht hf
 go_enter Tryz.func223, Tryz.ntmps223
 go_wp2_with fail
 refine (uh C).mono ?_
 rintro e w1 ⟨rfl, hb1⟩
 have B1 := hide ((uh HW0).trans (hb1.mono (uh HW0).size))
 have sz := (uh B1).size
 clear hb1
 unfold errv
 go_wp2
 go_ret
 exact ⟨rfl, (by repeat (first | with_reducible exact uh B1 | with_reducible refine Below.drew ?_ | (with_reducible refine Below.setCell ?_ ?_ _; rotate_left; exact (by first | omega | (simp; omega) | simp | (simp; done))) | (with_reducible refine Below.alloc ?_ ?_ _; rotate_left; exact (by first | omega | (simp; omega) | simp | (simp; done)))))⟩
set_option maxHeartbeats 4000000 in
set_option maxRecDepth 100000 in
theorem tied_some (b tp p1 p2 : Nat) (n1 n2 : ByteArray) (sv : Value) (ts : List Ty) (tl : List (Ty × Value)) (t : Ty) (tv : Value) (rl : List (Rl × Value)) (w : World) (h : MC b w sv ts tl) (ht : RC b w tv t.rels rl) (r : Rl) (hf : findRl t n1 = some r) :
  Calls Tryz.prog 223 #[.agg #[sv], .agg #[.int .i64 t.place, .string t.name, tv], .agg #[.int .i64 tp, .int .i64 p1, .string n1, .int .i64 p2, .string n2]] w fun e' w' => ∃ (sv' : Value) (l3 : List E3), e' = .returned sv' ∧ Below w.heap.size w w' ∧ w'.ownsRow w.heap.size 110 3 sv' l3.length (l3.flatMap c3) ∧ l3.map (fun e => e.2.1) = ((allG r.body).filterMap (tie1 ts n2)).map Ty.name ∧ ∀ e ∈ l3, ∃ a n c, e.2.2 = Value.slice a n c := by
 obtain ⟨i0, hi, hz0, hz1, hz2⟩ := info_parts Tryz.info110
 have HI := hide hi
 have HZ0 := hide hz0
 have HZ1 := hide hz1
 have HZ2 := hide hz2
 clear hi hz0 hz1 hz2
 obtain ⟨ma, mn, mc, rfl⟩ := h.form
 obtain ⟨va, vn, vc, rfl⟩ := ht.form
 have W0 : Below w.heap.size w (((w.alloc (.cells #[.slice ma mn mc] 75)).alloc (.cells #[.int .i64 t.place, .string t.name, .slice va vn vc] 110)).alloc (.cells #[.int .i64 tp, .int .i64 p1, .string n1, .int .i64 p2, .string n2] 240)) := (((Below.refl _ _).alloc (Nat.le_refl _) _).alloc (by simp) _).alloc (by simp; omega) _
 obtain ⟨ra, rv, hrep, hmem, hcall⟩ := tfind_yes b t.place t.name _ t rl n1 _ (ht.below W0) r hf
 have okp := ht.okp r hmem
 have okg := ht.okg r hmem
 have wf := ht.wf r hmem
 have C := hide hcall
 have HREP := hide hrep
 have HM0 := hide (h.below W0)
 have MB := hide (((Blk.new w #[.slice ma mn mc] 75).alloc (.cells #[.int .i64 t.place, .string t.name, .slice va vn vc] 110)).alloc (.cells #[.int .i64 tp, .int .i64 p1, .string n1, .int .i64 p2, .string n2] 240))
 have TB := hide (Blk.new' ((w.alloc (.cells #[.slice ma mn mc] 75)).alloc (.cells #[.int .i64 t.place, .string t.name, .slice va vn vc] 110)) #[.int .i64 tp, .int .i64 p1, .string n1, .int .i64 p2, .string n2] 240 (w.heap.size + 2) (by simp))
 have HW0 := hide W0
 have blt := h.blt
 have HWF := hide wf
 clear W0 h ht hf hcall hrep hmem wf
 go_enter Tryz.func223, Tryz.ntmps223
 go_wp2_with fail
 refine (uh C).mono ?_
 rintro e w1 ⟨rfl, hb1⟩
 have b1 := hb1.alloc hb1.size (.cells #[.int .i64 r.place, .string r.name, .iface ra rv] 159)
 have B1 := hide ((uh HW0).trans (b1.mono (uh HW0).size))
 have MB1 := hide ((uh MB).below b1)
 have TB1 := hide ((uh TB).below b1)
 have HM1 := hide ((uh HM0).below b1)
 have RP1 := hide ((uh HREP).but (But.of_below b1))
 have blt1 := (uh HM1).blt
 clear hb1 b1 C
 go_wp2_with fail
 refine (grants_any r.place r.name b r.body _ _ blt1 (uh RP1) okp okg (uh HWF)).mono ?_
 rintro e w3 ⟨gv, rfl, hb3, hrow⟩
 obtain ⟨ga, gc, rfl⟩ := own_form hrow
 have B3 := hide ((uh B1).trans (hb3.mono (uh B1).size))
 have MB3 := hide ((uh MB1).below hb3)
 have TB3 := hide ((uh TB1).below hb3)
 have HM3 := hide ((uh HM1).below hb3)
 have HROW := hide hrow
 have sz3 := (uh B3).size
 clear hb3 hrow
 go_wp2_with fail
 go_loopw [9, 29] (fun u9 u29 wr => ∃ (k : Nat) (sv' : Value) (l3 : List E3), k ≤ (allG r.body).length ∧ u29 = .int .i64 k ∧ u9 = sv' ∧ Below w3.heap.size w3 wr ∧ wr.ownsRow w3.heap.size 110 3 sv' l3.length (l3.flatMap c3) ∧ Hid (l3.map (fun e => e.2.1) = (tk ts n2 k (allG r.body)).map Ty.name ∧ ∀ e ∈ l3, ∃ a n c, e.2.2 = Value.slice a n c)) (fun _ u _ => (allG r.body).length - (intOf u).toNat)
 case atStart => exact ⟨0, _, [], by omega, rfl, rfl, Below.refl _ _, World.ownsRow_nil _ _ _ _, hide ⟨rfl, by simp⟩⟩
 case round =>
  obtain ⟨k, sv', l3, hk, rfl, hu9, hb, ho, HQ⟩ := hrel
  have hl3 : l3.length ≤ k := by
   have := congrArg List.length (uh HQ).1
   rw [List.length_map, List.length_map] at this
   have := tk_le ts n2 k (allG r.body)
   omega
  obtain ⟨sa, sn, sc, rfl⟩ : ∃ a n c, sv' = .slice a n c := by
   obtain ⟨a, c, e⟩ := own_form ho
   exact ⟨a, _, c, e⟩
  subst hu9
  have HB := hide hb
  have HO := hide ho
  have wrs := hb.size
  by_cases hlt : k < (allG r.body).length
  ·have hkn : (k : Int) < ((allG r.body).length : Int) := by omega
   obtain ⟨q, c, e1, k0, k1, k2, k3, k4⟩ := Row5.cell (ownsRow_frame (w' := wr) (uh HROW) (fun g cs f _ hh => hb.block g (lt_of_some hh))) k (allG r.body)[k] (List.getElem?_eq_getElem hlt)
   simp only [Value.slice.injEq] at e1
   obtain ⟨rfl, _, rfl⟩ := e1
   have hg' : (allG r.body)[k]? = some (allG r.body)[k] := List.getElem?_eq_getElem hlt
   generalize (allG r.body)[k] = g at *
   have HST := hide (tk_step (ts := ts) (y := n2) hg')
   have bx := hb.alloc wrs (.cells #[.int .i64 g.tp, .string g.ty, .int .i64 g.reach, .int .i64 g.rp, .string g.rel] 207)
   have HBX := hide bx
   have HM := hide ((uh HM3).below bx)
   have MBX := hide ((uh MB3).below bx)
   have TBX := hide ((uh TB3).below bx)
   have GX := hide (Blk.new wr #[.int .i64 g.tp, .string g.ty, .int .i64 g.reach, .int .i64 g.rp, .string g.rel] 207)
   have OX := hide ((uh HO).alloc (.cells #[.int .i64 g.tp, .string g.ty, .int .i64 g.reach, .int .i64 g.rp, .string g.rel] 207))
   have m0 : wr.cell? ⟨w.heap.size, 0, none⟩ = some (.slice ma mn mc) := ((uh MB3).below hb).cell rfl
   have ml := ((uh MB3).below hb).lt
   clear hb ho bx hg'
   by_cases h0 : g.reach = 0
   ·have h0' : ((g.reach : Int) != 0) = false := by rw [h0]; rfl
    cases hf : findTy ts g.ty with
    | none =>
     have ht1 : tie1 ts n2 g = none := by simp [tie1, h0, hf]
     have C := hide (mfind_no b _ ts tl g.ty _ (uh HM) hf)
     clear hf h0
     go_wp2_with fail
     refine (uh C).mono ?_
     rintro e w4 ⟨rfl, hb4⟩
     have B4 := hide ((uh HBX).trans (hb4.mono (uh HBX).size))
     have TB4 := (uh TBX).below hb4
     have TB4' := hide (TB4.alloc (.cells #[.int .i64 0, .string ⟨#[]⟩, .slice none 0 0] 110))
     obtain ⟨v0, v1, v2, v3, v4⟩ := TB4.five
     have vl := TB4.lt
     have O4 := hide ((ownsRow_frame (w' := w4) (uh OX) (fun g cs f _ hh => hb4.block g (lt_of_some hh))).alloc (.cells #[.int .i64 0, .string ⟨#[]⟩, .slice none 0 0] 110))
     have sz4 := (uh B4).size
     have B4x := hide ((uh B4).alloc sz4 (.cells #[.int .i64 0, .string ⟨#[]⟩, .slice none 0 0] 110))
     clear hb4 TB4
     have C := hide (tfind_no b 0 ⟨#[]⟩ (.slice none 0 0) ⟨em, 0, []⟩ [] n2 (w4.alloc (.cells #[.int .i64 0, .string ⟨#[]⟩, .slice none 0 0] 110)) ⟨rfl, World.ownsRow_nil _ _ _ _, by simp, by simp, by simp, by simp, by simp⟩ rfl)
     unfold errv
     go_wp2_with fail
     refine (uh C).mono ?_
     rintro e w5 ⟨rfl, hb5⟩
     have B5 := hide ((uh B4x).trans (hb5.mono (uh B4x).size))
     have O5 := hide (ownsRow_frame (w' := w5) (uh O4) (fun g cs f _ hh => hb5.block g (lt_of_some hh)))
     have sz5 := (uh B5).size
     clear hb5
     unfold errv
     go_wp2
     go_roundw
     case rel => exact ⟨k + 1, .slice sa sn sc, l3, by omega, by go_num, rfl, (uh B5).alloc sz5 _, (uh O5).alloc _, hide (by rw [uh HST, ht1]; simpa using uh HQ)⟩
     case measure => simp [intOf]; omega
    | some u =>
     obtain ⟨ua, un, uc, rl2, hrc, hcall⟩ := mfind_yes b _ ts tl g.ty _ (uh HM) u hf
     have C := hide hcall
     have RCH := hide hrc
     clear hcall hrc
     cases hq : findRl u n2 with
     | none =>
      have ht1 : tie1 ts n2 g = none := by simp [tie1, h0, hf, hq]
      have HQ2 := hide hq
      clear hf h0 hq
      go_wp2_with fail
      refine (uh C).mono ?_
      rintro e w4 ⟨rfl, hb4⟩
      have RC4 := hide (((uh RCH).below hb4).below ((Below.refl w4.heap.size w4).alloc (Nat.le_refl _) (.cells #[.int .i64 u.place, .string u.name, .slice ua un uc] 110)))
      have B4 := hide ((uh HBX).trans (hb4.mono (uh HBX).size))
      have TB4 := (uh TBX).below hb4
      obtain ⟨v0, v1, v2, v3, v4⟩ := TB4.five
      have vl := TB4.lt
      have O4 := hide ((ownsRow_frame (w' := w4) (uh OX) (fun g cs f _ hh => hb4.block g (lt_of_some hh))).alloc (.cells #[.int .i64 u.place, .string u.name, .slice ua un uc] 110))
      have sz4 := (uh B4).size
      have B4x := hide ((uh B4).alloc sz4 (.cells #[.int .i64 u.place, .string u.name, .slice ua un uc] 110))
      clear hb4 TB4
      have C := hide (tfind_no b u.place u.name _ u rl2 n2 _ (uh RC4) (uh HQ2))
      go_wp2_with fail
      refine (uh C).mono ?_
      rintro e w5 ⟨rfl, hb5⟩
      have B5 := hide ((uh B4x).trans (hb5.mono (uh B4x).size))
      have O5 := hide (ownsRow_frame (w' := w5) (uh O4) (fun g cs f _ hh => hb5.block g (lt_of_some hh)))
      have sz5 := (uh B5).size
      clear hb5
      unfold errv
      go_wp2
      go_roundw
      case rel => exact ⟨k + 1, .slice sa sn sc, l3, by omega, by go_num, rfl, (uh B5).alloc sz5 _, (uh O5).alloc _, hide (by rw [uh HST, ht1]; simpa using uh HQ)⟩
      case measure => simp [intOf]; omega
     | some r2 =>
      have ht1 : tie1 ts n2 g = some u := by simp [tie1, h0, hf, hq]
      have HQ2 := hide hq
      clear hf h0 hq
      go_wp2_with fail
      refine (uh C).mono ?_
      rintro e w4 ⟨rfl, hb4⟩
      have RC4 := hide (((uh RCH).below hb4).below ((Below.refl w4.heap.size w4).alloc (Nat.le_refl _) (.cells #[.int .i64 u.place, .string u.name, .slice ua un uc] 110)))
      have U4 := hide (Blk.new w4 #[.int .i64 u.place, .string u.name, .slice ua un uc] 110)
      have B4 := hide ((uh HBX).trans (hb4.mono (uh HBX).size))
      have TB4 := (uh TBX).below hb4
      obtain ⟨v0, v1, v2, v3, v4⟩ := TB4.five
      have vl := TB4.lt
      have O4 := hide ((ownsRow_frame (w' := w4) (uh OX) (fun g cs f _ hh => hb4.block g (lt_of_some hh))).alloc (.cells #[.int .i64 u.place, .string u.name, .slice ua un uc] 110))
      have sz4 := (uh B4).size
      have B4x := hide ((uh B4).alloc sz4 (.cells #[.int .i64 u.place, .string u.name, .slice ua un uc] 110))
      clear hb4 TB4
      obtain ⟨xa, xv, _, _, hcall⟩ := tfind_yes b u.place u.name _ u rl2 n2 _ (uh RC4) r2 (uh HQ2)
      have C := hide hcall
      clear hcall
      go_wp2_with fail
      refine (uh C).mono ?_
      rintro e w5 ⟨rfl, hb5⟩
      have U5 := (uh U4).below hb5
      obtain ⟨u0, u1, u2⟩ := U5.three
      have ul := U5.lt
      clear U5
      have B5 := hide ((uh B4x).trans (hb5.mono (uh B4x).size))
      have O5 := hide (ownsRow_frame (w' := w5) (uh O4) (fun g cs f _ hh => hb5.block g (lt_of_some hh)))
      have sz5 := (uh B5).size
      clear hb5
      go_wp2_with (at_builtin; go_must (refine wpList_append_lies _ rfl _ _ 73 rfl w3.heap.size 110 i0 _ 3 48 Tryz.underlying73 (uh HI) (uh HZ0) (uh HZ1) (uh HZ2) rfl (by decide) (.slice sa sn sc) l3.length (l3.flatMap c3) rfl ?hown ⟨w5.heap.size + 1, 0, none⟩ 1 1 (c3 (u.place, u.name, .slice ua un uc)) rfl rfl ?hnews ?hone (by decide) ?h63 ?hbytes ?hbase (w5.heap.size + 2) ?hH ?hrest))
      case hown => exact ((uh O5).alloc _).alloc _
      case hnews => exact World.news_of_block (B := w5.heap.size + 1) (cs := #[.int .i64 u.place, .string u.name, .slice ua un uc]) (t := 110) (fr := (0, 0)) (Blk.new' (w5.alloc _) _ _ _ (by simp))
      case hone =>
       intro z hz
       simp [c3] at hz
       rcases hz with rfl | rfl | rfl <;> rfl
      case h63 => unfold maxLen; omega
      case hbytes => omega
      case hbase => simp; omega
      case hH => simp
      case hrest =>
       intro g6 cap6 w6 hown6 hgrow6 hat6 hgl6
       have O5' := ((uh O5).alloc (.cells #[.int .i64 r2.place, .string r2.name, .iface xa xv] 159)).alloc (.cells #[.int .i64 u.place, .string u.name, .slice ua un uc] 110)
       have B6 := hide (Below.grown (((uh B5).alloc sz5 (.cells #[.int .i64 r2.place, .string r2.name, .iface xa xv] 159)).alloc (by simp; omega) (.cells #[.int .i64 u.place, .string u.name, .slice ua un uc] 110)) hgrow6 (by simp; omega) (fun k hk => (O5'.lt k hk).1))
       have O6 := hide hown6
       clear hown6 hgrow6 hat6 O5'
       go_wp2
       go_roundw
       case rel => exact ⟨k + 1, .slice (some ⟨g6, 0, none⟩) (l3.length + 1) cap6, l3 ++ [(u.place, u.name, .slice ua un uc)], by omega, by go_num, rfl, uh B6, by rw [List.length_append, List.flatMap_append]; exact uh O6, hide ⟨by rw [uh HST, ht1, List.map_append, List.map_append, (uh HQ).1]; rfl, fun e he => by rw [List.mem_append, List.mem_singleton] at he; rcases he with he | rfl; exact (uh HQ).2 e he; exact ⟨ua, un, uc, rfl⟩⟩⟩
       case measure => simp [intOf]; omega
   ·have h0' : ((g.reach : Int) != 0) = true := by rw [bne_iff_ne]; omega
    have ht1 : tie1 ts n2 g = none := by simp [tie1, h0]
    clear h0
    go_wp2
    go_roundw
    case rel => exact ⟨k + 1, .slice sa sn sc, l3, by omega, by go_num, rfl, uh HBX, uh OX, hide (by rw [uh HST, ht1]; simpa using uh HQ)⟩
    case measure => simp [intOf]; omega
  ·have hkn : ¬ ((k : Int) < ((allG r.body).length : Int)) := by omega
   have hall : tk ts n2 k (allG r.body) = (allG r.body).filterMap (tie1 ts n2) := by
    unfold tk
    rw [List.take_of_length_le (by omega)]
   rw [hall] at HQ
   clear hb ho hall
   go_wp2
   go_ret
   exact ⟨.slice sa sn sc, rfl, (uh B3).trans ((uh HB).mono sz3), l3, ownsRow_base (uh HO) sz3, (uh HQ).1, fun x1 x2 x3 hx => (uh HQ).2 (x1, x2, x3) hx⟩
def tieN (ts : List Ty) (t : Ty) (n1 : ByteArray) (p1 : Nat) (n2 : ByteArray) (p2 : Nat) : Option Nat := match findRl t n1 with
 | none => some p1
 | some r => if ((allG r.body).filterMap (tie1 ts n2)).length = 0 then some p2 else none
set_option maxHeartbeats 1000000 in
set_option maxRecDepth 100000 in
theorem checkTie_any (b tp p1 p2 : Nat) (n1 n2 : ByteArray) (sv : Value) (ts : List Ty) (tl : List (Ty × Value)) (t : Ty) (tv : Value) (rl : List (Rl × Value)) (w : World) (h : MC b w sv ts tl) (ht : RC b w tv t.rels rl) :
  Calls Tryz.prog 175 #[.agg #[sv], .agg #[.int .i64 t.place, .string t.name, tv], .agg #[.int .i64 tp, .int .i64 p1, .string n1, .int .i64 p2, .string n2]] w fun e' w' => e' = .returned (errO 5 (tieN ts t n1 p1 n2 p2)) ∧ Below w.heap.size w w' := by
 obtain ⟨ma, mn, mc, rfl⟩ := h.form
 obtain ⟨va, vn, vc, rfl⟩ := ht.form
 have W0 : Below w.heap.size w (((w.alloc (.cells #[.slice ma mn mc] 75)).alloc (.cells #[.int .i64 t.place, .string t.name, .slice va vn vc] 110)).alloc (.cells #[.int .i64 tp, .int .i64 p1, .string n1, .int .i64 p2, .string n2] 240)) := (((Below.refl _ _).alloc (Nat.le_refl _) _).alloc (by simp) _).alloc (by simp; omega) _
 have HM0 := hide (h.below W0)
 have HT0 := hide (ht.below W0)
 have MB := hide (((Blk.new w #[.slice ma mn mc] 75).alloc (.cells #[.int .i64 t.place, .string t.name, .slice va vn vc] 110)).alloc (.cells #[.int .i64 tp, .int .i64 p1, .string n1, .int .i64 p2, .string n2] 240))
 have YB := hide ((Blk.new' (w.alloc (.cells #[.slice ma mn mc] 75)) #[.int .i64 t.place, .string t.name, .slice va vn vc] 110 (w.heap.size + 1) (by simp)).alloc (.cells #[.int .i64 tp, .int .i64 p1, .string n1, .int .i64 p2, .string n2] 240))
 have TB := hide (Blk.new' ((w.alloc (.cells #[.slice ma mn mc] 75)).alloc (.cells #[.int .i64 t.place, .string t.name, .slice va vn vc] 110)) #[.int .i64 tp, .int .i64 p1, .string n1, .int .i64 p2, .string n2] 240 (w.heap.size + 2) (by simp))
 have HW0 := hide W0
 generalize hR : tieN ts t n1 p1 n2 p2 = R
 unfold tieN at hR
 clear W0 h ht
 cases hf : findRl t n1 with
 | none =>
  have C := hide (tfind_no b t.place t.name _ t rl n1 _ (uh HT0) hf)
  rw [hf] at hR
  have HR := hide hR
  clear hR hf
  go_enter Tryz.func175, Tryz.ntmps175
  go_wp2_with fail
  refine (uh C).mono ?_
  rintro e w1 ⟨rfl, hb1⟩
  have B1 := hide ((uh HW0).trans (hb1.mono (uh HW0).size))
  obtain ⟨v0, v1, v2, v3, v4⟩ := ((uh TB).below hb1).five
  have vl := ((uh TB).below hb1).lt
  have sz := (uh B1).size
  clear hb1
  unfold errv
  go_wp2_with (go_at_call 73; refine (wrap_err _ 5 _).mono ?_; rintro e w3 ⟨rfl, rfl⟩)
  go_ret
  rw [← uh HR]
  exact ⟨rfl, (by repeat (first | with_reducible exact uh B1 | with_reducible refine Below.drew ?_ | (with_reducible refine Below.setCell ?_ ?_ _; rotate_left; exact (by first | omega | (simp; omega) | simp | (simp; done))) | (with_reducible refine Below.alloc ?_ ?_ _; rotate_left; exact (by first | omega | (simp; omega) | simp | (simp; done)))))⟩
 | some r =>
  obtain ⟨xa, xv, _, _, hcall⟩ := tfind_yes b t.place t.name _ t rl n1 _ (uh HT0) r hf
  have C := hide hcall
  have HF := hide hf
  rw [hf] at hR
  have HR := hide hR
  clear hR hf hcall
  go_enter Tryz.func175, Tryz.ntmps175
  go_wp2_with fail
  refine (uh C).mono ?_
  rintro e w1 ⟨rfl, hb1⟩
  have b1 := hb1.alloc hb1.size (.cells #[.int .i64 r.place, .string r.name, .iface xa xv] 159)
  have B1 := hide ((uh HW0).trans (b1.mono (uh HW0).size))
  have M1 := hide ((uh HM0).below b1)
  have T1 := hide ((uh HT0).below b1)
  have TB1 := hide ((uh TB).below b1)
  obtain ⟨v0, v1, v2, v3, v4⟩ := ((uh TB).below hb1).five
  have vl := ((uh TB).below hb1).lt
  obtain ⟨y0, y1, y2⟩ := ((uh YB).below hb1).three
  have yl := ((uh YB).below hb1).lt
  have m0 : w1.cell? ⟨w.heap.size, 0, none⟩ = some (.slice ma mn mc) := ((uh MB).below hb1).cell rfl
  have sz := (uh B1).size
  have ml := ((uh MB).below hb1).lt
  clear hb1 b1 C
  go_wp2_with fail
  refine (tied_some b tp p1 p2 n1 n2 _ ts tl t _ rl _ (uh M1) (uh T1) r (uh HF)).mono ?_
  rintro e w2 ⟨sv2, l3, rfl, hb2, ho, hl3, _⟩
  have hlen : l3.length = ((allG r.body).filterMap (tie1 ts n2)).length := by
   have := congrArg List.length hl3
   rwa [List.length_map, List.length_map] at this
  obtain ⟨oa, oc, rfl⟩ := own_form ho
  have B2 := hide ((uh B1).trans (hb2.mono (uh B1).size))
  obtain ⟨z0, z1, z2, z3, z4⟩ := ((uh TB1).below hb2).five
  have zl := ((uh TB1).below hb2).lt
  have sz2 := (uh B2).size
  have hR := uh HR
  rw [← hlen] at hR
  generalize l3.length = ln at *
  clear hb2 ho hl3 hlen v0 v1 v2 v3 v4 y0 y1 y2 m0
  by_cases h0 : ln = 0
  ·have h0' : ((ln : Int) == 0) = true := by rw [h0]; rfl
   rw [if_pos h0] at hR
   have HR2 := hide hR
   clear hR h0
   go_wp2_with (go_at_call 73; refine (wrap_err _ 5 _).mono ?_; rintro e w3 ⟨rfl, rfl⟩)
   go_ret
   rw [← uh HR2]
   exact ⟨rfl, (by repeat (first | with_reducible exact uh B2 | with_reducible refine Below.drew ?_ | (with_reducible refine Below.setCell ?_ ?_ _; rotate_left; exact (by first | omega | (simp; omega) | simp | (simp; done))) | (with_reducible refine Below.alloc ?_ ?_ _; rotate_left; exact (by first | omega | (simp; omega) | simp | (simp; done)))))⟩
  ·have h0' : ((ln : Int) == 0) = false := by rw [beq_eq_false_iff_ne]; omega
   rw [if_neg h0] at hR
   have HR2 := hide hR
   clear hR h0
   go_wp2
   go_ret
   rw [← uh HR2]
   exact ⟨rfl, (by repeat (first | with_reducible exact uh B2 | with_reducible refine Below.drew ?_ | (with_reducible refine Below.setCell ?_ ?_ _; rotate_left; exact (by first | omega | (simp; omega) | simp | (simp; done))) | (with_reducible refine Below.alloc ?_ ?_ _; rotate_left; exact (by first | omega | (simp; omega) | simp | (simp; done)))))⟩
/-- P4: of one part of a type's expression: the place of a name that is not there. -/
def nameN (ts : List Ty) (t : Ty) (p : Ex) : Option Nat := match p.l with
 | some _ => none
 | none => if p.nd.kind = 0 then listN ts p.nd.gs
  else if p.nd.kind = 1 then (match findRl t p.nd.n1 with
   | none => some p.nd.place
   | some _ => none)
  else tieN ts t p.nd.n1 p.nd.p1 p.nd.n2 p.nd.p2
def namesP (ts : List Ty) (t : Ty) (r : Rl) : Option Nat := (partsE r.body).findSome? (nameN ts t)
theorem findSome_step {α β : Type} (f : α → Option β) (l : List α) (k : Nat) (a : α) (h : l[k]? = some a) : (l.drop k).findSome? f = match f a with
  | some p => some p
  | none => (l.drop (k + 1)).findSome? f := by
 have hlt : k < l.length := by
  rcases Nat.lt_or_ge k l.length with h' | h'
  ·exact h'
  ·rw [List.getElem?_eq_none h'] at h; cases h
 rw [List.getElem?_eq_getElem hlt] at h
 simp only [Option.some.injEq] at h
 rw [List.drop_eq_getElem_cons hlt, List.findSome?_cons, h]
 cases f a <;> rfl
theorem gs_le_all {e p : Ex} (hp : p ∈ partsE e) (hl : p.l = none) (hk : p.nd.kind = 0) : p.nd.gs.length ≤ (allG e).length := by
 unfold allG
 have : gsOf p = p.nd.gs := by simp [gsOf, hl, hk]
 rw [← this]
 obtain ⟨a, c, h⟩ := List.append_of_mem hp
 rw [h]
 simp
 omega
theorem tyOf_cases (k : Nat) : tyOf k = 244 ∨ tyOf k = 245 ∨ tyOf k = 246 := by
 unfold tyOf
 split
 ·exact .inl rfl
 ·split
  ·exact .inr (.inl rfl)
  ·exact .inr (.inr rfl)
set_option maxHeartbeats 4000000 in
set_option maxRecDepth 100000 in
theorem checkNames_any (b : Nat) (sv : Value) (ts : List Ty) (tl : List (Ty × Value)) (t : Ty) (tv : Value) (rl : List (Rl × Value)) (r : Rl) (bv : Value) (w : World) (h : MC b w sv ts tl) (ht : RC b w tv t.rels rl) (hr : RepEx b w r.body bv) (hmem : r ∈ t.rels) :
  Calls Tryz.prog 117 #[.agg #[sv], .agg #[.int .i64 t.place, .string t.name, tv], .agg #[.int .i64 r.place, .string r.name, bv]] w fun e' w' => e' = .returned (errO 5 (namesP ts t r)) ∧ Below w.heap.size w w' := by
 obtain ⟨ma, mn, mc, rfl⟩ := h.form
 obtain ⟨va, vn, vc, rfl⟩ := ht.form
 obtain ⟨ra, rv, rfl⟩ := hr.isI
 have W0 : Below w.heap.size w (((w.alloc (.cells #[.slice ma mn mc] 75)).alloc (.cells #[.int .i64 t.place, .string t.name, .slice va vn vc] 110)).alloc (.cells #[.int .i64 r.place, .string r.name, .iface ra rv] 159)) := (((Below.refl _ _).alloc (Nat.le_refl _) _).alloc (by simp) _).alloc (by simp; omega) _
 have HM0 := hide (h.below W0)
 have HT0 := hide (ht.below W0)
 have HX0 := hide (hr.but (But.of_below W0))
 have MB := hide (((Blk.new w #[.slice ma mn mc] 75).alloc (.cells #[.int .i64 t.place, .string t.name, .slice va vn vc] 110)).alloc (.cells #[.int .i64 r.place, .string r.name, .iface ra rv] 159))
 have YB := hide ((Blk.new' (w.alloc (.cells #[.slice ma mn mc] 75)) #[.int .i64 t.place, .string t.name, .slice va vn vc] 110 (w.heap.size + 1) (by simp)).alloc (.cells #[.int .i64 r.place, .string r.name, .iface ra rv] 159))
 have okp := ht.okp r hmem
 have okg := ht.okg r hmem
 have HW0 := hide W0
 generalize hR : namesP ts t r = R
 have HRR := hide hR
 have blt0 := (uh HM0).blt
 clear W0 h ht hr hR hmem
 go_enter Tryz.func117, Tryz.ntmps117
 go_wp2_with fail
 refine (parts_any r.body b _ _ blt0 (uh HX0) okp).mono ?_
 rintro e1 w2 ⟨sv2, rfl, hb2, l, l1, l2, l3⟩
 obtain ⟨oa, oc, rfl⟩ := own_form l3
 have ll : l.length = (partsE r.body).length := by rw [← l1]; simp
 have B2 := hide ((uh HW0).trans (hb2.mono (uh HW0).size))
 have L1 := hide l1
 have L2 := hide l2
 have L3 := hide l3
 have M2 := hide ((uh HM0).below hb2)
 have T2 := hide ((uh HT0).below hb2)
 have MB2 := hide ((uh MB).below hb2)
 have YB2 := hide ((uh YB).below hb2)
 have sz2 := (uh B2).size
 clear hb2 l1 l2 l3
 have f0 := ta_List_List
 have f1 := ta_Own_List
 have f2 := ta_Tie_List
 have f3 := ta_Either_List
 have f4 := ta_Both_List
 have f5 := ta_Less_List
 have g1 := ta_Own_Own
 have g2 := ta_Tie_Own
 have g3 := ta_Either_Own
 have g4 := ta_Both_Own
 have g5 := ta_Less_Own
 have h2 := ta_Tie_Tie
 have h3 := ta_Either_Tie
 have h4 := ta_Both_Tie
 have h5 := ta_Less_Tie
 go_wp2_with fail
 go_loopw [17] (fun u17 wr => ∃ (k : Nat), k ≤ (partsE r.body).length ∧ u17 = .int .i64 k ∧ Below w2.heap.size w2 wr ∧ Hid (((partsE r.body).drop k).findSome? (nameN ts t) = R)) (fun u _ => (partsE r.body).length - (intOf u).toNat)
 case atStart => exact ⟨0, by omega, rfl, Below.refl _ _, HRR⟩
 case round =>
  obtain ⟨k, hk, rfl, hbr, HQ⟩ := hrel
  have HB := hide hbr
  have wrs := hbr.size
  by_cases hlt : k < (partsE r.body).length
  ·have hkl : k < l.length := by omega
   obtain ⟨q1, c1, e1, kc⟩ := own_cell (ownsRow_frame (w' := wr) (uh L3) (fun g cs f _ hh => hbr.block g (lt_of_some hh))) k l[k].2 (by simp [List.getElem?_eq_getElem hkl])
   simp only [Value.slice.injEq] at e1
   obtain ⟨rfl, _, rfl⟩ := e1
   have hrep := (uh L2 l[k] (List.getElem_mem hkl)).but (b := b) (But.of_below hbr)
   have hk' : (partsE r.body)[k]? = some l[k].1 := by rw [← uh L1]; simp [List.getElem?_eq_getElem hkl]
   generalize l[k] = q at *
   obtain ⟨q1, qv⟩ := q
   simp only at kc hrep hk'
   have hkn : (k : Int) < ((partsE r.body).length : Int) := by omega
   have hR := uh HQ
   rw [findSome_step _ _ _ _ hk'] at hR
   have hin := List.mem_of_getElem? hk'
   have m0 : wr.cell? ⟨w.heap.size, 0, none⟩ = some (.slice ma mn mc) := ((uh MB2).below hbr).cell rfl
   have ml := ((uh MB2).below hbr).lt
   obtain ⟨y0, y1, y2⟩ := ((uh YB2).below hbr).three
   have yl := ((uh YB2).below hbr).lt
   have HMR := hide ((uh M2).below hbr)
   have HTR := hide ((uh T2).below hbr)
   clear hbr hk' HQ
   match q1, hrep, hR, hin with
   | ⟨nq, some xq, some yq⟩, ⟨vx, vy, hv, rx, ry⟩, hR, hin =>
    have HR2 := hide (show ((partsE r.body).drop (k + 1)).findSome? (nameN ts t) = R from hR)
    subst hv
    clear rx ry hR hin
    rcases tyOf_cases nq.kind with htt | htt | htt
    all_goals
     rw [htt] at kc
     clear htt
     go_wp2
     go_roundw
     case rel => exact ⟨k + 1, by omega, by go_num, uh HB, HR2⟩
     case measure => simp [intOf]; omega
   | ⟨nq, none, rq⟩, hrep, hR, hin =>
    rcases hrep with ⟨hkd, gv, hv, hrow⟩ | ⟨hkd, hv⟩ | ⟨hkd, hv⟩
    ·have hle := gs_le_all hin rfl hkd
     have hnn : nameN ts t ⟨nq, none, rq⟩ = listN ts nq.gs := by simp [nameN, hkd]
     rw [hnn] at hR
     obtain ⟨xa, xn, xc, rfl⟩ : ∃ a n c, gv = .slice a n c := by
      obtain ⟨a, c, e⟩ := own_form hrow
      exact ⟨a, _, c, e⟩
     subst hv
     have bx : Below wr.heap.size wr (wr.alloc (.cells #[.int .i64 nq.place, .slice xa xn xc] 236)) := (Below.refl _ _).alloc (Nat.le_refl _) _
     have C := hide (checkList_any b nq.place _ ts tl _ nq.gs _ ((uh HMR).below bx) (ownsRow_frame hrow (fun g cs f _ hh => bx.block g (lt_of_some hh))) (by simp only at hle; omega))
     have HBX := hide ((uh HB).trans (bx.mono wrs))
     clear hrow bx hnn
     cases hn : listN ts nq.gs with
     | some p =>
      rw [hn] at hR C
      have HR2 := hide hR
      clear hn hR
      go_wp2_with fail
      refine (uh C).mono ?_
      rintro e w3 ⟨rfl, hb3⟩
      have B3 := hide ((uh HBX).trans (hb3.mono (uh HBX).size))
      clear hb3
      unfold errO placed
      go_wp2
      go_ret
      rw [← uh HR2]
      exact ⟨rfl, (uh B2).trans ((uh B3).mono sz2)⟩
     | none =>
      rw [hn] at hR C
      have HR2 := hide hR
      clear hn hR
      go_wp2_with fail
      refine (uh C).mono ?_
      rintro e w3 ⟨rfl, hb3⟩
      have B3 := hide ((uh HBX).trans (hb3.mono (uh HBX).size))
      clear hb3
      unfold errO
      go_wp2
      go_roundw
      case rel => exact ⟨k + 1, by omega, by go_num, uh B3, HR2⟩
      case measure => simp [intOf]; omega
    ·subst hv
     have bx : Below wr.heap.size wr (wr.alloc (.cells #[.int .i64 nq.place, .string nq.n1] 238)) := (Below.refl _ _).alloc (Nat.le_refl _) _
     have HBX := hide ((uh HB).trans (bx.mono wrs))
     have OB := hide (Blk.new wr #[.int .i64 nq.place, .string nq.n1] 238)
     cases hn : findRl t nq.n1 with
     | none =>
      have hnn : nameN ts t ⟨nq, none, rq⟩ = some nq.place := by simp [nameN, hkd, hn]
      rw [hnn] at hR
      have HR2 := hide hR
      have C := hide (tfind_no b t.place t.name _ t rl nq.n1 _ ((uh HTR).below bx) hn)
      clear hn hR bx hnn hkd hin
      go_wp2_with fail
      refine (uh C).mono ?_
      rintro e w3 ⟨rfl, hb3⟩
      have B3 := hide ((uh HBX).trans (hb3.mono (uh HBX).size))
      obtain ⟨o0, o1⟩ := ((uh OB).below hb3).two
      have ol := ((uh OB).below hb3).lt
      clear hb3
      unfold errv
      go_wp2_with (go_at_call 73; refine (wrap_err _ 5 _).mono ?_; rintro e w4 ⟨rfl, rfl⟩; unfold placed errv)
      go_ret
      rw [← uh HR2]
      exact ⟨rfl, (uh B2).trans ((uh B3).mono sz2)⟩
     | some r2 =>
      have hnn : nameN ts t ⟨nq, none, rq⟩ = none := by simp [nameN, hkd, hn]
      rw [hnn] at hR
      have HR2 := hide hR
      obtain ⟨za, zv, _, _, hcall⟩ := tfind_yes b t.place t.name _ t rl nq.n1 _ ((uh HTR).below bx) r2 hn
      have C := hide hcall
      clear hn hR bx hnn hkd hin hcall
      go_wp2_with fail
      refine (uh C).mono ?_
      rintro e w3 ⟨rfl, hb3⟩
      have B3 := hide ((uh HBX).trans (hb3.mono (uh HBX).size))
      obtain ⟨o0, o1⟩ := ((uh OB).below hb3).two
      have ol := ((uh OB).below hb3).lt
      clear hb3
      go_wp2_with (go_at_call 73; refine (wrap_nil _ _).mono ?_; rintro e w4 ⟨rfl, rfl⟩)
      go_roundw
      case rel => exact ⟨k + 1, by omega, by go_num, uh B3, HR2⟩
      case measure => simp [intOf]; omega
    ·subst hv
     have hnn : nameN ts t ⟨nq, none, rq⟩ = tieN ts t nq.n1 nq.p1 nq.n2 nq.p2 := by simp [nameN, hkd]
     rw [hnn] at hR
     have bx : Below wr.heap.size wr (wr.alloc (.cells #[.int .i64 nq.place, .int .i64 nq.p1, .string nq.n1, .int .i64 nq.p2, .string nq.n2] 240)) := (Below.refl _ _).alloc (Nat.le_refl _) _
     have HBX := hide ((uh HB).trans (bx.mono wrs))
     have C := hide (checkTie_any b nq.place nq.p1 nq.p2 nq.n1 nq.n2 _ ts tl t _ rl _ ((uh HMR).below bx) ((uh HTR).below bx))
     clear bx hnn hkd hin
     cases hn : tieN ts t nq.n1 nq.p1 nq.n2 nq.p2 with
     | some p =>
      rw [hn] at hR C
      have HR2 := hide hR
      clear hn hR
      go_wp2_with fail
      refine (uh C).mono ?_
      rintro e w3 ⟨rfl, hb3⟩
      have B3 := hide ((uh HBX).trans (hb3.mono (uh HBX).size))
      clear hb3
      unfold errO placed
      go_wp2
      go_ret
      rw [← uh HR2]
      exact ⟨rfl, (uh B2).trans ((uh B3).mono sz2)⟩
     | none =>
      rw [hn] at hR C
      have HR2 := hide hR
      clear hn hR
      go_wp2_with fail
      refine (uh C).mono ?_
      rintro e w3 ⟨rfl, hb3⟩
      have B3 := hide ((uh HBX).trans (hb3.mono (uh HBX).size))
      clear hb3
      unfold errO
      go_wp2
      go_roundw
      case rel => exact ⟨k + 1, by omega, by go_num, uh B3, HR2⟩
      case measure => simp [intOf]; omega
   | ⟨nq, some xq, none⟩, hrep, hR, hin => exact hrep.elim
  ·have hR := uh HQ
   rw [List.drop_of_length_le (by omega)] at hR
   have hkn : ¬ ((k : Int) < ((partsE r.body).length : Int)) := by omega
   have HR2 := hide hR
   clear hbr hR
   go_wp2
   go_ret
   rw [← uh HR2]
   exact ⟨rfl, (uh B2).trans ((uh HB).mono sz2)⟩
end Go.Proofs.YtlbpnlngckgcbaaGreatDoor
