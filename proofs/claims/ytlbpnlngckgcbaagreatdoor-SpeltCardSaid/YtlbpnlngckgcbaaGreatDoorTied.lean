import Derived.Test.YtlbpnlngckgcbaaGreatDoorCList
namespace Go.Proofs.YtlbpnlngckgcbaaGreatDoor
open Go.RowKit Go.PlainAid
set_option linter.unusedSimpArgs false
set_option linter.unusedVariables false

/-- The type that a grant by itself ties, if it has the relation. -/
def tie1 (ts : List Ty) (y : ByteArray) (g : Gr) : Option Ty := if g.reach = 0 then (match findTy ts g.ty with
  | none => none
  | some u => if (findRl u y).isSome then some u else none) else none
def tk (ts : List Ty) (y : ByteArray) (k : Nat) (gs : List Gr) : List Ty := (gs.take k).filterMap (tie1 ts y)
def tiedP (ts : List Ty) (t : Ty) (x y : ByteArray) : List Ty := match findRl t x with
  | none => []
  | some r => (allG r.body).filterMap (tie1 ts y)
theorem tk_step {ts : List Ty} {y : ByteArray} {k : Nat} {gs : List Gr} {g : Gr} (h : gs[k]? = some g) : tk ts y (k + 1) gs = tk ts y k gs ++ (tie1 ts y g).toList := by
  have hlt : k < gs.length := by
    rcases Nat.lt_or_ge k gs.length with h' | h'
    · exact h'
    · rw [List.getElem?_eq_none h'] at h; cases h
  rw [List.getElem?_eq_getElem hlt] at h
  simp only [Option.some.injEq] at h
  unfold tk
  rw [List.take_succ_eq_append_getElem hlt, List.filterMap_append, h]
  cases hq : tie1 ts y g <;> simp [hq]
theorem tk_le (ts : List Ty) (y : ByteArray) (k : Nat) (gs : List Gr) : (tk ts y k gs).length ≤ k := by
  unfold tk
  have := List.length_filterMap_le (tie1 ts y) (gs.take k)
  rw [List.length_take] at this
  omega

set_option maxHeartbeats 1000000 in
set_option maxRecDepth 100000 in
theorem tied_none (b tp p1 p2 : Nat) (n1 n2 : ByteArray) (sv : Value) (ts : List Ty) (tl : List (Ty × Value)) (t : Ty) (tv : Value) (rl : List (Rl × Value)) (w : World) (h : MC b w sv ts tl) (ht : RC b w tv t.rels rl) (hf : findRl t n1 = none) :
    Calls Tryz.prog 223 #[.agg #[sv], .agg #[.int .i64 t.place, .string t.name, tv], .agg #[.int .i64 tp, .int .i64 p1, .string n1, .int .i64 p2, .string n2]] w fun e' w' => e' = .returned (.slice none 0 0) ∧ Below w.heap.size w w' := by
  obtain ⟨ma, mn, mc, rfl⟩ := h.form
  obtain ⟨va, vn, vc, rfl⟩ := ht.form
  have W0 : Below w.heap.size w (((w.alloc (.cells #[.slice ma mn mc] 75)).alloc (.cells #[.int .i64 t.place, .string t.name, .slice va vn vc] 110)).alloc (.cells #[.int .i64 tp, .int .i64 p1, .string n1, .int .i64 p2, .string n2] 240)) := (((Below.refl _ _).alloc (Nat.le_refl _) _).alloc (by simp) _).alloc (by simp; omega) _
  have C := hide (tfind_no b t.place t.name _ t rl n1 _ (ht.below W0) hf)
  have HW0 := hide W0
  clear W0 h ht hf
  go_enter Tryz.func223, Tryz.ntmps223
  go_wp2_with fail
  refine (unhide C).mono ?_
  rintro e w1 ⟨rfl, hb1⟩
  have B1 := hide ((unhide HW0).trans (hb1.mono (unhide HW0).size))
  have sz := (unhide B1).size
  clear hb1
  unfold errv
  go_wp2
  go_ret
  exact ⟨rfl, (by repeat (first | with_reducible exact unhide B1 | with_reducible refine Below.drew ?_ | (with_reducible refine Below.setCell ?_ ?_ _; rotate_left; exact (by first | omega | (simp; omega) | simp | (simp; done))) | (with_reducible refine Below.alloc ?_ ?_ _; rotate_left; exact (by first | omega | (simp; omega) | simp | (simp; done)))))⟩

set_option maxHeartbeats 4000000 in
set_option maxRecDepth 100000 in
theorem tied_some (b tp p1 p2 : Nat) (n1 n2 : ByteArray) (sv : Value) (ts : List Ty) (tl : List (Ty × Value)) (t : Ty) (tv : Value) (rl : List (Rl × Value)) (w : World) (h : MC b w sv ts tl) (ht : RC b w tv t.rels rl) (r : Rl) (hf : findRl t n1 = some r) :
    Calls Tryz.prog 223 #[.agg #[sv], .agg #[.int .i64 t.place, .string t.name, tv], .agg #[.int .i64 tp, .int .i64 p1, .string n1, .int .i64 p2, .string n2]] w fun e' w' => ∃ (sv' : Value) (l3 : List E3), e' = .returned sv' ∧ Below w.heap.size w w' ∧ w'.ownsRow w.heap.size 110 3 sv' l3.length (l3.flatMap c3) ∧ l3.map (fun e => e.2.1) = ((allG r.body).filterMap (tie1 ts n2)).map Ty.name ∧ ∀ e ∈ l3, ∃ a n c, e.2.2 = Value.slice a n c := by
  obtain ⟨i0, hi, hz0, hz1, hz2⟩ := info_parts Tryz.info110
  have HI := hide hi
  have HZ0 := hide hz0
  have HZ1 := hide hz1
  have HZ2 := hide hz2
  clear hi hz0 hz1 hz2
  obtain ⟨ma, mn, mc, rfl⟩ := h.form
  obtain ⟨va, vn, vc, rfl⟩ := ht.form
  have W0 : Below w.heap.size w (((w.alloc (.cells #[.slice ma mn mc] 75)).alloc (.cells #[.int .i64 t.place, .string t.name, .slice va vn vc] 110)).alloc (.cells #[.int .i64 tp, .int .i64 p1, .string n1, .int .i64 p2, .string n2] 240)) := (((Below.refl _ _).alloc (Nat.le_refl _) _).alloc (by simp) _).alloc (by simp; omega) _
  obtain ⟨ra, rv, hrep, hmem, hcall⟩ := tfind_yes b t.place t.name _ t rl n1 _ (ht.below W0) r hf
  have okp := ht.okp r hmem
  have okg := ht.okg r hmem
  have wf := ht.wf r hmem
  have C := hide hcall
  have HREP := hide hrep
  have HM0 := hide (h.below W0)
  have MB := hide (((Blk.new w #[.slice ma mn mc] 75).alloc (.cells #[.int .i64 t.place, .string t.name, .slice va vn vc] 110)).alloc (.cells #[.int .i64 tp, .int .i64 p1, .string n1, .int .i64 p2, .string n2] 240))
  have TB := hide (Blk.new' ((w.alloc (.cells #[.slice ma mn mc] 75)).alloc (.cells #[.int .i64 t.place, .string t.name, .slice va vn vc] 110)) #[.int .i64 tp, .int .i64 p1, .string n1, .int .i64 p2, .string n2] 240 (w.heap.size + 2) (by simp))
  have HW0 := hide W0
  have blt := h.blt
  have HWF := hide wf
  clear W0 h ht hf hcall hrep hmem wf
  go_enter Tryz.func223, Tryz.ntmps223
  go_wp2_with fail
  refine (unhide C).mono ?_
  rintro e w1 ⟨rfl, hb1⟩
  have b1 := hb1.alloc hb1.size (.cells #[.int .i64 r.place, .string r.name, .iface ra rv] 159)
  have B1 := hide ((unhide HW0).trans (b1.mono (unhide HW0).size))
  have MB1 := hide ((unhide MB).below b1)
  have TB1 := hide ((unhide TB).below b1)
  have HM1 := hide ((unhide HM0).below b1)
  have RP1 := hide ((unhide HREP).but (But.of_below b1))
  have blt1 := (unhide HM1).blt
  clear hb1 b1 C
  go_wp2_with fail
  refine (grants_any r.place r.name b r.body _ _ blt1 (unhide RP1) okp okg (unhide HWF)).mono ?_
  rintro e w3 ⟨gv, rfl, hb3, hrow⟩
  obtain ⟨ga, gc, rfl⟩ := own_form hrow
  have B3 := hide ((unhide B1).trans (hb3.mono (unhide B1).size))
  have MB3 := hide ((unhide MB1).below hb3)
  have TB3 := hide ((unhide TB1).below hb3)
  have HM3 := hide ((unhide HM1).below hb3)
  have HROW := hide hrow
  have sz3 := (unhide B3).size
  clear hb3 hrow
  go_wp2_with fail
  go_loopw [9, 29] (fun u9 u29 wr => ∃ (k : Nat) (sv' : Value) (l3 : List E3), k ≤ (allG r.body).length ∧ u29 = .int .i64 k ∧ u9 = sv' ∧ Below w3.heap.size w3 wr ∧ wr.ownsRow w3.heap.size 110 3 sv' l3.length (l3.flatMap c3) ∧ Hid (l3.map (fun e => e.2.1) = (tk ts n2 k (allG r.body)).map Ty.name ∧ ∀ e ∈ l3, ∃ a n c, e.2.2 = Value.slice a n c)) (fun _ u _ => (allG r.body).length - (intOf u).toNat)
  case atStart => exact ⟨0, _, [], by omega, rfl, rfl, Below.refl _ _, World.ownsRow_nil _ _ _ _, hide ⟨rfl, by simp⟩⟩
  case round =>
    obtain ⟨k, sv', l3, hk, rfl, hu9, hb, ho, HQ⟩ := hrel
    have hl3 : l3.length ≤ k := by
      have := congrArg List.length (unhide HQ).1
      rw [List.length_map, List.length_map] at this
      have := tk_le ts n2 k (allG r.body)
      omega
    obtain ⟨sa, sn, sc, rfl⟩ : ∃ a n c, sv' = .slice a n c := by
      obtain ⟨a, c, e⟩ := own_form ho
      exact ⟨a, _, c, e⟩
    subst hu9
    have HB := hide hb
    have HO := hide ho
    have wrs := hb.size
    by_cases hlt : k < (allG r.body).length
    · have hkn : (k : Int) < ((allG r.body).length : Int) := by omega
      obtain ⟨q, c, e1, k0, k1, k2, k3, k4⟩ := Row5.cell (ownsRow_frame (w' := wr) (unhide HROW) (fun g cs f _ hh => hb.block g (lt_of_some hh))) k (allG r.body)[k] (List.getElem?_eq_getElem hlt)
      simp only [Value.slice.injEq] at e1
      obtain ⟨rfl, _, rfl⟩ := e1
      have hg' : (allG r.body)[k]? = some (allG r.body)[k] := List.getElem?_eq_getElem hlt
      generalize (allG r.body)[k] = g at *
      have HST := hide (tk_step (ts := ts) (y := n2) hg')
      have bx := hb.alloc wrs (.cells #[.int .i64 g.tp, .string g.ty, .int .i64 g.reach, .int .i64 g.rp, .string g.rel] 207)
      have HBX := hide bx
      have HM := hide ((unhide HM3).below bx)
      have MBX := hide ((unhide MB3).below bx)
      have TBX := hide ((unhide TB3).below bx)
      have GX := hide (Blk.new wr #[.int .i64 g.tp, .string g.ty, .int .i64 g.reach, .int .i64 g.rp, .string g.rel] 207)
      have OX := hide ((unhide HO).alloc (.cells #[.int .i64 g.tp, .string g.ty, .int .i64 g.reach, .int .i64 g.rp, .string g.rel] 207))
      have m0 : wr.cell? ⟨w.heap.size, 0, none⟩ = some (.slice ma mn mc) := ((unhide MB3).below hb).cell rfl
      have ml := ((unhide MB3).below hb).lt
      clear hb ho bx hg'
      by_cases h0 : g.reach = 0
      · have h0' : ((g.reach : Int) != 0) = false := by rw [h0]; rfl
        cases hf : findTy ts g.ty with
        | none =>
          have ht1 : tie1 ts n2 g = none := by simp [tie1, h0, hf]
          have C := hide (mfind_no b _ ts tl g.ty _ (unhide HM) hf)
          clear hf h0
          go_wp2_with fail
          refine (unhide C).mono ?_
          rintro e w4 ⟨rfl, hb4⟩
          have B4 := hide ((unhide HBX).trans (hb4.mono (unhide HBX).size))
          have TB4 := (unhide TBX).below hb4
          have TB4' := hide (TB4.alloc (.cells #[.int .i64 0, .string ⟨#[]⟩, .slice none 0 0] 110))
          obtain ⟨v0, v1, v2, v3, v4⟩ := TB4.five
          have vl := TB4.lt
          have O4 := hide ((ownsRow_frame (w' := w4) (unhide OX) (fun g cs f _ hh => hb4.block g (lt_of_some hh))).alloc (.cells #[.int .i64 0, .string ⟨#[]⟩, .slice none 0 0] 110))
          have sz4 := (unhide B4).size
          have B4x := hide ((unhide B4).alloc sz4 (.cells #[.int .i64 0, .string ⟨#[]⟩, .slice none 0 0] 110))
          clear hb4 TB4
          have C := hide (tfind_no b 0 ⟨#[]⟩ (.slice none 0 0) ⟨em, 0, []⟩ [] n2 (w4.alloc (.cells #[.int .i64 0, .string ⟨#[]⟩, .slice none 0 0] 110)) ⟨rfl, World.ownsRow_nil _ _ _ _, by simp, by simp, by simp, by simp, by simp⟩ rfl)
          unfold errv
          go_wp2_with fail
          refine (unhide C).mono ?_
          rintro e w5 ⟨rfl, hb5⟩
          have B5 := hide ((unhide B4x).trans (hb5.mono (unhide B4x).size))
          have O5 := hide (ownsRow_frame (w' := w5) (unhide O4) (fun g cs f _ hh => hb5.block g (lt_of_some hh)))
          have sz5 := (unhide B5).size
          clear hb5
          unfold errv
          go_wp2
          go_roundw
          case rel => exact ⟨k + 1, .slice sa sn sc, l3, by omega, by go_num, rfl, (unhide B5).alloc sz5 _, (unhide O5).alloc _, hide (by rw [unhide HST, ht1]; simpa using unhide HQ)⟩
          case measure => simp [intOf]; omega
        | some u =>
          obtain ⟨ua, un, uc, rl2, hrc, hcall⟩ := mfind_yes b _ ts tl g.ty _ (unhide HM) u hf
          have C := hide hcall
          have RCH := hide hrc
          clear hcall hrc
          cases hq : findRl u n2 with
          | none =>
            have ht1 : tie1 ts n2 g = none := by simp [tie1, h0, hf, hq]
            have HQ2 := hide hq
            clear hf h0 hq
            go_wp2_with fail
            refine (unhide C).mono ?_
            rintro e w4 ⟨rfl, hb4⟩
            have RC4 := hide (((unhide RCH).below hb4).below ((Below.refl w4.heap.size w4).alloc (Nat.le_refl _) (.cells #[.int .i64 u.place, .string u.name, .slice ua un uc] 110)))
            have B4 := hide ((unhide HBX).trans (hb4.mono (unhide HBX).size))
            have TB4 := (unhide TBX).below hb4
            obtain ⟨v0, v1, v2, v3, v4⟩ := TB4.five
            have vl := TB4.lt
            have O4 := hide ((ownsRow_frame (w' := w4) (unhide OX) (fun g cs f _ hh => hb4.block g (lt_of_some hh))).alloc (.cells #[.int .i64 u.place, .string u.name, .slice ua un uc] 110))
            have sz4 := (unhide B4).size
            have B4x := hide ((unhide B4).alloc sz4 (.cells #[.int .i64 u.place, .string u.name, .slice ua un uc] 110))
            clear hb4 TB4
            have C := hide (tfind_no b u.place u.name _ u rl2 n2 _ (unhide RC4) (unhide HQ2))
            go_wp2_with fail
            refine (unhide C).mono ?_
            rintro e w5 ⟨rfl, hb5⟩
            have B5 := hide ((unhide B4x).trans (hb5.mono (unhide B4x).size))
            have O5 := hide (ownsRow_frame (w' := w5) (unhide O4) (fun g cs f _ hh => hb5.block g (lt_of_some hh)))
            have sz5 := (unhide B5).size
            clear hb5
            unfold errv
            go_wp2
            go_roundw
            case rel => exact ⟨k + 1, .slice sa sn sc, l3, by omega, by go_num, rfl, (unhide B5).alloc sz5 _, (unhide O5).alloc _, hide (by rw [unhide HST, ht1]; simpa using unhide HQ)⟩
            case measure => simp [intOf]; omega
          | some r2 =>
            have ht1 : tie1 ts n2 g = some u := by simp [tie1, h0, hf, hq]
            have HQ2 := hide hq
            clear hf h0 hq
            go_wp2_with fail
            refine (unhide C).mono ?_
            rintro e w4 ⟨rfl, hb4⟩
            have RC4 := hide (((unhide RCH).below hb4).below ((Below.refl w4.heap.size w4).alloc (Nat.le_refl _) (.cells #[.int .i64 u.place, .string u.name, .slice ua un uc] 110)))
            have U4 := hide (Blk.new w4 #[.int .i64 u.place, .string u.name, .slice ua un uc] 110)
            have B4 := hide ((unhide HBX).trans (hb4.mono (unhide HBX).size))
            have TB4 := (unhide TBX).below hb4
            obtain ⟨v0, v1, v2, v3, v4⟩ := TB4.five
            have vl := TB4.lt
            have O4 := hide ((ownsRow_frame (w' := w4) (unhide OX) (fun g cs f _ hh => hb4.block g (lt_of_some hh))).alloc (.cells #[.int .i64 u.place, .string u.name, .slice ua un uc] 110))
            have sz4 := (unhide B4).size
            have B4x := hide ((unhide B4).alloc sz4 (.cells #[.int .i64 u.place, .string u.name, .slice ua un uc] 110))
            clear hb4 TB4
            obtain ⟨xa, xv, _, _, hcall⟩ := tfind_yes b u.place u.name _ u rl2 n2 _ (unhide RC4) r2 (unhide HQ2)
            have C := hide hcall
            clear hcall
            go_wp2_with fail
            refine (unhide C).mono ?_
            rintro e w5 ⟨rfl, hb5⟩
            have U5 := (unhide U4).below hb5
            obtain ⟨u0, u1, u2⟩ := U5.three
            have ul := U5.lt
            clear U5
            have B5 := hide ((unhide B4x).trans (hb5.mono (unhide B4x).size))
            have O5 := hide (ownsRow_frame (w' := w5) (unhide O4) (fun g cs f _ hh => hb5.block g (lt_of_some hh)))
            have sz5 := (unhide B5).size
            clear hb5
            go_wp2_with (at_builtin; go_must (refine wpList_append_lies _ rfl _ _ 73 rfl w3.heap.size 110 i0 _ 3 48 Tryz.underlying73 (unhide HI) (unhide HZ0) (unhide HZ1) (unhide HZ2) rfl (by decide) (.slice sa sn sc) l3.length (l3.flatMap c3) rfl ?hown ⟨w5.heap.size + 1, 0, none⟩ 1 1 (c3 (u.place, u.name, .slice ua un uc)) rfl rfl ?hnews ?hone (by decide) ?h63 ?hbytes ?hbase (w5.heap.size + 2) ?hH ?hrest))
            case hown => exact ((unhide O5).alloc _).alloc _
            case hnews => exact World.news_of_block (B := w5.heap.size + 1) (cs := #[.int .i64 u.place, .string u.name, .slice ua un uc]) (t := 110) (fr := (0, 0)) (Blk.new' (w5.alloc _) _ _ _ (by simp))
            case hone =>
              intro z hz
              simp [c3] at hz
              rcases hz with rfl | rfl | rfl <;> rfl
            case h63 => unfold maxLen; omega
            case hbytes => omega
            case hbase => simp; omega
            case hH => simp
            case hrest =>
              intro g6 cap6 w6 hown6 hgrow6 hat6 hgl6
              have O5' := ((unhide O5).alloc (.cells #[.int .i64 r2.place, .string r2.name, .iface xa xv] 159)).alloc (.cells #[.int .i64 u.place, .string u.name, .slice ua un uc] 110)
              have B6 := hide (Below.grown (((unhide B5).alloc sz5 (.cells #[.int .i64 r2.place, .string r2.name, .iface xa xv] 159)).alloc (by simp; omega) (.cells #[.int .i64 u.place, .string u.name, .slice ua un uc] 110)) hgrow6 (by simp; omega) (fun k hk => (O5'.lt k hk).1))
              have O6 := hide hown6
              clear hown6 hgrow6 hat6 O5'
              go_wp2
              go_roundw
              case rel => exact ⟨k + 1, .slice (some ⟨g6, 0, none⟩) (l3.length + 1) cap6, l3 ++ [(u.place, u.name, .slice ua un uc)], by omega, by go_num, rfl, unhide B6, by rw [List.length_append, List.flatMap_append]; exact unhide O6, hide ⟨by rw [unhide HST, ht1, List.map_append, List.map_append, (unhide HQ).1]; rfl, fun e he => by rw [List.mem_append, List.mem_singleton] at he; rcases he with he | rfl; exact (unhide HQ).2 e he; exact ⟨ua, un, uc, rfl⟩⟩⟩
              case measure => simp [intOf]; omega
      · have h0' : ((g.reach : Int) != 0) = true := by rw [bne_iff_ne]; omega
        have ht1 : tie1 ts n2 g = none := by simp [tie1, h0]
        clear h0
        go_wp2
        go_roundw
        case rel => exact ⟨k + 1, .slice sa sn sc, l3, by omega, by go_num, rfl, unhide HBX, unhide OX, hide (by rw [unhide HST, ht1]; simpa using unhide HQ)⟩
        case measure => simp [intOf]; omega
    · have hkn : ¬ ((k : Int) < ((allG r.body).length : Int)) := by omega
      have hall : tk ts n2 k (allG r.body) = (allG r.body).filterMap (tie1 ts n2) := by
        unfold tk
        rw [List.take_of_length_le (by omega)]
      rw [hall] at HQ
      clear hb ho hall
      go_wp2
      go_ret
      exact ⟨.slice sa sn sc, rfl, (unhide B3).trans ((unhide HB).mono sz3), l3, ownsRow_base (unhide HO) sz3, (unhide HQ).1, fun x1 x2 x3 hx => (unhide HQ).2 (x1, x2, x3) hx⟩
end Go.Proofs.YtlbpnlngckgcbaaGreatDoor
