import Derived.Test.YtlbpnlngckgcbaaGreatDoorCTie
namespace Go.Proofs.YtlbpnlngckgcbaaGreatDoor
open Go.RowKit Go.PlainAid
set_option linter.unusedSimpArgs false
set_option linter.unusedVariables false

/-- P4: of one part of a type's expression: the place of a name that is not there. -/
def nameN (ts : List Ty) (t : Ty) (p : Ex) : Option Nat := match p.l with
  | some _ => none
  | none => if p.nd.kind = 0 then listN ts p.nd.gs
    else if p.nd.kind = 1 then (match findRl t p.nd.n1 with
      | none => some p.nd.place
      | some _ => none)
    else tieN ts t p.nd.n1 p.nd.p1 p.nd.n2 p.nd.p2
def namesP (ts : List Ty) (t : Ty) (r : Rl) : Option Nat := (partsE r.body).findSome? (nameN ts t)
theorem findSome_step {α β : Type} (f : α → Option β) (l : List α) (k : Nat) (a : α) (h : l[k]? = some a) : (l.drop k).findSome? f = match f a with
    | some p => some p
    | none => (l.drop (k + 1)).findSome? f := by
  have hlt : k < l.length := by
    rcases Nat.lt_or_ge k l.length with h' | h'
    · exact h'
    · rw [List.getElem?_eq_none h'] at h; cases h
  rw [List.getElem?_eq_getElem hlt] at h
  simp only [Option.some.injEq] at h
  rw [List.drop_eq_getElem_cons hlt, List.findSome?_cons, h]
  cases f a <;> rfl
theorem gs_le_all {e p : Ex} (hp : p ∈ partsE e) (hl : p.l = none) (hk : p.nd.kind = 0) : p.nd.gs.length ≤ (allG e).length := by
  unfold allG
  have : gsOf p = p.nd.gs := by simp [gsOf, hl, hk]
  rw [← this]
  obtain ⟨a, c, h⟩ := List.append_of_mem hp
  rw [h]
  simp
  omega
theorem tyOf_cases (k : Nat) : tyOf k = 244 ∨ tyOf k = 245 ∨ tyOf k = 246 := by
  unfold tyOf
  split
  · exact .inl rfl
  · split
    · exact .inr (.inl rfl)
    · exact .inr (.inr rfl)

set_option maxHeartbeats 4000000 in
set_option maxRecDepth 100000 in
theorem checkNames_any (b : Nat) (sv : Value) (ts : List Ty) (tl : List (Ty × Value)) (t : Ty) (tv : Value) (rl : List (Rl × Value)) (r : Rl) (bv : Value) (w : World) (h : MC b w sv ts tl) (ht : RC b w tv t.rels rl) (hr : RepEx b w r.body bv) (hmem : r ∈ t.rels) :
    Calls Tryz.prog 117 #[.agg #[sv], .agg #[.int .i64 t.place, .string t.name, tv], .agg #[.int .i64 r.place, .string r.name, bv]] w fun e' w' => e' = .returned (errO 5 (namesP ts t r)) ∧ Below w.heap.size w w' := by
  obtain ⟨ma, mn, mc, rfl⟩ := h.form
  obtain ⟨va, vn, vc, rfl⟩ := ht.form
  obtain ⟨ra, rv, rfl⟩ := hr.isI
  have W0 : Below w.heap.size w (((w.alloc (.cells #[.slice ma mn mc] 75)).alloc (.cells #[.int .i64 t.place, .string t.name, .slice va vn vc] 110)).alloc (.cells #[.int .i64 r.place, .string r.name, .iface ra rv] 159)) := (((Below.refl _ _).alloc (Nat.le_refl _) _).alloc (by simp) _).alloc (by simp; omega) _
  have HM0 := hide (h.below W0)
  have HT0 := hide (ht.below W0)
  have HX0 := hide (hr.but (But.of_below W0))
  have MB := hide (((Blk.new w #[.slice ma mn mc] 75).alloc (.cells #[.int .i64 t.place, .string t.name, .slice va vn vc] 110)).alloc (.cells #[.int .i64 r.place, .string r.name, .iface ra rv] 159))
  have YB := hide ((Blk.new' (w.alloc (.cells #[.slice ma mn mc] 75)) #[.int .i64 t.place, .string t.name, .slice va vn vc] 110 (w.heap.size + 1) (by simp)).alloc (.cells #[.int .i64 r.place, .string r.name, .iface ra rv] 159))
  have okp := ht.okp r hmem
  have okg := ht.okg r hmem
  have HW0 := hide W0
  generalize hR : namesP ts t r = R
  have HRR := hide hR
  have blt0 := (unhide HM0).blt
  clear W0 h ht hr hR hmem
  go_enter Tryz.func117, Tryz.ntmps117
  go_wp2_with fail
  refine (parts_any r.body b _ _ blt0 (unhide HX0) okp).mono ?_
  rintro e1 w2 ⟨sv2, rfl, hb2, l, l1, l2, l3⟩
  obtain ⟨oa, oc, rfl⟩ := own_form l3
  have ll : l.length = (partsE r.body).length := by rw [← l1]; simp
  have B2 := hide ((unhide HW0).trans (hb2.mono (unhide HW0).size))
  have L1 := hide l1
  have L2 := hide l2
  have L3 := hide l3
  have M2 := hide ((unhide HM0).below hb2)
  have T2 := hide ((unhide HT0).below hb2)
  have MB2 := hide ((unhide MB).below hb2)
  have YB2 := hide ((unhide YB).below hb2)
  have sz2 := (unhide B2).size
  clear hb2 l1 l2 l3
  have f0 := ta_List_List
  have f1 := ta_Own_List
  have f2 := ta_Tie_List
  have f3 := ta_Either_List
  have f4 := ta_Both_List
  have f5 := ta_Less_List
  have g1 := ta_Own_Own
  have g2 := ta_Tie_Own
  have g3 := ta_Either_Own
  have g4 := ta_Both_Own
  have g5 := ta_Less_Own
  have h2 := ta_Tie_Tie
  have h3 := ta_Either_Tie
  have h4 := ta_Both_Tie
  have h5 := ta_Less_Tie
  go_wp2_with fail
  go_loopw [17] (fun u17 wr => ∃ (k : Nat), k ≤ (partsE r.body).length ∧ u17 = .int .i64 k ∧ Below w2.heap.size w2 wr ∧ Hid (((partsE r.body).drop k).findSome? (nameN ts t) = R)) (fun u _ => (partsE r.body).length - (intOf u).toNat)
  case atStart => exact ⟨0, by omega, rfl, Below.refl _ _, HRR⟩
  case round =>
    obtain ⟨k, hk, rfl, hbr, HQ⟩ := hrel
    have HB := hide hbr
    have wrs := hbr.size
    by_cases hlt : k < (partsE r.body).length
    · have hkl : k < l.length := by omega
      obtain ⟨q1, c1, e1, kc⟩ := own_cell (ownsRow_frame (w' := wr) (unhide L3) (fun g cs f _ hh => hbr.block g (lt_of_some hh))) k l[k].2 (by simp [List.getElem?_eq_getElem hkl])
      simp only [Value.slice.injEq] at e1
      obtain ⟨rfl, _, rfl⟩ := e1
      have hrep := (unhide L2 l[k] (List.getElem_mem hkl)).but (b := b) (But.of_below hbr)
      have hk' : (partsE r.body)[k]? = some l[k].1 := by rw [← unhide L1]; simp [List.getElem?_eq_getElem hkl]
      generalize l[k] = q at *
      obtain ⟨q1, qv⟩ := q
      simp only at kc hrep hk'
      have hkn : (k : Int) < ((partsE r.body).length : Int) := by omega
      have hR := unhide HQ
      rw [findSome_step _ _ _ _ hk'] at hR
      have hin := List.mem_of_getElem? hk'
      have m0 : wr.cell? ⟨w.heap.size, 0, none⟩ = some (.slice ma mn mc) := ((unhide MB2).below hbr).cell rfl
      have ml := ((unhide MB2).below hbr).lt
      obtain ⟨y0, y1, y2⟩ := ((unhide YB2).below hbr).three
      have yl := ((unhide YB2).below hbr).lt
      have HMR := hide ((unhide M2).below hbr)
      have HTR := hide ((unhide T2).below hbr)
      clear hbr hk' HQ
      match q1, hrep, hR, hin with
      | ⟨nq, some xq, some yq⟩, ⟨vx, vy, hv, rx, ry⟩, hR, hin =>
        have HR2 := hide (show ((partsE r.body).drop (k + 1)).findSome? (nameN ts t) = R from hR)
        subst hv
        clear rx ry hR hin
        rcases tyOf_cases nq.kind with htt | htt | htt
        all_goals
          rw [htt] at kc
          clear htt
          go_wp2
          go_roundw
          case rel => exact ⟨k + 1, by omega, by go_num, unhide HB, HR2⟩
          case measure => simp [intOf]; omega
      | ⟨nq, none, rq⟩, hrep, hR, hin =>
        rcases hrep with ⟨hkd, gv, hv, hrow⟩ | ⟨hkd, hv⟩ | ⟨hkd, hv⟩
        · have hle := gs_le_all hin rfl hkd
          have hnn : nameN ts t ⟨nq, none, rq⟩ = listN ts nq.gs := by simp [nameN, hkd]
          rw [hnn] at hR
          obtain ⟨xa, xn, xc, rfl⟩ : ∃ a n c, gv = .slice a n c := by
            obtain ⟨a, c, e⟩ := own_form hrow
            exact ⟨a, _, c, e⟩
          subst hv
          have bx : Below wr.heap.size wr (wr.alloc (.cells #[.int .i64 nq.place, .slice xa xn xc] 236)) := (Below.refl _ _).alloc (Nat.le_refl _) _
          have C := hide (checkList_any b nq.place _ ts tl _ nq.gs _ ((unhide HMR).below bx) (ownsRow_frame hrow (fun g cs f _ hh => bx.block g (lt_of_some hh))) (by simp only at hle; omega))
          have HBX := hide ((unhide HB).trans (bx.mono wrs))
          clear hrow bx hnn
          cases hn : listN ts nq.gs with
          | some p =>
            rw [hn] at hR C
            have HR2 := hide hR
            clear hn hR
            go_wp2_with fail
            refine (unhide C).mono ?_
            rintro e w3 ⟨rfl, hb3⟩
            have B3 := hide ((unhide HBX).trans (hb3.mono (unhide HBX).size))
            clear hb3
            unfold errO placed
            go_wp2
            go_ret
            rw [← unhide HR2]
            exact ⟨rfl, (unhide B2).trans ((unhide B3).mono sz2)⟩
          | none =>
            rw [hn] at hR C
            have HR2 := hide hR
            clear hn hR
            go_wp2_with fail
            refine (unhide C).mono ?_
            rintro e w3 ⟨rfl, hb3⟩
            have B3 := hide ((unhide HBX).trans (hb3.mono (unhide HBX).size))
            clear hb3
            unfold errO
            go_wp2
            go_roundw
            case rel => exact ⟨k + 1, by omega, by go_num, unhide B3, HR2⟩
            case measure => simp [intOf]; omega
        · subst hv
          have bx : Below wr.heap.size wr (wr.alloc (.cells #[.int .i64 nq.place, .string nq.n1] 238)) := (Below.refl _ _).alloc (Nat.le_refl _) _
          have HBX := hide ((unhide HB).trans (bx.mono wrs))
          have OB := hide (Blk.new wr #[.int .i64 nq.place, .string nq.n1] 238)
          cases hn : findRl t nq.n1 with
          | none =>
            have hnn : nameN ts t ⟨nq, none, rq⟩ = some nq.place := by simp [nameN, hkd, hn]
            rw [hnn] at hR
            have HR2 := hide hR
            have C := hide (tfind_no b t.place t.name _ t rl nq.n1 _ ((unhide HTR).below bx) hn)
            clear hn hR bx hnn hkd hin
            go_wp2_with fail
            refine (unhide C).mono ?_
            rintro e w3 ⟨rfl, hb3⟩
            have B3 := hide ((unhide HBX).trans (hb3.mono (unhide HBX).size))
            obtain ⟨o0, o1⟩ := ((unhide OB).below hb3).two
            have ol := ((unhide OB).below hb3).lt
            clear hb3
            unfold errv
            go_wp2_with (go_at_call 73; refine (wrap_err _ 5 _).mono ?_; rintro e w4 ⟨rfl, rfl⟩; unfold placed errv)
            go_ret
            rw [← unhide HR2]
            exact ⟨rfl, (unhide B2).trans ((unhide B3).mono sz2)⟩
          | some r2 =>
            have hnn : nameN ts t ⟨nq, none, rq⟩ = none := by simp [nameN, hkd, hn]
            rw [hnn] at hR
            have HR2 := hide hR
            obtain ⟨za, zv, _, _, hcall⟩ := tfind_yes b t.place t.name _ t rl nq.n1 _ ((unhide HTR).below bx) r2 hn
            have C := hide hcall
            clear hn hR bx hnn hkd hin hcall
            go_wp2_with fail
            refine (unhide C).mono ?_
            rintro e w3 ⟨rfl, hb3⟩
            have B3 := hide ((unhide HBX).trans (hb3.mono (unhide HBX).size))
            obtain ⟨o0, o1⟩ := ((unhide OB).below hb3).two
            have ol := ((unhide OB).below hb3).lt
            clear hb3
            go_wp2_with (go_at_call 73; refine (wrap_nil _ _).mono ?_; rintro e w4 ⟨rfl, rfl⟩)
            go_roundw
            case rel => exact ⟨k + 1, by omega, by go_num, unhide B3, HR2⟩
            case measure => simp [intOf]; omega
        · subst hv
          have hnn : nameN ts t ⟨nq, none, rq⟩ = tieN ts t nq.n1 nq.p1 nq.n2 nq.p2 := by simp [nameN, hkd]
          rw [hnn] at hR
          have bx : Below wr.heap.size wr (wr.alloc (.cells #[.int .i64 nq.place, .int .i64 nq.p1, .string nq.n1, .int .i64 nq.p2, .string nq.n2] 240)) := (Below.refl _ _).alloc (Nat.le_refl _) _
          have HBX := hide ((unhide HB).trans (bx.mono wrs))
          have C := hide (checkTie_any b nq.place nq.p1 nq.p2 nq.n1 nq.n2 _ ts tl t _ rl _ ((unhide HMR).below bx) ((unhide HTR).below bx))
          clear bx hnn hkd hin
          cases hn : tieN ts t nq.n1 nq.p1 nq.n2 nq.p2 with
          | some p =>
            rw [hn] at hR C
            have HR2 := hide hR
            clear hn hR
            go_wp2_with fail
            refine (unhide C).mono ?_
            rintro e w3 ⟨rfl, hb3⟩
            have B3 := hide ((unhide HBX).trans (hb3.mono (unhide HBX).size))
            clear hb3
            unfold errO placed
            go_wp2
            go_ret
            rw [← unhide HR2]
            exact ⟨rfl, (unhide B2).trans ((unhide B3).mono sz2)⟩
          | none =>
            rw [hn] at hR C
            have HR2 := hide hR
            clear hn hR
            go_wp2_with fail
            refine (unhide C).mono ?_
            rintro e w3 ⟨rfl, hb3⟩
            have B3 := hide ((unhide HBX).trans (hb3.mono (unhide HBX).size))
            clear hb3
            unfold errO
            go_wp2
            go_roundw
            case rel => exact ⟨k + 1, by omega, by go_num, unhide B3, HR2⟩
            case measure => simp [intOf]; omega
      | ⟨nq, some xq, none⟩, hrep, hR, hin => exact hrep.elim
    · have hR := unhide HQ
      rw [List.drop_of_length_le (by omega)] at hR
      have hkn : ¬ ((k : Int) < ((partsE r.body).length : Int)) := by omega
      have HR2 := hide hR
      clear hbr hR
      go_wp2
      go_ret
      rw [← unhide HR2]
      exact ⟨rfl, (unhide B2).trans ((unhide HB).mono sz2)⟩
end Go.Proofs.YtlbpnlngckgcbaaGreatDoor
