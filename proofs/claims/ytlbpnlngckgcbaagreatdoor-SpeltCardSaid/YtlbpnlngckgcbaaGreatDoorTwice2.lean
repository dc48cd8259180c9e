import Derived.Test.YtlbpnlngckgcbaaGreatDoorTwice
namespace Go.Proofs.YtlbpnlngckgcbaaGreatDoor
open Go.RowKit Go.PlainAid
set_option linter.unusedSimpArgs false
set_option linter.unusedVariables false

def twiceT3 (inn : E3 → Option Nat) : List E3 → List E3 → Option Nat
  | _, [] => none
  | ah, e :: r => if (find3 e.2.1 ah).isSome then some e.1 else match inn e with
    | some p => some p
    | none => twiceT3 inn (ah ++ [e]) r
theorem twiceT3_step (inn : E3 → Option Nat) (l : List E3) (k : Nat) (hk : k < l.length) : twiceT3 inn (l.take k) (l.drop k) = if (find3 l[k].2.1 (l.take k)).isSome then some l[k].1 else match inn l[k] with
    | some p => some p
    | none => twiceT3 inn (l.take (k + 1)) (l.drop (k + 1)) := by
  rw [List.drop_eq_getElem_cons hk, twiceT3, List.take_succ_eq_append_getElem hk]

set_option maxHeartbeats 2000000 in
set_option maxRecDepth 100000 in
theorem twiceT_any (inn : E3 → Option Nat) (v : Value) (l : List E3) (w : World) (hn : l.length ≤ 1000) (h : Row3 w 110 v l) (hi3 : ∀ e ∈ l, ∃ a n c, e.2.2 = .slice a n c)
    (hin : ∀ e ∈ l, ∀ w', Below w.heap.size w w' → Calls Tryz.prog 173 #[.agg #[.int .i64 e.1, .string e.2.1, e.2.2]] w' fun e' w'' => e' = .returned (errO 4 (inn e)) ∧ Below w'.heap.size w' w'') :
    Calls Tryz.prog 115 #[.agg #[v]] w fun e w' => e = .returned (errO 4 (twiceT3 inn [] l)) ∧ Below w.heap.size w w' := by
  obtain ⟨i0, hi, hz0, hz1, hz2⟩ := info_parts Tryz.info110
  have HI := hide hi
  have HZ0 := hide hz0
  have HZ1 := hide hz1
  have HZ2 := hide hz2
  clear hi hz0 hz1 hz2
  obtain ⟨oa, oc, rfl⟩ := own_form h
  have H := hide h
  have HI3 := hide hi3
  have Hin := hide hin
  generalize hR : twiceT3 inn [] l = R
  have HRR := hide hR
  clear hR h hi3 hin
  go_enter Tryz.func115, Tryz.ntmps115
  go_wp2_with fail
  go_loopw [12] (fun u wr => ∃ (k : Nat) (sv : Value), k ≤ l.length ∧ u = .int .i64 k ∧ Below w.heap.size w wr ∧ Blk wr (w.heap.size + 1) #[sv] 75 ∧ wr.ownsRow w.heap.size 110 3 sv k ((l.take k).flatMap c3) ∧ Hid (twiceT3 inn (l.take k) (l.drop k) = R)) (fun u _ => l.length - (intOf u).toNat)
  case atStart => exact ⟨0, _, by omega, rfl, ((Below.refl _ _).alloc (Nat.le_refl _) _).alloc (by simp) _, Blk.new' (w.alloc _) _ _ _ (by simp), World.ownsRow_nil _ _ _ _, HRR⟩
  case round =>
    obtain ⟨k, sv, hk, rfl, hb, hbl, ho, HQ⟩ := hrel
    obtain ⟨sa, sc, rfl⟩ := own_form ho
    have HB := hide hb
    have HL := hide hbl
    have HO := hide ho
    have b0 : wr.cell? ⟨w.heap.size + 1, 0, none⟩ = some (.slice sa k sc) := hbl.cell rfl
    have zb := hbl.fz
    have lb := hbl.lt
    by_cases hlt : k < l.length
    · have hR := unhide HQ
      rw [twiceT3_step inn l k hlt] at hR
      obtain ⟨g, c, e1, k0, k1, k2⟩ := ((unhide H).below hb).cell k hlt
      simp only [Value.slice.injEq] at e1
      obtain ⟨rfl, _, rfl⟩ := e1
      obtain ⟨ua, um, un, hu⟩ := unhide HI3 l[k] (List.getElem_mem hlt)
      have hct := c3_take l k hlt
      generalize hy : l[k] = y at *
      obtain ⟨p, n, u⟩ := y
      simp only at k0 k1 k2 hu hR
      subst hu
      have hgl : g < w.heap.size := by
        obtain ⟨g', c', e1, k0', _⟩ := (unhide H).cell k hlt
        simp only [Value.slice.injEq, Option.some.injEq, Addr.mk.injEq] at e1
        obtain ⟨⟨rfl, _⟩, _⟩ := e1
        exact lt_of_cell k0'
      have Hct := hide hct
      have Hy := hide hy
      have HF := hide (show Row3 (wr.alloc (.cells #[.int .i64 p, .string n, .slice ua um un] 110)) 110 (.slice sa k sc) (l.take k) from by
        have := ownsRow_base (ho.alloc (.cells #[.int .i64 p, .string n, .slice ua um un] 110)) (Nat.zero_le _)
        unfold Row3
        rw [List.length_take, Nat.min_eq_left hk]
        exact this)
      clear hy hct hb hbl ho
      cases hf : find3 n (l.take k) with
      | some y =>
        have hy1 : ∃ a n c, y.2.2 = .slice a n c := unhide HI3 y (List.mem_of_mem_take (List.mem_of_find?_eq_some hf))
        rw [hf] at hR
        simp only [Option.isSome_some, if_true] at hR
        have HR2 := hide hR
        have C := hide (find_yes_T (.slice sa k sc) (l.take k) n _ (by rw [List.length_take]; omega) (unhide HF) y hf hy1)
        obtain ⟨yp, yn, yu⟩ := y
        obtain ⟨ya, ym, yx, hyu⟩ := hy1
        simp only at hyu
        subst hyu
        clear hR hf
        go_wp2_with fail
        refine (unhide C).mono ?_
        rintro e w2 ⟨rfl, hb2⟩
        have B2 := hide (((unhide HB).alloc (unhide HB).size (.cells #[.int .i64 p, .string n, .slice ua um un] 110)).trans (hb2.mono (by have := (unhide HB).size; simp; omega)))
        have E2 := (Blk.new wr #[.int .i64 p, .string n, .slice ua um un] 110).below hb2
        obtain ⟨q0, q1, q2⟩ := E2.three
        have ql := E2.lt
        clear hb2 E2
        go_wp2_with (go_at_call 73; refine (wrap_err _ 4 _).mono ?_; rintro e w3 ⟨rfl, rfl⟩)
        go_ret
        rw [← unhide HR2]
        exact ⟨rfl, (by repeat (first | with_reducible exact unhide B2 | with_reducible refine Below.drew ?_ | (with_reducible refine Below.setCell ?_ ?_ _; rotate_left; exact (by first | omega | (simp; omega) | simp | (simp; done))) | (with_reducible refine Below.alloc ?_ ?_ _; rotate_left; exact (by first | omega | (simp; omega) | simp | (simp; done)))))⟩
      | none =>
        rw [hf] at hR
        simp only [Option.isSome_none, Bool.false_eq_true, if_false] at hR
        have HR2 := hide hR
        have C := hide (find_no_T (.slice sa k sc) (l.take k) n _ (by rw [List.length_take]; omega) (unhide HF) hf)
        clear hR hf
        go_wp2_with fail
        refine (unhide C).mono ?_
        rintro e w2 ⟨rfl, hb2⟩
        have hbb : Below wr.heap.size wr w2 := ((Below.refl _ _).alloc (Nat.le_refl _) (.cells #[.int .i64 p, .string n, .slice ua um un] 110)).trans (hb2.mono (by simp))
        have B2 := hide ((unhide HB).trans (hbb.mono (unhide HB).size))
        have E2 := (Blk.new wr #[.int .i64 p, .string n, .slice ua um un] 110).below hb2
        obtain ⟨q0, q1, q2⟩ := E2.three
        have ql := E2.lt
        have HE2 := hide E2
        have L2 := (unhide HL).below hbb
        have HL2 := hide L2
        have m0 : w2.cell? ⟨w.heap.size + 1, 0, none⟩ = some (.slice sa k sc) := L2.cell rfl
        have zm := L2.fz
        have ml := L2.lt
        have O2 := hide (ownsRow_frame (unhide HO) (fun g cs f _ hh => hbb.block g (lt_of_some hh)))
        have sz2 := (unhide HB).size
        clear hb2 E2 L2 hbb b0 zb
        cases hn2 : inn (p, n, .slice ua um un) with
        | some pq =>
          have Cn := hide (unhide Hin (p, n, .slice ua um un) (by rw [← unhide Hy]; exact List.getElem_mem hlt) (w2.alloc (.cells #[.int .i64 0, .string ⟨#[]⟩, .slice none 0 0] 110)) ((unhide B2).alloc (unhide B2).size _))
          rw [hn2] at Cn
          have hR3 := unhide HR2
          rw [hn2] at hR3
          have HR3 := hide hR3
          clear hn2 hR3
          unfold errv
          go_wp2_with fail
          refine (unhide Cn).mono ?_
          rintro e w3 ⟨rfl, hb3⟩
          have B3 := hide (((unhide B2).alloc (unhide B2).size (.cells #[.int .i64 0, .string ⟨#[]⟩, .slice none 0 0] 110)).trans (hb3.mono (by have := (unhide B2).size; simp; omega)))
          clear hb3
          unfold errO placed
          go_wp2
          go_ret
          rw [← unhide HR3]
          exact ⟨rfl, unhide B3⟩
        | none =>
          have Cn := hide (unhide Hin (p, n, .slice ua um un) (by rw [← unhide Hy]; exact List.getElem_mem hlt) (w2.alloc (.cells #[.int .i64 0, .string ⟨#[]⟩, .slice none 0 0] 110)) ((unhide B2).alloc (unhide B2).size _))
          rw [hn2] at Cn
          have hR3 := unhide HR2
          rw [hn2] at hR3
          have HR3 := hide hR3
          clear hn2 hR3
          unfold errv
          go_wp2_with fail
          refine (unhide Cn).mono ?_
          rintro e w3 ⟨rfl, hb3⟩
          have hbc : Below w2.heap.size w2 w3 := ((Below.refl _ _).alloc (Nat.le_refl _) (.cells #[.int .i64 0, .string ⟨#[]⟩, .slice none 0 0] 110)).trans (hb3.mono (by simp))
          have B3 := hide ((unhide B2).trans (hbc.mono (unhide B2).size))
          have E3' := (unhide HE2).below hbc
          obtain ⟨q0, q1, q2⟩ := E3'.three
          have ql := E3'.lt
          have L3 := (unhide HL2).below hbc
          have HL3 := hide L3
          have m0 : w3.cell? ⟨w.heap.size + 1, 0, none⟩ = some (.slice sa k sc) := L3.cell rfl
          have zm := L3.fz
          have ml := L3.lt
          have O3 := hide (ownsRow_frame (unhide O2) (fun g cs f _ hh => hbc.block g (lt_of_some hh)))
          have sz3 := (unhide B3).size
          clear hb3 E3' L3 hbc
          unfold errO
          go_wp2_with (at_builtin; go_must (refine wpList_append_lies _ rfl _ _ 73 rfl w.heap.size 110 i0 _ 3 48 Tryz.underlying73 (unhide HI) (unhide HZ0) (unhide HZ1) (unhide HZ2) rfl (by decide) (.slice sa k sc) k ((l.take k).flatMap c3) rfl ?hown ⟨w3.heap.size, 0, none⟩ 1 1 (c3 (p, n, .slice ua um un)) rfl rfl ?hnews ?hone (by decide) ?h63 ?hbytes ?hbase (w3.heap.size + 1) ?hH ?hrest))
          case hown => exact (unhide O3).alloc _
          case hnews => exact World.news_of_block (B := w3.heap.size) (cs := #[.int .i64 p, .string n, .slice ua um un]) (t := 110) (fr := (0, 0)) (Blk.new w3 _ _)
          case hone =>
            intro u hu
            simp [c3] at hu
            rcases hu with rfl | rfl | rfl <;> rfl
          case h63 => unfold maxLen; omega
          case hbytes => omega
          case hbase => simp; omega
          case hH => simp
          case hrest =>
            intro g5 cap5 w5 hown5 hgrow5 hat5 hgl5
            have b0 : Below w3.heap.size w3 (w3.alloc (.cells #[.int .i64 p, .string n, .slice ua um un] 110)) := (Below.refl _ _).alloc (Nat.le_refl _) _
            have L4' := (unhide HL3).below b0
            have O4' := (unhide O3).alloc (.cells #[.int .i64 p, .string n, .slice ua um un] 110)
            have HL5 := hide (show Blk w5 (w.heap.size + 1) #[.slice sa k sc] 75 from (hgrow5.block _ L4'.lt (own_ne O4' L4' (by decide))).trans L4')
            have B5 := hide (Below.grown ((unhide B3).trans (b0.mono (unhide B3).size)) hgrow5 (by have := (unhide B3).size; simp; omega) (fun k hk => (O4'.lt k hk).1))
            have O5 := hide hown5
            have n0 : w5.cell? ⟨w.heap.size + 1, 0, none⟩ = some (.slice sa k sc) := (unhide HL5).cell rfl
            have zn := (unhide HL5).fz
            have nl := (unhide HL5).lt
            clear b0 L4' O4' hown5 hgrow5 hat5 m0 zm q0 q1 q2
            go_wp2
            go_roundw
            case rel => exact ⟨k + 1, _, by omega, by go_num, (by repeat (first | with_reducible exact unhide B5 | with_reducible refine Below.drew ?_ | (with_reducible refine Below.setCell ?_ ?_ _; rotate_left; exact (by first | omega | (simp; omega) | simp | (simp; done))) | (with_reducible refine Below.alloc ?_ ?_ _; rotate_left; exact (by first | omega | (simp; omega) | simp | (simp; done))))), (unhide HL5).set 0 _, by rw [unhide Hct]; exact own_set (unhide O5) (unhide HL5) (by decide) 0 _, HR3⟩
            case measure => simp [intOf]; omega
    · have hR := unhide HQ
      rw [List.drop_of_length_le (by omega)] at hR
      have HR2 := hide hR
      clear hb hbl ho hR
      go_wp2
      go_ret
      rw [← unhide HR2]
      exact ⟨rfl, unhide HB⟩


end Go.Proofs.YtlbpnlngckgcbaaGreatDoor
