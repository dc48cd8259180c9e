import Derived.Test.YtpciagbgjbflpaaGreatDoorLoops
namespace Go.Proofs.YtpciagbgjbflpaaGreatDoor
open Go.RowKit Go.PlainAid
set_option linter.unusedSimpArgs false
set_option linter.unusedVariables false

def eachN (N : Ty → Rl → Option Nat) (ts : List Ty) : Option Nat := ts.findSome? fun t => t.rels.findSome? (N t)

set_option maxHeartbeats 1000000 in
set_option maxRecDepth 100000 in
theorem each_names (b c : Nat) (sv : Value) (ts : List Ty) (tl : List (Ty × Value)) (N : Ty → Rl → Option Nat) (w : World) (h : MC b w sv ts tl)
    (hp : ∀ w' t tv rl r bv, MC b w' sv ts tl → RC b w' tv t.rels rl → RepEx b w' r.body bv → r ∈ t.rels → Calls Tryz.prog 52 #[.agg #[sv], .agg #[.int .i64 t.place, .string t.name, tv], .agg #[.int .i64 r.place, .string r.name, bv]] w' fun e' w'' => e' = .returned (errO c (N t r)) ∧ Below w'.heap.size w' w'') :
    Calls Tryz.prog 51 #[.agg #[sv], .func (.func 52) #[.agg #[sv]] #[]] w fun e' w' => e' = .returned (errO c (eachN N ts)) ∧ Below w.heap.size w w' := by
  obtain ⟨ma, mn, mc, rfl⟩ := h.form
  have hmn : mn = tl.length := by
    obtain ⟨a', c', e⟩ := own_form h.row
    simp only [Value.slice.injEq, List.length_map] at e
    exact e.2.1
  have hm1 : mn ≤ tl.length := by omega
  have hm2 : tl.length ≤ mn := by omega
  clear hmn
  have htl : tl.length ≤ 1000 := by have := h.llen; simpa using this
  have H := hide h
  have HP := hide hp
  generalize hR : eachN N ts = R
  have HRR := hide (show (ts.drop 0).findSome? (fun t => t.rels.findSome? (N t)) = R from hR)
  clear hR h hp
  go_enter Tryz.func51, Tryz.ntmps51
  go_wp2_with fail
  go_loopw [13] (fun u wr => ∃ (k : Nat), k ≤ mn ∧ u = .int .i64 k ∧ Below w.heap.size w wr ∧ Hid ((ts.drop k).findSome? (fun t => t.rels.findSome? (N t)) = R)) (fun u _ => mn - (intOf u).toNat)
  case atStart => exact ⟨0, by omega, rfl, (Below.refl _ _).alloc (Nat.le_refl _) _, HRR⟩
  case round =>
    obtain ⟨k, hk, rfl, hb, HQ⟩ := hrel
    have HB := hide hb
    have hsz := hb.size
    by_cases hlt : k < mn
    · have hlt' : k < tl.length := by omega
      have hR := unhide HQ
      have hk' : ts[k]? = some tl[k].1 := by rw [← (unhide H).fst]; simp [List.getElem?_eq_getElem hlt']
      rw [findSome_step _ _ _ _ hk'] at hR
      obtain ⟨g, c', e1, k0, k1, k2⟩ := ((unhide H).row.below hb).cell k (by simpa using hlt')
      simp only [Value.slice.injEq] at e1
      obtain ⟨rfl, hxx, rfl⟩ := e1
      clear hxx
      simp only [List.getElem_map, t3] at k0 k1 k2
      obtain ⟨rl, hrc⟩ := (unhide H).rels tl[k] (List.getElem_mem hlt')
      replace hrc := hrc.below hb
      generalize tl[k] = p at *
      obtain ⟨t, tv⟩ := p
      simp only at k0 k1 k2 hrc hR
      obtain ⟨va, vn, vc, rfl⟩ := hrc.form
      have hvn : vn = rl.length := by
        obtain ⟨a', c', e⟩ := own_form hrc.row
        simp only [Value.slice.injEq, List.length_map] at e
        exact e.2.1
      have hv1 : vn ≤ rl.length := by omega
      have hv2 : rl.length ≤ vn := by omega
      clear hvn
      have hrl : rl.length ≤ 1000 := by have := hrc.llen; simpa using this
      have bx : Below wr.heap.size wr (wr.alloc (.cells #[.int .i64 t.place, .string t.name, .slice va vn vc] 82)) := (Below.refl _ _).alloc (Nat.le_refl _) _
      have HBX := hide ((unhide HB).trans (bx.mono hsz))
      have HRC := hide (hrc.below bx)
      have TB := hide (Blk.new wr #[.int .i64 t.place, .string t.name, .slice va vn vc] 82)
      have hkn : (k : Int) < (mn : Int) := by omega
      generalize hN : t.rels.findSome? (N t) = R1 at hR
      have HN := hide (show (t.rels.drop 0).findSome? (N t) = R1 from hN)
      have HR2 := hide hR
      clear hb hrc bx hR hk' HQ hN
      go_wp2_with fail
      have szX := (unhide HBX).size
      generalize (wr.alloc (.cells #[.int .i64 t.place, .string t.name, .slice va vn vc] 82)) = W at *
      go_loopw [20] (fun u wi => ∃ (j : Nat), j ≤ vn ∧ u = .int .i64 j ∧ Below W.heap.size W wi ∧ Hid ((t.rels.drop j).findSome? (N t) = R1)) (fun u _ => vn - (intOf u).toNat)
      case atStart => exact ⟨0, by omega, rfl, Below.refl _ _, HN⟩
      case round =>
        obtain ⟨j, hj, rfl, hb, HQ⟩ := hrel
        have HBI := hide hb
        have hszi := hb.size
        by_cases hjt : j < vn
        · have hjt' : j < rl.length := by omega
          have hR := unhide HQ
          have hk' : t.rels[j]? = some rl[j].1 := by rw [← (unhide HRC).fst]; simp [List.getElem?_eq_getElem hjt']
          rw [findSome_step _ _ _ _ hk'] at hR
          have hmem := List.mem_of_getElem? hk'
          obtain ⟨g, c', e1, x0, x1, x2⟩ := ((unhide HRC).row.below hb).cell j (by simpa using hjt')
          simp only [Value.slice.injEq] at e1
          obtain ⟨rfl, hxx, rfl⟩ := e1
          clear hxx
          simp only [List.getElem_map, r3] at x0 x1 x2
          have hex := ((unhide HRC).ex rl[j] (List.getElem_mem hjt')).but (b := b) (But.of_below hb)
          generalize rl[j] = p at *
          obtain ⟨r, bv⟩ := p
          simp only at x0 x1 x2 hex hR hmem
          obtain ⟨ra, rv, rfl⟩ := hex.isI
          obtain ⟨t0, t1, t2⟩ := ((unhide TB).below hb).three
          have tlt := ((unhide TB).below hb).lt
          have bx : Below wr.heap.size wr (wr.alloc (.cells #[.int .i64 r.place, .string r.name, .iface ra rv] 88)) := (Below.refl _ _).alloc (Nat.le_refl _) _
          have HBX' := hide ((unhide HBI).trans (bx.mono hszi))
          have hjn : (j : Int) < (vn : Int) := by omega
          have C := hide (unhide HP _ t _ rl r _ ((unhide H).below ((unhide HBX).trans ((unhide HBX').mono szX))) ((unhide HRC).below (unhide HBX')) (hex.but (But.of_below bx)) hmem)
          clear hb hex bx hmem hk' HQ
          cases hn : N t r with
          | some q =>
            rw [hn] at hR C
            simp only at hR
            have HR3 := hide hR
            clear hn hR
            go_wp2_with fail
            with_reducible refine (unhide C).mono ?_
            rintro e w3 ⟨rfl, hb3⟩
            have B3 := hide ((unhide HBX').trans (hb3.mono (unhide HBX').size))
            clear hb3
            unfold errO placed
            go_wp2
            go_ret
            rw [← unhide HR2, ← unhide HR3]
            exact ⟨rfl, (unhide HBX).trans ((unhide B3).mono szX)⟩
          | none =>
            rw [hn] at hR C
            simp only at hR
            have HR3 := hide hR
            clear hn hR
            go_wp2_with fail
            with_reducible refine (unhide C).mono ?_
            rintro e w3 ⟨rfl, hb3⟩
            have B3 := hide ((unhide HBX').trans (hb3.mono (unhide HBX').size))
            clear hb3
            unfold errO
            go_wp2
            go_roundw
            case rel => exact ⟨j + 1, by omega, by go_num, unhide B3, HR3⟩
            case measure => simp [intOf]; omega
        · have hR := unhide HQ
          rw [List.drop_of_length_le (by have := congrArg List.length (unhide HRC).fst; rw [List.length_map] at this; omega)] at hR
          simp only [List.findSome?_nil] at hR
          have hjn : ¬ ((j : Int) < (vn : Int)) := by omega
          have hR2 := unhide HR2
          rw [← hR] at hR2
          simp only at hR2
          have HR3 := hide hR2
          clear hb hR hR2
          go_wp2
          go_roundw
          case rel => exact ⟨k + 1, by omega, by go_num, (unhide HBX).trans ((unhide HBI).mono szX), HR3⟩
          case measure => simp [intOf]; omega
    · have hR := unhide HQ
      rw [List.drop_of_length_le (by have := congrArg List.length (unhide H).fst; rw [List.length_map] at this; omega)] at hR
      have hkn : ¬ ((k : Int) < (mn : Int)) := by omega
      have HR2 := hide hR
      clear hb hR
      go_wp2
      go_ret
      rw [← unhide HR2]
      exact ⟨rfl, unhide HB⟩

set_option maxHeartbeats 1000000 in
set_option maxRecDepth 100000 in
theorem each_loops (b c : Nat) (sv : Value) (ts : List Ty) (tl : List (Ty × Value)) (N : Ty → Rl → Option Nat) (w : World) (h : MC b w sv ts tl)
    (hp : ∀ w' t tv rl r bv, MC b w' sv ts tl → RC b w' tv t.rels rl → RepEx b w' r.body bv → r ∈ t.rels → Calls Tryz.prog 53 #[.agg #[sv], .agg #[.int .i64 t.place, .string t.name, tv], .agg #[.int .i64 r.place, .string r.name, bv]] w' fun e' w'' => e' = .returned (errO c (N t r)) ∧ Below w'.heap.size w' w'') :
    Calls Tryz.prog 51 #[.agg #[sv], .func (.func 53) #[.agg #[sv]] #[]] w fun e' w' => e' = .returned (errO c (eachN N ts)) ∧ Below w.heap.size w w' := by
  obtain ⟨ma, mn, mc, rfl⟩ := h.form
  have hmn : mn = tl.length := by
    obtain ⟨a', c', e⟩ := own_form h.row
    simp only [Value.slice.injEq, List.length_map] at e
    exact e.2.1
  have hm1 : mn ≤ tl.length := by omega
  have hm2 : tl.length ≤ mn := by omega
  clear hmn
  have htl : tl.length ≤ 1000 := by have := h.llen; simpa using this
  have H := hide h
  have HP := hide hp
  generalize hR : eachN N ts = R
  have HRR := hide (show (ts.drop 0).findSome? (fun t => t.rels.findSome? (N t)) = R from hR)
  clear hR h hp
  go_enter Tryz.func51, Tryz.ntmps51
  go_wp2_with fail
  go_loopw [13] (fun u wr => ∃ (k : Nat), k ≤ mn ∧ u = .int .i64 k ∧ Below w.heap.size w wr ∧ Hid ((ts.drop k).findSome? (fun t => t.rels.findSome? (N t)) = R)) (fun u _ => mn - (intOf u).toNat)
  case atStart => exact ⟨0, by omega, rfl, (Below.refl _ _).alloc (Nat.le_refl _) _, HRR⟩
  case round =>
    obtain ⟨k, hk, rfl, hb, HQ⟩ := hrel
    have HB := hide hb
    have hsz := hb.size
    by_cases hlt : k < mn
    · have hlt' : k < tl.length := by omega
      have hR := unhide HQ
      have hk' : ts[k]? = some tl[k].1 := by rw [← (unhide H).fst]; simp [List.getElem?_eq_getElem hlt']
      rw [findSome_step _ _ _ _ hk'] at hR
      obtain ⟨g, c', e1, k0, k1, k2⟩ := ((unhide H).row.below hb).cell k (by simpa using hlt')
      simp only [Value.slice.injEq] at e1
      obtain ⟨rfl, hxx, rfl⟩ := e1
      clear hxx
      simp only [List.getElem_map, t3] at k0 k1 k2
      obtain ⟨rl, hrc⟩ := (unhide H).rels tl[k] (List.getElem_mem hlt')
      replace hrc := hrc.below hb
      generalize tl[k] = p at *
      obtain ⟨t, tv⟩ := p
      simp only at k0 k1 k2 hrc hR
      obtain ⟨va, vn, vc, rfl⟩ := hrc.form
      have hvn : vn = rl.length := by
        obtain ⟨a', c', e⟩ := own_form hrc.row
        simp only [Value.slice.injEq, List.length_map] at e
        exact e.2.1
      have hv1 : vn ≤ rl.length := by omega
      have hv2 : rl.length ≤ vn := by omega
      clear hvn
      have hrl : rl.length ≤ 1000 := by have := hrc.llen; simpa using this
      have bx : Below wr.heap.size wr (wr.alloc (.cells #[.int .i64 t.place, .string t.name, .slice va vn vc] 82)) := (Below.refl _ _).alloc (Nat.le_refl _) _
      have HBX := hide ((unhide HB).trans (bx.mono hsz))
      have HRC := hide (hrc.below bx)
      have TB := hide (Blk.new wr #[.int .i64 t.place, .string t.name, .slice va vn vc] 82)
      have hkn : (k : Int) < (mn : Int) := by omega
      generalize hN : t.rels.findSome? (N t) = R1 at hR
      have HN := hide (show (t.rels.drop 0).findSome? (N t) = R1 from hN)
      have HR2 := hide hR
      clear hb hrc bx hR hk' HQ hN
      go_wp2_with fail
      have szX := (unhide HBX).size
      generalize (wr.alloc (.cells #[.int .i64 t.place, .string t.name, .slice va vn vc] 82)) = W at *
      go_loopw [20] (fun u wi => ∃ (j : Nat), j ≤ vn ∧ u = .int .i64 j ∧ Below W.heap.size W wi ∧ Hid ((t.rels.drop j).findSome? (N t) = R1)) (fun u _ => vn - (intOf u).toNat)
      case atStart => exact ⟨0, by omega, rfl, Below.refl _ _, HN⟩
      case round =>
        obtain ⟨j, hj, rfl, hb, HQ⟩ := hrel
        have HBI := hide hb
        have hszi := hb.size
        by_cases hjt : j < vn
        · have hjt' : j < rl.length := by omega
          have hR := unhide HQ
          have hk' : t.rels[j]? = some rl[j].1 := by rw [← (unhide HRC).fst]; simp [List.getElem?_eq_getElem hjt']
          rw [findSome_step _ _ _ _ hk'] at hR
          have hmem := List.mem_of_getElem? hk'
          obtain ⟨g, c', e1, x0, x1, x2⟩ := ((unhide HRC).row.below hb).cell j (by simpa using hjt')
          simp only [Value.slice.injEq] at e1
          obtain ⟨rfl, hxx, rfl⟩ := e1
          clear hxx
          simp only [List.getElem_map, r3] at x0 x1 x2
          have hex := ((unhide HRC).ex rl[j] (List.getElem_mem hjt')).but (b := b) (But.of_below hb)
          generalize rl[j] = p at *
          obtain ⟨r, bv⟩ := p
          simp only at x0 x1 x2 hex hR hmem
          obtain ⟨ra, rv, rfl⟩ := hex.isI
          obtain ⟨t0, t1, t2⟩ := ((unhide TB).below hb).three
          have tlt := ((unhide TB).below hb).lt
          have bx : Below wr.heap.size wr (wr.alloc (.cells #[.int .i64 r.place, .string r.name, .iface ra rv] 88)) := (Below.refl _ _).alloc (Nat.le_refl _) _
          have HBX' := hide ((unhide HBI).trans (bx.mono hszi))
          have hjn : (j : Int) < (vn : Int) := by omega
          have C := hide (unhide HP _ t _ rl r _ ((unhide H).below ((unhide HBX).trans ((unhide HBX').mono szX))) ((unhide HRC).below (unhide HBX')) (hex.but (But.of_below bx)) hmem)
          clear hb hex bx hmem hk' HQ
          cases hn : N t r with
          | some q =>
            rw [hn] at hR C
            simp only at hR
            have HR3 := hide hR
            clear hn hR
            go_wp2_with fail
            with_reducible refine (unhide C).mono ?_
            rintro e w3 ⟨rfl, hb3⟩
            have B3 := hide ((unhide HBX').trans (hb3.mono (unhide HBX').size))
            clear hb3
            unfold errO placed
            go_wp2
            go_ret
            rw [← unhide HR2, ← unhide HR3]
            exact ⟨rfl, (unhide HBX).trans ((unhide B3).mono szX)⟩
          | none =>
            rw [hn] at hR C
            simp only at hR
            have HR3 := hide hR
            clear hn hR
            go_wp2_with fail
            with_reducible refine (unhide C).mono ?_
            rintro e w3 ⟨rfl, hb3⟩
            have B3 := hide ((unhide HBX').trans (hb3.mono (unhide HBX').size))
            clear hb3
            unfold errO
            go_wp2
            go_roundw
            case rel => exact ⟨j + 1, by omega, by go_num, unhide B3, HR3⟩
            case measure => simp [intOf]; omega
        · have hR := unhide HQ
          rw [List.drop_of_length_le (by have := congrArg List.length (unhide HRC).fst; rw [List.length_map] at this; omega)] at hR
          simp only [List.findSome?_nil] at hR
          have hjn : ¬ ((j : Int) < (vn : Int)) := by omega
          have hR2 := unhide HR2
          rw [← hR] at hR2
          simp only at hR2
          have HR3 := hide hR2
          clear hb hR hR2
          go_wp2
          go_roundw
          case rel => exact ⟨k + 1, by omega, by go_num, (unhide HBX).trans ((unhide HBI).mono szX), HR3⟩
          case measure => simp [intOf]; omega
    · have hR := unhide HQ
      rw [List.drop_of_length_le (by have := congrArg List.length (unhide H).fst; rw [List.length_map] at this; omega)] at hR
      have hkn : ¬ ((k : Int) < (mn : Int)) := by omega
      have HR2 := hide hR
      clear hb hR
      go_wp2
      go_ret
      rw [← unhide HR2]
      exact ⟨rfl, unhide HB⟩
end Go.Proofs.YtpciagbgjbflpaaGreatDoor
