import Derived.Test.YtlbpnlngckgcbaaGreatDoorParts
namespace Go.Proofs.YtlbpnlngckgcbaaGreatDoor
open Go.RowKit Go.PlainAid
set_option linter.unusedSimpArgs false
set_option linter.unusedVariables false

theorem own_news' {w : World} {base : Nat} {e : TypeId} {size : Nat} {v : Value} {n : Nat} {xs : List Value} (h : w.ownsRow base e size v n xs) (hn : 0 < n) :
    ∃ g c, v = .slice (some ⟨g, 0, none⟩) n c ∧ xs.length = n * size ∧ ∀ j u, xs[j]? = some u → w.cell? ((⟨g, 0, none⟩ : Addr).add j) = some u := by
  obtain ⟨g, c, hv, _⟩ := h.form hn
  refine ⟨g, c, hv, h.1, fun j u hu => ?_⟩
  obtain ⟨g', c', hv', hc⟩ := own_cell h j u hu
  rw [hv] at hv'
  simp only [Value.slice.injEq, Option.some.injEq, Addr.mk.injEq] at hv'
  obtain ⟨⟨rfl, _⟩, _⟩ := hv'
  have hadd : (⟨g, 0, none⟩ : Addr).add j = ⟨g, j, none⟩ := by unfold Addr.add; split <;> simp_all
  rw [hadd]; exact hc
/-- The grants of a part that is a list. -/
def gsOf (e : Ex) : List Gr := match e.l with
  | none => if e.nd.kind = 0 then e.nd.gs else []
  | some _ => []
/-- Every list has a grant. -/
def WF (e : Ex) : Prop := ∀ p ∈ partsE e, p.l = none → p.nd.kind = 0 → p.nd.gs ≠ []
def allG (e : Ex) : List Gr := (partsE e).flatMap gsOf
def GK (e : Ex) (k : Nat) : List Gr := ((partsE e).take k).flatMap gsOf
theorem gk_some {e : Ex} {k : Nat} {p : Ex} {gs : List Gr} (h : gsOf p = gs) (hk : (partsE e)[k]? = some p) : GK e (k + 1) = GK e k ++ gs := by
  unfold GK
  have hlt : k < (partsE e).length := by
    rcases Nat.lt_or_ge k (partsE e).length with h | h
    · exact h
    · rw [List.getElem?_eq_none h] at hk; cases hk
  rw [List.take_succ_eq_append_getElem hlt, List.flatMap_append]
  rw [List.getElem?_eq_getElem hlt] at hk
  simp only [Option.some.injEq] at hk
  simp [hk, h]
theorem gk_none {e : Ex} {k : Nat} {p : Ex} (h : gsOf p = []) (hk : (partsE e)[k]? = some p) : GK e (k + 1) = GK e k := by
  rw [gk_some h hk]; simp
theorem gk_le (e : Ex) (k : Nat) : (GK e k).length ≤ (allG e).length := by
  unfold GK allG
  conv => rhs; rw [← List.take_append_drop k (partsE e), List.flatMap_append, List.length_append]
  omega
theorem gs_one (l : List Gr) : ∀ u ∈ gsCells l, u.oneCell' = true := by
  intro u hu
  unfold gsCells at hu
  rw [List.mem_flatMap] at hu
  obtain ⟨g, _, hu⟩ := hu
  exact gr_one g u hu
theorem gsCells_append (a c : List Gr) : gsCells (a ++ c) = gsCells a ++ gsCells c := by simp [gsCells]
theorem gsCells_length (a : List Gr) : (gsCells a).length = a.length * 5 := by
  induction a with
  | nil => rfl
  | cons g r ih => simp [gsCells, grCells] at *; omega

set_option maxHeartbeats 4000000 in
set_option maxRecDepth 100000 in
theorem grants_any (p0 : Nat) (n0 : ByteArray) (b : Nat) (e : Ex) (v : Value) (w : World) (hb : b < w.heap.size) (h : RepEx b w e v) (hp : (partsE e).length ≤ 1000) (hg : (allG e).length ≤ 1000) (hwf : WF e) :
    Calls Tryz.prog 106 #[.agg #[.int .i64 p0, .string n0, v]] w fun e' w' => ∃ sv, e' = .returned sv ∧ Below w.heap.size w w' ∧ w'.ownsRow w.heap.size 207 5 sv (allG e).length (gsCells (allG e)) := by
  obtain ⟨i0, hi, hz0, hz1, hz2⟩ := info_parts Tryz.info207
  have HI := hide hi
  have HZ0 := hide hz0
  have HZ1 := hide hz1
  have HZ2 := hide hz2
  clear hi hz0 hz1 hz2
  obtain ⟨tv, xv, rfl⟩ := h.isI
  have H := hide h
  have HWF := hide hwf
  clear h hwf
  go_enter Tryz.func106, Tryz.ntmps106
  go_wp2_with fail
  refine (parts_any e b _ _ (by simp; omega) ((unhide H).but ((But.refl b w).alloc _)) hp).mono ?_
  rintro e1 w2 ⟨sv2, rfl, hb2, l, l1, l2, l3⟩
  obtain ⟨oa, oc, rfl⟩ := own_form l3
  have ll : l.length = (partsE e).length := by rw [← l1]; simp
  have B2 := hide (((Below.refl _ w).alloc (Nat.le_refl _) (.cells #[.int .i64 p0, .string n0, .iface tv xv] 159)).trans (hb2.mono (by simp)))
  have L1 := hide l1
  have L2 := hide l2
  have L3 := hide l3
  have sz2 := (unhide B2).size
  clear hb2 l1 l2 l3
  have f0 := ta_List_List
  have f1 := ta_Own_List
  have f2 := ta_Tie_List
  have f3 := ta_Either_List
  have f4 := ta_Both_List
  have f5 := ta_Less_List
  go_wp2_with fail
  go_loopw [3, 11] (fun u3 u11 wr => ∃ (k : Nat) (sv : Value), k ≤ (partsE e).length ∧ u11 = .int .i64 k ∧ u3 = sv ∧ Below w2.heap.size w2 wr ∧ wr.ownsRow w2.heap.size 207 5 sv (GK e k).length (gsCells (GK e k))) (fun _ u _ => (partsE e).length - (intOf u).toNat)
  case atStart => exact ⟨0, _, by omega, rfl, rfl, Below.refl _ _, World.ownsRow_nil _ _ _ _⟩
  case round =>
    obtain ⟨k, sv, hk, rfl, rfl, hbr, ho⟩ := hrel
    obtain ⟨sa, sc, rfl⟩ := own_form ho
    have HB := hide hbr
    have HO := hide ho
    by_cases hlt : k < (partsE e).length
    · have hkl : k < l.length := by omega
      obtain ⟨g1, c1, e1, kc⟩ := own_cell (ownsRow_frame (w' := wr) (unhide L3) (fun g cs f _ hh => hbr.block g (lt_of_some hh))) k l[k].2 (by simp [List.getElem?_eq_getElem hkl])
      simp only [Value.slice.injEq] at e1
      obtain ⟨rfl, _, rfl⟩ := e1
      have hrep := (unhide L2 l[k] (List.getElem_mem hkl)).but (b := b) (But.of_below hbr)
      have hk' : (partsE e)[k]? = some l[k].1 := by rw [← unhide L1]; simp [List.getElem?_eq_getElem hkl]
      generalize l[k] = q at *
      obtain ⟨q1, qv⟩ := q
      simp only at kc hrep hk'
      have hkn : (k : Int) < ((partsE e).length : Int) := by omega
      clear hbr ho
      match q1, hrep, hk' with
      | ⟨nq, some xq, some yq⟩, ⟨vx, vy, hv, rx, ry⟩, hk' =>
        have he' : gsOf ⟨nq, some xq, some yq⟩ = [] := rfl
        subst hv
        clear rx ry
        have ht : tyOf nq.kind = 244 ∨ tyOf nq.kind = 245 ∨ tyOf nq.kind = 246 := by
          unfold tyOf
          split
          · exact .inl rfl
          · split
            · exact .inr (.inl rfl)
            · exact .inr (.inr rfl)
        rcases ht with ht | ht | ht
        all_goals
          rw [ht] at kc
          clear ht
          go_wp2
          go_roundw
          case rel => exact ⟨k + 1, .slice sa (GK e k).length sc, by omega, by go_num, rfl, unhide HB, by rw [gk_none he' hk']; exact unhide HO⟩
          case measure => simp [intOf]; omega
      | ⟨nq, none, rq⟩, hrep, hk' =>
        rcases hrep with ⟨hkd, gv, hv, hrow⟩ | ⟨hkd, hv⟩ | ⟨hkd, hv⟩
        · have he' : gsOf ⟨nq, none, rq⟩ = nq.gs := by simp [gsOf, hkd]
          have hne : 0 < nq.gs.length := List.length_pos_iff.2 (unhide HWF _ (List.mem_of_getElem? hk') rfl hkd)
          have hle := gk_le e (k + 1)
          rw [gk_some he' hk', List.length_append] at hle
          obtain ⟨gg, gc, rfl, nl, nw⟩ := own_news' hrow hne
          subst hv
          have NL := hide nl
          have NW := hide nw
          have ggl : gg < wr.heap.size := by
            obtain ⟨g', c', e1, h1⟩ := hrow.form hne
            simp only [Value.slice.injEq, Option.some.injEq, Addr.mk.injEq] at e1
            obtain ⟨⟨rfl, _⟩, _⟩ := e1
            exact h1.2
          have wrs := (unhide HB).size
          clear nl nw hrow hkd
          go_wp2_with (at_builtin; go_must (refine wpList_append_lies _ rfl _ _ 211 rfl w2.heap.size 207 i0 _ 5 56 Tryz.underlying211 (unhide HI) (unhide HZ0) (unhide HZ1) (unhide HZ2) rfl (by decide) _ _ _ rfl ((unhide HO).alloc _) ⟨gg, 0, none⟩ nq.gs.length gc (gsCells nq.gs) rfl (unhide NL) ?hnews (gs_one _) hne ?h63 ?hbytes ?hbase (wr.heap.size + 1) ?hH ?hrest))
          case hnews =>
            intro j u hu
            have hadd : (⟨gg, 0, none⟩ : Addr).add j = ⟨gg, j, none⟩ := by unfold Addr.add; split <;> simp_all
            have := unhide NW j u hu
            rw [hadd] at this ⊢
            rw [Below.cell ((Below.refl wr.heap.size wr).alloc (Nat.le_refl _) _) ggl]
            exact this
          case h63 => unfold maxLen; omega
          case hbytes => omega
          case hbase => simp; omega
          case hH => simp
          case hrest =>
            intro g5 cap5 w5 hown5 hgrow5 hat5 hgl5
            have O1 := (unhide HO).alloc (.cells #[.int .i64 nq.place, .slice (some ⟨gg, 0, none⟩) nq.gs.length gc] 236)
            have B5 := hide (Below.grown ((unhide HB).alloc wrs (.cells #[.int .i64 nq.place, .slice (some ⟨gg, 0, none⟩) nq.gs.length gc] 236)) hgrow5 (by simp; omega) (fun k hk => (O1.lt k hk).1))
            have O5 := hide hown5
            clear hown5 hgrow5 hat5 O1
            go_wp2
            go_roundw
            case rel => exact ⟨k + 1, .slice (some ⟨g5, 0, none⟩) ((GK e k).length + nq.gs.length) cap5, by omega, by go_num, rfl, unhide B5, by rw [gk_some he' hk', List.length_append, gsCells_append]; exact unhide O5⟩
            case measure => simp [intOf]; omega
        · have he' : gsOf ⟨nq, none, rq⟩ = [] := by simp [gsOf, hkd]
          subst hv
          clear hkd
          go_wp2
          go_roundw
          case rel => exact ⟨k + 1, .slice sa (GK e k).length sc, by omega, by go_num, rfl, unhide HB, by rw [gk_none he' hk']; exact unhide HO⟩
          case measure => simp [intOf]; omega
        · have he' : gsOf ⟨nq, none, rq⟩ = [] := by simp [gsOf, hkd]
          subst hv
          clear hkd
          go_wp2
          go_roundw
          case rel => exact ⟨k + 1, .slice sa (GK e k).length sc, by omega, by go_num, rfl, unhide HB, by rw [gk_none he' hk']; exact unhide HO⟩
          case measure => simp [intOf]; omega
      | ⟨nq, some xq, none⟩, hrep, hk' => exact hrep.elim
    · have hall : GK e k = allG e := by
        unfold GK allG
        rw [List.take_of_length_le (by omega)]
      have HO2 : Hid (wr.ownsRow w.heap.size 207 5 (.slice sa (GK e k).length sc) (allG e).length (gsCells (allG e))) := by
        have := ownsRow_base (unhide HO) sz2
        rw [hall] at this ⊢
        exact this
      clear hall
      have hkn : ¬ ((k : Int) < ((partsE e).length : Int)) := by omega
      clear hbr ho
      go_wp2
      go_ret
      exact ⟨.slice sa (GK e k).length sc, rfl, (unhide B2).trans ((unhide HB).mono sz2), unhide HO2⟩
end Go.Proofs.YtlbpnlngckgcbaaGreatDoor
