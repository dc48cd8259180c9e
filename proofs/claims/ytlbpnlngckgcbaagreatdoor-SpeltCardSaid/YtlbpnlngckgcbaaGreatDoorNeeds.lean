import Derived.Test.YtlbpnlngckgcbaaGreatDoorRelated
namespace Go.Proofs.YtlbpnlngckgcbaaGreatDoor
open Go.RowKit Go.PlainAid
set_option linter.unusedSimpArgs false
set_option linter.unusedVariables false

/-- What one part of the relation's expression hangs on at first hand. -/
def needs1 (ts : List Ty) (t : Ty) (r : Rl) (p : Ex) : List Sp := match p.l with
  | some _ => []
  | none => if p.nd.kind = 0 then relP r
    else if p.nd.kind = 1 then [(t.name, p.nd.n1)]
    else (tiedP ts t p.nd.n1 p.nd.n2).map fun u => (u.name, p.nd.n2)
def needsP (ts : List Ty) (t : Ty) (r : Rl) (e : Ex) : List Sp := (partsE e).flatMap (needs1 ts t r)
def NK (ts : List Ty) (t : Ty) (r : Rl) (e : Ex) (k : Nat) : List Sp := ((partsE e).take k).flatMap (needs1 ts t r)
theorem nk_step {ts : List Ty} {t : Ty} {r : Rl} {e : Ex} {k : Nat} {p : Ex} (hk : (partsE e)[k]? = some p) : NK ts t r e (k + 1) = NK ts t r e k ++ needs1 ts t r p := by
  unfold NK
  have hlt : k < (partsE e).length := by
    rcases Nat.lt_or_ge k (partsE e).length with h | h
    · exact h
    · rw [List.getElem?_eq_none h] at hk; cases hk
  rw [List.take_succ_eq_append_getElem hlt, List.flatMap_append]
  rw [List.getElem?_eq_getElem hlt] at hk
  simp only [Option.some.injEq] at hk
  simp [hk]
theorem relP_le (r : Rl) : (relP r).length ≤ (allG r.body).length := List.length_filterMap_le _ _
theorem tiedP_le {b : Nat} {w : World} {tv : Value} {rl : List (Rl × Value)} (ts : List Ty) (t : Ty) (ht : RC b w tv t.rels rl) (x y : ByteArray) : (tiedP ts t x y).length ≤ 1000 := by
  unfold tiedP
  cases hf : findRl t x with
  | none => simp
  | some r =>
    have e2 := List.length_filterMap_le (tie1 ts y) (allG r.body)
    have e3 := ht.okg r (List.mem_of_find?_eq_some hf)
    simp only
    omega
theorem needs1_le {b : Nat} {w : World} {tv : Value} {rl : List (Rl × Value)} (ts : List Ty) (t : Ty) (ht : RC b w tv t.rels rl) (r : Rl) (hg : (allG r.body).length ≤ 1000) (p : Ex) : (needs1 ts t r p).length ≤ 1000 := by
  unfold needs1
  have h1 := relP_le r
  have h2 := tiedP_le ts t ht p.nd.n1 p.nd.n2
  split
  · simp
  · split
    · omega
    · split
      · simp
      · simpa using h2
theorem nk_le {b : Nat} {w : World} {tv : Value} {rl : List (Rl × Value)} (ts : List Ty) (t : Ty) (ht : RC b w tv t.rels rl) (r : Rl) (hg : (allG r.body).length ≤ 1000) (e : Ex) : ∀ k, (NK ts t r e k).length ≤ 1000 * k
  | 0 => by simp [NK]
  | k + 1 => by
    have ih := nk_le ts t ht r hg e k
    rcases Nat.lt_or_ge k (partsE e).length with h | h
    · rw [nk_step (List.getElem?_eq_getElem h), List.length_append]
      have := needs1_le ts t ht r hg (partsE e)[k]
      omega
    · have : NK ts t r e (k + 1) = NK ts t r e k := by
        unfold NK
        rw [List.take_of_length_le (by omega), List.take_of_length_le h]
      rw [this]; omega

/-- An append of nothing, at the list of a plain region's operations. -/
theorem wpList_append_none {P : Program} {w : World} {ops : Array Oper} {rest : List Oper} {o : Oper} {a : Act} {Q : Exit → Act → World → Prop} (hgd : o.guard = none) (s x : Operand) (t : TypeId)
    (ho : o.op = .call { callee := .builtin .append, args := #[s, x], argTypes := #[t, t] }) (v : Value) (hs : a.eval s = v) (hx : a.eval x = .slice none 0 0)
    (hr : ∀ ty, (Builtin.append_ #[t, t] ty #[v, .slice none 0 0]).run P w = .ok v w)
    (h : wpList P ops Q rest (a.put o.dst v) w) : wpList P ops Q (o :: rest) a w :=
  wpList_plain hgd fun _ hK => by
    unfold Oper.wp execOp
    simp only [ho, resolve, invoke, builtin, Sem.run_bind, Sem.run_pure, Result.andThen_ok, List.map_toArray, List.map_cons, List.map_nil, hs, hx, hr]
    exact hK _ _ h

set_option maxHeartbeats 4000000 in
set_option maxRecDepth 100000 in
theorem needs_any (b : Nat) (sv : Value) (ts : List Ty) (tl : List (Ty × Value)) (t : Ty) (tv : Value) (rl : List (Rl × Value)) (r : Rl) (bv : Value) (e : Ex) (ev : Value) (w : World) (h : MC b w sv ts tl) (ht : RC b w tv t.rels rl) (hr : RepEx b w r.body bv) (hmem : r ∈ t.rels) (he : RepEx b w e ev) (hpe : (partsE e).length ≤ 1000) :
    Calls Tryz.prog 177 #[.agg #[sv], .agg #[.int .i64 t.place, .string t.name, tv], .agg #[.int .i64 r.place, .string r.name, bv], ev] w fun e' w' => ∃ sv, e' = .returned sv ∧ Below w.heap.size w w' ∧ RepSp w.heap.size w' sv (needsP ts t r e) := by
  obtain ⟨i0, hi, hz0, hz1, hz2⟩ := info_parts Tryz.info291
  have HI := hide hi
  have HZ0 := hide hz0
  have HZ1 := hide hz1
  have HZ2 := hide hz2
  clear hi hz0 hz1 hz2
  obtain ⟨ma, mn, mc, rfl⟩ := h.form
  obtain ⟨va, vn, vc, rfl⟩ := ht.form
  obtain ⟨ra, rv, rfl⟩ := hr.isI
  obtain ⟨ea, ex, rfl⟩ := he.isI
  have W0 : Below w.heap.size w (((w.alloc (.cells #[.slice ma mn mc] 75)).alloc (.cells #[.int .i64 t.place, .string t.name, .slice va vn vc] 110)).alloc (.cells #[.int .i64 r.place, .string r.name, .iface ra rv] 159)) := (((Below.refl _ _).alloc (Nat.le_refl _) _).alloc (by simp) _).alloc (by simp; omega) _
  have HM0 := hide (h.below W0)
  have HT0 := hide (ht.below W0)
  have HX0 := hide (hr.but (But.of_below W0))
  have HE0 := hide (he.but (But.of_below W0))
  have MB := hide (((Blk.new w #[.slice ma mn mc] 75).alloc (.cells #[.int .i64 t.place, .string t.name, .slice va vn vc] 110)).alloc (.cells #[.int .i64 r.place, .string r.name, .iface ra rv] 159))
  have YB := hide ((Blk.new' (w.alloc (.cells #[.slice ma mn mc] 75)) #[.int .i64 t.place, .string t.name, .slice va vn vc] 110 (w.heap.size + 1) (by simp)).alloc (.cells #[.int .i64 r.place, .string r.name, .iface ra rv] 159))
  have RB := hide (Blk.new' ((w.alloc (.cells #[.slice ma mn mc] 75)).alloc (.cells #[.int .i64 t.place, .string t.name, .slice va vn vc] 110)) #[.int .i64 r.place, .string r.name, .iface ra rv] 159 (w.heap.size + 2) (by simp))
  have okp := ht.okp r hmem
  have okg := ht.okg r hmem
  have HWF := hide (ht.wf r hmem)
  have HNK := hide (nk_le ts t ht r okg e)
  have HN1 := hide (needs1_le ts t ht r okg)
  have HW0 := hide W0
  have blt0 := (unhide HM0).blt
  clear W0 h ht hr hmem he
  go_enter Tryz.func177, Tryz.ntmps177
  go_wp2_with fail
  refine (parts_any e b _ _ blt0 (unhide HE0) hpe).mono ?_
  rintro e1 w2 ⟨sv2, rfl, hb2, l, l1, l2, l3⟩
  obtain ⟨oa, oc, rfl⟩ := own_form l3
  have ll : l.length = (partsE e).length := by rw [← l1]; simp
  have B2 := hide ((unhide HW0).trans (hb2.mono (unhide HW0).size))
  have L1 := hide l1
  have L2 := hide l2
  have L3 := hide l3
  have M2 := hide ((unhide HM0).below hb2)
  have T2 := hide ((unhide HT0).below hb2)
  have X2 := hide ((unhide HX0).but (But.of_below hb2))
  have MB2 := hide ((unhide MB).below hb2)
  have YB2 := hide ((unhide YB).below hb2)
  have RB2 := hide ((unhide RB).below hb2)
  have sz2 := (unhide B2).size
  clear hb2 l1 l2 l3
  have f0 := ta_List_List
  have f1 := ta_Own_List
  have f2 := ta_Tie_List
  have f3 := ta_Either_List
  have f4 := ta_Both_List
  have f5 := ta_Less_List
  have g1 := ta_Own_Own
  have g2 := ta_Tie_Own
  have g3 := ta_Either_Own
  have g4 := ta_Both_Own
  have g5 := ta_Less_Own
  have h2 := ta_Tie_Tie
  have h3 := ta_Either_Tie
  have h4 := ta_Both_Tie
  have h5 := ta_Less_Tie
  go_wp2_with fail
  go_loopw [9, 20] (fun u9 u20 wr => ∃ (k : Nat) (sv : Value), k ≤ (partsE e).length ∧ u20 = .int .i64 k ∧ u9 = sv ∧ Below w2.heap.size w2 wr ∧ RepSp w2.heap.size wr sv (NK ts t r e k)) (fun _ u _ => (partsE e).length - (intOf u).toNat)
  case atStart => exact ⟨0, _, by omega, rfl, rfl, Below.refl _ _, RepSp.nil _ _⟩
  case round =>
    obtain ⟨k, sv, hk, rfl, hu9, hbr, ho⟩ := hrel
    obtain ⟨sa, sc, hsv⟩ := ho.form
    have hkl := unhide HNK k
    have ho0 := ho.2
    have ho1 := ho.1
    generalize hL : NK ts t r e k = L at *
    have HLL := hide hL
    clear hL
    subst hsv
    subst hu9
    have HB := hide hbr
    have HO0 := hide ho0
    have HO := hide ho1
    have wrs := hbr.size
    by_cases hlt : k < (partsE e).length
    · have hkl' : k < l.length := by omega
      obtain ⟨q1, c1, e1, kc⟩ := own_cell (ownsRow_frame (w' := wr) (unhide L3) (fun g cs f _ hh => hbr.block g (lt_of_some hh))) k l[k].2 (by simp [List.getElem?_eq_getElem hkl'])
      simp only [Value.slice.injEq] at e1
      obtain ⟨rfl, _, rfl⟩ := e1
      have hrep := (unhide L2 l[k] (List.getElem_mem hkl')).but (b := b) (But.of_below hbr)
      have hk' : (partsE e)[k]? = some l[k].1 := by rw [← unhide L1]; simp [List.getElem?_eq_getElem hkl']
      generalize l[k] = q at *
      obtain ⟨q1, qv⟩ := q
      simp only at kc hrep hk'
      have hkn : (k : Int) < ((partsE e).length : Int) := by omega
      have HST := hide (nk_step (ts := ts) (t := t) (r := r) hk')
      have hn1 := unhide HN1 q1
      have m0 : wr.cell? ⟨w.heap.size, 0, none⟩ = some (.slice ma mn mc) := ((unhide MB2).below hbr).cell rfl
      have ml := ((unhide MB2).below hbr).lt
      obtain ⟨y0, y1, y2⟩ := ((unhide YB2).below hbr).three
      have yl := ((unhide YB2).below hbr).lt
      obtain ⟨z0, z1, z2⟩ := ((unhide RB2).below hbr).three
      have zl := ((unhide RB2).below hbr).lt
      have HMR := hide ((unhide M2).below hbr)
      have HTR := hide ((unhide T2).below hbr)
      have HXR := hide ((unhide X2).but (But.of_below hbr))
      have bltr := (unhide HMR).blt
      clear hbr ho ho0 ho1 hk'
      match q1, hrep, hn1, HST with
      | ⟨nq, some xq, some yq⟩, ⟨vx, vy, hv, rx, ry⟩, hn1, HST =>
        subst hv
        clear rx ry
        rcases tyOf_cases nq.kind with htt | htt | htt
        all_goals
          rw [htt] at kc
          clear htt
          go_wp2
          go_roundw
          case rel => exact ⟨k + 1, .slice sa L.length sc, by omega, by go_num, rfl, unhide HB, by rw [unhide HST, unhide HLL]; simp only [needs1, List.append_nil]; exact ⟨unhide HO, unhide HO0⟩⟩
          case measure => simp [intOf]; omega
      | ⟨nq, none, rq⟩, hrep, hn1, HST =>
        rcases hrep with ⟨hkd, gv, hv, hrow⟩ | ⟨hkd, hv⟩ | ⟨hkd, hv⟩
        · obtain ⟨xa, xn, xc, rfl⟩ : ∃ a n c, gv = .slice a n c := by
            obtain ⟨a, c, e⟩ := own_form hrow
            exact ⟨a, _, c, e⟩
          have hnn : needs1 ts t r ⟨nq, none, rq⟩ = relP r := by simp [needs1, hkd]
          rw [hnn] at hn1 HST
          subst hv
          have bx : Below wr.heap.size wr (wr.alloc (.cells #[.int .i64 nq.place, .slice xa xn xc] 236)) := (Below.refl _ _).alloc (Nat.le_refl _) _
          have HBX := hide ((unhide HB).trans (bx.mono wrs))
          have C := hide (related_any b r _ _ (by simp; omega) ((unhide HXR).but (But.of_below bx)) okp okg (unhide HWF))
          have OX := hide ((unhide HO).alloc (.cells #[.int .i64 nq.place, .slice xa xn xc] 236))
          clear hrow hkd hnn bx
          go_wp2_with fail
          refine (unhide C).mono ?_
          rintro e w3 ⟨sv3, rfl, hb3, hrs⟩
          have B3 := hide ((unhide HBX).trans (hb3.mono (unhide HBX).size))
          have sz3 := (unhide B3).size
          have o3 := ownsRow_frame (w' := w3) (unhide OX) (fun g cs f _ hh => hb3.block g (lt_of_some hh))
          have O3 := hide o3
          by_cases hz : relP r = []
          · have e3 := hrs.2 hz
            subst e3
            rw [hz] at HST
            have HAP := hide (fun ty => run_append_owned_none (P := Tryz.prog) w3 w2.heap.size 288 ty 291 i0 2 Tryz.underlying288 (unhide HI) (.slice sa L.length sc) L.length (spCells L) o3)
            clear hb3 hrs o3 hz C
            go_wp2_with (at_builtin; go_must (refine wpList_append_none rfl _ _ 288 rfl (.slice sa L.length sc) rfl rfl (unhide HAP) ?_))
            go_roundw
            case rel => exact ⟨k + 1, .slice sa L.length sc, by omega, by go_num, rfl, unhide B3, by rw [unhide HST, unhide HLL, List.append_nil]; exact ⟨unhide O3, unhide HO0⟩⟩
            case measure => simp [intOf]; omega
          · have hpos : 0 < (relP r).length := List.length_pos_iff.2 hz
            obtain ⟨gg, gc, rfl, nl, nw⟩ := own_news' hrs.1 hpos
            have NL := hide nl
            have NW := hide nw
            clear hb3 hrs o3 hz C nl nw
            go_wp2_with (at_builtin; go_must (refine wpList_append_lies _ rfl _ _ 288 rfl w2.heap.size 291 i0 _ 2 32 Tryz.underlying288 (unhide HI) (unhide HZ0) (unhide HZ1) (unhide HZ2) rfl (by decide) (.slice sa L.length sc) L.length (spCells L) rfl (unhide O3) ⟨gg, 0, none⟩ (relP r).length gc (spCells (relP r)) rfl (unhide NL) (unhide NW) (sp_one _) hpos ?h63 ?hbytes sz3 w3.heap.size rfl ?hrest))
            case h63 => unfold maxLen; omega
            case hbytes => omega
            case hrest =>
              intro g6 cap6 w6 hown6 hgrow6 hat6 hgl6
              have B6 := hide (Below.grown (unhide B3) hgrow6 sz3 (fun k hk => ((unhide O3).lt k hk).1))
              have O6 := hide hown6
              clear hown6 hgrow6 hat6
              go_wp2
              go_roundw
              case rel => exact ⟨k + 1, .slice (some ⟨g6, 0, none⟩) (L.length + (relP r).length) cap6, by omega, by go_num, rfl, unhide B6, by rw [unhide HST, unhide HLL]; exact ⟨by rw [List.length_append, spCells_append]; exact unhide O6, fun h => by simp at h; rw [h.2] at hpos; simp at hpos⟩⟩
              case measure => simp [intOf]; omega
        · have hnn : needs1 ts t r ⟨nq, none, rq⟩ = [(t.name, nq.n1)] := by simp [needs1, hkd]
          rw [hnn] at hn1 HST
          subst hv
          clear hnn hkd
          go_wp2_with (at_builtin; go_must (refine wpList_append_lies _ rfl _ _ 288 rfl w2.heap.size 291 i0 _ 2 32 Tryz.underlying288 (unhide HI) (unhide HZ0) (unhide HZ1) (unhide HZ2) rfl (by decide) (.slice sa L.length sc) L.length (spCells L) rfl ?hown ⟨wr.heap.size + 1, 0, none⟩ 1 1 (spC (t.name, nq.n1)) rfl rfl ?hnews ?hone (by decide) ?h63 ?hbytes ?hbase (wr.heap.size + 2) ?hH ?hrest))
          case hown => exact ((unhide HO).alloc _).alloc _
          case hnews => exact World.news_of_block (B := wr.heap.size + 1) (cs := #[.string t.name, .string nq.n1]) (t := 291) (fr := (0, 0)) (Blk.new' (wr.alloc _) _ _ _ (by simp))
          case hone =>
            intro z hz
            simp [spC] at hz
            rcases hz with rfl | rfl <;> rfl
          case h63 => unfold maxLen; omega
          case hbytes => omega
          case hbase => simp; omega
          case hH => simp
          case hrest =>
            intro g6 cap6 w6 hown6 hgrow6 hat6 hgl6
            have O5' := ((unhide HO).alloc (.cells #[.int .i64 nq.place, .string nq.n1] 238)).alloc (.cells #[.string t.name, .string nq.n1] 291)
            have B6 := hide (Below.grown (((unhide HB).alloc wrs (.cells #[.int .i64 nq.place, .string nq.n1] 238)).alloc (by simp; omega) (.cells #[.string t.name, .string nq.n1] 291)) hgrow6 (by simp; omega) (fun k hk => (O5'.lt k hk).1))
            have O6 := hide hown6
            clear hown6 hgrow6 hat6 O5'
            go_wp2
            go_roundw
            case rel => exact ⟨k + 1, .slice (some ⟨g6, 0, none⟩) (L.length + 1) cap6, by omega, by go_num, rfl, unhide B6, by rw [unhide HST, unhide HLL]; exact ⟨by rw [List.length_append, spCells_append]; exact unhide O6, fun h => by simp at h⟩⟩
            case measure => simp [intOf]; omega
        · have hnn : needs1 ts t r ⟨nq, none, rq⟩ = (tiedP ts t nq.n1 nq.n2).map fun u => (u.name, nq.n2) := by simp [needs1, hkd]
          rw [hnn] at hn1 HST
          subst hv
          have bx : Below wr.heap.size wr (wr.alloc (.cells #[.int .i64 nq.place, .int .i64 nq.p1, .string nq.n1, .int .i64 nq.p2, .string nq.n2] 240)) := (Below.refl _ _).alloc (Nat.le_refl _) _
          have HBX := hide ((unhide HB).trans (bx.mono wrs))
          have C := hide (tied_any b nq.place nq.p1 nq.p2 nq.n1 nq.n2 _ ts tl t _ rl _ ((unhide HMR).below bx) ((unhide HTR).below bx))
          have OX := hide ((unhide HO).alloc (.cells #[.int .i64 nq.place, .int .i64 nq.p1, .string nq.n1, .int .i64 nq.p2, .string nq.n2] 240))
          have TQ := hide (Blk.new wr #[.int .i64 nq.place, .int .i64 nq.p1, .string nq.n1, .int .i64 nq.p2, .string nq.n2] 240)
          clear bx hnn hkd
          go_wp2_with fail
          refine (unhide C).mono ?_
          rintro e w3 ⟨sv3, l3', rfl, hb3, h31, h32, h33, h34⟩
          obtain ⟨ta, tc, rfl⟩ := own_form h31
          have B3 := hide ((unhide HBX).trans (hb3.mono (unhide HBX).size))
          have sz3 := (unhide B3).size
          have TQ3 := hide ((unhide TQ).below hb3)
          have O3 := hide (show RepSp w2.heap.size w3 (.slice sa L.length sc) L from ⟨ownsRow_frame (w' := w3) (unhide OX) (fun g cs f _ hh => hb3.block g (lt_of_some hh)), unhide HO0⟩)
          have H31 := hide h31
          have H34 := hide h34
          have hmap : (tiedP ts t nq.n1 nq.n2).map (fun u => (u.name, nq.n2)) = l3'.map (fun e => (e.2.1, nq.n2)) := by
            have := congrArg (List.map (fun n => (n, nq.n2))) h32
            simp only [List.map_map] at this
            exact this.symm
          rw [hmap] at hn1 HST
          clear hb3 h31 h32 h34 hmap C
          go_wp2_with fail
          go_loopw [9, 53] (fun u9 u53 wi => ∃ (j : Nat) (sv : Value), j ≤ l3'.length ∧ u53 = .int .i64 j ∧ u9 = sv ∧ Below w2.heap.size w2 wi ∧ Blk wi wr.heap.size #[.int .i64 nq.place, .int .i64 nq.p1, .string nq.n1, .int .i64 nq.p2, .string nq.n2] 240 ∧ wi.ownsRow 0 110 3 (.slice ta l3'.length tc) l3'.length (l3'.flatMap c3) ∧ RepSp w2.heap.size wi sv (L ++ (l3'.take j).map (fun e => (e.2.1, nq.n2)))) (fun _ u _ => l3'.length - (intOf u).toNat)
          case atStart => exact ⟨0, _, by omega, rfl, rfl, unhide B3, unhide TQ3, ownsRow_base (unhide H31) (Nat.zero_le _), by simpa using unhide O3⟩
          case round =>
            obtain ⟨j, svj, hj, rfl, hu9, hbi, htq, hro, hoi⟩ := hrel
            obtain ⟨ja, jc, hsv⟩ := hoi.form
            generalize hLJ : L ++ (l3'.take j).map (fun e => (e.2.1, nq.n2)) = LJ at *
            have hjl : LJ.length ≤ L.length + j := by
              rw [← hLJ, List.length_append, List.length_map, List.length_take]
              omega
            have HLJ := hide hLJ
            clear hLJ
            have hi0 := hoi.2
            have hi1 := hoi.1
            subst hsv
            subst hu9
            have HBI := hide hbi
            have HTQ := hide htq
            have HRO := hide hro
            have HI0 := hide hi0
            have HI1 := hide hi1
            have wis := hbi.size
            by_cases hjt : j < l3'.length
            · obtain ⟨q, c, e1, k0, k1, k2⟩ := Row3.cell (T := 110) (v := .slice ta l3'.length tc) (l := l3') (w := wr) hro j hjt
              simp only [Value.slice.injEq] at e1
              obtain ⟨rfl, _, rfl⟩ := e1
              obtain ⟨ua, un, uc, hu⟩ := unhide H34 l3'[j] (List.getElem_mem hjt)
              have HSJ := hide (show L ++ (l3'.take (j + 1)).map (fun e => (e.2.1, nq.n2)) = LJ ++ [(l3'[j].2.1, nq.n2)] from by
                rw [← unhide HLJ, List.take_succ_eq_append_getElem hjt, List.map_append, List.append_assoc]; rfl)
              generalize l3'[j] = y at *
              obtain ⟨yp, yn, yu⟩ := y
              simp only at k0 k1 k2 hu HSJ
              subst hu
              obtain ⟨t0, t1, t2, t3', t4⟩ := htq.five
              have tl' := htq.lt
              have hjn : (j : Int) < (l3'.length : Int) := by omega
              clear hbi hoi hi0 hi1 htq hro
              go_wp2_with (at_builtin; go_must (refine wpList_append_lies _ rfl _ _ 288 rfl w2.heap.size 291 i0 _ 2 32 Tryz.underlying288 (unhide HI) (unhide HZ0) (unhide HZ1) (unhide HZ2) rfl (by decide) (.slice ja LJ.length jc) LJ.length (spCells LJ) rfl ?hown ⟨wr.heap.size + 1, 0, none⟩ 1 1 (spC (yn, nq.n2)) rfl rfl ?hnews ?hone (by decide) ?h63 ?hbytes ?hbase (wr.heap.size + 2) ?hH ?hrest))
              case hown => exact ((unhide HI1).alloc _).alloc _
              case hnews => exact World.news_of_block (B := wr.heap.size + 1) (cs := #[.string yn, .string nq.n2]) (t := 291) (fr := (0, 0)) (Blk.new' (wr.alloc _) _ _ _ (by simp))
              case hone =>
                intro z hz
                simp [spC] at hz
                rcases hz with rfl | rfl <;> rfl
              case h63 => unfold maxLen; omega
              case hbytes => omega
              case hbase => simp; omega
              case hH => simp
              case hrest =>
                intro g6 cap6 w6 hown6 hgrow6 hat6 hgl6
                have O5' := ((unhide HI1).alloc (.cells #[.int .i64 yp, .string yn, .slice ua un uc] 110)).alloc (.cells #[.string yn, .string nq.n2] 291)
                have bx := ((Below.refl wr.heap.size wr).alloc (Nat.le_refl _) (.cells #[.int .i64 yp, .string yn, .slice ua un uc] 110)).alloc (by simp) (.cells #[.string yn, .string nq.n2] 291)
                have B6 := hide (Below.grown ((unhide HBI).trans (bx.mono wis)) hgrow6 (by simp; omega) (fun k hk => (O5'.lt k hk).1))
                have T6 := hide ((hgrow6.block _ ((unhide HTQ).below bx).lt (own_ne O5' ((unhide HTQ).below bx) (by decide))).trans ((unhide HTQ).below bx))
                have R6 := hide (ownsRow_frame (w' := w6) (unhide HRO) (fun g cs f _ hh => (hgrow6.block g (Nat.lt_of_lt_of_le (lt_of_some hh) bx.size) (own_nf O5' ((bx.block g (lt_of_some hh)).trans hh) (by decide))).trans (bx.block g (lt_of_some hh))))
                have O6 := hide hown6
                clear hown6 hgrow6 hat6 O5' bx
                go_wp2
                go_roundw
                case rel => exact ⟨j + 1, .slice (some ⟨g6, 0, none⟩) (LJ.length + 1) cap6, by omega, by go_num, rfl, unhide B6, unhide T6, unhide R6, by rw [unhide HSJ]; exact ⟨by rw [List.length_append, spCells_append]; exact unhide O6, fun h => by simp at h⟩⟩
                case measure => simp [intOf]; omega
            · have hjn : ¬ ((j : Int) < (l3'.length : Int)) := by omega
              have hLE : L ++ l3'.map (fun e => (e.2.1, nq.n2)) = LJ := by
                rw [← unhide HLJ, List.take_of_length_le (by omega)]
              have HLE := hide hLE
              clear hbi hoi hi0 hi1 htq hro hLE
              go_wp2
              go_roundw
              case rel => exact ⟨k + 1, .slice ja LJ.length jc, by omega, by go_num, rfl, unhide HBI, by rw [unhide HST, unhide HLL, unhide HLE]; exact ⟨unhide HI1, unhide HI0⟩⟩
              case measure => simp [intOf]; omega
      | ⟨nq, some xq, none⟩, hrep, hn1, HST => exact hrep.elim
    · have hkn : ¬ ((k : Int) < ((partsE e).length : Int)) := by omega
      have hLP : L = needsP ts t r e := by
        rw [← unhide HLL]
        unfold NK needsP
        rw [List.take_of_length_le (by omega)]
      have HLP := hide hLP
      clear hbr ho ho0 ho1 hLP
      go_wp2
      go_ret
      exact ⟨.slice sa L.length sc, rfl, (unhide B2).trans ((unhide HB).mono sz2), by rw [← unhide HLP]; exact ⟨ownsRow_base (unhide HO) sz2, unhide HO0⟩⟩
end Go.Proofs.YtlbpnlngckgcbaaGreatDoor
