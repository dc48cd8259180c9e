import Derived.Test.YtpciagbgjbflpaaGreatDoorNeedsAt
import Derived.Deep.LoopGhost
namespace Go.Proofs.YtpciagbgjbflpaaGreatDoor
open Go.RowKit Go.PlainAid
set_option linter.unusedSimpArgs false
set_option linter.unusedVariables false

/-- All blocks but those of spots are as they were. -/
def NS (w w' : World) : Prop := ∀ (g : Nat) (cs : Array Value) (T : TypeId) (f : Nat × Nat), w.heap[g]? = some (Obj.cells cs T f) → T ≠ 199 → w'.heap[g]? = w.heap[g]?
theorem NS.below {w w' : World} (h : Below w.heap.size w w') : NS w w' := fun g cs T f hh _ => h.block g (lt_of_some hh)
theorem NS.trans {x y z : World} (h : NS x y) (k : NS y z) : NS x z := fun g cs T f hh ht => (k g cs T f ((h g cs T f hh ht).trans hh) ht).trans (h g cs T f hh ht)
theorem NS.refl (w : World) : NS w w := fun _ _ _ _ _ _ => rfl
theorem NS.g {b : Nat} {w w' : World} (h : NS w w') : GKept b w w' := fun g cs f _ hh => h g cs _ f hh (by decide)
theorem RC.ns {b : Nat} {w w' : World} {sv : Value} {rs : List Rl} {rl : List (Rl × Value)} (h : RC b w sv rs rl) (k : NS w w') : RC b w' sv rs rl :=
  ⟨h.fst, ownsRow_frame h.row (fun g cs f _ hh => k g cs _ f hh (by decide)), fun p hp => RepEx.frame k.g _ _ (h.ex p hp), h.len, h.okp, h.okg, h.wf⟩
theorem MC.ns {b : Nat} {w w' : World} {sv : Value} {ts : List Ty} {tl : List (Ty × Value)} (h : MC b w sv ts tl) (k : NS w w') (hs : w.heap.size ≤ w'.heap.size) : MC b w' sv ts tl :=
  ⟨h.fst, ownsRow_frame h.row (fun g cs f _ hh => k g cs _ f hh (by decide)), fun p hp => by obtain ⟨rl, hr⟩ := h.rels p hp; exact ⟨rl, hr.ns k⟩, h.len, Nat.lt_of_lt_of_le h.blt hs⟩
theorem Blk.ns {w w' : World} {g : Nat} {cs : Array Value} {T : TypeId} (h : Blk w g cs T) (k : NS w w') (ht : T ≠ 199) : Blk w' g cs T := (k g cs T (0, 0) h ht).trans h
theorem addN_step (f l : List Sp) (j : Nat) (hj : j < l.length) : addN f (l.take (j + 1)) = add1 (addN f (l.take j)) l[j] := by
  unfold addN
  rw [List.take_succ_eq_append_getElem hj, List.foldl_append]
  rfl

theorem len_flatMap {α β : Type} (f : α → List β) (l : List α) (a : α) (h : a ∈ l) : (f a).length ≤ (l.flatMap f).length := by
  obtain ⟨p, q, rfl⟩ := List.append_of_mem h
  simp only [List.flatMap_append, List.flatMap_cons, List.length_append]
  omega
theorem needsAt_len (ts : List Ty) (s : Sp) : (needsAtP ts s).length ≤ (univ ts).length := by
  unfold needsAtP
  split
  · simp
  · rename_i t ht
    split
    · simp
    · rename_i r hr
      refine Nat.le_trans (len_flatMap (fun r => needsP ts t r r.body) t.rels r (List.mem_of_find?_eq_some hr)) ?_
      exact len_flatMap (fun t => t.rels.flatMap fun r => needsP ts t r r.body) ts t (List.mem_of_find?_eq_some ht)
theorem addN_le : ∀ (f l : List Sp), f.length ≤ (addN f l).length
  | f, [] => Nat.le_refl _
  | f, y :: l => by
    have := addN_le (add1 f y) l
    have h2 : f.length ≤ (add1 f y).length := by unfold add1; split <;> simp
    exact Nat.le_trans h2 this
/-- How it stands in the rounds: the model's and the sought spot's boxes, and what was found. -/
structure HSt (base : Nat) (w wr : World) (mv : Value) (x : Sp) (v : Value) (f : List Sp) : Prop where
  bel : Below base w wr
  ns : NS w wr
  sz : w.heap.size + 2 ≤ wr.heap.size
  mb : Blk wr w.heap.size #[mv] 43
  sb : Blk wr (w.heap.size + 1) #[.string x.1, .string x.2] 199
  ro : wr.ownsRow base 199 2 v f.length (spCells f)
  far : ∀ k, v.ownBlock = some k → k ≠ w.heap.size + 1
theorem HSt.below {base : Nat} {w wr w' : World} {mv : Value} {x : Sp} {v : Value} {f : List Sp} (h : HSt base w wr mv x v f) (hb : base ≤ w.heap.size) (k : Below wr.heap.size wr w') : HSt base w w' mv x v f :=
  have h2 := h.sz
  ⟨h.bel.trans (k.mono (by omega)), h.ns.trans (NS.below k), Nat.le_trans h.sz k.size, h.mb.below k, h.sb.below k, ownsRow_frame h.ro (fun g cs f _ hh => k.block g (lt_of_some hh)), h.far⟩
theorem HSt.drewN {base : Nat} {w wr : World} {mv : Value} {x : Sp} {v : Value} {f : List Sp} (h : HSt base w wr mv x v f) (hb : base ≤ w.heap.size) (n : Nat) : HSt base w (wr.drewN n) mv x v f := h.below hb (below_drewN (Below.refl _ _) n)
theorem HSt.grown {base : Nat} {w wr W w6 : World} {mv : Value} {x y : Sp} {v : Value} {f : List Sp} {g cap : Nat} (h : HSt base w wr mv x v f) (hb : base ≤ w.heap.size) (k : Below wr.heap.size wr W) (hg : W.grownBy w6 v.ownBlock)
    (hown : w6.ownsRow base 199 2 (.slice (some ⟨g, 0, none⟩) (f.length + 1) cap) (f.length + 1) (spCells f ++ spC y)) (hat : v.ownBlock = some g ∨ g = W.heap.size) : HSt base w w6 mv x (.slice (some ⟨g, 0, none⟩) (f.length + 1) cap) (f ++ [y]) := by
  have h' := h.below hb k
  have s1 := h'.sz
  have B6 := Below.grown h'.bel hg (by omega) (fun k hk => (h'.ro.lt k hk).1)
  refine ⟨B6, ?_, ?_, ?_, ?_, ?_, ?_⟩
  · intro q cs T fr hh ht
    have e := h'.ns q cs T fr hh ht
    exact (hg.block q (lt_of_some (e.trans hh)) (own_nf h'.ro (e.trans hh) ht)).trans e
  · have := hg.size; omega
  · exact (hg.block _ h'.mb.lt (own_ne h'.ro h'.mb (by decide))).trans h'.mb
  · refine (hg.block _ h'.sb.lt ?_).trans h'.sb
    intro e
    exact h'.far _ e.symm rfl
  · rw [List.length_append, spCells_append, show spCells [y] = spC y from by simp [spCells]]
    exact hown
  · intro q hq
    simp only [Value.ownBlock, Option.some.injEq] at hq
    subst hq
    rcases hat with e | e
    · exact h'.far _ e
    · omega
/-- A row of spots in another block is as it was. -/
theorem row_far {wr W w6 : World} {base b1 : Nat} {v v1 : Value} {n n1 : Nat} {xs xs1 : List Value} (h1 : wr.ownsRow b1 199 2 v1 n1 xs1) (k : Below wr.heap.size wr W) (hg : W.grownBy w6 v.ownBlock) (hne : ∀ q, v1.ownBlock = some q → v.ownBlock ≠ some q) : w6.ownsRow b1 199 2 v1 n1 xs1 := by
  rcases h1 with ⟨h1, h2 | ⟨g, cap, cur, hv, hg1, hh, r⟩⟩
  · exact ⟨h1, .inl h2⟩
  · refine ⟨h1, .inr ⟨g, cap, cur, hv, hg1, ?_, r⟩⟩
    refine (hg.block g (Nat.lt_of_lt_of_le (lt_of_some hh) k.size) ?_).trans ((k.block g (lt_of_some hh)).trans hh)
    intro e
    exact hne g (by rw [hv]; rfl) e.symm

set_option maxHeartbeats 4000000 in
set_option maxRecDepth 100000 in
theorem hangs_any (b base : Nat) (sv : Value) (ts : List Ty) (tl : List (Ty × Value)) (fv : Value) (l0 : List Sp) (x : Sp) (w : World) (h : MC b w sv ts tl) (hf : w.ownsRow base 199 2 fv l0.length (spCells l0)) (hb : base ≤ w.heap.size) (hNB : l0.length + (univ ts).length ≤ 2000000000000) :
    Calls Tryz.prog 91 #[.agg #[sv], fv, .agg #[.string x.1, .string x.2]] w fun e' w' => e' = .returned (.bool (hangsP ts l0 x)) ∧ Below base w w' ∧ NS w w' := by
  obtain ⟨i0, hi, hz0, hz1, hz2⟩ := info_parts Tryz.info199
  have HI := hide hi
  have HZ0 := hide hz0
  have HZ1 := hide hz1
  have HZ2 := hide hz2
  clear hi hz0 hz1 hz2
  obtain ⟨ma, mn, mc, rfl⟩ := h.form
  obtain ⟨fa, fc, rfl⟩ := own_form hf
  have hbl : ∀ k, (Value.slice fa l0.length fc).ownBlock = some k → k ≠ w.heap.size + 1 := fun k hk => by
    have := (hf.lt k hk).2
    omega
  have H := hide h
  unfold hangsP
  generalize hR : hangL (needsAtP ts) x (l0.length + (univ ts).length + 1) l0 0 = R
  have HRR := hide hR
  have eqs0 := eqSpot
  have gds0 := guardSpot
  have W0 : Below w.heap.size w ((w.alloc (.cells #[.slice ma mn mc] 43)).alloc (.cells #[.string x.1, .string x.2] 199)) := ((Below.refl _ _).alloc (Nat.le_refl _) _).alloc (by simp) _
  have HST0 := hide (show HSt base w ((w.alloc (.cells #[.slice ma mn mc] 43)).alloc (.cells #[.string x.1, .string x.2] 199)) (.slice ma mn mc) x (.slice fa l0.length fc) l0 from
    ⟨W0.mono hb, NS.below W0, by simp, (Blk.new w _ _).alloc _, Blk.new' (w.alloc _) _ _ _ (by simp), (hf.alloc _).alloc _, hbl⟩)
  clear h hf hR hbl W0
  go_enter Tryz.func91, Tryz.ntmps91
  go_wp2_with fail
  go_loopg [1, 7] (l0.length + (univ ts).length + 1) (fun k u1 u7 wr => ∃ (i : Nat) (f : List Sp) (fa : Option Addr) (fc : Nat), u7 = .int .i64 i ∧ u1 = .slice fa f.length fc ∧ i ≤ f.length ∧ k = l0.length + (univ ts).length + 1 - i ∧ HSt base w wr (.slice ma mn mc) x (.slice fa f.length fc) f ∧ Hid (Grown2 l0 (univ ts) f ∧ hangL (needsAtP ts) x k f i = R))
  case atStart => exact ⟨0, l0, fa, fc, rfl, rfl, by omega, by omega, unhide HST0, hide ⟨Grown2.refl _ _, unhide HRR⟩⟩
  case round =>
    obtain ⟨i, f, fa, fc, rfl, rfl, hif, rfl, hst, HQ⟩ := hrel
    have hle := (unhide HQ).1.le
    have HS := hide hst
    have wrs := hst.sz
    by_cases hlt : i < f.length
    · have hkn : (i : Int) < (f.length : Int) := by omega
      have hk0 : (0 : Int) ≤ (i : Int) := by omega
      obtain ⟨g, c, e1, k0, k1⟩ := Row2.cell hst.ro i f[i] (List.getElem?_eq_getElem hlt)
      simp only [Value.slice.injEq] at e1
      obtain ⟨rfl, _, rfl⟩ := e1
      obtain ⟨b0, b1⟩ := hst.sb.two
      obtain ⟨h2, h3⟩ := unhide HQ
      rw [show l0.length + (univ ts).length + 1 - i = (l0.length + (univ ts).length - i) + 1 by omega, hangL, List.getElem?_eq_getElem hlt] at h3
      simp only at h3
      have HH2 := hide h2
      clear hst h2 HQ
      cases he : eqSp f[i] x
      · have he' : eqSp (f[i].1, f[i].2) (x.1, x.2) = false := he
        rw [he] at h3
        simp only [Bool.false_eq_true, if_false] at h3
        have HH3 := hide h3
        have HS2 := hide (List.getElem?_eq_getElem hlt)
        clear h3
        generalize hS : f[i] = s at *
        clear he hS
        go_wp2
        go_quiet (fail)
        go_wp2_with fail
        have HSq := hide ((unhide HS).drewN hb nq)
        clear k0 k1 b0 b1 HS
        generalize wr.drewN nq = W at *
        obtain ⟨g', c', e1, k0, k1⟩ := Row2.cell (unhide HSq).ro i s (unhide HS2)
        simp only [Value.slice.injEq, Option.some.injEq, Addr.mk.injEq] at e1
        obtain ⟨⟨rfl, _⟩, _, rfl⟩ := e1
        have m0 : W.cell? ⟨w.heap.size, 0, none⟩ = some (.slice ma mn mc) := (unhide HSq).mb.cell rfl
        have wrs := (unhide HSq).sz
        have HM := hide ((unhide H).ns (unhide HSq).ns (unhide HSq).bel.size)
        go_region_held3 (fun w' => w'.cell? ⟨w.heap.size, 0, none⟩ = some (.slice ma mn mc) ∧ w'.cell? ⟨g, i * 2, none⟩ = some (.string s.1) ∧ w'.cell? ⟨g, i * 2 + 1, none⟩ = some (.string s.2)) (go_keep)
          ((go_at_call 127; refine (needsAt_any b _ ts tl s.1 s.2 _ ?_).mono ?_; (exact (unhide HM).below (Below.refl _ _).drew); rintro e w3 ⟨sv3, rfl, hb3, hrs⟩; have HS3 := hide ((unhide HSq).below hb ((Below.refl _ W).drew.trans hb3)); have HN3 := hide (show RepSp W.heap.size w3 sv3 (needsAtP ts s) from hrs); clear hb3 hrs; obtain ⟨g3, c3', e3, n0, n1⟩ := Row2.cell (unhide HS3).ro i s (unhide HS2); simp only [Value.slice.injEq, Option.some.injEq, Addr.mk.injEq] at e3; obtain ⟨⟨rfl, _⟩, _, rfl⟩ := e3; have n2 : w3.cell? ⟨w.heap.size, 0, none⟩ = some (.slice ma mn mc) := (unhide HS3).mb.cell rfl; obtain ⟨na, nc, rfl⟩ := (unhide HN3).form))
        have hnl := needsAt_len ts s
        have HNU := hide (needsAt_univ ts s)
        have HNB := hide (show ∀ q, (Value.slice na (needsAtP ts s).length nc).ownBlock = some q → (Value.slice (some ⟨g, 0, none⟩) f.length fc).ownBlock ≠ some q ∧ q < w3.heap.size from fun q hq => by
          have e1 := (unhide HN3).1.lt q hq
          refine ⟨?_, e1.2⟩
          intro e2
          have e3 := ((unhide HSq).ro.lt q e2).2
          omega)
        have HR3 := hide (unhide HN3).1
        have HS4 := hide (unhide HS3)
        clear k0 k1 m0 n0 n1 n2 HN3 HS3 HS2 HSq HM
        generalize needsAtP ts s = nl at *
        go_wp2_with fail
        go_loopw [1, 29] (fun u1 u29 wi => ∃ (j : Nat) (f' : List Sp) (fa' : Option Addr) (fc' : Nat), u29 = .int .i64 j ∧ u1 = .slice fa' f'.length fc' ∧ j ≤ nl.length ∧ HSt base w wi (.slice ma mn mc) x (.slice fa' f'.length fc') f' ∧ wi.ownsRow W.heap.size 199 2 (.slice na nl.length nc) nl.length (spCells nl) ∧ w3.heap.size ≤ wi.heap.size ∧
          Hid (addN f (nl.take j) = f' ∧ Grown2 l0 (univ ts) f' ∧ ∀ q, (Value.slice na nl.length nc).ownBlock = some q → (Value.slice fa' f'.length fc').ownBlock ≠ some q ∧ q < w3.heap.size)) (fun _ u _ => nl.length - (intOf u).toNat)
        case atStart => exact ⟨0, f, _, fc, rfl, rfl, by omega, unhide HS4, unhide HR3, Nat.le_refl _, hide ⟨rfl, unhide HH2, unhide HNB⟩⟩
        case round =>
          obtain ⟨j, f', fa', fc', rfl, rfl, hj, hst, hnr, hsz, HQ⟩ := hrel
          have hle' := (unhide HQ).2.1.le
          have HS5 := hide hst
          have HNR := hide hnr
          by_cases hjt : j < nl.length
          · obtain ⟨q, c, e1, k0, k1⟩ := Row2.cell hnr j nl[j] (List.getElem?_eq_getElem hjt)
            simp only [Value.slice.injEq] at e1
            obtain ⟨rfl, _, rfl⟩ := e1
            have hjn : (j : Int) < (nl.length : Int) := by omega
            have HST := hide (addN_step f nl j hjt)
            have HYU := hide (unhide HNU _ (List.getElem_mem hjt))
            generalize nl[j] = y at *
            rw [(unhide HQ).1] at HST
            have hbx : Below wr.heap.size wr (wr.alloc (.cells #[.string y.1, .string y.2] 199)) := (Below.refl _ _).alloc (Nat.le_refl _) _
            have HBX := hide hbx
            have C := hide (containsSp base _ f' y (wr.alloc (.cells #[.string y.1, .string y.2] 199)) (by omega) ((unhide HS5).below hb hbx).ro)
            have YB := hide (Blk.new wr #[.string y.1, .string y.2] 199)
            clear hst hnr hbx
            go_wp2_with fail
            refine (unhide C).mono ?_
            rintro e w5 ⟨rfl, hb5⟩
            have B5 := hide ((unhide HBX).trans (hb5.mono (unhide HBX).size))
            obtain ⟨y0, y1⟩ := ((unhide YB).below hb5).two
            have yl := ((unhide YB).below hb5).lt
            have sz5 := (unhide B5).size
            clear hb5 C YB HBX k0 k1
            have HST2 := unhide HST
            unfold add1 at HST2
            cases ha : f'.any (fun z => eqSp y z)
            · simp only [ha, Bool.false_eq_true, if_false] at HST2
              have HST3 := hide HST2
              have HG2 := hide ((unhide HQ).2.1.add (unhide HYU))
              have hadd : add1 f' y = f' ++ [y] := by unfold add1; simp only [ha, Bool.false_eq_true, if_false]
              rw [hadd] at HG2
              clear ha HST2 HST hadd
              go_wp2_with (at_builtin; go_must (refine wpList_append_lies _ rfl _ _ 196 rfl base 199 i0 _ 2 32 Tryz.underlying196 (unhide HI) (unhide HZ0) (unhide HZ1) (unhide HZ2) rfl (by decide) (.slice fa' f'.length fc') f'.length (spCells f') rfl ?hown ⟨w5.heap.size, 0, none⟩ 1 1 (spC y) rfl rfl ?hnews ?hone (by decide) ?h63 ?hbytes ?hbase (w5.heap.size + 1) ?hH ?hrest))
              case hown => exact (((unhide HS5).below hb (unhide B5)).ro).alloc _
              case hnews => exact World.news_of_block (B := w5.heap.size) (cs := #[.string y.1, .string y.2]) (t := 199) (fr := (0, 0)) (Blk.new w5 _ _)
              case hone =>
                intro z hz
                simp [spC] at hz
                rcases hz with rfl | rfl <;> rfl
              case h63 => unfold maxLen; omega
              case hbytes => omega
              case hbase => have := (unhide HS5).sz; simp; omega
              case hH => simp
              case hrest =>
                intro g6 cap6 w6 hown6 hgrow6 hat6 hgl6
                have bx := (unhide B5).trans (((Below.refl w5.heap.size w5).alloc (Nat.le_refl _) (.cells #[.string y.1, .string y.2] 199)).mono sz5)
                have S6 := hide ((unhide HS5).grown hb bx hgrow6 hown6 (by simpa using hat6))
                have R6 := hide (row_far (base := base) (n := 0) (xs := []) (unhide HNR) bx hgrow6 (fun q hq => ((unhide HQ).2.2 q hq).1))
                have Q6 := hide (show ∀ q', (Value.slice (some ⟨q, 0, none⟩) nl.length nc).ownBlock = some q' → (Value.slice (some ⟨g6, 0, none⟩) (f'.length + 1) cap6).ownBlock ≠ some q' ∧ q' < w3.heap.size from fun q' hq => by
                  obtain ⟨e1, e2⟩ := (unhide HQ).2.2 q' hq
                  refine ⟨?_, e2⟩
                  intro e3
                  simp only [Value.ownBlock, Option.some.injEq] at e3
                  subst e3
                  rcases hat6 with e4 | e4
                  · exact e1 e4
                  · omega)
                have sz6 : w3.heap.size ≤ w6.heap.size := by
                  have := hgrow6.size
                  have := bx.size
                  omega
                clear hown6 hgrow6 hat6 bx
                go_wp2
                go_roundw
                case rel => exact ⟨j + 1, f' ++ [y], some ⟨g6, 0, none⟩, cap6, by go_num, by simp, by omega, by simpa using unhide S6, unhide R6, sz6, hide ⟨unhide HST3, unhide HG2, by simpa using unhide Q6⟩⟩
                case measure => simp [intOf]; omega
            · simp only [ha, if_true] at HST2
              have HST3 := hide HST2
              clear ha HST2 HST
              go_wp2
              go_roundw
              case rel => exact ⟨j + 1, f', fa', fc', by go_num, rfl, by omega, (unhide HS5).below hb (unhide B5), ownsRow_frame (unhide HNR) (fun g cs f _ hh => (unhide B5).block g (lt_of_some hh)), by omega, hide ⟨unhide HST3, (unhide HQ).2⟩⟩
              case measure => simp [intOf]; omega
          · have hjn : ¬ ((j : Int) < (nl.length : Int)) := by omega
            obtain ⟨h1, h2, h3⟩ := unhide HQ
            rw [List.take_of_length_le (by omega)] at h1
            rw [h1] at HH3
            have hfl : f.length ≤ f'.length := by rw [← h1]; exact addN_le f nl
            have H2 := hide h2
            clear hst hnr h1 h2 h3 HQ
            go_wp2
            go_roundg (l0.length + (univ ts).length - i)
            case rel => exact ⟨i + 1, f', fa', fc', by go_num, rfl, by omega, by omega, unhide HS5, hide ⟨unhide H2, unhide HH3⟩⟩
            case measure => omega
      · have he' : eqSp (f[i].1, f[i].2) (x.1, x.2) = true := he
        rw [he] at h3
        simp only [if_true] at h3
        have HH3 := hide h3
        clear h3 he
        go_wp2
        go_quiet (fail)
        go_wp2
        go_ret
        rw [← unhide HH3]
        exact ⟨rfl, below_drewN (unhide HS).bel _, fun g cs T f hh ht => (unhide HS).ns g cs T f hh ht⟩
    · have hkn : ¬ ((i : Int) < (f.length : Int)) := by omega
      obtain ⟨h2, h3⟩ := unhide HQ
      rw [show l0.length + (univ ts).length + 1 - i = (l0.length + (univ ts).length - i) + 1 by omega, hangL, List.getElem?_eq_none (by omega)] at h3
      have HH3 := hide h3
      clear hst h2 h3
      go_wp2
      go_ret
      rw [← unhide HH3]
      exact ⟨rfl, (unhide HS).bel, (unhide HS).ns⟩
end Go.Proofs.YtpciagbgjbflpaaGreatDoor
