import Derived.Test.YtlbpnlngckgcbaaGreatDoorM28
namespace Go.Proofs.YtlbpnlngckgcbaaGreatDoor
open Go.RowKit Go.PlainAid
set_option linter.unusedSimpArgs false
set_option linter.unusedVariables false
/-- P4: of one part: the place of a sign whose right side hangs on the relation. -/
def loopN (ts : List Ty) (t : Ty) (r : Rl) (p : Ex) : Option Nat := match p.l, p.r with
 | some _, some y => if tyOf p.nd.kind = 246 then (if hangsP ts (needsP ts t r y) (t.name, r.name) then some p.nd.place else none) else none
 | _, _ => none
def loopsP (ts : List Ty) (t : Ty) (r : Rl) : Option Nat := (partsE r.body).findSome? (loopN ts t r)
theorem parts_right (nd : Nd) (x y : Ex) : ∀ (e : Ex), ⟨nd, some x, some y⟩ ∈ partsE e → (partsE y).length ≤ (partsE e).length
 | ⟨n, some a, some c⟩, h => by
  simp only [partsE] at h ⊢
  rw [List.mem_append, List.mem_append, List.mem_singleton] at h
  simp only [List.length_append]
  rcases h with (h | h) | h
  ·have := parts_right nd x y a h; omega
  ·simp only [Ex.mk.injEq, Option.some.injEq] at h
   rw [h.2.2]
   omega
  ·have := parts_right nd x y c h; omega
 | ⟨n, none, c⟩, h => by
  unfold partsE at h
  simp at h
 | ⟨n, some a, none⟩, h => by
  unfold partsE at h
  simp at h
theorem needsP_le {b : Nat} {w : World} {tv : Value} {rl : List (Rl × Value)} (ts : List Ty) (t : Ty) (ht : RC b w tv t.rels rl) (r : Rl) (hr : r ∈ t.rels) (e : Ex) (hp : (partsE e).length ≤ 1000) : (needsP ts t r e).length ≤ 1000000 := by
 have := nk_le ts t ht r (ht.okg r hr) e (partsE e).length
 unfold NK at this
 rw [List.take_length] at this
 unfold needsP
 omega
theorem len_flatMap_le {α β : Type} (f : α → List β) (n : Nat) : ∀ (l : List α), (∀ a ∈ l, (f a).length ≤ n) → (l.flatMap f).length ≤ l.length * n
 | [], _ => by simp
 | a :: l, h => by
  have h1 := h a (by simp)
  have h2 := len_flatMap_le f n l (fun a ha => h a (by simp [ha]))
  simp only [List.flatMap_cons, List.length_append, List.length_cons, Nat.add_mul, Nat.one_mul]
  omega
theorem needsAt_le {b : Nat} {w : World} {sv : Value} {ts : List Ty} {tl : List (Ty × Value)} (h : MC b w sv ts tl) (s : Sp) : (needsAtP ts s).length ≤ 1000000 := by
 unfold needsAtP
 split
 ·simp
 ·rename_i t ht
  split
  ·simp
  ·rename_i r hr
   have ht := List.mem_of_find?_eq_some ht
   have hr := List.mem_of_find?_eq_some hr
   rw [← h.fst, List.mem_map] at ht
   obtain ⟨p, hp, rfl⟩ := ht
   obtain ⟨rl, hq⟩ := h.rels p hp
   exact needsP_le ts p.1 hq r hr r.body (hq.okp r hr)
theorem keys_le {b : Nat} {w : World} {sv : Value} {ts : List Ty} {tl : List (Ty × Value)} (h : MC b w sv ts tl) : (keysP ts).length ≤ 1000000 := by
 have := len_flatMap_le (fun t => t.rels.map fun r => (t.name, r.name)) 1000 ts (fun t ht => by
  rw [← h.fst, List.mem_map] at ht
  obtain ⟨p, hp, rfl⟩ := ht
  obtain ⟨rl, hq⟩ := h.rels p hp
  have := hq.len
  simpa using this)
 have h3 := h.len
 have h4 : ts.length * 1000 ≤ 1000 * 1000 := Nat.mul_le_mul_right _ h3
 unfold keysP
 omega
theorem rounds_le {b : Nat} {w : World} {sv : Value} {ts : List Ty} {tl : List (Ty × Value)} (h : MC b w sv ts tl) (l0 : List Sp) (hl : l0.length ≤ 1000000) : roundsP ts l0 ≤ 1000001000000 := by
 have h1 := restN_le (needsAtP ts) 1000000 (needsAt_le h) [] (keysP ts)
 have h2 := keys_le h
 have h3 : (keysP ts).length * 1000000 ≤ 1000000 * 1000000 := Nat.mul_le_mul_right _ h2
 unfold roundsP
 omega
set_option maxHeartbeats 4000000 in
set_option maxRecDepth 100000 in
theorem checkLoops_any (b : Nat) (sv : Value) (ts : List Ty) (tl : List (Ty × Value)) (t : Ty) (tv : Value) (rl : List (Rl × Value)) (r : Rl) (bv : Value) (w : World) (h : MC b w sv ts tl) (ht : RC b w tv t.rels rl) (hr : RepEx b w r.body bv) (hmem : r ∈ t.rels) :
  Calls Tryz.prog 118 #[.agg #[sv], .agg #[.int .i64 t.place, .string t.name, tv], .agg #[.int .i64 r.place, .string r.name, bv]] w fun e' w' => e' = .returned (errO 6 (loopsP ts t r)) ∧ Below w.heap.size w w' := by
 obtain ⟨ma, mn, mc, rfl⟩ := h.form
 obtain ⟨va, vn, vc, rfl⟩ := ht.form
 obtain ⟨ra, rv, rfl⟩ := hr.isI
 have W0 : Below w.heap.size w (((w.alloc (.cells #[.slice ma mn mc] 75)).alloc (.cells #[.int .i64 t.place, .string t.name, .slice va vn vc] 110)).alloc (.cells #[.int .i64 r.place, .string r.name, .iface ra rv] 159)) := (((Below.refl _ _).alloc (Nat.le_refl _) _).alloc (by simp) _).alloc (by simp; omega) _
 have HM0 := hide (h.below W0)
 have HT0 := hide (ht.below W0)
 have HX0 := hide (hr.but (But.of_below W0))
 have MB := hide (((Blk.new w #[.slice ma mn mc] 75).alloc (.cells #[.int .i64 t.place, .string t.name, .slice va vn vc] 110)).alloc (.cells #[.int .i64 r.place, .string r.name, .iface ra rv] 159))
 have YB := hide ((Blk.new' (w.alloc (.cells #[.slice ma mn mc] 75)) #[.int .i64 t.place, .string t.name, .slice va vn vc] 110 (w.heap.size + 1) (by simp)).alloc (.cells #[.int .i64 r.place, .string r.name, .iface ra rv] 159))
 have RB := hide (Blk.new' ((w.alloc (.cells #[.slice ma mn mc] 75)).alloc (.cells #[.int .i64 t.place, .string t.name, .slice va vn vc] 110)) #[.int .i64 r.place, .string r.name, .iface ra rv] 159 (w.heap.size + 2) (by simp))
 have okp := ht.okp r hmem
 have HMEM := hide hmem
 have HNL := hide (fun e he => needsP_le ts t ht r hmem e he)
 have HUL := hide (fun l0 hl => rounds_le h l0 hl)
 have HW0 := hide W0
 generalize hR : loopsP ts t r = R
 have HRR := hide hR
 have blt0 := (uh HM0).blt
 clear W0 h ht hr hR hmem
 go_enter Tryz.func118, Tryz.ntmps118
 go_wp2_with fail
 refine (parts_any r.body b _ _ blt0 (uh HX0) okp).mono ?_
 rintro e1 w2 ⟨sv2, rfl, hb2, l, l1, l2, l3⟩
 obtain ⟨oa, oc, rfl⟩ := own_form l3
 have ll : l.length = (partsE r.body).length := by rw [← l1]; simp
 have B2 := hide ((uh HW0).trans (hb2.mono (uh HW0).size))
 have L1 := hide l1
 have L2 := hide l2
 have L3 := hide l3
 have M2 := hide ((uh HM0).below hb2)
 have T2 := hide ((uh HT0).below hb2)
 have X2 := hide ((uh HX0).but (But.of_below hb2))
 have MB2 := hide ((uh MB).below hb2)
 have YB2 := hide ((uh YB).below hb2)
 have RB2 := hide ((uh RB).below hb2)
 have sz2 := (uh B2).size
 clear hb2 l1 l2 l3
 have f0 := ta_List_Less
 have f1 := ta_Own_Less
 have f2 := ta_Tie_Less
 have f3 := ta_Either_Less
 have f4 := ta_Both_Less
 have f5 := ta_Less_Less
 go_wp2_with fail
 go_loopw [14] (fun u14 wr => ∃ (k : Nat), k ≤ (partsE r.body).length ∧ u14 = .int .i64 k ∧ Below w2.heap.size w2 wr ∧ Hid (((partsE r.body).drop k).findSome? (loopN ts t r) = R)) (fun u _ => (partsE r.body).length - (intOf u).toNat)
 case atStart => exact ⟨0, by omega, rfl, Below.refl _ _, HRR⟩
 case round =>
  obtain ⟨k, hk, rfl, hbr, HQ⟩ := hrel
  have HB := hide hbr
  have wrs := hbr.size
  by_cases hlt : k < (partsE r.body).length
  ·have hkl : k < l.length := by omega
   obtain ⟨q1, c1, e1, kc⟩ := own_cell (ownsRow_frame (w' := wr) (uh L3) (fun g cs f _ hh => hbr.block g (lt_of_some hh))) k l[k].2 (by simp [List.getElem?_eq_getElem hkl])
   simp only [Value.slice.injEq] at e1
   obtain ⟨rfl, _, rfl⟩ := e1
   have hrep := (uh L2 l[k] (List.getElem_mem hkl)).but (b := b) (But.of_below hbr)
   have hk' : (partsE r.body)[k]? = some l[k].1 := by rw [← uh L1]; simp [List.getElem?_eq_getElem hkl]
   generalize l[k] = q at *
   obtain ⟨q1, qv⟩ := q
   simp only at kc hrep hk'
   have hkn : (k : Int) < ((partsE r.body).length : Int) := by omega
   have hR := uh HQ
   rw [findSome_step _ _ _ _ hk'] at hR
   have hin := List.mem_of_getElem? hk'
   have HMR := hide ((uh M2).below hbr)
   have HTR := hide ((uh T2).below hbr)
   have HXR := hide ((uh X2).but (But.of_below hbr))
   have MBR := hide ((uh MB2).below hbr)
   have YBR := hide ((uh YB2).below hbr)
   have RBR := hide ((uh RB2).below hbr)
   clear hbr hk' HQ
   match q1, hrep, hR, hin with
   | ⟨nq, some xq, some yq⟩, ⟨vx, vy, hv, rx, ry⟩, hR, hin =>
    obtain ⟨xa, xv, rfl⟩ := rx.isI
    obtain ⟨ya, yv, rfl⟩ := ry.isI
    have hyl := parts_right _ _ _ _ hin
    have HRY := hide ry
    subst hv
    clear rx ry hin
    by_cases htt : tyOf nq.kind = 246
    ·rw [htt] at kc
     have hln : loopN ts t r ⟨nq, some xq, some yq⟩ = if hangsP ts (needsP ts t r yq) (t.name, r.name) then some nq.place else none := by simp [loopN, htt]
     rw [hln] at hR
     have hnl := uh HNL yq (by omega)
     have bx : Below wr.heap.size wr (wr.alloc (.cells #[.int .i64 nq.place, .iface xa xv, .iface ya yv] 246)) := (Below.refl _ _).alloc (Nat.le_refl _) _
     have HBX := hide ((uh HB).trans (bx.mono wrs))
     have HMX := hide ((uh HMR).below bx)
     have HTX := hide ((uh HTR).below bx)
     have HXX := hide ((uh HXR).but (But.of_below bx))
     have HYX := hide ((uh HRY).but (But.of_below bx))
     have MBX := hide ((uh MBR).below bx)
     have YBX := hide ((uh YBR).below bx)
     have RBX := hide ((uh RBR).below bx)
     have LBX := hide (Blk.new wr #[.int .i64 nq.place, .iface xa xv, .iface ya yv] 246)
     clear bx htt hln
     go_wp2_with fail
     have hWs : wr.heap.size < (wr.alloc (.cells #[.int .i64 nq.place, .iface xa xv, .iface ya yv] 246)).heap.size := by simp
     generalize (wr.alloc (.cells #[.int .i64 nq.place, .iface xa xv, .iface ya yv] 246)) = W at *
     generalize wr.heap.size = wz at *
     have m0 : W.cell? ⟨w.heap.size, 0, none⟩ = some (.slice ma mn mc) := (uh MBX).cell rfl
     have ml := (uh MBX).lt
     obtain ⟨y0, y1, y2⟩ := (uh YBX).three
     have yl := (uh YBX).lt
     obtain ⟨z0, z1, z2⟩ := (uh RBX).three
     have zl := (uh RBX).lt
     obtain ⟨q0, q1, q2⟩ := (uh LBX).three
     have ql := (uh LBX).lt
     have szX := (uh HBX).size
     cases hh : hangsP ts (needsP ts t r yq) (t.name, r.name)
     ·rw [hh] at hR
      have HH := hide hh
      have HR2 := hide hR
      clear hh hR
      go_region_held3 (fun w' => w'.cell? ⟨w.heap.size, 0, none⟩ = some (.slice ma mn mc) ∧ w'.cell? ⟨w.heap.size + 1, 0, none⟩ = some (.int .i64 t.place) ∧ w'.cell? ⟨w.heap.size + 1, 1, none⟩ = some (.string t.name) ∧ w'.cell? ⟨w.heap.size + 1, 2, none⟩ = some (.slice va vn vc) ∧ w'.cell? ⟨w.heap.size + 2, 0, none⟩ = some (.int .i64 r.place) ∧ w'.cell? ⟨w.heap.size + 2, 1, none⟩ = some (.string r.name) ∧ w'.cell? ⟨w.heap.size + 2, 2, none⟩ = some (.iface ra rv) ∧ w'.cell? ⟨wz, 2, none⟩ = some (.iface ya yv)) (go_keep)
       (first
       | (go_at_call 177; refine (needs_any b _ ts tl t _ rl r _ yq _ _ ((uh HMX).below (Below.refl _ _).drew) ((uh HTX).below (Below.refl _ _).drew) ((uh HXX).but (But.refl _ _).drew) (uh HMEM) ((uh HYX).but (But.refl _ _).drew) (by omega)).mono ?_; rintro e w3 ⟨sv3, rfl, hb3, hrs⟩; have BW3 := hide ((Below.refl _ W).drew.trans hb3); have N3 := hide (show RepSp W.heap.size w3 sv3 (needsP ts t r yq) from hrs); clear hb3 hrs; obtain ⟨na, nc, rfl⟩ := (uh N3).form; have a0 : w3.cell? ⟨w.heap.size, 0, none⟩ = some (.slice ma mn mc) := ((uh MBX).below (uh BW3)).cell rfl; obtain ⟨a1, a2, a3⟩ := ((uh YBX).below (uh BW3)).three; obtain ⟨a4, a5, a6⟩ := ((uh RBX).below (uh BW3)).three; obtain ⟨a7, a8, a9⟩ := ((uh LBX).below (uh BW3)).three)
       | (go_at_call 151; refine (reached_any b W.heap.size _ ts tl _ _ _ ((uh HMX).below (uh BW3)) (uh N3).1 (uh BW3).size (by have := uh HUL _ hnl; omega)).mono ?_; rintro e w4 ⟨v4, rfl, hb4, _, ho4⟩; have BW4 := hide ((uh BW3).trans hb4); have O4 := hide ho4; clear hb4 ho4; obtain ⟨oa4, oc4, rfl⟩ := own_form (uh O4); have b0 : w4.cell? ⟨w.heap.size, 0, none⟩ = some (.slice ma mn mc) := ((uh MBX).below (uh BW4)).cell rfl; obtain ⟨b1, b2, b3⟩ := ((uh YBX).below (uh BW4)).three; obtain ⟨b4, b5, b6⟩ := ((uh RBX).below (uh BW4)).three; obtain ⟨b7, b8, b9⟩ := ((uh LBX).below (uh BW4)).three)
       | (go_at_call 176; refine (containsSp _ _ _ (t.name, r.name) _ (by have := uh HUL _ hnl; have := reached_len ts (needsP ts t r yq); omega) (uh O4)).mono ?_; rintro e w5 ⟨he, hb5⟩; rw [show ((reachedP ts (needsP ts t r yq)).any fun y => eqSp (t.name, r.name) y) = _ from uh HH] at he; subst he; have BW5 := hide ((uh BW4).trans (hb5.mono (uh BW4).size)); clear hb5; have c0 : w5.cell? ⟨w.heap.size, 0, none⟩ = some (.slice ma mn mc) := ((uh MBX).below (uh BW5)).cell rfl; obtain ⟨c1, c2, c3⟩ := ((uh YBX).below (uh BW5)).three; obtain ⟨c4, c5, c6⟩ := ((uh RBX).below (uh BW5)).three; obtain ⟨c7, c8, c9⟩ := ((uh LBX).below (uh BW5)).three))
      go_wp2
      go_roundw
      case rel => exact ⟨k + 1, by omega, by go_num, (uh HBX).trans ((uh BW5).mono szX), by simpa using HR2⟩
      case measure => simp [intOf]; omega
     ·rw [hh] at hR
      have HH := hide hh
      have HR2 := hide hR
      clear hh hR
      go_region_held3 (fun w' => w'.cell? ⟨w.heap.size, 0, none⟩ = some (.slice ma mn mc) ∧ w'.cell? ⟨w.heap.size + 1, 0, none⟩ = some (.int .i64 t.place) ∧ w'.cell? ⟨w.heap.size + 1, 1, none⟩ = some (.string t.name) ∧ w'.cell? ⟨w.heap.size + 1, 2, none⟩ = some (.slice va vn vc) ∧ w'.cell? ⟨w.heap.size + 2, 0, none⟩ = some (.int .i64 r.place) ∧ w'.cell? ⟨w.heap.size + 2, 1, none⟩ = some (.string r.name) ∧ w'.cell? ⟨w.heap.size + 2, 2, none⟩ = some (.iface ra rv) ∧ w'.cell? ⟨wz, 2, none⟩ = some (.iface ya yv)) (go_keep)
       (first
       | (go_at_call 177; refine (needs_any b _ ts tl t _ rl r _ yq _ _ ((uh HMX).below (Below.refl _ _).drew) ((uh HTX).below (Below.refl _ _).drew) ((uh HXX).but (But.refl _ _).drew) (uh HMEM) ((uh HYX).but (But.refl _ _).drew) (by omega)).mono ?_; rintro e w3 ⟨sv3, rfl, hb3, hrs⟩; have BW3 := hide ((Below.refl _ W).drew.trans hb3); have N3 := hide (show RepSp W.heap.size w3 sv3 (needsP ts t r yq) from hrs); clear hb3 hrs; obtain ⟨na, nc, rfl⟩ := (uh N3).form; have a0 : w3.cell? ⟨w.heap.size, 0, none⟩ = some (.slice ma mn mc) := ((uh MBX).below (uh BW3)).cell rfl; obtain ⟨a1, a2, a3⟩ := ((uh YBX).below (uh BW3)).three; obtain ⟨a4, a5, a6⟩ := ((uh RBX).below (uh BW3)).three; obtain ⟨a7, a8, a9⟩ := ((uh LBX).below (uh BW3)).three)
       | (go_at_call 151; refine (reached_any b W.heap.size _ ts tl _ _ _ ((uh HMX).below (uh BW3)) (uh N3).1 (uh BW3).size (by have := uh HUL _ hnl; omega)).mono ?_; rintro e w4 ⟨v4, rfl, hb4, _, ho4⟩; have BW4 := hide ((uh BW3).trans hb4); have O4 := hide ho4; clear hb4 ho4; obtain ⟨oa4, oc4, rfl⟩ := own_form (uh O4); have b0 : w4.cell? ⟨w.heap.size, 0, none⟩ = some (.slice ma mn mc) := ((uh MBX).below (uh BW4)).cell rfl; obtain ⟨b1, b2, b3⟩ := ((uh YBX).below (uh BW4)).three; obtain ⟨b4, b5, b6⟩ := ((uh RBX).below (uh BW4)).three; obtain ⟨b7, b8, b9⟩ := ((uh LBX).below (uh BW4)).three)
       | (go_at_call 176; refine (containsSp _ _ _ (t.name, r.name) _ (by have := uh HUL _ hnl; have := reached_len ts (needsP ts t r yq); omega) (uh O4)).mono ?_; rintro e w5 ⟨he, hb5⟩; rw [show ((reachedP ts (needsP ts t r yq)).any fun y => eqSp (t.name, r.name) y) = _ from uh HH] at he; subst he; have BW5 := hide ((uh BW4).trans (hb5.mono (uh BW4).size)); clear hb5; have c0 : w5.cell? ⟨w.heap.size, 0, none⟩ = some (.slice ma mn mc) := ((uh MBX).below (uh BW5)).cell rfl; obtain ⟨c1, c2, c3⟩ := ((uh YBX).below (uh BW5)).three; obtain ⟨c4, c5, c6⟩ := ((uh RBX).below (uh BW5)).three; obtain ⟨c7, c8, c9⟩ := ((uh LBX).below (uh BW5)).three))
      go_wp2_with (go_at_call 73; refine (wrap_err _ 6 _).mono ?_; rintro e w5 ⟨rfl, rfl⟩)
      go_ret
      rw [← uh HR2]
      exact ⟨rfl, (uh B2).trans (((uh HBX).trans ((uh BW5).mono szX)).mono sz2)⟩
    ·have HR2 := hide (show ((partsE r.body).drop (k + 1)).findSome? (loopN ts t r) = R from by simpa [loopN, htt] using hR)
     clear hR
     rcases tyOf_cases nq.kind with htt' | htt' | htt'
     ·rw [htt'] at kc
      clear htt htt'
      go_wp2
      go_roundw
      case rel => exact ⟨k + 1, by omega, by go_num, uh HB, HR2⟩
      case measure => simp [intOf]; omega
     ·rw [htt'] at kc
      clear htt htt'
      go_wp2
      go_roundw
      case rel => exact ⟨k + 1, by omega, by go_num, uh HB, HR2⟩
      case measure => simp [intOf]; omega
     ·exact absurd htt' htt
   | ⟨nq, none, rq⟩, hrep, hR, hin =>
    have HR2 := hide (show ((partsE r.body).drop (k + 1)).findSome? (loopN ts t r) = R from by simpa [loopN] using hR)
    clear hR hin
    rcases hrep with ⟨hkd, gv, hv, hrow⟩ | ⟨hkd, hv⟩ | ⟨hkd, hv⟩
    ·subst hv
     clear hrow
     go_wp2
     go_roundw
     case rel => exact ⟨k + 1, by omega, by go_num, uh HB, HR2⟩
     case measure => simp [intOf]; omega
    ·subst hv
     go_wp2
     go_roundw
     case rel => exact ⟨k + 1, by omega, by go_num, uh HB, HR2⟩
     case measure => simp [intOf]; omega
    ·subst hv
     go_wp2
     go_roundw
     case rel => exact ⟨k + 1, by omega, by go_num, uh HB, HR2⟩
     case measure => simp [intOf]; omega
   | ⟨nq, some xq, none⟩, hrep, hR, hin => exact hrep.elim
  ·have hR := uh HQ
   rw [List.drop_of_length_le (by omega)] at hR
   have hkn : ¬ ((k : Int) < ((partsE r.body).length : Int)) := by omega
   have HR2 := hide hR
   clear hbr hR
   go_wp2
   go_ret
   rw [← uh HR2]
   exact ⟨rfl, (uh B2).trans ((uh HB).mono sz2)⟩
end Go.Proofs.YtlbpnlngckgcbaaGreatDoor
