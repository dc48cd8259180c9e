import Derived.Test.YtlbpnlngckgcbaaGreatDoorM21
namespace Go.Proofs.YtlbpnlngckgcbaaGreatDoor
open Go.RowKit Go.PlainAid
set_option linter.unusedSimpArgs false
set_option linter.unusedVariables false
/-! P5: what the document's model writes of parts that are joined. -/
def sBar : ByteArray := ⟨#[32, 124, 32]⟩
def barW (s : ByteArray) (i : Nat) : ByteArray := if 0 < i then s ++ sBar else s
def someW (W : Nat → Bool → Bool → ByteArray) : List Nat → Nat → ByteArray → ByteArray
 | [], _, s => s
 | m :: ms, i, s => someW W ms (i + 1) (barW s i ++ W m false false)
def signW (s : ByteArray) (i : Nat) (t : Tk) : ByteArray := if 0 < i then ((s ++ sg 32) ++ mk t.text) ++ sg 32 else s
def chW (W : Nat → Bool → Bool → ByteArray) : List Nat → List Tk → Nat → ByteArray → ByteArray
 | m :: ms, t :: ts, i, s => chW W ms ts (i + 1) (signW s i t ++ W m true (decide (0 < i)))
 | _, _, _, s => s
def brW (c : Bool) (s : ByteArray) : ByteArray := if c then (sg 40 ++ s) ++ sg 41 else s
theorem barW_le (s : ByteArray) (i : Nat) : s.size ≤ (barW s i).size := by
 unfold barW
 split
 ·rw [bsize_app]; omega
 ·omega
theorem signW_le (s : ByteArray) (i : Nat) (t : Tk) : s.size ≤ (signW s i t).size ∧ (0 < i → s.size + (mk t.text).size + 2 ≤ (signW s i t).size) := by
 have e1 : (sg 32).size = 1 := rfl
 unfold signW
 split
 ·rw [bsize_app, bsize_app, bsize_app]; omega
 ·omega
theorem someW_le (W : Nat → Bool → Bool → ByteArray) : ∀ (l : List Nat) (i : Nat) (s : ByteArray), s.size ≤ (someW W l i s).size
 | [], _, s => Nat.le_refl _
 | m :: l, i, s => by
  have h1 := someW_le W l (i + 1) (barW s i ++ W m false false)
  have h2 := barW_le s i
  rw [bsize_app] at h1
  rw [someW]
  omega
theorem chW_le (W : Nat → Bool → Bool → ByteArray) : ∀ (l : List Nat) (ts : List Tk) (i : Nat) (s : ByteArray), s.size ≤ (chW W l ts i s).size
 | m :: l, t :: ts, i, s => by
  have h1 := chW_le W l ts (i + 1) (signW s i t ++ W m true (decide (0 < i)))
  have h2 := (signW_le s i t).1
  rw [bsize_app] at h1
  rw [chW]
  omega
 | [], _, _, s => by unfold chW; exact Nat.le_refl _
 | _ :: _, [], _, s => by unfold chW; exact Nat.le_refl _
set_option maxHeartbeats 2000000 in
set_option maxRecDepth 100000 in
theorem rwritten_some (pl : List PV) (n : Nat) (p : PV) (hp : pl[n]? = some p) (hk : p.kind = 5) (W : Nat → Bool → Bool → ByteArray) (hW : ∀ m ∈ p.ps, WrN pl m (W m)) (hs : (someW W p.ps 0 em).size ≤ 100000) (hgl : p.ps.length ≤ 1000) : WrN pl n (fun u _ => brW u (someW W p.ps 0 em)) := by
 intro u d b kv rv pv kl rl l w h
 obtain ⟨g, c, ga, gc, pa, pc, sa, sc, rfl, hr, k0, k1, k2, k3, k4, k5, k6, k7⟩ := h.pat n p hp
 have c7 := h.c7
 have hn := (List.getElem?_eq_some_iff.1 hp).1
 have hpn := h.pn
 have hn' : (n : Int) < (pl.length : Int) := by omega
 have h1b : ((p.kind : Int) == 1) = false := by rw [hk]; rfl
 have h2b : ((p.kind : Int) == 2) = false := by rw [hk]; rfl
 have h3b : ((p.kind : Int) == 3) = false := by rw [hk]; rfl
 have h4b : ((p.kind : Int) == 4) = false := by rw [hk]; rfl
 have h5b : ((p.kind : Int) == 5) = true := by rw [hk]; rfl
 have glt := lt_of_cell k0
 have HKI := hide (show (p.kind : Int) = 5 from by rw [hk]; rfl)
 have HD := hide h
 generalize hR : someW W p.ps 0 em = R at *
 have RP := hide hr.p
 have HW := hide hW
 have HR := hide (show someW W (p.ps.drop 0) 0 em = R from hR)
 have B0 := hide (show Below w.heap.size w (w.alloc (.cells #[.int .i64 p.kind, .slice ga p.gs.length gc, .string p.nb, .string p.nr, .int .i64 p.pa, .int .i64 p.pr, .slice pa p.ps.length pc, .slice sa p.sg.length sc] 255)) from (Below.refl _ w).alloc (Nat.le_refl _) _)
 have PB0 := hide (Blk.new w #[.int .i64 p.kind, .slice ga p.gs.length gc, .string p.nb, .string p.nr, .int .i64 p.pa, .int .i64 p.pr, .slice pa p.ps.length pc, .slice sa p.sg.length sc] 255)
 clear h hr hp hk hR hW
 go_enter Tryz.func81, Tryz.ntmps81
 go_wp2_with fail
 clear k0 k1 k2 k3 k4 k5 k6 k7 c7 h1b h2b h3b h4b h5b
 go_loopw [10, 12] (fun u10 u12 wr => ∃ (k : Nat) (s : ByteArray), k ≤ p.ps.length ∧ u12 = .int .i64 k ∧ u10 = .string s ∧ Below w.heap.size w wr ∧ Blk wr w.heap.size #[.int .i64 p.kind, .slice ga p.gs.length gc, .string p.nb, .string p.nr, .int .i64 p.pa, .int .i64 p.pr, .slice pa p.ps.length pc, .slice sa p.sg.length sc] 255 ∧ Hid (someW W (p.ps.drop k) k s = R)) (fun _ u12 _ => p.ps.length - (intOf u12).toNat)
 case atStart => exact ⟨0, em, by omega, rfl, rfl, uh B0, uh PB0, HR⟩
 case round =>
  clear B0 PB0 HR
  obtain ⟨k, s, hk1, rfl, rfl, hb, hpb, HF⟩ := hrel
  have HB := hide hb
  have HPB := hide hpb
  obtain ⟨p0, p1, p2, p3, p4, p5, p6, p7⟩ := hpb.eight
  rw [uh HKI] at p0
  have hwr := hb.size
  have plt := hpb.lt
  have hsz := someW_le W (p.ps.drop k) k s
  rw [uh HF] at hsz
  by_cases hlt : k < p.ps.length
  ·obtain ⟨q, cq, e1, kc⟩ := own_cell (row_below (uh RP) hb) k (.int .i64 (p.ps[k] : Nat)) (by simp [List.getElem?_eq_getElem hlt])
   simp only [Value.slice.injEq, true_and] at e1
   obtain ⟨rfl, rfl⟩ := e1
   have hq := uh HF
   rw [List.drop_eq_getElem_cons hlt, someW] at hq
   have hcm := uh HW _ (List.getElem_mem hlt)
   generalize p.ps[k] = m at *
   have hkn : (k : Int) < (p.ps.length : Int) := by omega
   have hs1 := someW_le W (p.ps.drop (k + 1)) (k + 1) (barW s k ++ W m false false)
   rw [hq, bsize_app] at hs1
   have hs2 := barW_le s k
   have hs3 : s.size + (W m false false).size ≤ 100000 := by omega
   have C := hide (hcm false false b kv rv _ kl rl l wr.drew ((uh HD).below hb.drew))
   generalize W m false false = x at *
   have HQ2 := hide hq
   clear hb hpb HF hq hs1 hs2 hcm
   by_cases hk0 : 0 < k
   ·have hk0' : (0 : Int) < (k : Int) := by omega
    have HQ3 := hide (uh HQ2)
    rw [show barW s k = s ++ sBar from if_pos hk0] at HQ3
    clear HQ2
    go_wp2_with fail
    refine wp_region_held_drew (S := fun w' => w'.cell? ⟨w.heap.size, 0, none⟩ = some (.int .i64 5) ∧ w'.cell? ⟨w.heap.size, 6, none⟩ = some (.slice (some ⟨q, 0, none⟩) p.ps.length pc) ∧ w'.cell? ⟨q, k, none⟩ = some (.int .i64 m)) (by kernel_rfl) (by go_keep) (fun hHeld => ?_)
    refine wpAnyH_take (i := 0) (v := ?v0x) rfl (by kernel_rfl) (by kernel_rfl) (by kernel_rfl) (fun _ _ _ h => h) (Or.inl ⟨by rfl, ?hy0x⟩) (by assumption) ?_
    case hy0x => (intro w' hSw; (try dsimp only at hSw); go_simp) <;> with_reducible rfl
    simp only [Act.put, List.setIfInBounds_toArray, List.set_cons_zero, List.set_cons_succ, List.getElem_toArray, List.getElem_cons_zero, List.getElem_cons_succ]
    refine wpAnyH_take (i := 1) (v := ?v1x) rfl (by kernel_rfl) (by kernel_rfl) (by kernel_rfl) (fun _ _ _ h => h) (Or.inl ⟨by rfl, ?hy1x⟩) (by assumption) ?_
    case hy1x => (intro w' hSw; (try dsimp only at hSw); go_simp) <;> with_reducible rfl
    simp only [Act.put, List.setIfInBounds_toArray, List.set_cons_zero, List.set_cons_succ, List.getElem_toArray, List.getElem_cons_zero, List.getElem_cons_succ]
    refine wpAnyH_take (i := 2) (v := ?v2x) rfl (by kernel_rfl) (by kernel_rfl) (by kernel_rfl) (fun _ _ _ h => h) (Or.inl ⟨by rfl, ?hy2x⟩) (by assumption) ?_
    case hy2x => (intro w' hSw; (try dsimp only at hSw); go_simp) <;> with_reducible rfl
    simp only [Act.put, List.setIfInBounds_toArray, List.set_cons_zero, List.set_cons_succ, List.getElem_toArray, List.getElem_cons_zero, List.getElem_cons_succ]
    refine wpAnyH_take (i := 3) (v := ?v3x) rfl (by kernel_rfl) (by kernel_rfl) (by kernel_rfl) (fun _ _ _ h => h) (Or.inl ⟨by rfl, ?hy3x⟩) (by assumption) ?_
    case hy3x => (intro w' hSw; (try dsimp only at hSw); go_simp) <;> with_reducible rfl
    simp only [Act.put, List.setIfInBounds_toArray, List.set_cons_zero, List.set_cons_succ, List.getElem_toArray, List.getElem_cons_zero, List.getElem_cons_succ]
    refine wpAnyH_take (i := 4) (v := ?v4x) rfl (by kernel_rfl) (by kernel_rfl) (by kernel_rfl) (fun _ _ _ h => h) (Or.inl ⟨by rfl, ?hy4x⟩) (by assumption) ?_
    case hy4x => (intro w' hSw; (try dsimp only at hSw); go_simp) <;> with_reducible rfl
    simp only [Act.put, List.setIfInBounds_toArray, List.set_cons_zero, List.set_cons_succ, List.getElem_toArray, List.getElem_cons_zero, List.getElem_cons_succ]
    refine wpAnyH_take (i := 5) (v := ?v5x) rfl (by kernel_rfl) (by kernel_rfl) (by kernel_rfl) (fun _ _ _ h => h) (Or.inl ⟨by rfl, ?hy5x⟩) (by assumption) ?_
    case hy5x => (intro w' hSw; (try dsimp only at hSw); go_simp) <;> with_reducible rfl
    simp only [Act.put, List.setIfInBounds_toArray, List.set_cons_zero, List.set_cons_succ, List.getElem_toArray, List.getElem_cons_zero, List.getElem_cons_succ]
    refine wpAnyH_take (i := 6) (v := ?v6x) rfl (by kernel_rfl) (by kernel_rfl) (by kernel_rfl) (fun _ _ _ h => h) (Or.inl ⟨by rfl, ?hy6x⟩) (by assumption) ?_
    case hy6x => (intro w' hSw; (try dsimp only at hSw); go_simp) <;> with_reducible rfl
    simp only [Act.put, List.setIfInBounds_toArray, List.set_cons_zero, List.set_cons_succ, List.getElem_toArray, List.getElem_cons_zero, List.getElem_cons_succ]
    refine wpAnyH_take (i := 7) (v := ?v7x) rfl (by kernel_rfl) (by kernel_rfl) (by kernel_rfl) (fun _ _ _ h => h) (Or.inl ⟨by rfl, ?hy7x⟩) (by assumption) ?_
    case hy7x => (intro w' hSw; (try dsimp only at hSw); go_simp) <;> with_reducible rfl
    simp only [Act.put, List.setIfInBounds_toArray, List.set_cons_zero, List.set_cons_succ, List.getElem_toArray, List.getElem_cons_zero, List.getElem_cons_succ]
    refine wpAnyH_take (i := 8) (v := ?v8x) rfl (by kernel_rfl) (by kernel_rfl) (by kernel_rfl) (fun _ _ _ h => h) (Or.inl ⟨by rfl, ?hy8x⟩) (by assumption) ?_
    case hy8x => (intro w' hSw; (try dsimp only at hSw); go_simp) <;> with_reducible rfl
    simp only [Act.put, List.setIfInBounds_toArray, List.set_cons_zero, List.set_cons_succ, List.getElem_toArray, List.getElem_cons_zero, List.getElem_cons_succ]
    refine wpAnyH_take (i := 9) (v := ?v9x) rfl (by kernel_rfl) (by kernel_rfl) (by kernel_rfl) (fun _ _ _ h => h) (Or.inl ⟨by rfl, ?hy9x⟩) (by assumption) ?_
    case hy9x => (intro w' hSw; (try dsimp only at hSw); go_simp) <;> with_reducible rfl
    simp only [Act.put, List.setIfInBounds_toArray, List.set_cons_zero, List.set_cons_succ, List.getElem_toArray, List.getElem_cons_zero, List.getElem_cons_succ]
    refine wpAnyH_take (i := 10) (v := ?v10x) rfl (by kernel_rfl) (by kernel_rfl) (by kernel_rfl) (fun _ _ _ h => h) (Or.inl ⟨by rfl, ?hy10x⟩) (by assumption) ?_
    case hy10x => (intro w' hSw; (try dsimp only at hSw); go_simp) <;> with_reducible rfl
    simp only [Act.put, List.setIfInBounds_toArray, List.set_cons_zero, List.set_cons_succ, List.getElem_toArray, List.getElem_cons_zero, List.getElem_cons_succ]
    refine wpAnyH_take (i := 11) (v := ?v11x) rfl (by kernel_rfl) (by kernel_rfl) (by kernel_rfl) (fun _ _ _ h => h) (Or.inl ⟨by rfl, ?hy11x⟩) (by assumption) ?_
    case hy11x => (intro w' hSw; (try dsimp only at hSw); go_simp) <;> with_reducible rfl
    simp only [Act.put, List.setIfInBounds_toArray, List.set_cons_zero, List.set_cons_succ, List.getElem_toArray, List.getElem_cons_zero, List.getElem_cons_succ]
    refine wpAnyH_take (i := 12) (v := ?v12x) rfl (by kernel_rfl) (by kernel_rfl) (by kernel_rfl) (fun _ _ _ h => h) (Or.inl ⟨by rfl, ?hy12x⟩) (by assumption) ?_
    case hy12x => (intro w' hSw; (try dsimp only at hSw); go_simp) <;> with_reducible rfl
    simp only [Act.put, List.setIfInBounds_toArray, List.set_cons_zero, List.set_cons_succ, List.getElem_toArray, List.getElem_cons_zero, List.getElem_cons_succ]
    refine wpAnyH_take (i := 13) (v := undef) rfl (by kernel_rfl) (by kernel_rfl) (by kernel_rfl) (fun _ _ _ h => h) (Or.inr ⟨by rfl, rfl⟩) (by assumption) ?_
    simp only [Act.put, List.setIfInBounds_toArray, List.set_cons_zero, List.set_cons_succ, List.getElem_toArray, List.getElem_cons_zero, List.getElem_cons_succ]
    refine wpAnyH_take (i := 14) (v := undef) rfl (by kernel_rfl) (by kernel_rfl) (by kernel_rfl) (fun _ _ _ h => h) (Or.inr ⟨by rfl, rfl⟩) (by assumption) ?_
    simp only [Act.put, List.setIfInBounds_toArray, List.set_cons_zero, List.set_cons_succ, List.getElem_toArray, List.getElem_cons_zero, List.getElem_cons_succ]
    refine wpAnyH_take (i := 15) (v := ?v15x) rfl (by kernel_rfl) (by kernel_rfl) (by kernel_rfl) (fun _ _ _ h => h) (Or.inl ⟨by rfl, ?hy15x⟩) (by assumption) ?_
    case hy15x => (intro w' hSw; (try dsimp only at hSw); go_simp) <;> with_reducible rfl
    simp only [Act.put, List.setIfInBounds_toArray, List.set_cons_zero, List.set_cons_succ, List.getElem_toArray, List.getElem_cons_zero, List.getElem_cons_succ]
    refine wpAnyH_ready (rs := [16]) (by kernel_rfl) (by simp) ?_
    refine AllReadyH.cons rfl (fun K hK => ?_) AllReadyH.nil
    go_simp
    refine (uh C).mono ?_
    rintro e w1 ⟨rfl, hb1⟩
    have BB := hide (show Below wr.heap.size wr w1 from (Below.refl _ wr).drew.trans hb1)
    have d0 := cell_below p0 (uh BB)
    have d1 := cell_below p6 (uh BB)
    have d2 := cell_below kc (uh BB)
    clear hb1
    refine hK.out _ _ ⟨d0, d1, d2⟩ (fun hHeld2 => ?_)
    clear hK K hHeld
    try simp only [Act.put, List.setIfInBounds_toArray, List.set_cons_zero, List.set_cons_succ, List.getElem_toArray, List.getElem_cons_zero, List.getElem_cons_succ]
    refine wpAnyH_take (i := 17) (v := ?v17x) rfl (by kernel_rfl) (by kernel_rfl) (by kernel_rfl) (fun _ _ _ h => h) (Or.inl ⟨by rfl, ?hy17x⟩) (by assumption) ?_
    case hy17x => (intro w' hSw; (try dsimp only at hSw); go_simp) <;> with_reducible rfl
    simp only [Act.put, List.setIfInBounds_toArray, List.set_cons_zero, List.set_cons_succ, List.getElem_toArray, List.getElem_cons_zero, List.getElem_cons_succ]
    refine wpAnyH_done (by kernel_rfl) ?_ _
    clear hHeld2
    have B1 := hide ((uh HB).trans ((uh BB).mono hwr))
    have PB1 := hide ((uh HPB).below (uh BB))
    clear C HB HPB p0 p1 p2 p3 p4 p5 p6 p7 kc d0 d1 d2 BB
    obtain ⟨p0, p1, p2, p3, p4, p5, p6, p7⟩ := (uh PB1).eight
    rw [uh HKI] at p0
    go_wp2
    go_roundw
    case rel => exact ⟨k + 1, _, by omega, by go_num, rfl, uh B1, uh PB1, HQ3⟩
    case measure => simp [intOf]; omega
   ·have hk0' : ¬ ((0 : Int) < (k : Int)) := by omega
    have HQ3 := hide (uh HQ2)
    rw [show barW s k = s from if_neg hk0] at HQ3
    clear HQ2
    go_wp2_with fail
    refine wp_region_held_drew (S := fun w' => w'.cell? ⟨w.heap.size, 0, none⟩ = some (.int .i64 5) ∧ w'.cell? ⟨w.heap.size, 6, none⟩ = some (.slice (some ⟨q, 0, none⟩) p.ps.length pc) ∧ w'.cell? ⟨q, k, none⟩ = some (.int .i64 m)) (by kernel_rfl) (by go_keep) (fun hHeld => ?_)
    refine wpAnyH_take (i := 0) (v := ?v0y) rfl (by kernel_rfl) (by kernel_rfl) (by kernel_rfl) (fun _ _ _ h => h) (Or.inl ⟨by rfl, ?hy0y⟩) (by assumption) ?_
    case hy0y => (intro w' hSw; (try dsimp only at hSw); go_simp) <;> with_reducible rfl
    simp only [Act.put, List.setIfInBounds_toArray, List.set_cons_zero, List.set_cons_succ, List.getElem_toArray, List.getElem_cons_zero, List.getElem_cons_succ]
    refine wpAnyH_take (i := 1) (v := ?v1y) rfl (by kernel_rfl) (by kernel_rfl) (by kernel_rfl) (fun _ _ _ h => h) (Or.inl ⟨by rfl, ?hy1y⟩) (by assumption) ?_
    case hy1y => (intro w' hSw; (try dsimp only at hSw); go_simp) <;> with_reducible rfl
    simp only [Act.put, List.setIfInBounds_toArray, List.set_cons_zero, List.set_cons_succ, List.getElem_toArray, List.getElem_cons_zero, List.getElem_cons_succ]
    refine wpAnyH_take (i := 2) (v := ?v2y) rfl (by kernel_rfl) (by kernel_rfl) (by kernel_rfl) (fun _ _ _ h => h) (Or.inl ⟨by rfl, ?hy2y⟩) (by assumption) ?_
    case hy2y => (intro w' hSw; (try dsimp only at hSw); go_simp) <;> with_reducible rfl
    simp only [Act.put, List.setIfInBounds_toArray, List.set_cons_zero, List.set_cons_succ, List.getElem_toArray, List.getElem_cons_zero, List.getElem_cons_succ]
    refine wpAnyH_take (i := 3) (v := ?v3y) rfl (by kernel_rfl) (by kernel_rfl) (by kernel_rfl) (fun _ _ _ h => h) (Or.inl ⟨by rfl, ?hy3y⟩) (by assumption) ?_
    case hy3y => (intro w' hSw; (try dsimp only at hSw); go_simp) <;> with_reducible rfl
    simp only [Act.put, List.setIfInBounds_toArray, List.set_cons_zero, List.set_cons_succ, List.getElem_toArray, List.getElem_cons_zero, List.getElem_cons_succ]
    refine wpAnyH_take (i := 4) (v := ?v4y) rfl (by kernel_rfl) (by kernel_rfl) (by kernel_rfl) (fun _ _ _ h => h) (Or.inl ⟨by rfl, ?hy4y⟩) (by assumption) ?_
    case hy4y => (intro w' hSw; (try dsimp only at hSw); go_simp) <;> with_reducible rfl
    simp only [Act.put, List.setIfInBounds_toArray, List.set_cons_zero, List.set_cons_succ, List.getElem_toArray, List.getElem_cons_zero, List.getElem_cons_succ]
    refine wpAnyH_take (i := 5) (v := ?v5y) rfl (by kernel_rfl) (by kernel_rfl) (by kernel_rfl) (fun _ _ _ h => h) (Or.inl ⟨by rfl, ?hy5y⟩) (by assumption) ?_
    case hy5y => (intro w' hSw; (try dsimp only at hSw); go_simp) <;> with_reducible rfl
    simp only [Act.put, List.setIfInBounds_toArray, List.set_cons_zero, List.set_cons_succ, List.getElem_toArray, List.getElem_cons_zero, List.getElem_cons_succ]
    refine wpAnyH_take (i := 6) (v := ?v6y) rfl (by kernel_rfl) (by kernel_rfl) (by kernel_rfl) (fun _ _ _ h => h) (Or.inl ⟨by rfl, ?hy6y⟩) (by assumption) ?_
    case hy6y => (intro w' hSw; (try dsimp only at hSw); go_simp) <;> with_reducible rfl
    simp only [Act.put, List.setIfInBounds_toArray, List.set_cons_zero, List.set_cons_succ, List.getElem_toArray, List.getElem_cons_zero, List.getElem_cons_succ]
    refine wpAnyH_take (i := 7) (v := ?v7y) rfl (by kernel_rfl) (by kernel_rfl) (by kernel_rfl) (fun _ _ _ h => h) (Or.inl ⟨by rfl, ?hy7y⟩) (by assumption) ?_
    case hy7y => (intro w' hSw; (try dsimp only at hSw); go_simp) <;> with_reducible rfl
    simp only [Act.put, List.setIfInBounds_toArray, List.set_cons_zero, List.set_cons_succ, List.getElem_toArray, List.getElem_cons_zero, List.getElem_cons_succ]
    refine wpAnyH_take (i := 8) (v := ?v8y) rfl (by kernel_rfl) (by kernel_rfl) (by kernel_rfl) (fun _ _ _ h => h) (Or.inl ⟨by rfl, ?hy8y⟩) (by assumption) ?_
    case hy8y => (intro w' hSw; (try dsimp only at hSw); go_simp) <;> with_reducible rfl
    simp only [Act.put, List.setIfInBounds_toArray, List.set_cons_zero, List.set_cons_succ, List.getElem_toArray, List.getElem_cons_zero, List.getElem_cons_succ]
    refine wpAnyH_take (i := 9) (v := ?v9y) rfl (by kernel_rfl) (by kernel_rfl) (by kernel_rfl) (fun _ _ _ h => h) (Or.inl ⟨by rfl, ?hy9y⟩) (by assumption) ?_
    case hy9y => (intro w' hSw; (try dsimp only at hSw); go_simp) <;> with_reducible rfl
    simp only [Act.put, List.setIfInBounds_toArray, List.set_cons_zero, List.set_cons_succ, List.getElem_toArray, List.getElem_cons_zero, List.getElem_cons_succ]
    refine wpAnyH_take (i := 10) (v := ?v10y) rfl (by kernel_rfl) (by kernel_rfl) (by kernel_rfl) (fun _ _ _ h => h) (Or.inl ⟨by rfl, ?hy10y⟩) (by assumption) ?_
    case hy10y => (intro w' hSw; (try dsimp only at hSw); go_simp) <;> with_reducible rfl
    simp only [Act.put, List.setIfInBounds_toArray, List.set_cons_zero, List.set_cons_succ, List.getElem_toArray, List.getElem_cons_zero, List.getElem_cons_succ]
    refine wpAnyH_take (i := 11) (v := ?v11y) rfl (by kernel_rfl) (by kernel_rfl) (by kernel_rfl) (fun _ _ _ h => h) (Or.inl ⟨by rfl, ?hy11y⟩) (by assumption) ?_
    case hy11y => (intro w' hSw; (try dsimp only at hSw); go_simp) <;> with_reducible rfl
    simp only [Act.put, List.setIfInBounds_toArray, List.set_cons_zero, List.set_cons_succ, List.getElem_toArray, List.getElem_cons_zero, List.getElem_cons_succ]
    refine wpAnyH_take (i := 12) (v := ?v12y) rfl (by kernel_rfl) (by kernel_rfl) (by kernel_rfl) (fun _ _ _ h => h) (Or.inl ⟨by rfl, ?hy12y⟩) (by assumption) ?_
    case hy12y => (intro w' hSw; (try dsimp only at hSw); go_simp) <;> with_reducible rfl
    simp only [Act.put, List.setIfInBounds_toArray, List.set_cons_zero, List.set_cons_succ, List.getElem_toArray, List.getElem_cons_zero, List.getElem_cons_succ]
    refine wpAnyH_take (i := 13) (v := undef) rfl (by kernel_rfl) (by kernel_rfl) (by kernel_rfl) (fun _ _ _ h => h) (Or.inr ⟨by rfl, rfl⟩) (by assumption) ?_
    simp only [Act.put, List.setIfInBounds_toArray, List.set_cons_zero, List.set_cons_succ, List.getElem_toArray, List.getElem_cons_zero, List.getElem_cons_succ]
    refine wpAnyH_take (i := 14) (v := undef) rfl (by kernel_rfl) (by kernel_rfl) (by kernel_rfl) (fun _ _ _ h => h) (Or.inr ⟨by rfl, rfl⟩) (by assumption) ?_
    simp only [Act.put, List.setIfInBounds_toArray, List.set_cons_zero, List.set_cons_succ, List.getElem_toArray, List.getElem_cons_zero, List.getElem_cons_succ]
    refine wpAnyH_take (i := 15) (v := ?v15y) rfl (by kernel_rfl) (by kernel_rfl) (by kernel_rfl) (fun _ _ _ h => h) (Or.inl ⟨by rfl, ?hy15y⟩) (by assumption) ?_
    case hy15y => (intro w' hSw; (try dsimp only at hSw); go_simp) <;> with_reducible rfl
    simp only [Act.put, List.setIfInBounds_toArray, List.set_cons_zero, List.set_cons_succ, List.getElem_toArray, List.getElem_cons_zero, List.getElem_cons_succ]
    refine wpAnyH_ready (rs := [16]) (by kernel_rfl) (by simp) ?_
    refine AllReadyH.cons rfl (fun K hK => ?_) AllReadyH.nil
    go_simp
    refine (uh C).mono ?_
    rintro e w1 ⟨rfl, hb1⟩
    have BB := hide (show Below wr.heap.size wr w1 from (Below.refl _ wr).drew.trans hb1)
    have d0 := cell_below p0 (uh BB)
    have d1 := cell_below p6 (uh BB)
    have d2 := cell_below kc (uh BB)
    clear hb1
    refine hK.out _ _ ⟨d0, d1, d2⟩ (fun hHeld2 => ?_)
    clear hK K hHeld
    try simp only [Act.put, List.setIfInBounds_toArray, List.set_cons_zero, List.set_cons_succ, List.getElem_toArray, List.getElem_cons_zero, List.getElem_cons_succ]
    refine wpAnyH_take (i := 17) (v := ?v17y) rfl (by kernel_rfl) (by kernel_rfl) (by kernel_rfl) (fun _ _ _ h => h) (Or.inl ⟨by rfl, ?hy17y⟩) (by assumption) ?_
    case hy17y => (intro w' hSw; (try dsimp only at hSw); go_simp) <;> with_reducible rfl
    simp only [Act.put, List.setIfInBounds_toArray, List.set_cons_zero, List.set_cons_succ, List.getElem_toArray, List.getElem_cons_zero, List.getElem_cons_succ]
    refine wpAnyH_done (by kernel_rfl) ?_ _
    clear hHeld2
    have B1 := hide ((uh HB).trans ((uh BB).mono hwr))
    have PB1 := hide ((uh HPB).below (uh BB))
    clear C HB HPB p0 p1 p2 p3 p4 p5 p6 p7 kc d0 d1 d2 BB
    obtain ⟨p0, p1, p2, p3, p4, p5, p6, p7⟩ := (uh PB1).eight
    rw [uh HKI] at p0
    go_wp2
    go_roundw
    case rel => exact ⟨k + 1, _, by omega, by go_num, rfl, uh B1, uh PB1, HQ3⟩
    case measure => simp [intOf]; omega
  ·have hkn : ¬ ((k : Int) < (p.ps.length : Int)) := by omega
   have e : s = R := by
    have := uh HF
    rw [List.drop_eq_nil_of_le (by omega), someW] at this
    exact this
   subst e
   clear hb hpb HF hsz
   cases u
   ·go_wp2
    go_ret
    exact ⟨rfl, uh HB⟩
   ·go_wp2
    go_ret
    exact ⟨rfl, uh HB⟩
set_option maxHeartbeats 2000000 in
set_option maxRecDepth 100000 in
theorem rwritten_chain (pl : List PV) (n : Nat) (p : PV) (hp : pl[n]? = some p) (hk : p.kind = 4) (W : Nat → Bool → Bool → ByteArray) (hW : ∀ m ∈ p.ps, WrN pl m (W m)) (hs : (chW W p.ps p.sg 0 em).size ≤ 100000) (hsl : p.sg.length = p.ps.length) (hgl : p.ps.length ≤ 1000) : WrN pl n (fun _ d => brW d (chW W p.ps p.sg 0 em)) := by
 intro u d b kv rv pv kl rl l w h
 obtain ⟨g, c, ga, gc, pa, pc, sa, sc, rfl, hr, k0, k1, k2, k3, k4, k5, k6, k7⟩ := h.pat n p hp
 have c7 := h.c7
 have hn := (List.getElem?_eq_some_iff.1 hp).1
 have hpn := h.pn
 have hn' : (n : Int) < (pl.length : Int) := by omega
 have h1b : ((p.kind : Int) == 1) = false := by rw [hk]; rfl
 have h2b : ((p.kind : Int) == 2) = false := by rw [hk]; rfl
 have h3b : ((p.kind : Int) == 3) = false := by rw [hk]; rfl
 have h4b : ((p.kind : Int) == 4) = true := by rw [hk]; rfl
 have h5b : ((p.kind : Int) == 5) = false := by rw [hk]; rfl
 have glt := lt_of_cell k0
 have HKI := hide (show (p.kind : Int) = 4 from by rw [hk]; rfl)
 have HD := hide h
 generalize hR : chW W p.ps p.sg 0 em = R at *
 have RP := hide hr.p
 have RS := hide hr.s
 have HSL := hide hsl
 have HW := hide hW
 have HR := hide (show chW W (p.ps.drop 0) (p.sg.drop 0) 0 em = R from hR)
 have B0 := hide (show Below w.heap.size w (w.alloc (.cells #[.int .i64 p.kind, .slice ga p.gs.length gc, .string p.nb, .string p.nr, .int .i64 p.pa, .int .i64 p.pr, .slice pa p.ps.length pc, .slice sa p.sg.length sc] 255)) from (Below.refl _ w).alloc (Nat.le_refl _) _)
 have PB0 := hide (Blk.new w #[.int .i64 p.kind, .slice ga p.gs.length gc, .string p.nb, .string p.nr, .int .i64 p.pa, .int .i64 p.pr, .slice pa p.ps.length pc, .slice sa p.sg.length sc] 255)
 clear h hr hp hk hR hW hsl
 go_enter Tryz.func81, Tryz.ntmps81
 go_wp2_with fail
 clear k0 k1 k2 k3 k4 k5 k6 k7 c7 h1b h2b h3b h4b h5b
 go_loopw [10, 12] (fun u10 u12 wr => ∃ (k : Nat) (s : ByteArray), k ≤ p.ps.length ∧ u12 = .int .i64 k ∧ u10 = .string s ∧ Below w.heap.size w wr ∧ Blk wr w.heap.size #[.int .i64 p.kind, .slice ga p.gs.length gc, .string p.nb, .string p.nr, .int .i64 p.pa, .int .i64 p.pr, .slice pa p.ps.length pc, .slice sa p.sg.length sc] 255 ∧ Hid (chW W (p.ps.drop k) (p.sg.drop k) k s = R)) (fun _ u12 _ => p.ps.length - (intOf u12).toNat)
 case atStart => exact ⟨0, em, by omega, rfl, rfl, uh B0, uh PB0, HR⟩
 case round =>
  clear B0 PB0 HR
  obtain ⟨k, s, hk1, rfl, rfl, hb, hpb, HF⟩ := hrel
  have HB := hide hb
  have HPB := hide hpb
  obtain ⟨p0, p1, p2, p3, p4, p5, p6, p7⟩ := hpb.eight
  rw [uh HKI] at p0
  have hwr := hb.size
  have plt := hpb.lt
  have hsz := chW_le W (p.ps.drop k) (p.sg.drop k) k s
  rw [uh HF] at hsz
  by_cases hlt : k < p.ps.length
  ·obtain ⟨q, cq, e1, kc⟩ := own_cell (row_below (uh RP) hb) k (.int .i64 (p.ps[k] : Nat)) (by simp [List.getElem?_eq_getElem hlt])
   simp only [Value.slice.injEq, true_and] at e1
   obtain ⟨rfl, rfl⟩ := e1
   have hlt2 : k < p.sg.length := by have := uh HSL; omega
   obtain ⟨qs, cqs, e1, hcs⟩ := flat_cell tkCells 3 (fun _ => rfl) (row_below (uh RS) hb) k p.sg[k] (List.getElem?_eq_getElem hlt2)
   simp only [Value.slice.injEq, true_and] at e1
   obtain ⟨rfl, rfl⟩ := e1
   have hq := uh HF
   rw [List.drop_eq_getElem_cons hlt, List.drop_eq_getElem_cons hlt2, chW] at hq
   have hcm := uh HW _ (List.getElem_mem hlt)
   generalize p.ps[k] = m at *
   generalize p.sg[k] = t at *
   have s0 : wr.cell? ⟨qs, k * 3, none⟩ = some (.string (mk t.text)) := hcs 0 _ (by omega) rfl
   have hkn2 : (k : Int) < (p.sg.length : Int) := by omega
   have hkn : (k : Int) < (p.ps.length : Int) := by omega
   have hs1 := chW_le W (p.ps.drop (k + 1)) (p.sg.drop (k + 1)) (k + 1) (signW s k t ++ W m true (decide (0 < k)))
   rw [hq] at hs1
   have hs2 := signW_le s k t
   have HQ2 := hide hq
   clear hpb HF hq hcs
   by_cases hk0 : 0 < k
   ·have hk0' : (0 : Int) < (k : Int) := by omega
    have HQ3 := hide (uh HQ2)
    rw [show signW s k t = ((s ++ sg 32) ++ mk t.text) ++ sg 32 from if_pos hk0, decide_eq_true hk0] at HQ3
    have hs4 := hs2.2 hk0
    have hs3 : s.size + (mk t.text).size + (W m true true).size + 2 ≤ 100000 := by
     have h1 := chW_le W (p.ps.drop (k + 1)) (p.sg.drop (k + 1)) (k + 1) (((((s ++ sg 32) ++ mk t.text) ++ sg 32)) ++ W m true true)
     rw [uh HQ3, bsize_app, bsize_app, bsize_app, bsize_app] at h1
     have e1 : (sg 32).size = 1 := rfl
     omega
    have C := hide (hcm true true b kv rv _ kl rl l wr.drew ((uh HD).below (uh HB).drew))
    generalize W m true true = x at *
    clear HQ2 hs1 hs2 hs4 hcm hk0
    go_wp2_with fail
    go_region_held3 (fun w' => w'.cell? ⟨w.heap.size, 0, none⟩ = some (.int .i64 4) ∧ w'.cell? ⟨w.heap.size, 6, none⟩ = some (.slice (some ⟨q, 0, none⟩) p.ps.length pc) ∧ w'.cell? ⟨q, k, none⟩ = some (.int .i64 m)) (go_keep)
     ((go_at_call 81; refine (uh C).mono ?_; rintro e w1 ⟨rfl, hb1⟩; have BB := hide (show Below wr.heap.size wr w1 from (Below.refl _ wr).drew.trans hb1); have d0 := cell_below p0 (uh BB); have d1 := cell_below p6 (uh BB); have d2 := cell_below kc (uh BB); clear hb1))
    have B1 := hide ((uh HB).trans ((uh BB).mono hwr))
    have PB1 := hide ((uh HPB).below (uh BB))
    clear C HB HPB p0 p1 p2 p3 p4 p5 p6 p7 kc d0 d1 d2 BB
    obtain ⟨p0, p1, p2, p3, p4, p5, p6, p7⟩ := (uh PB1).eight
    rw [uh HKI] at p0
    go_wp2
    go_roundw
    case rel => exact ⟨k + 1, _, by omega, by go_num, rfl, uh B1, uh PB1, HQ3⟩
    case measure => simp [intOf]; omega
   ·have hk0' : ¬ ((0 : Int) < (k : Int)) := by omega
    have HQ3 := hide (uh HQ2)
    rw [show signW s k t = s from if_neg hk0, decide_eq_false hk0] at HQ3
    have hs3 : s.size + (W m true false).size ≤ 100000 := by
     have h1 := chW_le W (p.ps.drop (k + 1)) (p.sg.drop (k + 1)) (k + 1) (s ++ W m true false)
     rw [uh HQ3, bsize_app] at h1
     omega
    have C := hide (hcm true false b kv rv _ kl rl l wr.drew ((uh HD).below (uh HB).drew))
    generalize W m true false = x at *
    clear HQ2 hs1 hs2 hcm hk0
    go_wp2_with fail
    go_region_held3 (fun w' => w'.cell? ⟨w.heap.size, 0, none⟩ = some (.int .i64 4) ∧ w'.cell? ⟨w.heap.size, 6, none⟩ = some (.slice (some ⟨q, 0, none⟩) p.ps.length pc) ∧ w'.cell? ⟨q, k, none⟩ = some (.int .i64 m)) (go_keep)
     ((go_at_call 81; refine (uh C).mono ?_; rintro e w1 ⟨rfl, hb1⟩; have BB := hide (show Below wr.heap.size wr w1 from (Below.refl _ wr).drew.trans hb1); have d0 := cell_below p0 (uh BB); have d1 := cell_below p6 (uh BB); have d2 := cell_below kc (uh BB); clear hb1))
    have B1 := hide ((uh HB).trans ((uh BB).mono hwr))
    have PB1 := hide ((uh HPB).below (uh BB))
    clear C HB HPB p0 p1 p2 p3 p4 p5 p6 p7 kc d0 d1 d2 BB
    obtain ⟨p0, p1, p2, p3, p4, p5, p6, p7⟩ := (uh PB1).eight
    rw [uh HKI] at p0
    go_wp2
    go_roundw
    case rel => exact ⟨k + 1, _, by omega, by go_num, rfl, uh B1, uh PB1, HQ3⟩
    case measure => simp [intOf]; omega
  ·have hkn : ¬ ((k : Int) < (p.ps.length : Int)) := by omega
   have e : s = R := by
    have := uh HF
    rw [List.drop_eq_nil_of_le (by omega), List.drop_eq_nil_of_le (by have := uh HSL; omega)] at this
    exact this
   subst e
   clear hb hpb HF hsz
   cases d
   ·go_wp2
    go_ret
    exact ⟨rfl, uh HB⟩
   ·go_wp2
    go_ret
    exact ⟨rfl, uh HB⟩
end Go.Proofs.YtlbpnlngckgcbaaGreatDoor
