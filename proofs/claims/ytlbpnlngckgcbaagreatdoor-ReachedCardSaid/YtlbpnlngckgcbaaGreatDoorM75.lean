import Derived.Test.YtlbpnlngckgcbaaGreatDoorM74
import Derived.Test.YtlbpnlngckgcbaaGreatDoorRows
import Derived.Test.YtlbpnlngckgcbaaGreatDoorTie
import Derived.Test.YtlbpnlngckgcbaaGreatDoorCards
set_option linter.all false
set_option maxHeartbeats 20000000
set_option maxRecDepth 100000
namespace Go.Proofs.YtlbpnlngckgcbaaGreatDoor
open Go.RowKit Go.PlainAid
theorem gr_last : Io 3 0 0 = ⟨#[100, 111, 99, 58, 100, 48, 35, 111, 119, 110, 101, 114, 64, 117, 115, 101, 114, 58, 117, 48]⟩ := by kernel_rfl
theorem us_last : gQ 0 = ⟨#[117, 115, 101, 114, 58, 117, 48]⟩ ∧ gQ 1 = ⟨#[117, 115, 101, 114, 58, 117, 49]⟩ ∧ ib 0 = ⟨#[100, 111, 99, 58, 100, 48]⟩ := ⟨by kernel_rfl, by kernel_rfl, by kernel_rfl⟩
theorem dn_last : DnI [Io 3 0 0] := ⟨fun t ht => by rw [List.mem_singleton] at ht; subst ht; exact Ha (by omega) (by omega) (by omega), by simp, by simp⟩
theorem reached_law (v : Value) (n : Nat) (w : World) (h : JY w v n) (hn : n ≤ 4398046511104) (hE : yN w) :
    Calls Tryz.prog 9 #[v] w fun e w' => e = .returned (.bool true) ∧ Below w.heap.size w w' := by
  have hv : ∃ a c, v = .slice a n c ∧ (0 < n → ∃ ad, a = some ad) := by
    rcases h with ⟨rfl, rfl⟩ | ⟨ad, c, z, rfl, h1, _⟩
    · exact ⟨_, _, rfl, by omega⟩
    · exact ⟨_, _, rfl, fun _ => ⟨_, rfl⟩⟩
  obtain ⟨ra, rc, rfl, hra⟩ := hv
  obtain ⟨ts, ht⟩ := Ng
  have hlt := hE.lt
  have C1 := ae (EH pM ts ht.read w hE.laid)
  unfold pM at C1
  have HR := ae h
  have HRA := ae hra
  have HE := ae hE
  have HT := ae ht
  clear h hra hE ht
  go_enter Tryz.func9, Tryz.ntmps9
  go_wp2_with fail
  refine (aa C1).mono ?_
  rintro e w1 ⟨mv, lv, x, rfl, hu, hb1, hx⟩
  have HS := ae (show EP w.heap.size w1 x ts (([] : List ByteArray).map tt) from ⟨mv, lv, _, hu, fun k hk => by
    rcases hk with rfl | ⟨_, _, e⟩
    · exact hx
    · cases e⟩)
  have MN := ae hb1
  clear hu hb1 C1 hx
  go_wp2_with fail
  go_loopw [4, 5] (fun u4 u5 wr => ∃ (i : Nat) (ss : List ByteArray), u5 = .int .i64 i ∧ i ≤ n ∧ Below w.heap.size w wr ∧ EP w.heap.size wr x ts (ss.map tt) ∧ wr.ownsRow w.heap.size 9 1 u4 ss.length (jZ ss) ∧ Hid (DnI ss)) (fun _ u5 _ => n - (intOf u5).toNat)
  case atStart => exact ⟨0, [], rfl, by omega, aa MN, aa HS, World.ownsRow_nil _ _ _ _, ae ⟨(fun _ h => by cases h), by simp, by simp⟩⟩
  case round =>
    obtain ⟨i, ss0, rfl, hi, hb, hS, hrow, HI0⟩ := hrel
    obtain ⟨va, vc, rfl⟩ := ak hrow
    by_cases hit : i < n
    · have hin : (i : Int) < (n : Int) := by omega
      obtain ⟨ad, rfl⟩ := aa HRA (by omega)
      obtain ⟨o, PT, z0, z1, z2, z3⟩ := (aa HR).cell (Below.refl _ w) hit
      have x0 := af z0 hb
      have x1 := af z1 hb
      have x2 := af z2 hb
      have x3 := af z3 hb
      clear z0 z1 z2 z3
      have CD := ae (doneQ_any w.heap.size x o _ ts ss0 wr PT hS ((aa HE).below hb hlt) hlt hb.size (aa HT) hrow (aa HI0))
      have HB := ae hb
      clear hb hS hrow PT MN HS
      go_wp2_with fail
      refine (aa CD).mono ?_
      rintro e w2 ⟨v2, ss, rfl, hb2, hS2, hr2, hi2⟩
      have iK := ae ((aa HB).trans hb2)
      have Ih := ae hS2
      have bP := ae hr2
      have HI := ae hi2
      have CRzq := ae (reckonQ v2 ss w2 gr_qc (pl_qc hr2 hi2.len))
      clear hb2 hS2 hr2 hi2 CD HB x0 x1 x2 x3 HI0
      go_upto_region 12 with fail
      go_cut [54] (fun s wx => (∃ b : Bool, s = .bool b) ∧ wx = w2)
      case first =>
        by_cases h7 : i % 8 = 7
        · have e7 : (i : Int) % 8 = 7 := by omega
          have e8 : ((i : Int) % 8 == 7) = true := by simp [e7]
          have e9 : ((i : Int) % 8 != 7) = false := by simp [e7]
          go_wp2
          go_meet
          case rel => exact ⟨⟨_, rfl⟩, rfl⟩
        · have e7 : ¬ ((i : Int) % 8 = 7) := by omega
          have e8 : ((i : Int) % 8 == 7) = false := by simp [e7]
          have e9 : ((i : Int) % 8 != 7) = true := by simp [e7]
          go_wp2
          go_meet
          case rel => exact ⟨⟨_, rfl⟩, rfl⟩
      case rest =>
        obtain ⟨⟨b, rfl⟩, hwc⟩ := hcut
        subst hwc
        cases b
        · go_wp2_with fail
          refine (aa CRzq).mono ?_
          rintro e w3 ⟨rfl, hb3, hX⟩
          generalize hgw : wc.heap.size = gw at *
          rw [← hgw] at hb3
          have ww := ae ((aa iK).trans (hb3.mono (by have := (aa iK).size; omega)))
          have zJ := ae ((aa Ih).below hb3)
          have gD := ae (aF (aa bP) hb3)
          have XW := ae hX
          clear hb3 hX CRzq iK Ih bP hgw
          go_wp2_with fail
          go_loopw [9] (fun u wr => ∃ k : Nat, u = .int .i64 k ∧ k ≤ 4 ∧ Below w3.heap.size w3 wr) (fun u _ => 4 - (intOf u).toNat)
          case atStart => exact ⟨0, rfl, by omega, Below.refl _ _⟩
          case round =>
            obtain ⟨k, rfl, hk, hbk⟩ := hrel
            by_cases hk4 : k < 4
            · have hkn : (k : Int) < 4 := by omega
              obtain ⟨Wk, hWk⟩ : ∃ z, z = wr := ⟨_, rfl⟩
              subst hWk
              have HBk := ae hbk
              have HSk := ae ((aa zJ).below hbk)
              have HEk := ae ((aa HE).below ((aa ww).trans (hbk.mono (aa ww).size)) hlt)
              have XK := ae ((aa XW).below hbk)
              have hgk := (aa XK).lt
              clear hbk
              go_wp2_with fail
              go_loopw [11] (fun u wj => ∃ j : Nat, u = .int .i64 j ∧ j ≤ 4 ∧ Below Wk.heap.size Wk wj ∧ BkF wj Wk.heap.size 4 (fillF (fun j => viewX ss k j) j) 53) (fun u _ => 4 - (intOf u).toNat)
              case atStart => exact ⟨0, rfl, by omega, (Below.refl _ Wk).alloc (Nat.le_refl _) _, ag.new Wk _ _⟩
              case round =>
                obtain ⟨j, rfl, hj, hbj, hmj⟩ := hrel
                have XJ := ae ((aa XK).below hbj)
                by_cases NM : j < 4
                · have hjn : (j : Int) < 4 := by omega
                  have c1 := (aa XJ).cell (i := 32 + k) (by omega)
                  rw [wF_allof (by omega) (by omega)] at c1
                  have c2 := (aa XJ).cell (i := 16 + k * 4 + j) (by omega)
                  rw [show wFzq ss 16 0 4 4 16 16 0 (16 + k * 4 + j) = edX ss k j from by rw [show 16 + k * 4 + j = 16 + (k * 4 + j) by omega]; exact wF_edof NM hk4] at c2
                  have c3 := (aa XJ).cell (i := 40 + k * 4 + j) (by omega)
                  rw [show wFzq ss 16 0 4 4 16 16 0 (40 + k * 4 + j) = banX ss k j from by rw [show 40 + k * 4 + j = 40 + (k * 4 + j) by omega]; exact wF_banof NM hk4] at c3
                  have c4 := hmj.cell (i := j) NM
                  generalize fillF (fun j => viewX ss k j) j j = o at c4
                  have fz := hmj.fz
                  have HNJ := ae (show ∀ X : Bool, X = ((hdB ss 6 k 0 || edX ss k j) && !banX ss k j) → BkF (wr.setCell ⟨Wk.heap.size, j, none⟩ (.bool X)) Wk.heap.size 4 (fillF (fun j => viewX ss k j) (j + 1)) 53 from fun X hX => by
                    subst hX
                    have := hmj.set j ((fun j => viewX ss k j) j)
                    rw [fill_step] at this
                    exact this)
                  have HSJ := ae (fun X : Bool => hbj.setCell (p := ⟨Wk.heap.size, j, none⟩) (Nat.le_refl _) (.bool X))
                  generalize hdB ss 6 k 0 = a at *
                  generalize edX ss k j = e at *
                  generalize banX ss k j = b at *
                  clear hbj hmj XJ
                  cases a
                  · cases e
                    all_goals (
                      go_wp2
                      go_roundw
                      case rel => exact ⟨j + 1, by go_num, by omega, aa HSJ _, aa HNJ _ rfl⟩
                      case measure => simp [intOf]; omega)
                  · go_wp2
                    go_roundw
                    case rel => exact ⟨j + 1, by go_num, by omega, aa HSJ _, aa HNJ _ rfl⟩
                    case measure => simp [intOf]; omega
                · obtain rfl : j = 4 := by omega
                  have hjn : ¬ ((4 : Int) < 4) := by omega
                  obtain ⟨Wj, hWj⟩ : ∃ z, z = wr := ⟨_, rfl⟩
                  subst hWj
                  have HV := ae (hmj.congr (f' := fun j => viewX ss k j) (fun q hq => by unfold fillF; rw [if_pos hq]))
                  have HJ := ae hbj
                  have HSj := ae ((aa HSk).below hbj)
                  have HEj := ae ((aa HEk).below hbj (aa HEk).lt)
                  have c0 := (aa XJ).cell (i := k * 4) (by omega)
                  rw [show wFzq ss 16 0 4 4 16 16 0 (k * 4) = memX ss k 0 from wF_memof (j := 0) (by omega) hk4] at c0
                  have c1 := (aa XJ).cell (i := k * 4 + 1) (by omega)
                  rw [wF_memof (by omega) hk4] at c1
                  have c2 := (aa XJ).cell (i := k * 4 + 2) (by omega)
                  rw [wF_memof (by omega) hk4] at c2
                  have c3 := (aa XJ).cell (i := k * 4 + 3) (by omega)
                  rw [wF_memof (by omega) hk4] at c3
                  have CG := ae (fun w' => rU k (show k < 10 by omega) w')
                  have CT := ae (tl_mem (aa HSj) (aa HEj) (aa HT) (aa HI) hk4)
                  unfold BQ at CT
                  generalize memX ss k 0 = m0 at *
                  generalize memX ss k 1 = m1 at *
                  generalize memX ss k 2 = m2 at *
                  generalize memX ss k 3 = m3 at *
                  have BR := ae (Below.refl Wj.heap.size Wj)
                  clear hbj hmj
                  go_wp2_with fail
                  go_region_held3 (fun w' => w'.cell? ⟨gw, k * 4, none⟩ = some (.bool m0) ∧ w'.cell? ⟨gw, k * 4 + 1, none⟩ = some (.bool m1) ∧ w'.cell? ⟨gw, k * 4 + 2, none⟩ = some (.bool m2) ∧ w'.cell? ⟨gw, k * 4 + 3, none⟩ = some (.bool m3)) (go_keep)
                    ((first | (go_at_call 23; refine (aa CT _ (show Below Wj.heap.size Wj _ from (by with_reducible repeat (first|exact aa BR|refine Below.drew ?_|(refine Below.setCell ?_ ?_ _;rotate_left;exact (by first|omega|(simp;omega)|simp))|(refine Below.alloc ?_ ?_ _;rotate_left;exact (by first|omega|(simp;omega)|simp)))))).mono ?_; rintro e w5 ⟨rfl, gF⟩; have BB := ae (Below.trans (a := Wj) (B := Wj.heap.size) (show Below Wj.heap.size Wj _ from (by with_reducible repeat (first|exact aa BR|refine Below.drew ?_|(refine Below.setCell ?_ ?_ _;rotate_left;exact (by first|omega|(simp;omega)|simp))|(refine Below.alloc ?_ ?_ _;rotate_left;exact (by first|omega|(simp;omega)|simp))))) (gF.mono (by first | omega | (simp; omega) | simp))); have d0 := af c0 (aa BB); have d1 := af c1 (aa BB); have d2 := af c2 (aa BB); have d3 := af c3 (aa BB); clear gF) | (go_at_call 24; refine (aa CG _).mono ?_; rintro e w4 ⟨rfl, rfl⟩)))
                  clear c0 c1 c2 c3 d0 d1 d2 d3 CT BR
                  have X5 := ae ((aa XJ).below (aa BB))
                  have V5 := ae ((aa HV).below (aa BB))
                  have S5 := ae ((aa HSj).below (aa BB))
                  have E5zq := ae ((aa HEj).below (aa BB) (aa HEj).lt)
                  have L5 := ae ((aa HBk).trans ((aa HJ).mono (aa HBk).size))
                  have M5zq := ae ((aa L5).trans ((aa BB).mono (aa L5).size))
                  have CD := ae (fun w' => nV k (show k < 10 by omega) w')
                  clear XJ HV HSj HEj HJ BB L5 HBk HSk HEk XK
                  have c0 := (aa X5).cell (i := 16 + k * 4) (by omega)
                  rw [show wFzq ss 16 0 4 4 16 16 0 (16 + k * 4) = edX ss k 0 from wF_edof (j := 0) (by omega) hk4] at c0
                  have c1 := (aa X5).cell (i := 16 + k * 4 + 1) (by omega)
                  rw [show wFzq ss 16 0 4 4 16 16 0 (16 + k * 4 + 1) = edX ss k 1 from by rw [show 16 + k * 4 + 1 = 16 + (k * 4 + 1) by omega]; exact wF_edof (by omega) hk4] at c1
                  have c2 := (aa X5).cell (i := 16 + k * 4 + 2) (by omega)
                  rw [show wFzq ss 16 0 4 4 16 16 0 (16 + k * 4 + 2) = edX ss k 2 from by rw [show 16 + k * 4 + 2 = 16 + (k * 4 + 2) by omega]; exact wF_edof (by omega) hk4] at c2
                  have c3 := (aa X5).cell (i := 16 + k * 4 + 3) (by omega)
                  rw [show wFzq ss 16 0 4 4 16 16 0 (16 + k * 4 + 3) = edX ss k 3 from by rw [show 16 + k * 4 + 3 = 16 + (k * 4 + 3) by omega]; exact wF_edof (by omega) hk4] at c3
                  have CT := ae (tl_ed (aa S5) (aa E5zq) (aa HT) (aa HI) hk4)
                  unfold dM at CT
                  generalize edX ss k 0 = m0 at *
                  generalize edX ss k 1 = m1 at *
                  generalize edX ss k 2 = m2 at *
                  generalize edX ss k 3 = m3 at *
                  have BR := ae (Below.refl w5.heap.size w5)
                  go_wp2_with fail
                  go_region_held3 (fun w' => w'.cell? ⟨gw, 16 + k * 4, none⟩ = some (.bool m0) ∧ w'.cell? ⟨gw, 16 + k * 4 + 1, none⟩ = some (.bool m1) ∧ w'.cell? ⟨gw, 16 + k * 4 + 2, none⟩ = some (.bool m2) ∧ w'.cell? ⟨gw, 16 + k * 4 + 3, none⟩ = some (.bool m3)) (go_keep)
                    ((first | (go_at_call 23; refine (aa CT _ (show Below w5.heap.size w5 _ from (by with_reducible repeat (first|exact aa BR|refine Below.drew ?_|(refine Below.setCell ?_ ?_ _;rotate_left;exact (by first|omega|(simp;omega)|simp))|(refine Below.alloc ?_ ?_ _;rotate_left;exact (by first|omega|(simp;omega)|simp)))))).mono ?_; rintro e w6 ⟨rfl, gF⟩; have B6 := ae (Below.trans (a := w5) (B := w5.heap.size) (show Below w5.heap.size w5 _ from (by with_reducible repeat (first|exact aa BR|refine Below.drew ?_|(refine Below.setCell ?_ ?_ _;rotate_left;exact (by first|omega|(simp;omega)|simp))|(refine Below.alloc ?_ ?_ _;rotate_left;exact (by first|omega|(simp;omega)|simp))))) (gF.mono (by first | omega | (simp; omega) | simp))); have d0 := af c0 (aa B6); have d1 := af c1 (aa B6); have d2 := af c2 (aa B6); have d3 := af c3 (aa B6); clear gF) | (go_at_call 25; refine (aa CD _).mono ?_; rintro e w4 ⟨rfl, rfl⟩)))
                  clear c0 c1 c2 c3 d0 d1 d2 d3 CT BR
                  have X6 := ae ((aa X5).below (aa B6))
                  have V6 := ae ((aa V5).below (aa B6))
                  have S6 := ae ((aa S5).below (aa B6))
                  have E6 := ae ((aa E5zq).below (aa B6) (aa E5zq).lt)
                  have M6zq := ae ((aa M5zq).trans ((aa B6).mono (aa M5zq).size))
                  clear X5 V5 S5 E5zq M5zq B6
                  have c0 := (aa V6).cell (i := 0) (by omega)
                  have c1 := (aa V6).cell (i := 1) (by omega)
                  have c2 := (aa V6).cell (i := 2) (by omega)
                  have c3 := (aa V6).cell (i := 3) (by omega)
                  have CT := ae (tl_view (aa S6) (aa E6) (aa HT) (aa HI) hk4)
                  unfold vS at CT
                  generalize viewX ss k 0 = m0 at *
                  generalize viewX ss k 1 = m1 at *
                  generalize viewX ss k 2 = m2 at *
                  generalize viewX ss k 3 = m3 at *
                  have BR := ae (Below.refl w6.heap.size w6)
                  go_wp2_with fail
                  go_region_held3 (fun w' => w'.cell? ⟨Wk.heap.size, 0, none⟩ = some (.bool m0) ∧ w'.cell? ⟨Wk.heap.size, 1, none⟩ = some (.bool m1) ∧ w'.cell? ⟨Wk.heap.size, 2, none⟩ = some (.bool m2) ∧ w'.cell? ⟨Wk.heap.size, 3, none⟩ = some (.bool m3)) (go_keep)
                    ((first | (go_at_call 23; refine (aa CT _ (show Below w6.heap.size w6 _ from (by with_reducible repeat (first|exact aa BR|refine Below.drew ?_|(refine Below.setCell ?_ ?_ _;rotate_left;exact (by first|omega|(simp;omega)|simp))|(refine Below.alloc ?_ ?_ _;rotate_left;exact (by first|omega|(simp;omega)|simp)))))).mono ?_; rintro e w7 ⟨rfl, gF⟩; have B7 := ae (Below.trans (a := w6) (B := w6.heap.size) (show Below w6.heap.size w6 _ from (by with_reducible repeat (first|exact aa BR|refine Below.drew ?_|(refine Below.setCell ?_ ?_ _;rotate_left;exact (by first|omega|(simp;omega)|simp))|(refine Below.alloc ?_ ?_ _;rotate_left;exact (by first|omega|(simp;omega)|simp))))) (gF.mono (by first | omega | (simp; omega) | simp))); have d0 := af c0 (aa B7); have d1 := af c1 (aa B7); have d2 := af c2 (aa B7); have d3 := af c3 (aa B7); clear gF) | (go_at_call 25; refine (aa CD _).mono ?_; rintro e w4 ⟨rfl, rfl⟩)))
                  clear c0 c1 c2 c3 d0 d1 d2 d3 CT BR
                  have X7 := ae ((aa X6).below (aa B7))
                  have M7zq := ae ((aa M6zq).trans ((aa B7).mono (aa M6zq).size))
                  have CN := ae (rc_new ((aa S6).below (aa B7)) ((aa E6).below (aa B7) (aa E6).lt) (aa HT) (aa HI) hk4 w7 (Below.refl _ _))
                  unfold vS at CN
                  clear X6 V6 S6 E6 M6zq B7
                  go_wp2_with fail
                  refine (aa CD _).mono ?_
                  rintro e w8 ⟨rfl, uB⟩
                  rw [uB]
                  clear uB w8
                  go_wp2_with fail
                  refine (aa CN).mono ?_
                  rintro e w8 ⟨rfl, PO⟩
                  have M8zq := ae ((aa M7zq).trans (PO.mono (aa M7zq).size))
                  have X8 := ae ((aa X7).below PO)
                  have a1 := (aa X8).cell (i := 32 + k) (by omega)
                  rw [wF_allof (by omega) (by omega)] at a1
                  have a2 := (aa X8).cell (i := 36 + k) (by omega)
                  rw [wF_noneof (by omega) (by omega)] at a2
                  generalize hdB ss 6 k 0 = a at *
                  generalize hdB ss 7 k 0 = b at *
                  clear PO CN X7 M7zq X8
                  cases a
                  · go_wp2_with fail
                    go_roundw
                    case rel => first | exact ⟨k + 1, by go_num, by omega, aa M8zq⟩ | ((repeat apply Exists.intro); exact ⟨⟨k + 1, by go_num, by omega, aa M8zq⟩, rfl⟩)
                    case measure => simp [intOf]; omega
                  · cases b
                    all_goals (
                      go_wp2_with fail
                      go_roundw
                      case rel => first | exact ⟨k + 1, by go_num, by omega, aa M8zq⟩ | ((repeat apply Exists.intro); exact ⟨⟨k + 1, by go_num, by omega, aa M8zq⟩, rfl⟩)
                      case measure => simp [intOf]; omega)
            · obtain rfl : k = 4 := by omega
              have hkn : ¬ ((4 : Int) < 4) := by omega
              have HB9 := ae ((aa ww).trans (hbk.mono (aa ww).size))
              have HS9 := ae ((aa zJ).below hbk)
              have HR9 := ae (aF (aa gD) hbk)
              clear hbk
              go_wp2_with fail
              exact ⟨⟨i + 1, ss, by go_num, by omega, aa HB9, aa HS9, aa HR9, HI⟩, by simp [intOf]; omega⟩
        · go_wp2_with fail
          exact ⟨⟨i + 1, ss, by go_num, by omega, aa iK, aa Ih, aa bP, HI⟩, by simp [intOf]; omega⟩
    · have hin : ¬ ((i : Int) < (n : Int)) := by omega
      have CL := ae (J6 hS ((aa HE).below hb hlt) (aa HT))
      unfold pM at CL
      have HB := ae hb
      clear hb hS hrow MN HS HI0
      go_wp2_with fail
      refine (aa CL).mono ?_
      rintro e w2 ⟨rfl, hs2, hb2, hk2⟩
      have iK := ae ((aa HB).trans hb2)
      have CW := ae (show Calls Tryz.prog 28 #[.pointer (some ⟨x, 0, none⟩), .string ⟨#[100, 111, 99, 58, 100, 48, 35, 111, 119, 110, 101, 114, 64, 117, 115, 101, 114, 58, 117, 48]⟩] w2 _ from by
        have := md_new (ss := []) (s := Io 3 0 0) hs2 ((aa HE).below (aa iK) hlt) (aa HT) (fun _ h => by cases h) (gr_two dn_last.gr _ (List.mem_singleton.2 rfl)) (by simp) (by simp)
        rw [← gr_last]
        exact this)
      clear hs2 hb2 hk2 CL HB
      go_wp2_with fail
      refine (aa CW).mono ?_
      rintro e w3 ⟨rfl, hs3, hb3, hk3⟩
      have ww := ae ((aa iK).trans hb3)
      have zJ := ae (show EP w.heap.size w3 x ts (([Io 3 0 0] : List ByteArray).map tt) from hs3)
      have HE3 := ae ((aa HE).below (aa ww) hlt)
      have K0 := ae (show Calls Tryz.prog 26 #[.pointer (some ⟨x, 0, none⟩), .string ⟨#[100, 111, 99, 58, 100, 48]⟩, .string ⟨#[118, 105, 101, 119, 101, 114]⟩, .string ⟨#[117, 115, 101, 114, 58, 117, 48]⟩] w3 (fun e w'' => e = .returned (.tuple #[.bool true, .int .i64 0]) ∧ Below w3.heap.size w3 w'') from by
        have := rc_view (aa zJ) (aa HE3) (aa HT) dn_last (k := 0) (by omega) 0 (by omega) w3 (Below.refl _ _)
        rw [last_yes, us_last.1, us_last.2.2] at this
        exact this)
      have K1 := ae (show ∀ w', Below w3.heap.size w3 w' → Calls Tryz.prog 26 #[.pointer (some ⟨x, 0, none⟩), .string ⟨#[100, 111, 99, 58, 100, 48]⟩, .string ⟨#[118, 105, 101, 119, 101, 114]⟩, .string ⟨#[117, 115, 101, 114, 58, 117, 49]⟩] w' (fun e w'' => e = .returned (.tuple #[.bool false, .int .i64 0]) ∧ Below w'.heap.size w' w'') from fun w' hw => by
        have := rc_view (aa zJ) (aa HE3) (aa HT) dn_last (k := 0) (by omega) 1 (by omega) w' hw
        rw [last_no, us_last.2.1, us_last.2.2] at this
        exact this)
      clear hs3 hb3 hk3 CW iK zJ HE3
      go_wp2_with fail
      refine (aa K0).mono ?_
      rintro e w4 ⟨rfl, hb4⟩
      have wy := ae ((aa ww).trans (hb4.mono (aa ww).size))
      have K2 := ae (aa K1 w4 hb4)
      clear hb4 K0 K1
      go_wp2_with fail
      refine (aa K2).mono ?_
      rintro e w5 ⟨rfl, gF⟩
      have Qn := ae ((aa wy).trans (gF.mono (aa wy).size))
      clear gF K2
      go_wp2
      go_ret
      exact ⟨rfl, aa Qn⟩
end Go.Proofs.YtlbpnlngckgcbaaGreatDoor

namespace Go.Proofs.YtlbpnlngckgcbaaGreatDoor
open Go.ChangeShapes Go.WideShapes Go.RowKit
theorem qOwn : ownKnob Tryz.prog.godebug = none := by kernel_rfl
theorem qVar : Tryz.prog.globalNamed "errors.errorType" = some 0 := by kernel_rfl
theorem qRt : (Tryz.prog.cutTypes.find? (·.1 == "internal/reflectlite.rtype")).map (·.2) = some 325 := by kernel_rfl
theorem qSize : Tryz.prog.types.size = 445 := by kernel_rfl
theorem qOne : ((List.range 445).filter fun t => Tryz.prog.rowNamed t [101, 114, 114, 111, 114]) = [77] := by kernel_rfl
theorem qLaid : laidOutB Tryz.prog = true := by kernel_rfl
theorem KQ : Tryz.prog.globals.size = 5 := by kernel_rfl
theorem qFour : ((begin Tryz.prog (fun _ _ => 0) default).world.heap[4]?).bind Obj.row? = some ((((begin Tryz.prog (fun _ _ => 0) default).world.heap[4]?).bind Obj.row?).getD (#[], 0)) := by kernel_rfl
theorem vY {H : Type} {enc : TypeId × Value → H} {a : Assume} {C : Checked} {os : Os} {f : FuncId} {fn : Func} {s : ChangeSpec} {conds : List PathCond} {apart fresh handsOn again : Bool} {X : World → Array Value → Prop}
    (hX : ∀ (w w' : World) (args : Array Value), w.heap = w'.heap → X w args → X w' args)
    (own : ownKnob C.prog.godebug = none) (started : os.Started) (noInit : C.prog.inits.idxOf? f = none) (hfn : C.prog.funcs[f]? = some fn)
    (witness : ∃ (w : World) (tape : Tape) (i : Input), w.os = os ∧ (w.forCall tape i).Shaped C.prog ∧ i.vars = [] ∧ Input.okWide C.prog (w.forCall tape i) .any w.heap.size f i ∧
      ((s.pre enc C.prog fn conds apart (w.forCall tape i).memory i.args ∧ X (w.forCall tape i).memory i.args) ∧ sizedMet enc C.prog fn (OpenSpec.ofChange s) apart (w.forCall tape i).memory i.args) ∧ a.holds C.prog (lone (Frame.enter C.prog f i.args .normal) [] (w.forCall tape i)))
    (contract : ∀ (W : World) (base : Nat) (args : Array Value) (ds gs : List (DataW H)) (before : List MemPlace),
      (∀ (j : Nat) t v, fn.params[j]? = some t → args[j]? = some v → Value.okWide C.prog W .any base t v) →
      DataW.Whole enc C.prog fn.params.toList s.vars apart W args.toList ds gs before →
      conds.all (PathCond.test C.prog ⟨fn.params.toList, ds, s.plain.varTypes C.prog, gs⟩) = true →
      (DataW.weightsEach C.prog (fn.params.toList ++ s.plain.varTypes C.prog) (ds ++ gs)).all (· ≤ reachBytes) = true → W.ShapedOpen C.prog → X W args →
      a.holds C.prog (lone (Frame.enter C.prog f args .normal) [] W) →
      Calls C.prog f args W fun e W' => ∃ v, e = .returned v ∧ s.post enc C.prog fn apart fresh handsOn again W args v W') :
    ReturnsInHanded a C os f .any (fun w args => (s.pre enc C.prog fn conds apart w args ∧ X w args) ∧ sizedMet enc C.prog fn (OpenSpec.ofChange s) apart w args) (s.post enc C.prog fn apart fresh handsOn again) := by
  refine returnsInHanded_of_calls own started noInit witness ?_
  intro w tape i _ hsh _ hok hpre hholds
  obtain ⟨_, _, _, fn', hfn', _, _, _, _, hval⟩ := hok
  have e : fn' = fn := Option.some.inj (hfn'.symm.trans hfn)
  subst e
  obtain ⟨⟨⟨ds, gs, before, hw, hc⟩, hx⟩, hz⟩ := hpre
  have hw' := DataW.Whole.of_heap (w' := w.forCall tape i) (by rfl) hw
  refine (contract (w.forCall tape i) w.heap.size i.args ds gs before hval hw' hc (hz.weights hw) hsh (hX _ _ _ (by rfl) hx) hholds).mono fun e W' ⟨v, he, hp⟩ => ?_
  subst he
  exact ChangeSpec.post_blind hp
theorem env_reached {W : World} (h : laidMetH Tryz.prog Rows.reachedRow.laid W) (hs : W.ShapedOpen Tryz.prog) : yN W := by
  have h' : laidMet Tryz.prog [] W ∧ handlesMet Tryz.prog Rows.reachedRow.laid W := h
  refine ⟨?_, ?_, ?_⟩
  · obtain ⟨name, u, ty, e1, e2, e3, e4, e5⟩ := h'.2 _ (List.mem_singleton.2 rfl)
    have en : name = [101, 114, 114, 111, 114] := (Option.some.inj e1).symm
    subst en
    obtain rfl := Option.some.inj (qRt.symm.trans e2)
    have hm : ty ∈ (List.range 445).filter fun t => Tryz.prog.rowNamed t [101, 114, 114, 111, 114] := List.mem_filter.2 ⟨List.mem_range.2 (by rw [← qSize]; exact e3), e4⟩
    rw [qOne] at hm
    obtain rfl := List.mem_singleton.1 hm
    have hh : typeHandle Tryz.prog 77 = .pointer (some ⟨5, 77, none⟩) := by kernel_rfl
    rw [hh] at e5
    unfold Laid
    simpa using World.var?_cell qVar e5 0
  · exact cell_of_shapedOpen_int (t := 3) (zero := #[.int .i64 0]) (k := .i64) hs (by rw [KQ]; decide) (by kernel_rfl) rfl (by kernel_rfl) (by kernel_rfl) Tryz.underlying3
  · obtain ⟨cs, hc, _⟩ := hs.1 4 _ _ (by rw [KQ]; decide) qFour
    exact lt_of_some hc
theorem met_reached (os : Os) (args : Array Value) : laidMetH Tryz.prog Rows.reachedRow.laid ((World.doorLaid Tryz.prog 31 os).forCall (fun _ _ => 0) ⟨#[], args, []⟩).memory :=
  laidMetH_of_parts (laidMet_nil _ _) (by kernel_rfl)
theorem lifted_reached (os : Os) (started : os.Started) (H : Type) (enc : TypeId × Value → H) :
    ReturnsInHanded {} Tryz.checked os 9 .any (fun w args => (Rows.reachedSpec.pre enc Tryz.prog Tryz.f9 [] false w args ∧ laidMetH Tryz.prog Rows.reachedRow.laid w) ∧ sizedMet enc Tryz.prog Tryz.f9 (OpenSpec.ofChange Rows.reachedSpec) false w args)
      (Rows.reachedSpec.post enc Tryz.prog Tryz.f9 false true false false) := by
  refine vY (C := Tryz.checked) (X := fun w _ => laidMetH Tryz.prog Rows.reachedRow.laid w) (fun _ _ _ hh h => h.of_heap hh) qOwn started (by kernel_rfl) Tryz.func9
    (ChangeSpec.witness_shaped (enc := enc) (C := Tryz.checked) (os := os) (X := fun w _ => laidMetH Tryz.prog Rows.reachedRow.laid w) false (World.doorLaid Tryz.prog 31 os) #[.slice none 0 0] 8 rfl (World.shaped_of_RefB (by kernel_rfl) (by kernel_rfl)) (by kernel_rfl) (by kernel_rfl) (by kernel_rfl) (met_reached os _)) ?_
  intro W base args ds gs before KR hW _ hwt hsh hL _
  have hval : ∀ (j : Nat) t v, Tryz.f9.params[j]? = some t → args[j]? = some v → Value.okWide Tryz.prog W .any base t v := KR
  have hW' := hW
  obtain ⟨p, q, hA0, hV0, rfl, hfz, hnd⟩ := hW
  have hA : DataW.TrodAll enc Tryz.prog W 0 (fun _ => true) true Tryz.f9.params.toList args.toList ds p := hA0
  have hV : DataW.TrodVars enc Tryz.prog W (fun _ => true) [] gs q := hV0
  rw [Tryz.params9] at hA hval
  obtain ⟨v0, vs0, d0, ds0, p0, q0, hargs, rfl, rfl, h0, r0⟩ := trodAll_cons hA
  obtain ⟨rfl, rfl, rfl⟩ := trodAll_nil r0
  obtain rfl : args = #[v0] := by cases args; simp_all
  have hE := env_reached hL hsh
  obtain ⟨rfl, rfl⟩ : gs = [] ∧ q = [] := by
    cases gs with
    | nil => exact ⟨rfl, hV⟩
    | cons g r => exact absurd hV (by intro h; cases h)
  obtain ⟨a0, len, cap, rfl⟩ := okWide_slice Tryz.underlying44 (hval 0 44 v0 rfl rfl)
  clear hA0 KR
  simp only [List.append_nil] at hW' hwt
  obtain ⟨n, hraw, hlt, hd⟩ := J4 h0
  have hn : n ≤ 4398046511104 := by
    rcases hd with ⟨_, rfl⟩ | ⟨el, sp, rfl, rfl⟩
    · omega
    · have hb : (el.length + sp.length) * Tryz.prog.bytesOf 50 ≤ reachBytes := sized_slice (j := 0) (t := 44) hwt (by
        show (Tryz.f9.params.toList ++ [])[0]? = _
        rw [Tryz.params9]
        rfl) rfl Tryz.underlying44
      rw [J3] at hb
      have : reachBytes = 140737488351232 := rfl
      omega
  refine (reached_law _ n W hraw hn hE).mono fun e W' ⟨he, hb⟩ => ?_
  subst he
  exact ⟨_, rfl, _, _, _, [], p0, [], hW', trodAll_mk1 (shut_bool Tryz.underlying4 true), by
    have := trodAll_cons_mk (Below.trod qLaid (by kernel_rfl) (of_decide_eq_true (by kernel_rfl)) h0 hb hlt) trodAll_mk0
    simp only [List.append_nil] at this
    exact this, rfl, hb.frame _, fun h => by cases h⟩
theorem cf1_reached : (Rows.reachedRow.inPlace == Tryz.prog.inPlace 9) = true := by kernel_rfl
theorem cf2_reached : (Rows.reachedRow.unfollowed == Tryz.prog.unfollowed 9) = true := by kernel_rfl
theorem cf3_reached : (Rows.reachedRow.recurses == Tryz.prog.recurses 9) = true := by kernel_rfl
theorem cf4_reached : (Rows.reachedRow.named == Tryz.prog.varsNamed 9) = true := by kernel_rfl
theorem cf_reached : joinedFacts Tryz.prog 9 Tryz.f9 Rows.reachedSpec Rows.reachedRow = true := by
  unfold joinedFacts
  rw [cf1_reached, cf2_reached, cf3_reached, cf4_reached]
  kernel_rfl
theorem reached_row : Rows.ReachedSaid :=
  OpenClaim.holds_of_wide 9 Tryz.f9 rfl rfl rfl rfl rfl rfl rfl ⟨rfl, rfl, rfl, rfl, rfl⟩ rfl rfl rfl rfl rfl (by kernel_rfl) Tryz.func9 cf_reached
    (of_decide_eq_true (by kernel_rfl)) (by unfold Func.isWrapper; rw [if_neg (of_decide_eq_false (by kernel_rfl))]; exact ⟨rfl, rfl⟩)
    (fun os started H enc _ => lifted_reached os started H enc)
theorem reached_card : Rows.ReachedCardSaid :=
  Claim7.holds_tied_plain_at .later [] [.handle] true (true, "fd20d6c549d17d85a810cd82a604e0c889f018ff3c871702bc764961d7eacfa8") true
    reached_row (fun _ h => by cases h) (by kernel_rfl) (fun _ h => by cases h) reached_row_tie rfl ⟨rfl, rfl⟩ (by kernel_rfl) rfl
    (fun f fn hf hfn => by
      obtain rfl : f = 9 := Option.some.inj ((show Tryz.prog.funcNamed Tryz.f9.name = some 9 by kernel_rfl).symm.trans hf) |>.symm
      obtain rfl : fn = Tryz.f9 := (Option.some.inj (Tryz.func9.symm.trans hfn)).symm
      exact ⟨by kernel_rfl, fun j t ht => by
        rw [Tryz.params9] at ht
        have h3 : t = 44 := by
          rcases j with _ | j
          · simpa using ht.symm
          · simp at ht
        rw [h3]
        exact (show Tryz.prog.wantsStandIn 44 = false by kernel_rfl)⟩)
    (by kernel_rfl)
#print axioms reached_card
end Go.Proofs.YtlbpnlngckgcbaaGreatDoor

