import Derived.Test.YtlbpnlngckgcbaaGreatDoorM32
import Derived.Test.YtlbpnlngckgcbaaGreatDoorM23
import Derived.Deep.LoopGhost
namespace Go.Proofs.YtlbpnlngckgcbaaGreatDoor
open Go.RowKit Go.PlainAid
set_option linter.unusedSimpArgs false
set_option linter.unusedVariables false
/-! P4: the relations that all lists of an expression grant; what a part needs. -/
def grP (rl : List RV) (p : PV) : List Nat := p.gs.flatMap (hash1 rl)
set_option maxHeartbeats 2000000 in
set_option maxRecDepth 100000 in
theorem rgranted_any (b : Nat) (kv rv pv : Value) (kl : List (ByteArray × Nat)) (rl : List RV) (pl : List PV) (l : List PX) (n : Nat) (lv : List Nat) (T : List Nat) (w : World) (h : DM w b kv rv pv kl rl pl l) (hL : LeavesC pl n lv) (hll : lv.length ≤ 1000)
  (hlp : ∀ m ∈ lv, ∃ p, pl[m]? = some p ∧ p.gs.length ≤ 1000) (hT : lv.flatMap (atP (grP rl) pl) = T) (hTl : T.length ≤ 1000000000) :
  Calls Tryz.prog 254 #[.pointer (some ⟨b, 5, none⟩), .int .i64 n] w fun e w' => ∃ sv, e = .returned sv ∧ Below w.heap.size w w' ∧ w'.ownsRow w.heap.size 3 1 sv T.length (T.map fun n : Nat => .int .i64 n) := by
 obtain ⟨iI, hi1, hy0, hy1, hy2⟩ := info_parts Tryz.infoInt
 have II := hide hi1
 have IZ0 := hide hy0
 have IZ1 := hide hy1
 have IZ2 := hide hy2
 clear hi1 hy0 hy1 hy2
 have HD := hide h
 have HLP := hide hlp
 have HT := hide hT
 have hrn := h.rn
 have hpn := h.pn
 have C := hide (hL b kv rv pv kl rl l w h)
 clear h hL hlp hT
 go_enter Tryz.func254, Tryz.ntmps254
 go_wp2_with fail
 refine (uh C).mono ?_
 rintro e w1 ⟨sv, rfl, hb1, hs1⟩
 obtain ⟨la, lc, rfl⟩ := own_form hs1
 have B1 := hide hb1
 have sz1 := hb1.size
 have HS1 := hide hs1
 clear hb1 hs1 C
 go_wp2_with fail
 go_loopw [5, 7] (fun u7 u9 wr => ∃ (i : Nat) (fv : List Nat) (fa : Option Addr) (fc : Nat), i ≤ lv.length ∧ u9 = .int .i64 i ∧ u7 = .slice fa fv.length fc ∧ Below w.heap.size w wr ∧ Below w1.heap.size w1 wr ∧ wr.ownsRow w1.heap.size 3 1 (.slice fa fv.length fc) fv.length (fv.map fun n : Nat => .int .i64 n) ∧ Hid (fv = (lv.take i).flatMap (atP (grP rl) pl))) (fun _ u9 _ => lv.length - (intOf u9).toNat)
 case atStart => exact ⟨0, [], none, 0, by omega, rfl, rfl, uh B1, Below.refl _ _, World.ownsRow_nil _ _ _ _, hide (by simp)⟩
 case round =>
  obtain ⟨i, fv, fa, fc, hi1, rfl, rfl, hb, hbw, hrow, HF⟩ := hrel
  have HB := hide hb
  have HBW := hide hbw
  have HRW := hide hrow
  have hwr := hb.size
  have hwr1 := hbw.size
  by_cases hlt : i < lv.length
  ·obtain ⟨q, cq, e1, kc⟩ := own_cell (row_below (uh HS1) hbw) i (.int .i64 (lv[i] : Nat)) (by simp [List.getElem?_eq_getElem hlt])
   simp only [Value.slice.injEq, true_and] at e1
   obtain ⟨rfl, rfl⟩ := e1
   obtain ⟨p, hp, hpg⟩ := uh HLP _ (List.getElem_mem hlt)
   have HF2 := hide (flat_take (atP (grP rl) pl) lv i _ (List.getElem?_eq_getElem hlt))
   have hle := flat_le (atP (grP rl) pl) lv (i + 1)
   rw [uh HF2, ← uh HF, List.length_append, uh HT] at hle
   have hkn : (i : Int) < (lv.length : Int) := by omega
   generalize lv[i] = m at *
   have hd := (uh HD).below hb
   obtain ⟨gp, cp, ga, gc, pa, pc, sa, sc, hpv, hr, q0, q1, q2, q3, q4, q5, q6, q7⟩ := hd.pat m p hp
   have hm := (List.getElem?_eq_some_iff.1 hp).1
   have hm' : (m : Int) < (pl.length : Int) := by omega
   have hat : atP (grP rl) pl m = grP rl p := by unfold atP; rw [hp]
   rw [hat] at HF2 hle
   have c7 := hd.c7
   rw [hpv] at c7
   have HRG := hide hr.g
   have m7 := World.new_ne wr _ c7
   have mk := World.new_ne wr _ kc
   have mq := World.new_ne wr _ q0
   clear hb hbw hrow hd hr hp hpv hat
   go_wp2_with fail
   go_region_held3 (fun w' => w'.cell? ⟨b, 7, none⟩ = some (.slice (some ⟨gp, 0, none⟩) pl.length cp) ∧ w'.cell? ⟨q, i, none⟩ = some (.int .i64 m) ∧ w'.cell? ⟨gp, m * 8, none⟩ = some (.int .i64 p.kind) ∧ w'.cell? ⟨gp, m * 8 + 1, none⟩ = some (.slice ga p.gs.length gc) ∧ w'.cell? ⟨gp, m * 8 + 2, none⟩ = some (.string p.nb) ∧ w'.cell? ⟨gp, m * 8 + 3, none⟩ = some (.string p.nr) ∧ w'.cell? ⟨gp, m * 8 + 4, none⟩ = some (.int .i64 p.pa) ∧ w'.cell? ⟨gp, m * 8 + 5, none⟩ = some (.int .i64 p.pr) ∧ w'.cell? ⟨gp, m * 8 + 6, none⟩ = some (.slice pa p.ps.length pc) ∧ w'.cell? ⟨gp, m * 8 + 7, none⟩ = some (.slice sa p.sg.length sc)) (go_keep) (fail)
   rename_i hh
   clear hh q0 q1 q2 q3 q4 q5 q6 q7 c7 kc m7 mk mq
   have b2 : Below wr.heap.size wr ((wr.alloc (.cells #[.int .i64 p.kind, .slice ga p.gs.length gc, .string p.nb, .string p.nr, .int .i64 p.pa, .int .i64 p.pr, .slice pa p.ps.length pc, .slice sa p.sg.length sc] 255)).drew) := ((Below.refl _ wr).alloc (Nat.le_refl _) _).drew
   have PB2 := hide (Blk.new wr #[.int .i64 p.kind, .slice ga p.gs.length gc, .string p.nb, .string p.nr, .int .i64 p.pa, .int .i64 p.pr, .slice pa p.ps.length pc, .slice sa p.sg.length sc] 255).drew
   have B2 := hide ((uh HB).trans (b2.mono hwr))
   have BW2 := hide ((uh HBW).trans (b2.mono hwr1))
   have R2 := hide (row_below (uh HRW) b2)
   have RG2 := hide (row_below (uh HRG) b2)
   clear b2 HB HBW HRW HRG
   go_wp2_with fail
   generalize (wr.alloc (.cells #[.int .i64 p.kind, .slice ga p.gs.length gc, .string p.nb, .string p.nr, .int .i64 p.pa, .int .i64 p.pr, .slice pa p.ps.length pc, .slice sa p.sg.length sc] 255)).drew = W2 at *
   generalize wr.heap.size = pb at *
   have HHL := hide (show (grP rl p).length = (p.gs.flatMap (hash1 rl)).length from rfl)
   go_loopw [5, 9] (fun u7 u11 wi => ∃ (k : Nat) (f2 : List Nat) (fa : Option Addr) (fc : Nat), k ≤ p.gs.length ∧ u11 = .int .i64 k ∧ u7 = .slice fa f2.length fc ∧ Below w.heap.size w wi ∧ Below w1.heap.size w1 wi ∧ Blk wi pb #[.int .i64 p.kind, .slice ga p.gs.length gc, .string p.nb, .string p.nr, .int .i64 p.pa, .int .i64 p.pr, .slice pa p.ps.length pc, .slice sa p.sg.length sc] 255 ∧ wi.ownsRow 0 257 4 (.slice ga p.gs.length gc) p.gs.length (p.gs.flatMap rgCells) ∧ wi.ownsRow w1.heap.size 3 1 (.slice fa f2.length fc) f2.length (f2.map fun n : Nat => .int .i64 n) ∧ Hid (f2 = fv ++ (p.gs.take k).flatMap (hash1 rl))) (fun _ u11 _ => p.gs.length - (intOf u11).toNat)
   case atStart => exact ⟨0, fv, fa, fc, by omega, rfl, rfl, uh B2, uh BW2, uh PB2, uh RG2, uh R2, hide (by simp)⟩
   case round =>
    clear B2 BW2 PB2 RG2 R2 hwr hwr1
    obtain ⟨k, f2, fa, fc, hk1, rfl, rfl, hb, hbw, hpb, hgr, hrow, HF3⟩ := hrel
    have HB := hide hb
    have HBW := hide hbw
    have HPB := hide hpb
    have HGR := hide hgr
    have HRW := hide hrow
    have hwi := hb.size
    have hwi1 := hbw.size
    obtain ⟨p0, p1, p2, p3, p4, p5, p6, p7⟩ := hpb.eight
    have pl0 := hpb.lt
    by_cases hkt : k < p.gs.length
    ·obtain ⟨gg, cg, e1, hc⟩ := flat_cell rgCells 4 (fun _ => rfl) hgr k p.gs[k] (List.getElem?_eq_getElem hkt)
     simp only [Value.slice.injEq, true_and] at e1
     obtain ⟨rfl, rfl⟩ := e1
     have HF4 := hide (flat_take (hash1 rl) p.gs k _ (List.getElem?_eq_getElem hkt))
     have hle2 := flat_le (hash1 rl) p.gs (k + 1)
     have hf2 := congrArg List.length (uh HF3)
     rw [uh HF4, List.length_append] at hle2
     rw [List.length_append] at hf2
     have hkn2 : (k : Int) < (p.gs.length : Int) := by omega
     generalize p.gs[k] = x at *
     have k0 : wr.cell? ⟨gg, k * 4, none⟩ = some (.string x.ty) := hc 0 _ (by omega) rfl
     have k1 : wr.cell? ⟨gg, k * 4 + 1, none⟩ = some (.string (relOf x)) := hc 1 _ (by omega) rfl
     have C := hide (rfind_any b kv rv pv kl rl pl l x.ty (relOf x) wr.drew ((uh HD).below ((uh HB).trans ((Below.refl _ _).drew.mono hwi))))
     have hbnd : f2.length + (hash1 rl x).length ≤ 1000000000 := by have := uh HHL; omega
     clear hb hbw hpb hgr hrow hc hf2 hle2
     rcases findN_cases x.ty (relOf x) rl 0 with hfi | ⟨j, hfi, hj1, hj2⟩
     ·rw [hfi] at C
      have hh1 : hash1 rl x = [] := by unfold hash1; rw [hfi]; simp
      have HF5 := hide (show f2 = fv ++ (p.gs.take (k + 1)).flatMap (hash1 rl) from by rw [uh HF4, hh1, List.append_nil]; exact uh HF3)
      clear hh1 hfi
      go_wp2_with fail
      go_region_held3 (fun w' => w'.cell? ⟨pb, 1, none⟩ = some (.slice (some ⟨gg, 0, none⟩) p.gs.length gc) ∧ w'.cell? ⟨gg, k * 4, none⟩ = some (.string x.ty) ∧ w'.cell? ⟨gg, k * 4 + 1, none⟩ = some (.string (relOf x))) (go_keep)
       ((go_at_call 132; refine (uh C).mono ?_; rintro e w5 ⟨rfl, hb5⟩; have BB := hide (show Below wr.heap.size wr w5 from (Below.refl _ wr).drew.trans hb5); have d0 := cell_below p1 (uh BB); have d1 := cell_below k0 (uh BB); have d2 := cell_below k1 (uh BB); clear hb5))
      clear p0 p1 p2 p3 p4 p5 p6 p7 k0 k1 d0 d1 d2 C
      have B6 := hide ((uh HB).trans ((uh BB).mono hwi))
      have BW6 := hide ((uh HBW).trans ((uh BB).mono hwi1))
      have PB6 := hide ((uh HPB).below (uh BB))
      have G6 := hide (row_below (uh HGR) (uh BB))
      have R6 := hide (row_below (uh HRW) (uh BB))
      clear HB HBW HPB HGR HRW
      go_wp2
      go_roundw
      case rel => exact ⟨k + 1, f2, fa, fc, by omega, by go_num, rfl, uh B6, uh BW6, uh PB6, uh G6, uh R6, HF5⟩
      case measure => simp [intOf]; omega
     ·rw [hfi] at C
      have hh1 : hash1 rl x = [j] := by unfold hash1; rw [hfi]; simp
      rw [hh1] at hbnd
      simp only [List.length_cons, List.length_nil] at hbnd
      have HF5 := hide (show f2 ++ [j] = fv ++ (p.gs.take (k + 1)).flatMap (hash1 rl) from by rw [uh HF4, hh1, ← List.append_assoc, ← uh HF3])
      have hj0 : (0 : Int) ≤ (j : Int) := by omega
      clear hh1 hfi
      go_wp2_with fail
      go_region_held3 (fun w' => w'.cell? ⟨pb, 1, none⟩ = some (.slice (some ⟨gg, 0, none⟩) p.gs.length gc) ∧ w'.cell? ⟨gg, k * 4, none⟩ = some (.string x.ty) ∧ w'.cell? ⟨gg, k * 4 + 1, none⟩ = some (.string (relOf x))) (go_keep)
       ((go_at_call 132; refine (uh C).mono ?_; rintro e w5 ⟨rfl, hb5⟩; have BB := hide (show Below wr.heap.size wr w5 from (Below.refl _ wr).drew.trans hb5); have d0 := cell_below p1 (uh BB); have d1 := cell_below k0 (uh BB); have d2 := cell_below k1 (uh BB); clear hb5))
      clear p0 p1 p2 p3 p4 p5 p6 p7 k0 k1 d0 d1 d2 C
      have B6 := hide ((uh HB).trans ((uh BB).mono hwi))
      have BW6 := hide ((uh HBW).trans ((uh BB).mono hwi1))
      have PB6 := hide ((uh HPB).below (uh BB))
      have G6 := hide (row_below (uh HGR) (uh BB))
      have R6 := hide (row_below (uh HRW) (uh BB))
      have sz6 := (uh B6).size
      have sz6w := (uh BW6).size
      clear HB HBW HPB HGR HRW
      go_wp2_with (at_builtin; go_must (refine wpList_append_lies _ rfl _ _ 29 rfl w1.heap.size 3 iI _ 1 8 Tryz.underlying29 (uh II) (uh IZ0) (uh IZ1) (uh IZ2) rfl (by decide) (.slice fa f2.length fc) f2.length (f2.map fun n : Nat => .int .i64 n) rfl ((uh R6).alloc _) ⟨w5.heap.size, 0, none⟩ 1 1 [.int .i64 j] rfl rfl ?hnewsA ?honeA (by decide) ?h63A ?hbytesA ?hbaseA (w5.heap.size + 1) ?hHA ?hrestA))
      case hnewsA => exact World.news_of_block (B := w5.heap.size) (cs := #[.int .i64 j]) (t := 3) (fr := (0, 0)) (Blk.new' _ _ _ _ rfl)
      case honeA =>
       intro u hu
       simp only [List.mem_cons, List.not_mem_nil, or_false] at hu
       rcases hu with rfl
       rfl
      case h63A => unfold maxLen; omega
      case hbytesA => omega
      case hbaseA => simp; omega
      case hHA => simp
      intro g5 cap5 w6 hown5 hgrow5 hat5 hgl5
      have B7 := hide (below_grown2 ((uh B6).alloc sz6 _) sz1 ((uh R6).alloc _) hgrow5)
      have BW7 := hide (below_grown ((uh BW6).alloc sz6w _) ((uh R6).alloc _) hgrow5)
      have PB7 := hide (blk_grown ((uh PB6).alloc _) ((uh R6).alloc _) hgrow5 (by decide))
      have G7 := hide (row_grown ((uh G6).alloc _) ((uh R6).alloc _) hgrow5 (by decide))
      have O7 := hide hown5
      clear hown5 hgrow5 hat5 hgl5 B6 BW6 PB6 G6 R6
      go_wp2
      go_roundw
      case rel => exact ⟨k + 1, f2 ++ [j], some ⟨g5, 0, none⟩, cap5, by omega, by go_num, by simp, uh B7, uh BW7, uh PB7, uh G7, by simpa using uh O7, HF5⟩
      case measure => simp [intOf]; omega
    ·have hkn2 : ¬ ((k : Int) < (p.gs.length : Int)) := by omega
     have hf2 : f2 = fv ++ p.gs.flatMap (hash1 rl) := by rw [uh HF3, List.take_of_length_le (by omega)]
     have HF5 := hide hf2
     have hf2l := congrArg List.length hf2
     rw [List.length_append] at hf2l
     clear hb hbw hpb hgr hrow hf2 hf2l
     have HF6 := hide (show f2 = (lv.take (i + 1)).flatMap (atP (grP rl) pl) from by rw [uh HF2, ← uh HF, uh HF5]; rfl)
     go_wp2
     go_roundw
     case rel => exact ⟨i + 1, f2, fa, fc, by omega, by go_num, rfl, uh HB, uh HBW, uh HRW, HF6⟩
     case measure => simp [intOf]; omega
  ·have hkn : ¬ ((i : Int) < (lv.length : Int)) := by omega
   have hfv : fv = T := by rw [uh HF, List.take_of_length_le (by omega), uh HT]
   have HFV := hide hfv
   have hw1 := (uh B1).size
   clear hb hbw hrow hfv
   go_wp2
   go_ret
   rw [← uh HFV]
   exact ⟨_, rfl, uh HB, ownsRow_base (uh HRW) hw1⟩
set_option maxHeartbeats 2000000 in
set_option maxRecDepth 100000 in
theorem rlists_any (b : Nat) (kv rv pv : Value) (kl : List (ByteArray × Nat)) (rl : List RV) (pl : List PV) (l : List PX) (n : Nat) (lv : List Nat) (w : World) (h : DM w b kv rv pv kl rl pl l) (hL : LeavesC pl n lv) (hll : lv.length ≤ 1000) (hlp : ∀ m ∈ lv, ∃ p, pl[m]? = some p ∧ p.gs.length ≤ 1000) :
  Calls Tryz.prog 253 #[.pointer (some ⟨b, 5, none⟩), .int .i64 n] w fun e w' => e = .returned (.bool (lv.any fun m => decide (0 < (gsAt pl m).length))) ∧ Below w.heap.size w w' := by
 have HD := hide h
 have HLP := hide hlp
 have hpn := h.pn
 have C := hide (hL b kv rv pv kl rl l w h)
 generalize hR : (lv.any fun m => decide (0 < (gsAt pl m).length)) = R
 have HR := hide (show ((lv.drop 0).any fun m => decide (0 < (gsAt pl m).length)) = R from hR)
 clear h hL hlp hR
 go_enter Tryz.func253, Tryz.ntmps253
 go_wp2_with fail
 refine (uh C).mono ?_
 rintro e w1 ⟨sv, rfl, hb1, hs1⟩
 obtain ⟨la, lc, rfl⟩ := own_form hs1
 have B1 := hide hb1
 have sz1 := hb1.size
 have HS1 := hide hs1
 clear hb1 hs1 C
 go_wp2_with fail
 go_loopw [6] (fun u6 wr => ∃ (i : Nat), i ≤ lv.length ∧ u6 = .int .i64 i ∧ Below w1.heap.size w1 wr ∧ Hid (((lv.drop i).any fun m => decide (0 < (gsAt pl m).length)) = R)) (fun u6 _ => lv.length - (intOf u6).toNat)
 case atStart => exact ⟨0, by omega, rfl, Below.refl _ _, HR⟩
 case round =>
  clear HR
  obtain ⟨i, hi1, rfl, hb, HQ⟩ := hrel
  have hB := (uh B1).trans (hb.mono sz1)
  have HB := hide hb
  have HBW := hide hB
  by_cases hlt : i < lv.length
  ·obtain ⟨q, cq, e1, kc⟩ := own_cell (row_below (uh HS1) hb) i (.int .i64 (lv[i] : Nat)) (by simp [List.getElem?_eq_getElem hlt])
   simp only [Value.slice.injEq, true_and] at e1
   obtain ⟨rfl, rfl⟩ := e1
   obtain ⟨p, hp, hpg⟩ := uh HLP _ (List.getElem_mem hlt)
   have hq := uh HQ
   rw [List.drop_eq_getElem_cons hlt, List.any_cons] at hq
   have hkn : (i : Int) < (lv.length : Int) := by omega
   generalize lv[i] = m at *
   have hd := (uh HD).below hB
   obtain ⟨gp, cp, ga, gc, pa, pc, sa, sc, hpv, hr, q0, q1, q2, q3, q4, q5, q6, q7⟩ := hd.pat m p hp
   have hm := (List.getElem?_eq_some_iff.1 hp).1
   have hm' : (m : Int) < (pl.length : Int) := by omega
   have hat : gsAt pl m = p.gs := by unfold gsAt; rw [hp]
   rw [hat] at hq
   have c7 := hd.c7
   rw [hpv] at c7
   by_cases hz : 0 < p.gs.length
   ·rw [decide_eq_true hz, Bool.true_or] at hq
    have HRF := hide hq
    have hz' : (0 : Int) < (p.gs.length : Int) := by omega
    clear hb hB hd hr hp hpv hat HQ hq
    go_wp2
    go_quiet (fail)
    go_wp2
    go_ret
    exact ⟨by rw [← uh HRF]; rfl, below_drewN (uh HBW) _⟩
   ·rw [decide_eq_false hz, Bool.false_or] at hq
    have HQ2 := hide hq
    have hz' : ¬ ((0 : Int) < (p.gs.length : Int)) := by omega
    clear hb hB hd hr hp hpv hat HQ hq
    go_wp2
    go_quiet (fail)
    go_wp2
    go_roundw
    case rel => exact ⟨i + 1, by omega, by go_num, below_drewN (uh HB) _, HQ2⟩
    case measure => simp [intOf]; omega
  ·have hkn : ¬ ((i : Int) < (lv.length : Int)) := by omega
   have hq := uh HQ
   rw [List.drop_of_length_le (by omega), List.any_nil] at hq
   have HRF := hide hq
   clear hb hB HQ hq
   go_wp2
   go_ret
   exact ⟨by rw [← uh HRF]; rfl, uh HBW⟩
/-! P4: all that a part hangs on. -/
/-- The leaves of a part of an expression of the type kd, all of whose names are there. -/
def PartOK (rl : List RV) (pl : List PV) (kd : ByteArray) (n : Nat) (lv : List Nat) : Prop := LeavesC pl n lv ∧ lv.length ≤ 1000 ∧ ∀ m ∈ lv, ∃ p, pl[m]? = some p ∧ p.gs.length ≤ 1000 ∧ (p.kind = 2 → 0 ≤ findN kd p.nr rl 0) ∧ (p.kind = 3 → 0 ≤ findN kd p.nb rl 0)
def hangN (rl : List RV) (pl : List PV) (Gof : Nat → List Gr) (kd : ByteArray) (lv : List Nat) : List Nat := lv.flatMap (atP (hangP rl Gof kd) pl)
def grN (rl : List RV) (pl : List PV) (lv : List Nat) : List Nat := lv.flatMap (atP (grP rl) pl)
def needN (rl : List RV) (pl : List PV) (Gof : Nat → List Gr) (kd : ByteArray) (lv lve : List Nat) : List Nat := hangN rl pl Gof kd lv ++ (if (lv.any fun m => decide (0 < (gsAt pl m).length)) = true then grN rl pl lve else [])
theorem PartOK.gs {rl : List RV} {pl : List PV} {kd : ByteArray} {n : Nat} {lv : List Nat} (h : PartOK rl pl kd n lv) : ∀ m ∈ lv, ∃ p, pl[m]? = some p ∧ p.gs.length ≤ 1000 := fun m hm => by
 obtain ⟨p, h1, h2, _⟩ := h.2.2 m hm
 exact ⟨p, h1, h2⟩
set_option maxHeartbeats 2000000 in
set_option maxRecDepth 100000 in
theorem rneeds_any (b : Nat) (kv rv pv : Value) (kl : List (ByteArray × Nat)) (rl : List RV) (pl : List PV) (l : List PX) (Gof : Nat → List Gr) (kd : ByteArray) (n ex : Nat) (lv lve : List Nat) (w : World) (h : DM w b kv rv pv kl rl pl l) (hG : GofOK rl pl Gof) (hP : PartOK rl pl kd n lv) (hE : PartOK rl pl kd ex lve) (h1 : (hangN rl pl Gof kd lv).length ≤ 1000000000) (h2 : (grN rl pl lve).length ≤ 1000000000) :
  Calls Tryz.prog 231 #[.pointer (some ⟨b, 5, none⟩), .string kd, .int .i64 n, .int .i64 ex] w fun e w' => ∃ sv, e = .returned sv ∧ Below w.heap.size w w' ∧ w'.ownsRow w.heap.size 3 1 sv (needN rl pl Gof kd lv lve).length ((needN rl pl Gof kd lv lve).map fun n : Nat => .int .i64 n) := by
 obtain ⟨iI, hi1, hy0, hy1, hy2⟩ := info_parts Tryz.infoInt
 have II := hide hi1
 have IZ0 := hide hy0
 have IZ1 := hide hy1
 have IZ2 := hide hy2
 clear hi1 hy0 hy1 hy2
 have HD := hide h
 have HP := hide hP
 have HE := hide hE
 have C := hide (rhangs_any b kv rv pv kl rl pl l Gof kd n lv _ w h hG hP.1 hP.2.1 hP.2.2 rfl h1)
 generalize hN : needN rl pl Gof kd lv lve = NN
 have HN := hide hN
 clear hN
 change Hid (Calls _ _ _ _ fun e w' => ∃ sv, e = .returned sv ∧ Below w.heap.size w w' ∧ w'.ownsRow w.heap.size 3 1 sv (hangN rl pl Gof kd lv).length ((hangN rl pl Gof kd lv).map fun n : Nat => .int .i64 n)) at C
 generalize hT : hangN rl pl Gof kd lv = T at *
 have HT := hide hT
 clear hT
 clear h hG hP hE
 go_enter Tryz.func231, Tryz.ntmps231
 go_wp2_with fail
 refine (uh C).mono ?_
 rintro e w1 ⟨sv, rfl, hb1, hs1⟩
 obtain ⟨la, lc, rfl⟩ := own_form hs1
 have B1 := hide hb1
 have sz1 := hb1.size
 have HS1 := hide hs1
 clear hb1 hs1 C
 have C := hide (rlists_any b kv rv pv kl rl pl l n lv w1 ((uh HD).below (uh B1)) (uh HP).1 (uh HP).2.1 (uh HP).gs)
 go_wp2_with fail
 refine (uh C).mono ?_
 rintro e w2 ⟨rfl, hb2⟩
 have B2 := hide ((uh B1).trans (hb2.mono sz1))
 have sz2 := (uh B2).size
 have S2 := hide (row_below (uh HS1) hb2)
 clear hb2 C B1 HS1
 cases hl : (lv.any fun m => decide (0 < (gsAt pl m).length))
 ·have HNN := hide (show T = NN from by rw [← uh HN, needN, uh HT, hl]; simp)
  clear hl
  go_wp2
  go_ret
  rw [← uh HNN]
  exact ⟨_, rfl, uh B2, uh S2⟩
 ·have C := hide (rgranted_any b kv rv pv kl rl pl l ex lve _ w2 ((uh HD).below (uh B2)) (uh HE).1 (uh HE).2.1 (uh HE).gs rfl h2)
  change Hid (Calls _ _ _ _ fun e w' => ∃ sv, e = .returned sv ∧ Below w2.heap.size w2 w' ∧ w'.ownsRow w2.heap.size 3 1 sv (grN rl pl lve).length ((grN rl pl lve).map fun n : Nat => .int .i64 n)) at C
  generalize hU : grN rl pl lve = U at *
  have HU := hide hU
  clear hU
  go_wp2_with fail
  refine (uh C).mono ?_
  rintro e w3 ⟨sv, rfl, hb3, hs3⟩
  obtain ⟨ta, tc, rfl⟩ := own_form hs3
  have B3 := hide ((uh B2).trans (hb3.mono sz2))
  have sz3 := (uh B3).size
  have S3 := hide (row_below (uh S2) hb3)
  have U3 := hide hs3
  clear hb3 hs3 C B2 S2
  go_wp2_with (at_builtin; go_must (refine wpList_append_rows rfl _ _ 29 rfl w.heap.size 3 iI _ 1 8 Tryz.underlying29 (uh II) (uh IZ0) (uh IZ1) (uh IZ2) rfl (by decide) (.slice la T.length lc) T.length (T.map fun n : Nat => .int .i64 n) rfl (uh S3) (.slice ta U.length tc) U.length (U.map fun n : Nat => .int .i64 n) rfl _ (uh U3) ?hone ?h63 ?hbytes sz3 ?hrest))
  case hone =>
   intro u hu
   obtain ⟨n, _, rfl⟩ := List.mem_map.1 hu
   rfl
  case h63 => unfold maxLen; omega
  case hbytes => omega
  intro av cv w9 hown9 hgrow9 hat9
  have B9 := hide (below_grown (uh B3) (uh S3) hgrow9)
  have O9 := hide hown9
  clear hown9 hgrow9 hat9 B3 S3 U3
  go_wp2
  go_ret
  have hNN : T ++ U = NN := by rw [← uh HN, needN, uh HT, hl, uh HU]; simp
  rw [← hNN]
  exact ⟨_, rfl, uh B9, by simpa using uh O9⟩
/-- One more, if it is not there. -/
def add1N (o : List Nat) (x : Nat) : List Nat := if (o.any fun k => k == x) then o else o ++ [x]
def addNN (o l : List Nat) : List Nat := l.foldl add1N o
def allL (H : Nat → List Nat) : Nat → List Nat → Nat → List Nat
 | 0, o, _ => o
 | f + 1, o, i => match o[i]? with
  | none => o
  | some r => allL H f (addNN o (H r)) (i + 1)
def GrownN (s : List Nat) (m : Nat) (o : List Nat) : Prop := ∃ ex, o = s ++ ex ∧ ex.Nodup ∧ ∀ x ∈ ex, x < m
theorem nodup_lt : ∀ (m : Nat) (l : List Nat), l.Nodup → (∀ x ∈ l, x < m) → l.length ≤ m
 | 0, l, _, h => by
  cases l with
  | nil => simp
  | cons a l => have := h a (by simp); omega
 | m + 1, l, hn, h => by
  have h1 : (l.erase m).Nodup := hn.erase m
  have h2 : ∀ x ∈ l.erase m, x < m := fun x hx => by
   have := (List.Nodup.mem_erase_iff hn).1 hx
   have := h x this.2
   omega
  have h3 := nodup_lt m _ h1 h2
  have h4 := List.length_erase (a := m) (l := l)
  split at h4 <;> omega
theorem GrownN.le {s o : List Nat} {m : Nat} (h : GrownN s m o) : o.length ≤ s.length + m := by
 obtain ⟨ex, rfl, h1, h2⟩ := h
 have := nodup_lt m ex h1 h2
 simp
 omega
theorem GrownN.add {s o : List Nat} {m : Nat} (h : GrownN s m o) {x : Nat} (hx : x < m) : GrownN s m (add1N o x) := by
 obtain ⟨ex, rfl, h1, h2⟩ := h
 unfold add1N
 cases ha : (s ++ ex).any (fun k => k == x)
 ·refine ⟨ex ++ [x], by simp, ?_, ?_⟩
  ·rw [List.nodup_append]
   refine ⟨h1, by simp, ?_⟩
   intro a ha' c hc hac
   simp at hc
   subst hc
   subst hac
   rw [List.any_eq_false] at ha
   exact ha a (by simp [ha']) (by simp)
  ·intro y hy
   rw [List.mem_append, List.mem_singleton] at hy
   rcases hy with hy | rfl
   ·exact h2 y hy
   ·exact hx
 ·exact ⟨ex, rfl, h1, h2⟩
theorem addNN_le : ∀ (o l : List Nat), o.length ≤ (addNN o l).length
 | o, [] => Nat.le_refl _
 | o, y :: l => by
  have h1 := addNN_le (add1N o y) l
  have h2 : o.length ≤ (add1N o y).length := by unfold add1N; split <;> simp
  exact Nat.le_trans h2 h1
theorem addNN_step (o l : List Nat) (j : Nat) (hj : j < l.length) : addNN o (l.take (j + 1)) = add1N (addNN o (l.take j)) l[j] := by
 unfold addNN
 rw [List.take_succ_eq_append_getElem hj, List.foldl_append]
 rfl
theorem GrownN.lt {s o : List Nat} {m : Nat} (h : GrownN s m o) (hs : ∀ x ∈ s, x < m) : ∀ x ∈ o, x < m := by
 obtain ⟨ex, rfl, h1, h2⟩ := h
 intro x hx
 rcases List.mem_append.1 hx with hx | hx
 ·exact hs x hx
 ·exact h2 x hx
/-- What the relation of a number hangs on at once. -/
def hangR (rl : List RV) (pl : List PV) (Gof : Nat → List Gr) (lvOf : Nat → List Nat) (r : Nat) : List Nat := match rl[r]? with
 | some x => hangN rl pl Gof x.kd (lvOf x.ex)
 | none => []
def RelsOK (rl : List RV) (pl : List PV) (Gof : Nat → List Gr) (lvOf : Nat → List Nat) : Prop := ∀ x ∈ rl, PartOK rl pl x.kd x.ex (lvOf x.ex) ∧ (hangN rl pl Gof x.kd (lvOf x.ex)).length ≤ 1000000000 ∧ ∀ r ∈ hangN rl pl Gof x.kd (lvOf x.ex), r < rl.length
def allN (rl : List RV) (pl : List PV) (Gof : Nat → List Gr) (lvOf : Nat → List Nat) (S : List Nat) : List Nat := allL (hangR rl pl Gof lvOf) (S.length + rl.length + 1) S 0
theorem row_own_frame {w w' : World} {base : Nat} {e : TypeId} {size : Nat} {v : Value} {n : Nat} {xs : List Value} (h : w.ownsRow base e size v n xs)
  (k : ∀ g cs f, v.ownBlock = some g → w.heap[g]? = some (.cells cs e f) → w'.heap[g]? = w.heap[g]?) : w'.ownsRow base e size v n xs := by
 obtain ⟨h1, h2⟩ := h
 refine ⟨h1, ?_⟩
 rcases h2 with h2 | ⟨g, cap, cur, hv, hg, hh, r⟩
 ·exact Or.inl h2
 ·exact Or.inr ⟨g, cap, cur, hv, hg, (k g cur (0, 0) (by rw [hv]; rfl) hh).trans hh, r⟩
/-- A row in another block is as it was. -/
theorem row_apart {W w6 : World} {b1 s1 n1 : Nat} {E : TypeId} {v v1 : Value} {xs1 : List Value} (h1 : W.ownsRow b1 E s1 v1 n1 xs1) (hg : W.grownBy w6 v.ownBlock) (hne : ∀ q, v1.ownBlock = some q → v.ownBlock ≠ some q) : w6.ownsRow b1 E s1 v1 n1 xs1 :=
 row_own_frame h1 (fun g cs f hg' hh => hg.block g (lt_of_some hh) (fun e => hne g hg' e.symm))
set_option maxHeartbeats 4000000 in
set_option maxRecDepth 100000 in
theorem rall_any (b : Nat) (kv rv pv : Value) (kl : List (ByteArray × Nat)) (rl : List RV) (pl : List PV) (l : List PX) (Gof : Nat → List Gr) (lvOf : Nat → List Nat) (kd : ByteArray) (n ex : Nat) (lv lve : List Nat) (w : World) (h : DM w b kv rv pv kl rl pl l) (hG : GofOK rl pl Gof) (hP : PartOK rl pl kd n lv) (hE : PartOK rl pl kd ex lve) (h1 : (hangN rl pl Gof kd lv).length ≤ 1000000000) (h2 : (grN rl pl lve).length ≤ 1000000000)
  (hR : RelsOK rl pl Gof lvOf) (hS : ∀ r ∈ needN rl pl Gof kd lv lve, r < rl.length) (hSl : (needN rl pl Gof kd lv lve).length ≤ 900000000) :
  Calls Tryz.prog 193 #[.pointer (some ⟨b, 5, none⟩), .string kd, .int .i64 n, .int .i64 ex] w fun e w' => ∃ sv, e = .returned sv ∧ Below w.heap.size w w' ∧ w'.ownsRow w.heap.size 3 1 sv (allN rl pl Gof lvOf (needN rl pl Gof kd lv lve)).length ((allN rl pl Gof lvOf (needN rl pl Gof kd lv lve)).map fun n : Nat => .int .i64 n) := by
 obtain ⟨iI, hi1, hy0, hy1, hy2⟩ := info_parts Tryz.infoInt
 have II := hide hi1
 have IZ0 := hide hy0
 have IZ1 := hide hy1
 have IZ2 := hide hy2
 clear hi1 hy0 hy1 hy2
 obtain ⟨ra, rc, rfl⟩ := own_form h.rt
 have HD := hide h
 have HG := hide hG
 have HRO := hide hR
 have hrn := h.rn
 have C := hide (rneeds_any b kv _ pv kl rl pl l Gof kd n ex lv lve w h hG hP hE h1 h2)
 generalize needN rl pl Gof kd lv lve = S at *
 have HSB := hide hS
 generalize hA : allN rl pl Gof lvOf S = R
 have HA := hide (show allL (hangR rl pl Gof lvOf) (S.length + rl.length + 1) S 0 = R from hA)
 clear h hG hP hE h1 h2 hR hS hA
 go_enter Tryz.func193, Tryz.ntmps193
 go_wp2_with fail
 refine (uh C).mono ?_
 rintro e w1 ⟨sv, rfl, hb1, hs1⟩
 obtain ⟨la, lc, rfl⟩ := own_form hs1
 have B1 := hide hb1
 have HS1 := hide hs1
 clear hb1 hs1 C
 go_wp2_with fail
 go_loopg [9, 10] (S.length + rl.length + 1) (fun k u9 u10 wr => ∃ (i : Nat) (o : List Nat) (oa : Option Addr) (oc : Nat), u10 = .int .i64 i ∧ u9 = .slice oa o.length oc ∧ i ≤ o.length ∧ k = S.length + rl.length + 1 - i ∧ Below w.heap.size w wr ∧ wr.ownsRow w.heap.size 3 1 (.slice oa o.length oc) o.length (o.map fun n : Nat => .int .i64 n) ∧ Hid (GrownN S rl.length o ∧ allL (hangR rl pl Gof lvOf) k o i = R))
 case atStart => exact ⟨0, S, la, lc, rfl, rfl, by omega, by omega, uh B1, uh HS1, hide ⟨⟨[], by simp, by simp, by simp⟩, uh HA⟩⟩
 case round =>
  clear B1 HS1 HA
  obtain ⟨i, o, oa, oc, rfl, rfl, hio, rfl, hb, hrow, HQ⟩ := hrel
  have hle := (uh HQ).1.le
  have HB := hide hb
  have HRW := hide hrow
  have hwr := hb.size
  by_cases hlt : i < o.length
  ·have hkn : (i : Int) < (o.length : Int) := by omega
   have hr := (uh HQ).1.lt (uh HSB) _ (List.getElem_mem hlt)
   obtain ⟨q, cq, e1, kc⟩ := own_cell hrow i (.int .i64 (o[i] : Nat)) (by simp [List.getElem?_eq_getElem hlt])
   simp only [Value.slice.injEq, true_and] at e1
   obtain ⟨rfl, rfl⟩ := e1
   obtain ⟨hq1, hq2⟩ := uh HQ
   rw [show S.length + rl.length + 1 - i = (S.length + rl.length - i) + 1 by omega, allL, List.getElem?_eq_getElem hlt] at hq2
   simp only at hq2
   generalize o[i] = r at *
   have hd := (uh HD).below hb
   obtain ⟨gr, cr, e1, x0, x1, x2, x3⟩ := hd.rat r rl[r] (List.getElem?_eq_getElem hr)
   simp only [Value.slice.injEq, true_and] at e1
   obtain ⟨rfl, rfl⟩ := e1
   obtain ⟨hpk, hhl, hhb⟩ := uh HRO _ (List.getElem_mem hr)
   have hhr : hangR rl pl Gof lvOf r = hangN rl pl Gof rl[r].kd (lvOf rl[r].ex) := by unfold hangR; rw [List.getElem?_eq_getElem hr]
   rw [hhr] at hq2
   have hr' : (r : Int) < (rl.length : Int) := by omega
   have c6 := hd.c6
   generalize rl[r] = x at *
   have C := hide (rhangs_any b kv _ pv kl rl pl l Gof x.kd x.ex (lvOf x.ex) _ wr.drew (hd.below (Below.refl _ _).drew) (uh HG) hpk.1 hpk.2.1 hpk.2.2 rfl hhl)
   change Hid (Calls _ _ _ _ fun e w' => ∃ sv, e = .returned sv ∧ Below wr.drew.heap.size wr.drew w' ∧ w'.ownsRow wr.drew.heap.size 3 1 sv (hangN rl pl Gof x.kd (lvOf x.ex)).length ((hangN rl pl Gof x.kd (lvOf x.ex)).map fun n : Nat => .int .i64 n)) at C
   generalize hangN rl pl Gof x.kd (lvOf x.ex) = hl at *
   have HHB := hide hhb
   have HQ1 := hide hq1
   have HQ2 := hide hq2
   clear hb hrow hd hpk hhr hhb hq1 hq2 HQ
   go_wp2_with fail
   go_region_held3 (fun w' => w'.cell? ⟨b, 6, none⟩ = some (.slice (some ⟨gr, 0, none⟩) rl.length rc) ∧ w'.cell? ⟨q, i, none⟩ = some (.int .i64 r) ∧ w'.cell? ⟨gr, r * 4, none⟩ = some (.string x.kd) ∧ w'.cell? ⟨gr, r * 4 + 3, none⟩ = some (.int .i64 x.ex)) (go_keep)
    ((go_at_call 232; refine (uh C).mono ?_; rintro e w5 ⟨sv, rfl, hb5, hs5⟩; have BB := hide (show Below wr.heap.size wr w5 from (Below.refl _ wr).drew.trans hb5); have d0 := cell_below c6 (uh BB); have d1 := cell_below kc (uh BB); have d2 := cell_below x0 (uh BB); have d3 := cell_below x3 (uh BB); have HS5 := hide hs5; obtain ⟨ha, hc5, rfl⟩ := own_form (uh HS5); clear hb5 hs5))
   clear c6 kc x0 x1 x2 x3 d0 d1 d2 d3 C
   have B5 := hide ((uh HB).trans ((uh BB).mono hwr))
   have R5 := hide (row_below (uh HRW) (uh BB))
   have L5 := hide (show w5.ownsRow wr.heap.size 3 1 (.slice ha hl.length hc5) hl.length (hl.map fun n : Nat => .int .i64 n) from uh HS5)
   have HNB := hide (show ∀ q', (Value.slice ha hl.length hc5).ownBlock = some q' → (Value.slice (some ⟨q, 0, none⟩) o.length oc).ownBlock ≠ some q' ∧ q' < w5.heap.size from fun q' hq' => by
    have e1 := (uh L5).lt q' hq'
    refine ⟨fun e2 => ?_, e1.2⟩
    have e3 := ((uh HRW).lt q' e2).2
    omega)
   have hw5 := (uh BB).size
   clear HB HRW BB HS5
   go_wp2_with fail
   go_loopw [9, 12] (fun u9 u12 wi => ∃ (j : Nat) (o2 : List Nat) (oa : Option Addr) (oc : Nat), u12 = .int .i64 j ∧ u9 = .slice oa o2.length oc ∧ j ≤ hl.length ∧ Below w.heap.size w wi ∧ w5.heap.size ≤ wi.heap.size ∧ wi.ownsRow w.heap.size 3 1 (.slice oa o2.length oc) o2.length (o2.map fun n : Nat => .int .i64 n) ∧ wi.ownsRow wr.heap.size 3 1 (.slice ha hl.length hc5) hl.length (hl.map fun n : Nat => .int .i64 n) ∧
    Hid (addNN o (hl.take j) = o2 ∧ GrownN S rl.length o2 ∧ ∀ q', (Value.slice ha hl.length hc5).ownBlock = some q' → (Value.slice oa o2.length oc).ownBlock ≠ some q' ∧ q' < w5.heap.size)) (fun _ u12 _ => hl.length - (intOf u12).toNat)
   case atStart => exact ⟨0, o, _, oc, rfl, rfl, by omega, uh B5, Nat.le_refl _, uh R5, uh L5, hide ⟨rfl, uh HQ1, uh HNB⟩⟩
   case round =>
    clear B5 R5 L5 HNB
    obtain ⟨j, o2, oa, oc, rfl, rfl, hj, hb, hsz, hrow, hlr, HI⟩ := hrel
    have hle2 := (uh HI).2.1.le
    have HB := hide hb
    have HRW := hide hrow
    have HLR := hide hlr
    have hwi := hb.size
    by_cases hjt : j < hl.length
    ·have hjn : (j : Int) < (hl.length : Int) := by omega
     obtain ⟨q2, cq2, e1, kc⟩ := own_cell hlr j (.int .i64 (hl[j] : Nat)) (by simp [List.getElem?_eq_getElem hjt])
     simp only [Value.slice.injEq, true_and] at e1
     obtain ⟨rfl, rfl⟩ := e1
     have HST := hide (addNN_step o hl j hjt)
     have hyb := uh HHB _ (List.getElem_mem hjt)
     have HJ := hide (List.getElem?_eq_getElem hjt)
     generalize hl[j] = y at *
     rw [(uh HI).1] at HST
     have C := hide (isin_any w.heap.size _ o2 y wr hrow (by omega))
     clear hb hrow hlr
     go_wp2_with fail
     refine (uh C).mono ?_
     rintro e w7 ⟨rfl, hb7⟩
     have B7 := hide ((uh HB).trans (hb7.mono hwi))
     have R7 := hide (row_below (uh HRW) hb7)
     have L7 := hide (row_below (uh HLR) hb7)
     have sz7 := hb7.size
     have sz7b := (uh B7).size
     have kc7 := cell_below kc hb7
     clear hb7 C HB HRW HLR kc
     have HST2 := uh HST
     unfold add1N at HST2
     cases ha2 : (o2.any fun k => k == y)
     ·rw [ha2] at HST2
      simp only [Bool.false_eq_true, if_false] at HST2
      have hadd : add1N o2 y = o2 ++ [y] := by unfold add1N; rw [ha2]; simp
      have HG2 := (uh HI).2.1.add hyb
      rw [hadd] at HG2
      have HG3 := hide HG2
      have HST3 := hide HST2
      clear ha2 HST2 HST hadd HG2
      go_wp2_with (at_builtin; go_must (refine wpList_append_lies _ rfl _ _ 29 rfl w.heap.size 3 iI _ 1 8 Tryz.underlying29 (uh II) (uh IZ0) (uh IZ1) (uh IZ2) rfl (by decide) (.slice oa o2.length oc) o2.length (o2.map fun n : Nat => .int .i64 n) rfl ((uh R7).alloc _) ⟨w7.heap.size, 0, none⟩ 1 1 [.int .i64 y] rfl rfl ?hnews ?hone (by decide) ?h63 ?hbytes ?hbase (w7.heap.size + 1) ?hH ?hrest))
      case hnews => exact World.news_of_block (B := w7.heap.size) (cs := #[.int .i64 y]) (t := 3) (fr := (0, 0)) (Blk.new' _ _ _ _ rfl)
      case hone =>
       intro u hu
       simp only [List.mem_cons, List.not_mem_nil, or_false] at hu
       rcases hu with rfl
       rfl
      case h63 => unfold maxLen; omega
      case hbytes => omega
      case hbase => simp; omega
      case hH => simp
      intro g8 cap8 w8 hown8 hgrow8 hat8 hgl8
      have B8 := hide (below_grown ((uh B7).alloc sz7b _) ((uh R7).alloc _) hgrow8)
      have L8 := hide (row_apart ((uh L7).alloc _) hgrow8 (fun q' hq' => ((uh HI).2.2 q' hq').1))
      have O8 := hide hown8
      have sz8 : w7.heap.size ≤ w8.heap.size := by have := hgrow8.size; simp at this; omega
      have HNB8 := hide (show ∀ q', (Value.slice (some ⟨q2, 0, none⟩) hl.length hc5).ownBlock = some q' → (Value.slice (some ⟨g8, 0, none⟩) (o2 ++ [y]).length cap8).ownBlock ≠ some q' ∧ q' < w5.heap.size from fun q' hq' => by
       obtain ⟨e1, e2⟩ := (uh HI).2.2 q' hq'
       refine ⟨fun e3 => ?_, e2⟩
       simp only [Value.ownBlock, Option.some.injEq] at e3
       rcases hat8 with e4 | e4
       ·exact e1 (by rw [e4, e3])
       ·omega)
      clear hown8 hgrow8 hat8 hgl8 B7 R7 L7 kc7
      go_wp2
      go_roundw
      case rel => exact ⟨j + 1, o2 ++ [y], some ⟨g8, 0, none⟩, cap8, by go_num, by simp, by omega, uh B8, by omega, by simpa using uh O8, uh L8, hide ⟨uh HST3, uh HG3, uh HNB8⟩⟩
      case measure => simp [intOf]; omega
     ·rw [ha2] at HST2
      simp only [if_true] at HST2
      have HST3 := hide HST2
      clear ha2 HST2 HST
      go_wp2
      go_roundw
      case rel => exact ⟨j + 1, o2, oa, oc, by go_num, rfl, by omega, uh B7, by omega, uh R7, uh L7, hide ⟨uh HST3, (uh HI).2.1, (uh HI).2.2⟩⟩
      case measure => simp [intOf]; omega
    ·have hjn : ¬ ((j : Int) < (hl.length : Int)) := by omega
     have hi2 := (uh HI).1
     rw [List.take_of_length_le (by omega)] at hi2
     have HI2 := hide hi2
     have hlo := (uh HI).2.1.le
     have hlo1 : o.length ≤ o2.length := by
      have := addNN_le o hl
      rw [hi2] at this
      exact this
     clear hb hrow hlr hi2
     go_wp2
     go_roundg (S.length + rl.length - i)
     case measure => omega
     case rel => exact ⟨i + 1, o2, oa, oc, by go_num, rfl, by omega, by omega, uh HB, uh HRW, hide ⟨(uh HI).2.1, by rw [← uh HI2]; exact uh HQ2⟩⟩
  ·have hkn : ¬ ((i : Int) < (o.length : Int)) := by omega
   obtain ⟨hq1, hq2⟩ := uh HQ
   rw [show S.length + rl.length + 1 - i = (S.length + rl.length - i) + 1 by omega, allL, List.getElem?_eq_none (by omega)] at hq2
   simp only at hq2
   have HRF := hide hq2
   clear hb hrow hq1 hq2
   go_wp2
   go_ret
   rw [← uh HRF]
   exact ⟨_, rfl, uh HB, uh HRW⟩
end Go.Proofs.YtlbpnlngckgcbaaGreatDoor
