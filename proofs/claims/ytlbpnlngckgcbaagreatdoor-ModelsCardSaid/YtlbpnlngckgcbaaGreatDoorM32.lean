import Derived.Test.YtlbpnlngckgcbaaGreatDoorM21
import Derived.Deep.RegionHeld3
namespace Go.Proofs.YtlbpnlngckgcbaaGreatDoor
open Go.RowKit Go.PlainAid
set_option linter.unusedSimpArgs false
set_option linter.unusedVariables false
/-- The smallest parts of all expressions. -/
def LvOK (rl : List RV) (pl : List PV) (lvOf : Nat → List Nat) : Prop := ∀ x ∈ rl, LeavesC pl x.ex (lvOf x.ex) ∧ (lvOf x.ex).length ≤ 1000 ∧ ∀ n ∈ lvOf x.ex, ∃ p, pl[n]? = some p ∧ p.gs.length ≤ 1000
def GofOK (rl : List RV) (pl : List PV) (Gof : Nat → List Gr) : Prop := ∀ r, r < rl.length → GrC rl pl r (Gof r) ∧ (Gof r).length ≤ 1000000
/-- P4: the place of the first name that is not there. -/
def unkL (kl : List (ByteArray × Nat)) (rl : List RV) (pl : List PV) (Gof : Nat → List Gr) (kd : ByteArray) (n : Nat) : Option Nat := match pl[n]? with
 | some p => unkP kl rl Gof kd p
 | none => none
def rnames (kl : List (ByteArray × Nat)) (rl : List RV) (pl : List PV) (Gof : Nat → List Gr) (lvOf : Nat → List Nat) : Option Nat := rl.findSome? fun x => (lvOf x.ex).findSome? (unkL kl rl pl Gof x.kd)
set_option maxHeartbeats 2000000 in
set_option maxRecDepth 100000 in
theorem rnames_any (b : Nat) (kv rv pv : Value) (kl : List (ByteArray × Nat)) (rl : List RV) (pl : List PV) (l : List PX) (Gof : Nat → List Gr) (lvOf : Nat → List Nat) (w : World) (h : DM w b kv rv pv kl rl pl l) (hG : GofOK rl pl Gof) (hL : LvOK rl pl lvOf) :
  Calls Tryz.prog 129 #[.pointer (some ⟨b, 5, none⟩)] w fun e w' => e = .returned (.int .i64 (intO (rnames kl rl pl Gof lvOf))) ∧ Below w.heap.size w w' := by
 obtain ⟨ra, rc, rfl⟩ := own_form h.rt
 have HD := hide h
 have HG := hide hG
 have HL := hide hL
 have hrn := h.rn
 have hpn := h.pn
 generalize hR : rnames kl rl pl Gof lvOf = R
 have HR := hide (show ((rl.drop 0).findSome? fun x => (lvOf x.ex).findSome? (unkL kl rl pl Gof x.kd)) = R from hR)
 clear h hG hL hR
 go_enter Tryz.func129, Tryz.ntmps129
 go_wp2_with fail
 go_loopw [3] (fun u3 wr => ∃ (i : Nat), i ≤ rl.length ∧ u3 = .int .i64 i ∧ Below w.heap.size w wr ∧ Hid (((rl.drop i).findSome? fun x => (lvOf x.ex).findSome? (unkL kl rl pl Gof x.kd)) = R)) (fun u3 _ => rl.length - (intOf u3).toNat)
 case atStart => exact ⟨0, by omega, rfl, Below.refl _ _, HR⟩
 case round =>
  clear HR
  obtain ⟨i, hi, rfl, hb, HQ⟩ := hrel
  have c6 := ((uh HD).below hb).c6
  have HB := hide hb
  have hwr := hb.size
  by_cases hlt : i < rl.length
  ·have hkn : (i : Int) < (rl.length : Int) := by omega
   obtain ⟨gr, cr, e1, x0, x1, x2, x3⟩ := ((uh HD).below hb).rat i rl[i] (List.getElem?_eq_getElem hlt)
   simp only [Value.slice.injEq, true_and] at e1
   obtain ⟨rfl, rfl⟩ := e1
   have hq := uh HQ
   rw [List.drop_eq_getElem_cons hlt, List.findSome?_cons] at hq
   obtain ⟨hlc, hll, hlp⟩ := uh HL _ (List.getElem_mem hlt)
   have HX := hide (List.getElem?_eq_getElem hlt)
   generalize rl[i] = x at *
   have C := hide (hlc b kv _ pv kl rl l wr ((uh HD).below hb))
   generalize hlv : lvOf x.ex = lv at *
   clear hlv
   have HLP := hide hlp
   generalize hN : lv.findSome? (unkL kl rl pl Gof x.kd) = R1 at hq
   have HN := hide (show (lv.drop 0).findSome? (unkL kl rl pl Gof x.kd) = R1 from hN)
   have HQ2 := hide hq
   clear hb HQ hq hlc hlp hN
   go_wp2_with fail
   refine (uh C).mono ?_
   rintro e w1 ⟨sv, rfl, hb1, hs1⟩
   obtain ⟨la, lc, rfl⟩ := own_form hs1
   have B1 := hide ((uh HB).trans (hb1.mono hwr))
   have HS1 := hide hs1
   have hw1 := hb1.size
   clear hb1 hs1 C x0 x1 x2 x3 c6
   go_wp2_with fail
   go_loopw [5] (fun u5 wi => ∃ (k : Nat), k ≤ lv.length ∧ u5 = .int .i64 k ∧ Below w1.heap.size w1 wi ∧ Hid ((lv.drop k).findSome? (unkL kl rl pl Gof x.kd) = R1)) (fun u5 _ => lv.length - (intOf u5).toNat)
   case atStart => exact ⟨0, by omega, rfl, Below.refl _ _, HN⟩
   case round =>
    clear HN
    obtain ⟨k, hk, rfl, hb, HI⟩ := hrel
    have hB := (uh B1).trans (hb.mono (uh B1).size)
    have HBI := hide hb
    have HBW := hide hB
    have hwi := hB.size
    by_cases hkt : k < lv.length
    ·have hkn2 : (k : Int) < (lv.length : Int) := by omega
     have hd := (uh HD).below hB
     have c6 := hd.c6
     have c7 := hd.c7
     obtain ⟨gr', cr', e1, x0, x1, x2, x3⟩ := hd.rat i x (uh HX)
     simp only [Value.slice.injEq, true_and, Option.some.injEq, Addr.mk.injEq, and_true] at e1
     obtain ⟨rfl, rfl⟩ := e1
     obtain ⟨q, cq, e1, kc⟩ := own_cell (row_below (uh HS1) hb) k (.int .i64 (lv[k] : Nat)) (by simp [List.getElem?_eq_getElem hkt])
     simp only [Value.slice.injEq, true_and] at e1
     obtain ⟨rfl, rfl⟩ := e1
     have hq := uh HI
     rw [List.drop_eq_getElem_cons hkt, List.findSome?_cons] at hq
     obtain ⟨p, hp, hpg⟩ := uh HLP _ (List.getElem_mem hkt)
     generalize lv[k] = m at *
     obtain ⟨gp, cp, ga, gc, pa, pc, sa, sc, hpv, hr, q0, q1, q2, q3, q4, q5, q6, q7⟩ := hd.pat m p hp
     have hm := (List.getElem?_eq_some_iff.1 hp).1
     have hm' : (m : Int) < (pl.length : Int) := by omega
     have hu : unkL kl rl pl Gof x.kd m = unkP kl rl Gof x.kd p := by unfold unkL; rw [hp]
     rw [hu] at hq
     have HQ3 := hide hq
     have HRP := hide hr
     have HDD := hide hd
     rw [hpv] at c7
     have HPV := hide hpv
     clear hb hB hd hr HI hq hp hu hpv
     have CU := hide (unknown_any b kv _ pv kl rl pl l Gof x.kd p ga gc pa pc sa sc wr.drew ((uh HDD).below (Below.refl _ _).drew) (uh HG) ⟨own_drew (uh HRP).g, own_drew (uh HRP).p, own_drew (uh HRP).s⟩ (by omega))
     generalize unkP kl rl Gof x.kd p = U at *
     go_wp2_with fail
     cases U with
     | some at_ =>
      unfold intO at CU
      simp only at CU
      go_region_held3 (fun w' => w'.cell? ⟨b, 6, none⟩ = some (.slice (some ⟨gr, 0, none⟩) rl.length rc) ∧ w'.cell? ⟨gr, i * 4, none⟩ = some (.string x.kd) ∧ w'.cell? ⟨b, 7, none⟩ = some (.slice (some ⟨gp, 0, none⟩) pl.length cp) ∧ w'.cell? ⟨q, k, none⟩ = some (.int .i64 m) ∧ w'.cell? ⟨gp, m * 8, none⟩ = some (.int .i64 p.kind) ∧ w'.cell? ⟨gp, m * 8 + 1, none⟩ = some (.slice ga p.gs.length gc) ∧ w'.cell? ⟨gp, m * 8 + 2, none⟩ = some (.string p.nb) ∧ w'.cell? ⟨gp, m * 8 + 3, none⟩ = some (.string p.nr) ∧ w'.cell? ⟨gp, m * 8 + 4, none⟩ = some (.int .i64 p.pa) ∧ w'.cell? ⟨gp, m * 8 + 5, none⟩ = some (.int .i64 p.pr) ∧ w'.cell? ⟨gp, m * 8 + 6, none⟩ = some (.slice pa p.ps.length pc) ∧ w'.cell? ⟨gp, m * 8 + 7, none⟩ = some (.slice sa p.sg.length sc)) (go_keep)
       ((go_at_call 192; refine (uh CU).mono ?_; rintro e w5 ⟨rfl, hb5⟩; have BB : Below wr.heap.size wr w5 := (Below.refl _ wr).drew.trans hb5; have d0 := cell_below c6 BB; have d1 := cell_below x0 BB; have d2 := cell_below c7 BB; have d3 := cell_below kc BB; have d4 := cell_below q0 BB; have d5 := cell_below q1 BB; have d6 := cell_below q2 BB; have d7 := cell_below q3 BB; have d8 := cell_below q4 BB; have d9 := cell_below q5 BB; have d10 := cell_below q6 BB; have d11 := cell_below q7 BB; have B5 := hide ((uh HBW).trans (BB.mono hwi)); have B6 := hide ((uh HBI).trans (BB.mono (uh HBI).size)); clear hb5 BB))
      have HRF := hide (show some at_ = R from by
       have h2 := uh HQ2
       rw [← uh HQ3] at h2
       exact h2)
      have h0 : (0 : Int) ≤ (at_ : Int) := by omega
      go_wp2
      go_ret
      exact ⟨by rw [← uh HRF]; rfl, uh B5⟩
     | none =>
      unfold intO at CU
      simp only at CU
      go_region_held3 (fun w' => w'.cell? ⟨b, 6, none⟩ = some (.slice (some ⟨gr, 0, none⟩) rl.length rc) ∧ w'.cell? ⟨gr, i * 4, none⟩ = some (.string x.kd) ∧ w'.cell? ⟨b, 7, none⟩ = some (.slice (some ⟨gp, 0, none⟩) pl.length cp) ∧ w'.cell? ⟨q, k, none⟩ = some (.int .i64 m) ∧ w'.cell? ⟨gp, m * 8, none⟩ = some (.int .i64 p.kind) ∧ w'.cell? ⟨gp, m * 8 + 1, none⟩ = some (.slice ga p.gs.length gc) ∧ w'.cell? ⟨gp, m * 8 + 2, none⟩ = some (.string p.nb) ∧ w'.cell? ⟨gp, m * 8 + 3, none⟩ = some (.string p.nr) ∧ w'.cell? ⟨gp, m * 8 + 4, none⟩ = some (.int .i64 p.pa) ∧ w'.cell? ⟨gp, m * 8 + 5, none⟩ = some (.int .i64 p.pr) ∧ w'.cell? ⟨gp, m * 8 + 6, none⟩ = some (.slice pa p.ps.length pc) ∧ w'.cell? ⟨gp, m * 8 + 7, none⟩ = some (.slice sa p.sg.length sc)) (go_keep)
       ((go_at_call 192; refine (uh CU).mono ?_; rintro e w5 ⟨rfl, hb5⟩; have BB : Below wr.heap.size wr w5 := (Below.refl _ wr).drew.trans hb5; have d0 := cell_below c6 BB; have d1 := cell_below x0 BB; have d2 := cell_below c7 BB; have d3 := cell_below kc BB; have d4 := cell_below q0 BB; have d5 := cell_below q1 BB; have d6 := cell_below q2 BB; have d7 := cell_below q3 BB; have d8 := cell_below q4 BB; have d9 := cell_below q5 BB; have d10 := cell_below q6 BB; have d11 := cell_below q7 BB; have B5 := hide ((uh HBW).trans (BB.mono hwi)); have B6 := hide ((uh HBI).trans (BB.mono (uh HBI).size)); clear hb5 BB))
      go_wp2
      go_roundw
      case rel => exact ⟨k + 1, by omega, by go_num, uh B6, hide (uh HQ3)⟩
      case measure => simp [intOf]; omega
    ·have hkn2 : ¬ ((k : Int) < (lv.length : Int)) := by omega
     have hq := uh HI
     rw [List.drop_of_length_le (by omega), List.findSome?_nil] at hq
     have hq2 := uh HQ2
     rw [← hq] at hq2
     simp only at hq2
     have HQ4 := hide hq2
     clear hb hB HI hq hq2
     go_wp2
     go_roundw
     case rel => exact ⟨i + 1, by omega, by go_num, uh HBW, HQ4⟩
     case measure => simp [intOf]; omega
  ·have hkn : ¬ ((i : Int) < (rl.length : Int)) := by omega
   have hq := uh HQ
   rw [List.drop_of_length_le (by omega), List.findSome?_nil] at hq
   have HRF := hide hq
   clear hb HQ hq
   go_wp2
   go_ret
   exact ⟨by rw [← uh HRF]; rfl, uh HB⟩
/-! P4: what a part hangs on at once, by numbers. -/
def hash1 (rl : List RV) (g : Gr) : List Nat := if 0 ≤ findN g.ty (relOf g) rl 0 then [(findN g.ty (relOf g) rl 0).toNat] else []
def hangP (rl : List RV) (Gof : Nat → List Gr) (kd : ByteArray) (p : PV) : List Nat := p.gs.flatMap (hash1 rl) ++ (if p.kind = 2 then [(findN kd p.nr rl 0).toNat] else if p.kind = 3 then tiedN rl p.nr (Gof (findN kd p.nb rl 0).toNat) else [])
def atP (F : PV → List Nat) (pl : List PV) (m : Nat) : List Nat := match pl[m]? with
 | some p => F p
 | none => []
theorem hash1_le (rl : List RV) (g : Gr) : (hash1 rl g).length ≤ 1 := by unfold hash1; split <;> simp
theorem below_grown2 {w W w5 : World} {B size n : Nat} {E : TypeId} {v : Value} {xs : List Value} (hB : Below w.heap.size w W) (hb : w.heap.size ≤ B) (k : W.ownsRow B E size v n xs) (hg : W.grownBy w5 v.ownBlock) : Below w.heap.size w w5 := Below.grown hB hg hB.size (fun j hj => Nat.le_trans hb (k.lt j hj).1)
theorem blk_grown {W w5 : World} {g : Nat} {cs : Array Value} {T E : TypeId} {base size n : Nat} {v : Value} {xs : List Value} (h : Blk W g cs T) (k : W.ownsRow base E size v n xs) (hg : W.grownBy w5 v.ownBlock) (hne : T ≠ E) : Blk w5 g cs T := (hg.block g h.lt (own_ne k h hne)).trans h
set_option maxHeartbeats 2000000 in
set_option maxRecDepth 100000 in
theorem rhangs_any (b : Nat) (kv rv pv : Value) (kl : List (ByteArray × Nat)) (rl : List RV) (pl : List PV) (l : List PX) (Gof : Nat → List Gr) (kd : ByteArray) (n : Nat) (lv : List Nat) (T : List Nat) (w : World) (h : DM w b kv rv pv kl rl pl l) (hG : GofOK rl pl Gof) (hL : LeavesC pl n lv) (hll : lv.length ≤ 1000)
  (hlp : ∀ m ∈ lv, ∃ p, pl[m]? = some p ∧ p.gs.length ≤ 1000 ∧ (p.kind = 2 → 0 ≤ findN kd p.nr rl 0) ∧ (p.kind = 3 → 0 ≤ findN kd p.nb rl 0)) (hT : lv.flatMap (atP (hangP rl Gof kd) pl) = T) (hTl : T.length ≤ 1000000000) :
  Calls Tryz.prog 232 #[.pointer (some ⟨b, 5, none⟩), .string kd, .int .i64 n] w fun e w' => ∃ sv, e = .returned sv ∧ Below w.heap.size w w' ∧ w'.ownsRow w.heap.size 3 1 sv T.length (T.map fun n : Nat => .int .i64 n) := by
 obtain ⟨iI, hi1, hy0, hy1, hy2⟩ := info_parts Tryz.infoInt
 have II := hide hi1
 have IZ0 := hide hy0
 have IZ1 := hide hy1
 have IZ2 := hide hy2
 clear hi1 hy0 hy1 hy2
 have HD := hide h
 have HG := hide hG
 have HLP := hide hlp
 have HT := hide hT
 have hrn := h.rn
 have hpn := h.pn
 have C := hide (hL b kv rv pv kl rl l w h)
 clear h hG hL hlp hT
 go_enter Tryz.func232, Tryz.ntmps232
 go_wp2_with fail
 refine (uh C).mono ?_
 rintro e w1 ⟨sv, rfl, hb1, hs1⟩
 obtain ⟨la, lc, rfl⟩ := own_form hs1
 have B1 := hide hb1
 have sz1 := hb1.size
 have HS1 := hide hs1
 clear hb1 hs1 C
 go_wp2_with fail
 go_loopw [7, 9] (fun u7 u9 wr => ∃ (i : Nat) (fv : List Nat) (fa : Option Addr) (fc : Nat), i ≤ lv.length ∧ u9 = .int .i64 i ∧ u7 = .slice fa fv.length fc ∧ Below w.heap.size w wr ∧ Below w1.heap.size w1 wr ∧ wr.ownsRow w1.heap.size 3 1 (.slice fa fv.length fc) fv.length (fv.map fun n : Nat => .int .i64 n) ∧ Hid (fv = (lv.take i).flatMap (atP (hangP rl Gof kd) pl))) (fun _ u9 _ => lv.length - (intOf u9).toNat)
 case atStart => exact ⟨0, [], none, 0, by omega, rfl, rfl, uh B1, Below.refl _ _, World.ownsRow_nil _ _ _ _, hide (by simp)⟩
 case round =>
  obtain ⟨i, fv, fa, fc, hi1, rfl, rfl, hb, hbw, hrow, HF⟩ := hrel
  have HB := hide hb
  have HBW := hide hbw
  have HRW := hide hrow
  have hwr := hb.size
  have hwr1 := hbw.size
  by_cases hlt : i < lv.length
  ·obtain ⟨q, cq, e1, kc⟩ := own_cell (row_below (uh HS1) hbw) i (.int .i64 (lv[i] : Nat)) (by simp [List.getElem?_eq_getElem hlt])
   simp only [Value.slice.injEq, true_and] at e1
   obtain ⟨rfl, rfl⟩ := e1
   obtain ⟨p, hp, hpg, hp2, hp3⟩ := uh HLP _ (List.getElem_mem hlt)
   have HF2 := hide (flat_take (atP (hangP rl Gof kd) pl) lv i _ (List.getElem?_eq_getElem hlt))
   have hle := flat_le (atP (hangP rl Gof kd) pl) lv (i + 1)
   rw [uh HF2, ← uh HF, List.length_append, uh HT] at hle
   have hkn : (i : Int) < (lv.length : Int) := by omega
   generalize lv[i] = m at *
   have hd := (uh HD).below hb
   obtain ⟨gp, cp, ga, gc, pa, pc, sa, sc, hpv, hr, q0, q1, q2, q3, q4, q5, q6, q7⟩ := hd.pat m p hp
   have hm := (List.getElem?_eq_some_iff.1 hp).1
   have hm' : (m : Int) < (pl.length : Int) := by omega
   have hat : atP (hangP rl Gof kd) pl m = hangP rl Gof kd p := by unfold atP; rw [hp]
   rw [hat] at HF2 hle
   have c7 := hd.c7
   rw [hpv] at c7
   have HRG := hide hr.g
   have HP2 := hide hp2
   have HP3 := hide hp3
   have m7 := World.new_ne wr _ c7
   have mk := World.new_ne wr _ kc
   have mq := World.new_ne wr _ q0
   clear hb hbw hrow hd hr hp hpv hat hp2 hp3
   go_wp2_with fail
   go_region_held3 (fun w' => w'.cell? ⟨b, 7, none⟩ = some (.slice (some ⟨gp, 0, none⟩) pl.length cp) ∧ w'.cell? ⟨q, i, none⟩ = some (.int .i64 m) ∧ w'.cell? ⟨gp, m * 8, none⟩ = some (.int .i64 p.kind) ∧ w'.cell? ⟨gp, m * 8 + 1, none⟩ = some (.slice ga p.gs.length gc) ∧ w'.cell? ⟨gp, m * 8 + 2, none⟩ = some (.string p.nb) ∧ w'.cell? ⟨gp, m * 8 + 3, none⟩ = some (.string p.nr) ∧ w'.cell? ⟨gp, m * 8 + 4, none⟩ = some (.int .i64 p.pa) ∧ w'.cell? ⟨gp, m * 8 + 5, none⟩ = some (.int .i64 p.pr) ∧ w'.cell? ⟨gp, m * 8 + 6, none⟩ = some (.slice pa p.ps.length pc) ∧ w'.cell? ⟨gp, m * 8 + 7, none⟩ = some (.slice sa p.sg.length sc)) (go_keep) (fail)
   rename_i hh
   clear hh q0 q1 q2 q3 q4 q5 q6 q7 c7 kc m7 mk mq
   have b2 : Below wr.heap.size wr ((wr.alloc (.cells #[.int .i64 p.kind, .slice ga p.gs.length gc, .string p.nb, .string p.nr, .int .i64 p.pa, .int .i64 p.pr, .slice pa p.ps.length pc, .slice sa p.sg.length sc] 255)).drew) := ((Below.refl _ wr).alloc (Nat.le_refl _) _).drew
   have PB2 := hide (Blk.new wr #[.int .i64 p.kind, .slice ga p.gs.length gc, .string p.nb, .string p.nr, .int .i64 p.pa, .int .i64 p.pr, .slice pa p.ps.length pc, .slice sa p.sg.length sc] 255).drew
   have B2 := hide ((uh HB).trans (b2.mono hwr))
   have BW2 := hide ((uh HBW).trans (b2.mono hwr1))
   have R2 := hide (row_below (uh HRW) b2)
   have RG2 := hide (row_below (uh HRG) b2)
   clear b2 HB HBW HRW HRG
   go_wp2_with fail
   generalize (wr.alloc (.cells #[.int .i64 p.kind, .slice ga p.gs.length gc, .string p.nb, .string p.nr, .int .i64 p.pa, .int .i64 p.pr, .slice pa p.ps.length pc, .slice sa p.sg.length sc] 255)).drew = W2 at *
   generalize wr.heap.size = pb at *
   have hhl : (hangP rl Gof kd p).length = (p.gs.flatMap (hash1 rl)).length + (if p.kind = 2 then [(findN kd p.nr rl 0).toNat] else if p.kind = 3 then tiedN rl p.nr (Gof (findN kd p.nb rl 0).toNat) else []).length := by unfold hangP; rw [List.length_append]
   have HHL := hide hhl
   clear hhl
   go_loopw [7, 11] (fun u7 u11 wi => ∃ (k : Nat) (f2 : List Nat) (fa : Option Addr) (fc : Nat), k ≤ p.gs.length ∧ u11 = .int .i64 k ∧ u7 = .slice fa f2.length fc ∧ Below w.heap.size w wi ∧ Below w1.heap.size w1 wi ∧ Blk wi pb #[.int .i64 p.kind, .slice ga p.gs.length gc, .string p.nb, .string p.nr, .int .i64 p.pa, .int .i64 p.pr, .slice pa p.ps.length pc, .slice sa p.sg.length sc] 255 ∧ wi.ownsRow 0 257 4 (.slice ga p.gs.length gc) p.gs.length (p.gs.flatMap rgCells) ∧ wi.ownsRow w1.heap.size 3 1 (.slice fa f2.length fc) f2.length (f2.map fun n : Nat => .int .i64 n) ∧ Hid (f2 = fv ++ (p.gs.take k).flatMap (hash1 rl))) (fun _ u11 _ => p.gs.length - (intOf u11).toNat)
   case atStart => exact ⟨0, fv, fa, fc, by omega, rfl, rfl, uh B2, uh BW2, uh PB2, uh RG2, uh R2, hide (by simp)⟩
   case round =>
    clear B2 BW2 PB2 RG2 R2 hwr hwr1
    obtain ⟨k, f2, fa, fc, hk1, rfl, rfl, hb, hbw, hpb, hgr, hrow, HF3⟩ := hrel
    have HB := hide hb
    have HBW := hide hbw
    have HPB := hide hpb
    have HGR := hide hgr
    have HRW := hide hrow
    have hwi := hb.size
    have hwi1 := hbw.size
    obtain ⟨p0, p1, p2, p3, p4, p5, p6, p7⟩ := hpb.eight
    have pl0 := hpb.lt
    by_cases hkt : k < p.gs.length
    ·obtain ⟨gg, cg, e1, hc⟩ := flat_cell rgCells 4 (fun _ => rfl) hgr k p.gs[k] (List.getElem?_eq_getElem hkt)
     simp only [Value.slice.injEq, true_and] at e1
     obtain ⟨rfl, rfl⟩ := e1
     have HF4 := hide (flat_take (hash1 rl) p.gs k _ (List.getElem?_eq_getElem hkt))
     have hle2 := flat_le (hash1 rl) p.gs (k + 1)
     have hf2 := congrArg List.length (uh HF3)
     rw [uh HF4, List.length_append] at hle2
     rw [List.length_append] at hf2
     have hkn2 : (k : Int) < (p.gs.length : Int) := by omega
     generalize p.gs[k] = x at *
     have k0 : wr.cell? ⟨gg, k * 4, none⟩ = some (.string x.ty) := hc 0 _ (by omega) rfl
     have k1 : wr.cell? ⟨gg, k * 4 + 1, none⟩ = some (.string (relOf x)) := hc 1 _ (by omega) rfl
     have C := hide (rfind_any b kv rv pv kl rl pl l x.ty (relOf x) wr.drew ((uh HD).below ((uh HB).trans ((Below.refl _ _).drew.mono hwi))))
     have hbnd : f2.length + (hash1 rl x).length ≤ 1000000000 := by have := uh HHL; omega
     clear hb hbw hpb hgr hrow hc hf2 hle2
     rcases findN_cases x.ty (relOf x) rl 0 with hfi | ⟨j, hfi, hj1, hj2⟩
     ·rw [hfi] at C
      have hh1 : hash1 rl x = [] := by unfold hash1; rw [hfi]; simp
      have HF5 := hide (show f2 = fv ++ (p.gs.take (k + 1)).flatMap (hash1 rl) from by rw [uh HF4, hh1, List.append_nil]; exact uh HF3)
      clear hh1 hfi
      go_wp2_with fail
      go_region_held3 (fun w' => w'.cell? ⟨pb, 1, none⟩ = some (.slice (some ⟨gg, 0, none⟩) p.gs.length gc) ∧ w'.cell? ⟨gg, k * 4, none⟩ = some (.string x.ty) ∧ w'.cell? ⟨gg, k * 4 + 1, none⟩ = some (.string (relOf x))) (go_keep)
       ((go_at_call 132; refine (uh C).mono ?_; rintro e w5 ⟨rfl, hb5⟩; have BB := hide (show Below wr.heap.size wr w5 from (Below.refl _ wr).drew.trans hb5); have d0 := cell_below p1 (uh BB); have d1 := cell_below k0 (uh BB); have d2 := cell_below k1 (uh BB); clear hb5))
      clear p0 p1 p2 p3 p4 p5 p6 p7 k0 k1 d0 d1 d2 C
      have B6 := hide ((uh HB).trans ((uh BB).mono hwi))
      have BW6 := hide ((uh HBW).trans ((uh BB).mono hwi1))
      have PB6 := hide ((uh HPB).below (uh BB))
      have G6 := hide (row_below (uh HGR) (uh BB))
      have R6 := hide (row_below (uh HRW) (uh BB))
      clear HB HBW HPB HGR HRW
      go_wp2
      go_roundw
      case rel => exact ⟨k + 1, f2, fa, fc, by omega, by go_num, rfl, uh B6, uh BW6, uh PB6, uh G6, uh R6, HF5⟩
      case measure => simp [intOf]; omega
     ·rw [hfi] at C
      have hh1 : hash1 rl x = [j] := by unfold hash1; rw [hfi]; simp
      rw [hh1] at hbnd
      simp only [List.length_cons, List.length_nil] at hbnd
      have HF5 := hide (show f2 ++ [j] = fv ++ (p.gs.take (k + 1)).flatMap (hash1 rl) from by rw [uh HF4, hh1, ← List.append_assoc, ← uh HF3])
      have hj0 : (0 : Int) ≤ (j : Int) := by omega
      clear hh1 hfi
      go_wp2_with fail
      go_region_held3 (fun w' => w'.cell? ⟨pb, 1, none⟩ = some (.slice (some ⟨gg, 0, none⟩) p.gs.length gc) ∧ w'.cell? ⟨gg, k * 4, none⟩ = some (.string x.ty) ∧ w'.cell? ⟨gg, k * 4 + 1, none⟩ = some (.string (relOf x))) (go_keep)
       ((go_at_call 132; refine (uh C).mono ?_; rintro e w5 ⟨rfl, hb5⟩; have BB := hide (show Below wr.heap.size wr w5 from (Below.refl _ wr).drew.trans hb5); have d0 := cell_below p1 (uh BB); have d1 := cell_below k0 (uh BB); have d2 := cell_below k1 (uh BB); clear hb5))
      clear p0 p1 p2 p3 p4 p5 p6 p7 k0 k1 d0 d1 d2 C
      have B6 := hide ((uh HB).trans ((uh BB).mono hwi))
      have BW6 := hide ((uh HBW).trans ((uh BB).mono hwi1))
      have PB6 := hide ((uh HPB).below (uh BB))
      have G6 := hide (row_below (uh HGR) (uh BB))
      have R6 := hide (row_below (uh HRW) (uh BB))
      have sz6 := (uh B6).size
      have sz6w := (uh BW6).size
      clear HB HBW HPB HGR HRW
      go_wp2_with (at_builtin; go_must (refine wpList_append_lies _ rfl _ _ 29 rfl w1.heap.size 3 iI _ 1 8 Tryz.underlying29 (uh II) (uh IZ0) (uh IZ1) (uh IZ2) rfl (by decide) (.slice fa f2.length fc) f2.length (f2.map fun n : Nat => .int .i64 n) rfl ((uh R6).alloc _) ⟨w5.heap.size, 0, none⟩ 1 1 [.int .i64 j] rfl rfl ?hnewsA ?honeA (by decide) ?h63A ?hbytesA ?hbaseA (w5.heap.size + 1) ?hHA ?hrestA))
      case hnewsA => exact World.news_of_block (B := w5.heap.size) (cs := #[.int .i64 j]) (t := 3) (fr := (0, 0)) (Blk.new' _ _ _ _ rfl)
      case honeA =>
       intro u hu
       simp only [List.mem_cons, List.not_mem_nil, or_false] at hu
       rcases hu with rfl
       rfl
      case h63A => unfold maxLen; omega
      case hbytesA => omega
      case hbaseA => simp; omega
      case hHA => simp
      intro g5 cap5 w6 hown5 hgrow5 hat5 hgl5
      have B7 := hide (below_grown2 ((uh B6).alloc sz6 _) sz1 ((uh R6).alloc _) hgrow5)
      have BW7 := hide (below_grown ((uh BW6).alloc sz6w _) ((uh R6).alloc _) hgrow5)
      have PB7 := hide (blk_grown ((uh PB6).alloc _) ((uh R6).alloc _) hgrow5 (by decide))
      have G7 := hide (row_grown ((uh G6).alloc _) ((uh R6).alloc _) hgrow5 (by decide))
      have O7 := hide hown5
      clear hown5 hgrow5 hat5 hgl5 B6 BW6 PB6 G6 R6
      go_wp2
      go_roundw
      case rel => exact ⟨k + 1, f2 ++ [j], some ⟨g5, 0, none⟩, cap5, by omega, by go_num, by simp, uh B7, uh BW7, uh PB7, uh G7, by simpa using uh O7, HF5⟩
      case measure => simp [intOf]; omega
    ·have hkn2 : ¬ ((k : Int) < (p.gs.length : Int)) := by omega
     have hf2 : f2 = fv ++ p.gs.flatMap (hash1 rl) := by rw [uh HF3, List.take_of_length_le (by omega)]
     have HF5 := hide hf2
     have hf2l := congrArg List.length hf2
     rw [List.length_append] at hf2l
     have hbnd : f2.length + (if p.kind = 2 then [(findN kd p.nr rl 0).toNat] else if p.kind = 3 then tiedN rl p.nr (Gof (findN kd p.nb rl 0).toNat) else []).length ≤ 1000000000 := by have := uh HHL; omega
     clear hb hbw hpb hgr hrow hf2 hf2l
     by_cases hk2 : p.kind = 2
     ·have e2 : ((p.kind : Int) == 2) = true := by rw [hk2]; rfl
      have e3 : ((p.kind : Int) == 3) = false := by rw [hk2]; rfl
      have h0 := uh HP2 hk2
      obtain ⟨j, hfi, hj1, hj2⟩ : ∃ j : Nat, findN kd p.nr rl 0 = j ∧ 0 ≤ j ∧ j < 0 + rl.length := by
       rcases findN_cases kd p.nr rl 0 with hfi | h
       ·omega
       ·exact h
      rw [if_pos hk2] at hbnd
      simp only [List.length_cons, List.length_nil] at hbnd
      have HF6 := hide (show f2 ++ [j] = (lv.take (i + 1)).flatMap (atP (hangP rl Gof kd) pl) from by rw [uh HF2, ← uh HF, uh HF5]; unfold hangP; simp [hk2, hfi])
      have C := hide (rfind_any b kv rv pv kl rl pl l kd p.nr wr ((uh HD).below (uh HB)))
      rw [hfi] at C
      clear hk2 h0 hfi
      go_wp2_with fail
      refine (uh C).mono ?_
      rintro e w5 ⟨rfl, hb5⟩
      have B6 := hide ((uh HB).trans (hb5.mono hwi))
      have BW6 := hide ((uh HBW).trans (hb5.mono hwi1))
      have PB6 := hide ((uh HPB).below hb5)
      have R6 := hide (row_below (uh HRW) hb5)
      have sz6 := (uh B6).size
      have sz6w := (uh BW6).size
      clear hb5 C HB HBW HPB HGR HRW p0 p1 p2 p3 p4 p5 p6 p7
      go_wp2_with (at_builtin; go_must (refine wpList_append_lies _ rfl _ _ 29 rfl w1.heap.size 3 iI _ 1 8 Tryz.underlying29 (uh II) (uh IZ0) (uh IZ1) (uh IZ2) rfl (by decide) (.slice fa f2.length fc) f2.length (f2.map fun n : Nat => .int .i64 n) rfl ((uh R6).alloc _) ⟨w5.heap.size, 0, none⟩ 1 1 [.int .i64 j] rfl rfl ?hnewsB ?honeB (by decide) ?h63B ?hbytesB ?hbaseB (w5.heap.size + 1) ?hHB ?hrestB))
      case hnewsB => exact World.news_of_block (B := w5.heap.size) (cs := #[.int .i64 j]) (t := 3) (fr := (0, 0)) (Blk.new' _ _ _ _ rfl)
      case honeB =>
       intro u hu
       simp only [List.mem_cons, List.not_mem_nil, or_false] at hu
       rcases hu with rfl
       rfl
      case h63B => unfold maxLen; omega
      case hbytesB => omega
      case hbaseB => simp; omega
      case hHB => simp
      intro g5 cap5 w6 hown5 hgrow5 hat5 hgl5
      have B7 := hide (below_grown2 ((uh B6).alloc sz6 _) sz1 ((uh R6).alloc _) hgrow5)
      have BW7 := hide (below_grown ((uh BW6).alloc sz6w _) ((uh R6).alloc _) hgrow5)
      have PB7 := blk_grown ((uh PB6).alloc _) ((uh R6).alloc _) hgrow5 (by decide)
      obtain ⟨p0, p1, p2, p3, p4, p5, p6, p7⟩ := PB7.eight
      have pl7 := PB7.lt
      have O7 := hide hown5
      clear hown5 hgrow5 hat5 hgl5 B6 BW6 PB6 R6 PB7
      go_wp2
      go_roundw
      case rel => exact ⟨i + 1, f2 ++ [j], some ⟨g5, 0, none⟩, cap5, by omega, by go_num, by simp, uh B7, uh BW7, by simpa using uh O7, HF6⟩
      case measure => simp [intOf]; omega
     ·by_cases hk3 : p.kind = 3
      ·have e2 : ((p.kind : Int) == 2) = false := by rw [hk3]; rfl
       have e3 : ((p.kind : Int) == 3) = true := by rw [hk3]; rfl
       have h0 := uh HP3 hk3
       obtain ⟨j, hfi, hj1, hj2⟩ : ∃ j : Nat, findN kd p.nb rl 0 = j ∧ 0 ≤ j ∧ j < 0 + rl.length := by
        rcases findN_cases kd p.nb rl 0 with hfi | h
        ·omega
        ·exact h
       rw [if_neg hk2, if_pos hk3, hfi, Int.toNat_natCast] at hbnd
       have HF6 := hide (show f2 ++ tiedN rl p.nr (Gof j) = (lv.take (i + 1)).flatMap (atP (hangP rl Gof kd) pl) from by rw [uh HF2, ← uh HF, uh HF5]; unfold hangP; simp [hk3, hfi])
       have C := hide (rfind_any b kv rv pv kl rl pl l kd p.nb wr ((uh HD).below (uh HB)))
       rw [hfi] at C
       obtain ⟨hg1, hg2⟩ := uh HG j (by omega)
       have HG1 := hide hg1
       clear hk2 hk3 h0 hfi hg1
       generalize hTJ : tiedN rl p.nr (Gof j) = TJ at *
       go_wp2_with fail
       refine (uh C).mono ?_
       rintro e w5 ⟨rfl, hb5⟩
       have B6 := hide ((uh HB).trans (hb5.mono hwi))
       have BW6 := hide ((uh HBW).trans (hb5.mono hwi1))
       have PB6 := hide ((uh HPB).below hb5)
       have R6 := hide (row_below (uh HRW) hb5)
       have sz6 := (uh B6).size
       have sz6w := (uh BW6).size
       clear hb5 C HB HBW HPB HGR HRW p0 p1 p2 p3 p4 p5 p6 p7
       obtain ⟨p0, p1, p2, p3, p4, p5, p6, p7⟩ := (uh PB6).eight
       have pl6 := (uh PB6).lt
       have C2 := hide (rtied_any b kv rv pv kl rl pl l j (Gof j) p.nr w5 ((uh HD).below (uh B6)) (uh HG1) hg2)
       rw [hTJ] at C2
       clear hTJ
       go_wp2_with fail
       refine (uh C2).mono ?_
       rintro e w8 ⟨sv, rfl, hb8, hs8⟩
       obtain ⟨ta, tc, rfl⟩ := own_form hs8
       have B8 := hide ((uh B6).trans (hb8.mono sz6))
       have BW8 := hide ((uh BW6).trans (hb8.mono sz6w))
       have R8 := hide (row_below (uh R6) hb8)
       have S8 := hide hs8
       have sz8 := (uh BW8).size
       clear hb8 hs8 C2 B6 BW6 PB6 R6 p0 p1 p2 p3 p4 p5 p6 p7
       go_wp2_with (at_builtin; go_must (refine wpList_append_rows rfl _ _ 29 rfl w1.heap.size 3 iI _ 1 8 Tryz.underlying29 (uh II) (uh IZ0) (uh IZ1) (uh IZ2) rfl (by decide) (.slice fa f2.length fc) f2.length (f2.map fun n : Nat => .int .i64 n) rfl (uh R8) (.slice ta TJ.length tc) TJ.length (TJ.map fun n : Nat => .int .i64 n) rfl _ (uh S8) ?honeC ?h63C ?hbytesC sz8 ?hrestC))
       case honeC =>
        intro u hu
        obtain ⟨n, _, rfl⟩ := List.mem_map.1 hu
        rfl
       case h63C => unfold maxLen; omega
       case hbytesC => omega
       intro av cv w9 hown9 hgrow9 hat9
       have B9 := hide (below_grown2 (uh B8) sz1 (uh R8) hgrow9)
       have BW9 := hide (below_grown (uh BW8) (uh R8) hgrow9)
       have O9 := hide hown9
       clear hown9 hgrow9 hat9 B8 BW8 R8 S8
       go_wp2
       go_roundw
       case rel => exact ⟨i + 1, f2 ++ TJ, av, cv, by omega, by go_num, by simp, uh B9, uh BW9, by simpa using uh O9, HF6⟩
       case measure => simp [intOf]; omega
      ·have e2 : ((p.kind : Int) == 2) = false := beq_eq_false_iff_ne.2 (by omega)
       have e3 : ((p.kind : Int) == 3) = false := beq_eq_false_iff_ne.2 (by omega)
       have HF6 := hide (show f2 = (lv.take (i + 1)).flatMap (atP (hangP rl Gof kd) pl) from by rw [uh HF2, ← uh HF, uh HF5]; unfold hangP; simp [hk2, hk3])
       clear hk2 hk3 hbnd
       go_wp2
       go_roundw
       case rel => exact ⟨i + 1, f2, fa, fc, by omega, by go_num, rfl, uh HB, uh HBW, uh HRW, HF6⟩
       case measure => simp [intOf]; omega
  ·have hkn : ¬ ((i : Int) < (lv.length : Int)) := by omega
   have hfv : fv = T := by rw [uh HF, List.take_of_length_le (by omega), uh HT]
   have HFV := hide hfv
   have hw1 := (uh B1).size
   clear hb hbw hrow hfv
   go_wp2
   go_ret
   rw [← uh HFV]
   exact ⟨_, rfl, uh HB, ownsRow_base (uh HRW) hw1⟩
end Go.Proofs.YtlbpnlngckgcbaaGreatDoor
