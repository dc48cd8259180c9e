import Derived.Test.YtlbpnlngckgcbaaGreatDoorM33
import Derived.Test.YtlbpnlngckgcbaaGreatDoorM24
import Derived.Test.YtlbpnlngckgcbaaGreatDoorM31
namespace Go.Proofs.YtlbpnlngckgcbaaGreatDoor
open Go.RowKit Go.PlainAid
set_option linter.unusedSimpArgs false
set_option linter.unusedVariables false
/-! P4: the least place of a - whose next unit hangs on the relation that it stands in. -/
def minus (t : Tk) : Bool := (mk t.text).toList == [45]
def bst (bad : Nat → Bool) : List Nat → List Tk → Int → Int
 | m :: ms, t :: ts, c => bst bad ms ts (if minus t && bad m then stepB c t.place else c)
 | _, _, c => c
def bestL (bad : Nat → Bool) (pl : List PV) : Nat → List Nat → Int → Int
 | 0, _, c => c
 | _ + 1, [], c => c
 | f + 1, n :: q, c => match pl[n]? with
  | none => bestL bad pl f q c
  | some p => bestL bad pl f (q ++ p.ps) (bst bad (p.ps.drop 1) (p.sg.drop 1) c)
def badR (rl : List RV) (pl : List PV) (Gof : Nat → List Gr) (lvOf : Nat → List Nat) (i : Nat) (x : RV) (m : Nat) : Bool := (allN rl pl Gof lvOf (needN rl pl Gof x.kd (lvOf m) (lvOf x.ex))).any fun k => k == i
/-- The parts within the expression of a relation. -/
structure TreeOK (rl : List RV) (pl : List PV) (Gof : Nat → List Gr) (lvOf : Nat → List Nat) (x : RV) (Q : Nat → Prop) (sz : Nat → Nat) : Prop where
 root : Q x.ex
 szr : sz x.ex ≤ 1000
 step : ∀ n, Q n → ∃ p, pl[n]? = some p ∧ p.sg.length ≤ p.ps.length ∧ (p.ps.map sz).sum < sz n ∧ ∀ m ∈ p.ps, Q m ∧ PartOK rl pl x.kd m (lvOf m) ∧ (hangN rl pl Gof x.kd (lvOf m)).length ≤ 1000000000 ∧ (∀ r ∈ needN rl pl Gof x.kd (lvOf m) (lvOf x.ex), r < rl.length) ∧ (needN rl pl Gof x.kd (lvOf m) (lvOf x.ex)).length ≤ 900000000
 ex : PartOK rl pl x.kd x.ex (lvOf x.ex) ∧ (grN rl pl (lvOf x.ex)).length ≤ 1000000000
theorem sz_len (sz : Nat → Nat) : ∀ (l : List Nat), (∀ m ∈ l, 0 < sz m) → l.length ≤ (l.map sz).sum
 | [], _ => by simp
 | a :: l, h => by
  have h1 := h a (by simp)
  have h2 := sz_len sz l (fun m hm => h m (by simp [hm]))
  simp only [List.length_cons, List.map_cons, List.sum_cons]
  omega
def loopsR (rl : List RV) (pl : List PV) (Gof : Nat → List Gr) (lvOf : Nat → List Nat) (szOf : RV → Nat → Nat) : List RV → Nat → Int → Int
 | [], _, c => c
 | x :: xs, i, c => loopsR rl pl Gof lvOf szOf xs (i + 1) (bestL (badR rl pl Gof lvOf i x) pl (szOf x x.ex + 1) [x.ex] c)
theorem addNN_grown {s : List Nat} {m : Nat} : ∀ (l o : List Nat), GrownN s m o → (∀ x ∈ l, x < m) → GrownN s m (addNN o l)
 | [], o, h, _ => h
 | y :: l, o, h, hl => addNN_grown l (add1N o y) (h.add (hl y (by simp))) (fun x hx => hl x (by simp [hx]))
theorem allL_grown {s : List Nat} {m : Nat} (H : Nat → List Nat) (hH : ∀ r, ∀ x ∈ H r, x < m) : ∀ (f : Nat) (o : List Nat) (i : Nat), GrownN s m o → GrownN s m (allL H f o i)
 | 0, o, i, h => h
 | f + 1, o, i, h => by
  rw [allL]
  split
  ·exact h
  ·exact allL_grown H hH f _ _ (addNN_grown _ _ h (hH _))
theorem allN_len (rl : List RV) (pl : List PV) (Gof : Nat → List Gr) (lvOf : Nat → List Nat) (h : RelsOK rl pl Gof lvOf) (S : List Nat) : (allN rl pl Gof lvOf S).length ≤ S.length + rl.length := by
 refine GrownN.le (allL_grown _ (fun r x hx => ?_) _ _ _ ⟨[], by simp, by simp, by simp⟩)
 unfold hangR at hx
 cases hr : rl[r]? with
 | none => rw [hr] at hx; simp at hx
 | some y =>
  rw [hr] at hx
  exact (h y (List.mem_of_getElem? hr)).2.2 x hx
set_option maxHeartbeats 4000000 in
set_option maxRecDepth 100000 in
theorem rloops_any (b : Nat) (kv rv pv : Value) (kl : List (ByteArray × Nat)) (rl : List RV) (pl : List PV) (l : List PX) (Gof : Nat → List Gr) (lvOf : Nat → List Nat) (QOf : RV → Nat → Prop) (szOf : RV → Nat → Nat) (w : World) (h : DM w b kv rv pv kl rl pl l) (hG : GofOK rl pl Gof) (hR : RelsOK rl pl Gof lvOf) (hT : ∀ x ∈ rl, TreeOK rl pl Gof lvOf x (QOf x) (szOf x)) :
  Calls Tryz.prog 130 #[.pointer (some ⟨b, 5, none⟩)] w fun e w' => e = .returned (.int .i64 (loopsR rl pl Gof lvOf szOf rl 0 (-1))) ∧ Below w.heap.size w w' := by
 obtain ⟨iI, hi1, hy0, hy1, hy2⟩ := info_parts Tryz.infoInt
 have II := hide hi1
 have IZ0 := hide hy0
 have IZ1 := hide hy1
 have IZ2 := hide hy2
 clear hi1 hy0 hy1 hy2
 obtain ⟨ra, rc, rfl⟩ := own_form h.rt
 have HD := hide h
 have HG := hide hG
 have HRO := hide hR
 have HTO := hide hT
 have hrn := h.rn
 have hpn := h.pn
 generalize hA : loopsR rl pl Gof lvOf szOf rl 0 (-1) = R
 have HA := hide (show loopsR rl pl Gof lvOf szOf (rl.drop 0) 0 (-1) = R from hA)
 clear h hG hR hT hA
 go_enter Tryz.func130, Tryz.ntmps130
 go_wp2_with fail
 go_loopw [3, 4] (fun u3 u4 wr => ∃ (i : Nat) (c : Int), i ≤ rl.length ∧ u4 = .int .i64 i ∧ u3 = .int .i64 c ∧ Below w.heap.size w wr ∧ Hid (loopsR rl pl Gof lvOf szOf (rl.drop i) i c = R)) (fun _ u4 _ => rl.length - (intOf u4).toNat)
 case atStart => exact ⟨0, -1, by omega, rfl, rfl, Below.refl _ _, HA⟩
 case round =>
  clear HA
  obtain ⟨i, c, hi, rfl, rfl, hb, HQ⟩ := hrel
  have c6 := ((uh HD).below hb).c6
  have HB := hide hb
  have hwr := hb.size
  by_cases hlt : i < rl.length
  ·have hkn : (i : Int) < (rl.length : Int) := by omega
   obtain ⟨gr, cr, e1, X0, X1, X2, X3⟩ := (uh HD).rat i rl[i] (List.getElem?_eq_getElem hlt)
   simp only [Value.slice.injEq, true_and] at e1
   obtain ⟨rfl, rfl⟩ := e1
   have hq := uh HQ
   rw [List.drop_eq_getElem_cons hlt, loopsR] at hq
   have hto := uh HTO _ (List.getElem_mem hlt)
   generalize rl[i] = x at *
   have x3 := cell_below X3 hb
   have HX0 := hide X0
   have HX3 := hide X3
   have HTR := hide hto
   have hroot := hto.szr
   generalize hbm : bestL (badR rl pl Gof lvOf i x) pl (szOf x x.ex + 1) [x.ex] c = Rm at hq
   have HBM := hide hbm
   have HQ2 := hide hq
   have bx : Below wr.heap.size wr (wr.alloc (.cells #[.int .i64 x.ex] 3)) := (Below.refl _ _).alloc (Nat.le_refl _) _
   have B1 := hide ((uh HB).trans (bx.mono hwr))
   have R1 := hide (show (wr.alloc (.cells #[.int .i64 x.ex] 3)).ownsRow w.heap.size 3 1 (.slice (some ⟨wr.heap.size, 0, none⟩) 1 1) 1 ([x.ex].map fun n : Nat => .int .i64 n) from ⟨rfl, .inr ⟨wr.heap.size, 1, #[.int .i64 x.ex], rfl, hwr, Blk.new wr _ _, by omega, by unfold maxLen; omega, rfl, rfl⟩⟩)
   clear hb HQ hq hto X0 X1 X2 X3 hbm bx
   go_wp2_with fail
   go_loopg [3, 5, 6] (szOf x x.ex + 1) (fun gk u3 u5 u6 wi => ∃ (k : Nat) (inn : List Nat) (ia : Option Addr) (ic : Nat) (c : Int), u6 = .int .i64 k ∧ u5 = .slice ia inn.length ic ∧ u3 = .int .i64 c ∧ k ≤ inn.length ∧ gk = szOf x x.ex + 1 - k ∧ Below w.heap.size w wi ∧ wi.ownsRow w.heap.size 3 1 (.slice ia inn.length ic) inn.length (inn.map fun n : Nat => .int .i64 n) ∧ Hid (k + ((inn.drop k).map (szOf x)).sum ≤ szOf x x.ex ∧ (∀ m ∈ inn.drop k, QOf x m) ∧ bestL (badR rl pl Gof lvOf i x) pl gk (inn.drop k) c = Rm))
   case atStart => exact ⟨0, [x.ex], _, 1, c, rfl, rfl, rfl, by omega, by omega, uh B1, uh R1, hide ⟨by simp, fun m hm => by simp at hm; subst hm; exact (uh HTR).root, uh HBM⟩⟩
   case round =>
    clear B1 R1 HBM x3 c6
    obtain ⟨k, inn, ia, ic, c, rfl, rfl, rfl, hkl, rfl, hb, hrow, HI⟩ := hrel
    have HB := hide hb
    have HRW := hide hrow
    have hwi := hb.size
    have hpos : ∀ m ∈ inn.drop k, 0 < szOf x m := fun m hm => by
     obtain ⟨p, _, _, h3, _⟩ := (uh HTR).step m ((uh HI).2.1 m hm)
     omega
    have hlen := sz_len (szOf x) (inn.drop k) hpos
    have hsum := (uh HI).1
    rw [List.length_drop] at hlen
    by_cases hkt : k < inn.length
    ·have hkn2 : (k : Int) < (inn.length : Int) := by omega
     obtain ⟨q, cq, e1, kc⟩ := own_cell hrow k (.int .i64 (inn[k] : Nat)) (by simp [List.getElem?_eq_getElem hkt])
     simp only [Value.slice.injEq, true_and] at e1
     obtain ⟨rfl, rfl⟩ := e1
     obtain ⟨hI1, hI2, hI3⟩ := uh HI
     rw [List.drop_eq_getElem_cons hkt] at hI1 hI2 hI3
     obtain ⟨p, hp, hps, hsz, hch⟩ := (uh HTR).step inn[k] (hI2 inn[k] List.mem_cons_self)
     rw [show szOf x x.ex + 1 - k = (szOf x x.ex - k) + 1 by omega, bestL, hp] at hI3
     simp only [List.map_cons, List.sum_cons] at hI1
     generalize inn[k] = m at *
     obtain ⟨gp, cp, ga, gc, pa, pc, sa, sc, hpv, hr, q0, q1, q2, q3, q4, q5, q6, q7⟩ := (uh HD).pat m p hp
     have hm := (List.getElem?_eq_some_iff.1 hp).1
     have hm' : (m : Int) < (pl.length : Int) := by omega
     have c7 := ((uh HD).below hb).c7
     rw [hpv] at c7
     have HPS := hide hr.p
     have HSG := hide hr.s
     have HCH := hide hch
     have HI3 := hide hI3
     have hpl : p.ps.length ≤ 1000 := by
      have hp' : ∀ m ∈ p.ps, 0 < szOf x m := fun m hm => by
       obtain ⟨p, _, _, h3, _⟩ := (uh HTR).step m (hch m hm).1
       omega
      have := sz_len (szOf x) p.ps hp'
      omega
     have hQ3 : (k + 1) + (((inn ++ p.ps).drop (k + 1)).map (szOf x)).sum ≤ szOf x x.ex := by
      rw [List.drop_append_of_le_length (by omega), List.map_append, List.sum_append]
      omega
     have hQ4 : ∀ m ∈ (inn ++ p.ps).drop (k + 1), QOf x m := fun m hm => by
      rw [List.drop_append_of_le_length (by omega)] at hm
      rcases List.mem_append.1 hm with hm | hm
      ·exact hI2 m (List.mem_cons_of_mem _ hm)
      ·exact (hch m hm).1
     have HQ34 := hide (And.intro hQ3 hQ4)
     have z0 := cell_below q0 hb
     have z1 := cell_below q1 hb
     have z2 := cell_below q2 hb
     have z3 := cell_below q3 hb
     have z4 := cell_below q4 hb
     have z5 := cell_below q5 hb
     have z6 := cell_below q6 hb
     have z7 := cell_below q7 hb
     have m7 := World.new_ne wr _ c7
     have mk := World.new_ne wr _ kc
     have mq := World.new_ne wr _ z0
     clear hb hrow hr hp hpv hch hI1 hI2 hI3 HI hQ3 hQ4 q0 q1 q2 q3 q4 q5 q6 q7 hpos
     go_wp2_with fail
     go_region_held3 (fun w' => w'.cell? ⟨b, 7, none⟩ = some (.slice (some ⟨gp, 0, none⟩) pl.length cp) ∧ w'.cell? ⟨q, k, none⟩ = some (.int .i64 m) ∧ w'.cell? ⟨gp, m * 8, none⟩ = some (.int .i64 p.kind) ∧ w'.cell? ⟨gp, m * 8 + 1, none⟩ = some (.slice ga p.gs.length gc) ∧ w'.cell? ⟨gp, m * 8 + 2, none⟩ = some (.string p.nb) ∧ w'.cell? ⟨gp, m * 8 + 3, none⟩ = some (.string p.nr) ∧ w'.cell? ⟨gp, m * 8 + 4, none⟩ = some (.int .i64 p.pa) ∧ w'.cell? ⟨gp, m * 8 + 5, none⟩ = some (.int .i64 p.pr) ∧ w'.cell? ⟨gp, m * 8 + 6, none⟩ = some (.slice pa p.ps.length pc) ∧ w'.cell? ⟨gp, m * 8 + 7, none⟩ = some (.slice sa p.sg.length sc)) (go_keep) (fail)
     rename_i hh
     clear hh z0 z1 z2 z3 z4 z5 z6 z7 c7 kc m7 mk mq
     have b2 : Below wr.heap.size wr ((wr.alloc (.cells #[.int .i64 p.kind, .slice ga p.gs.length gc, .string p.nb, .string p.nr, .int .i64 p.pa, .int .i64 p.pr, .slice pa p.ps.length pc, .slice sa p.sg.length sc] 255)).drew) := ((Below.refl _ wr).alloc (Nat.le_refl _) _).drew
     have PB2 := hide (Blk.new wr #[.int .i64 p.kind, .slice ga p.gs.length gc, .string p.nb, .string p.nr, .int .i64 p.pa, .int .i64 p.pr, .slice pa p.ps.length pc, .slice sa p.sg.length sc] 255).drew
     have B2 := hide ((uh HB).trans (b2.mono hwi))
     have R2 := hide (row_below (uh HRW) b2)
     have sz2 := (uh B2).size
     obtain ⟨p0, p1, p2, p3, p4, p5, p6, p7⟩ := (uh PB2).eight
     have pl2 := (uh PB2).lt
     have S2 := hide (row_below (uh HPS) (uh B2))
     clear b2 HB HRW
     generalize (wr.alloc (.cells #[.int .i64 p.kind, .slice ga p.gs.length gc, .string p.nb, .string p.nr, .int .i64 p.pa, .int .i64 p.pr, .slice pa p.ps.length pc, .slice sa p.sg.length sc] 255)).drew = W2 at *
     generalize wr.heap.size = pb at *
     go_wp2_with (at_builtin; go_must (refine wpList_append_rows rfl _ _ 29 rfl w.heap.size 3 iI _ 1 8 Tryz.underlying29 (uh II) (uh IZ0) (uh IZ1) (uh IZ2) rfl (by decide) (.slice (some ⟨q, 0, none⟩) inn.length ic) inn.length (inn.map fun n : Nat => .int .i64 n) rfl (uh R2) (.slice pa p.ps.length pc) p.ps.length (p.ps.map fun n : Nat => .int .i64 n) rfl _ (uh S2) ?honeA ?h63A ?hbytesA sz2 ?hrestA))
     case honeA =>
      intro u hu
      obtain ⟨n, _, rfl⟩ := List.mem_map.1 hu
      rfl
     case h63A => unfold maxLen; omega
     case hbytesA => omega
     intro av cv w3 hown3 hgrow3 hat3
     have B3 := hide (below_grown (uh B2) (uh R2) hgrow3)
     have PB3 := hide (blk_grown (uh PB2) (uh R2) hgrow3 (by decide))
     have O3 := hide hown3
     clear hown3 hgrow3 hat3 B2 R2 PB2 S2 p0 p1 p2 p3 p4 p5 p6 p7 pl2
     go_wp2_with fail
     have sz3 := (uh B3).size
     have hsg : p.sg.length ≤ 1000 := by omega
     go_loopw [3, 8] (fun u3 u8 wi => ∃ (j : Nat) (c' : Int), 1 ≤ j ∧ j ≤ p.sg.length + 1 ∧ u8 = .int .i64 j ∧ u3 = .int .i64 c' ∧ Below w.heap.size w wi ∧ Below w3.heap.size w3 wi ∧ Hid (bst (badR rl pl Gof lvOf i x) (p.ps.drop j) (p.sg.drop j) c' = bst (badR rl pl Gof lvOf i x) (p.ps.drop 1) (p.sg.drop 1) c)) (fun _ u8 _ => p.sg.length + 1 - (intOf u8).toNat)
     case atStart => exact ⟨1, c, by omega, by omega, rfl, rfl, uh B3, Below.refl _ _, hide rfl⟩
     case round =>
      obtain ⟨j, c', hj1, hj2, rfl, rfl, hb, hc3, HI5⟩ := hrel
      have HB := hide hb
      have HC3 := hide hc3
      have hwj := hb.size
      have hwc := hc3.size
      have hpb := (uh PB3).below hc3
      obtain ⟨p0, p1, p2, p3, p4, p5, p6, p7⟩ := hpb.eight
      have plj := hpb.lt
      by_cases hjt : j < p.sg.length
      ·have hjn : (j : Int) < (p.sg.length : Int) := by omega
       have hjp : j < p.ps.length := by omega
       have hjpn : (j : Int) < (p.ps.length : Int) := by omega
       obtain ⟨qp, cqp, e1, kp⟩ := own_cell (row_below (uh HPS) hb) j (.int .i64 (p.ps[j] : Nat)) (by simp [List.getElem?_eq_getElem hjp])
       simp only [Value.slice.injEq, true_and] at e1
       obtain ⟨rfl, rfl⟩ := e1
       obtain ⟨qs, cqs, e1, hcs⟩ := flat_cell tkCells 3 (fun _ => rfl) (row_below (uh HSG) hb) j p.sg[j] (List.getElem?_eq_getElem hjt)
       simp only [Value.slice.injEq, true_and] at e1
       obtain ⟨rfl, rfl⟩ := e1
       have hq5 := uh HI5
       rw [List.drop_eq_getElem_cons hjp, List.drop_eq_getElem_cons hjt, bst] at hq5
       obtain ⟨_, hpo, hh1, hn1, hn2⟩ := uh HCH _ (List.getElem_mem hjp)
       generalize p.ps[j] = mm at *
       generalize p.sg[j] = t at *
       have s0 : wr.cell? ⟨qs, j * 3, none⟩ = some (.string (mk t.text)) := hcs 0 _ (by omega) rfl
       have s1 : wr.cell? ⟨qs, j * 3 + 1, none⟩ = some (.int .i64 t.place) := hcs 1 _ (by omega) rfl
       have c6 := ((uh HD).below hb).c6
       have x0 := cell_below (uh HX0) hb
       have x3 := cell_below (uh HX3) hb
       have hal := allN_len rl pl Gof lvOf (uh HRO) (needN rl pl Gof x.kd (lvOf mm) (lvOf x.ex))
       have CA := hide (rall_any b kv _ pv kl rl pl l Gof lvOf x.kd mm x.ex (lvOf mm) (lvOf x.ex) wr.drew ((uh HD).below (hb.drew)) (uh HG) hpo (uh HTR).ex.1 hh1 (uh HTR).ex.2 (uh HRO) hn1 hn2)
       have hbd : badR rl pl Gof lvOf i x mm = (allN rl pl Gof lvOf (needN rl pl Gof x.kd (lvOf mm) (lvOf x.ex))).any fun k => k == i := rfl
       rw [hbd] at hq5
       generalize hND : needN rl pl Gof x.kd (lvOf mm) (lvOf x.ex) = ND at *
       generalize allN rl pl Gof lvOf ND = AL at *
       have hal2 : AL.length ≤ 1000000000 := by omega
       clear hb hc3 hpo hh1 hn1 hcs hbd hal hND hpb
       go_wp2_with fail
       go_region_held3 (fun w' => w'.cell? ⟨b, 6, none⟩ = some (.slice (some ⟨gr, 0, none⟩) rl.length rc) ∧ w'.cell? ⟨gr, i * 4, none⟩ = some (.string x.kd) ∧ w'.cell? ⟨gr, i * 4 + 3, none⟩ = some (.int .i64 x.ex) ∧ w'.cell? ⟨pb, 6, none⟩ = some (.slice (some ⟨qp, 0, none⟩) p.ps.length pc) ∧ w'.cell? ⟨qp, j, none⟩ = some (.int .i64 mm)) (go_keep)
        ((go_at_call 193; refine (uh CA).mono ?_; rintro e w5 ⟨sv, rfl, hb5, hs5⟩; have BB := hide (show Below wr.heap.size wr w5 from (Below.refl _ wr).drew.trans hb5); have d0 := cell_below c6 (uh BB); have d1 := cell_below x0 (uh BB); have d2 := cell_below x3 (uh BB); have d3 := cell_below p6 (uh BB); have d4 := cell_below kp (uh BB); have HS5 := hide hs5; obtain ⟨ha, hc5, rfl⟩ := own_form (uh HS5); clear hb5 hs5))
       have B5 := hide ((uh HB).trans ((uh BB).mono hwj))
       have C5 := hide ((uh HC3).trans ((uh BB).mono hwc))
       have CI := hide (isin_any _ _ AL i w5 (uh HS5) hal2)
       have t0 := cell_below s0 (uh BB)
       have t1 := cell_below s1 (uh BB)
       have v7 := cell_below p7 (uh BB)
       have szb := (uh BB).size
       clear c6 x0 x3 p0 p1 p2 p3 p4 p5 p6 p7 kp s0 s1 d0 d1 d2 d3 d4 CA HB HC3 BB HS5
       go_wp2_with fail
       refine (uh CI).mono ?_
       rintro e w7 ⟨rfl, hb7⟩
       have B7 := hide ((uh B5).trans (hb7.mono (uh B5).size))
       have C7 := hide ((uh C5).trans (hb7.mono (uh C5).size))
       have f0 := cell_below t0 hb7
       have f1 := cell_below t1 hb7
       have f7 := cell_below v7 hb7
       clear hb7 CI B5 C5 t0 t1 v7
       generalize (AL.any fun k => k == i) = bd at *
       cases hmi : minus t
       ·rw [hmi, Bool.false_and] at hq5
        simp only [Bool.false_eq_true, if_false] at hq5
        unfold minus at hmi
        have HQ5 := hide hq5
        clear hq5 HI5
        go_wp2
        go_roundw
        case rel => exact ⟨j + 1, _, by omega, by omega, by go_num, rfl, uh B7, uh C7, HQ5⟩
        case measure => simp [intOf]; omega
       ·rw [hmi, Bool.true_and] at hq5
        unfold minus at hmi
        cases bd
        ·simp only [Bool.false_eq_true, if_false] at hq5
         have HQ5 := hide hq5
         clear hq5 HI5
         go_wp2
         go_roundw
         case rel => exact ⟨j + 1, _, by omega, by omega, by go_num, rfl, uh B7, uh C7, HQ5⟩
         case measure => simp [intOf]; omega
        ·simp only [if_true] at hq5
         by_cases h0 : c' < 0
         ·rw [show stepB c' t.place = t.place from by simp [stepB, h0]] at hq5
          have HQ5 := hide hq5
          clear hq5 HI5
          go_wp2
          go_roundw
          case rel => exact ⟨j + 1, _, by omega, by omega, by go_num, rfl, uh B7, uh C7, HQ5⟩
          case measure => simp [intOf]; omega
         ·by_cases h1 : (t.place : Int) < c'
          ·rw [show stepB c' t.place = t.place from by simp [stepB, h1]] at hq5
           have HQ5 := hide hq5
           clear hq5 HI5
           go_wp2
           go_roundw
           case rel => exact ⟨j + 1, _, by omega, by omega, by go_num, rfl, uh B7, uh C7, HQ5⟩
           case measure => simp [intOf]; omega
          ·rw [show stepB c' t.place = c' from by simp [stepB, h0, h1]] at hq5
           have HQ5 := hide hq5
           clear hq5 HI5
           go_wp2
           go_roundw
           case rel => exact ⟨j + 1, _, by omega, by omega, by go_num, rfl, uh B7, uh C7, HQ5⟩
           case measure => simp [intOf]; omega
      ·have hjn : ¬ ((j : Int) < (p.sg.length : Int)) := by omega
       have hq5 := uh HI5
       rw [show bst (badR rl pl Gof lvOf i x) (p.ps.drop j) (p.sg.drop j) c' = c' from by rw [List.drop_of_length_le (show p.sg.length ≤ j by omega)]; cases p.ps.drop j <;> rfl] at hq5
       have HQ5 := hide hq5
       have RR := hide (row_below (uh O3) hc3)
       clear hb hc3 hq5 HI5 hpb
       go_wp2
       go_roundg (szOf x x.ex - k)
       case measure => omega
       case rel => exact ⟨k + 1, inn ++ p.ps, av, cv, c', by go_num, by simp, rfl, by simp; omega, by omega, uh HB, by simpa using uh RR, hide ⟨(uh HQ34).1, (uh HQ34).2, by rw [List.drop_append_of_le_length (by omega), uh HQ5]; exact uh HI3⟩⟩
    ·have hkn2 : ¬ ((k : Int) < (inn.length : Int)) := by omega
     obtain ⟨hI1, hI2, hI3⟩ := uh HI
     rw [List.drop_of_length_le (by omega), show szOf x x.ex + 1 - k = (szOf x x.ex - k) + 1 by omega, bestL] at hI3
     have HC := hide hI3
     clear hb hrow hI1 hI2 hI3 HI hpos
     go_wp2
     go_roundw
     case rel => exact ⟨i + 1, c, by omega, by go_num, rfl, uh HB, hide (by rw [uh HC]; exact uh HQ2)⟩
     case measure => simp [intOf]; omega
  ·have hkn : ¬ ((i : Int) < (rl.length : Int)) := by omega
   have hq := uh HQ
   rw [List.drop_of_length_le (by omega), loopsR] at hq
   have HRF := hide hq
   clear hb HQ hq
   go_wp2
   go_ret
   exact ⟨by rw [← uh HRF]; rfl, uh HB⟩
/-! P3, P4: the document's Parse. -/
/-- What the document's checks say of a model that was read, against the program's. -/
def PremOK (kl : List (ByteArray × Nat)) (rl : List RV) (pl : List PV) (ts : List Ty) : Prop :=
 ∃ (Gof : Nat → List Gr) (lvOf : Nat → List Nat) (QOf : RV → Nat → Prop) (szOf : RV → Nat → Nat), GofOK rl pl Gof ∧ LvOK rl pl lvOf ∧ rtwice kl rl = intO (twT [] ts) ∧ (twT [] ts = none → rnames kl rl pl Gof lvOf = eachN (namesP ts) ts ∧ (eachN (namesP ts) ts = none → RelsOK rl pl Gof lvOf ∧ (∀ x ∈ rl, TreeOK rl pl Gof lvOf x (QOf x) (szOf x)) ∧ loopsR rl pl Gof lvOf szOf rl 0 (-1) = intO (eachN (loopsP ts) ts)))
/-- What Parse gives. -/
def PaPost (s : ByteArray) (w : World) (e : Ending) (w' : World) : Prop := Below w.heap.size w w' ∧ (match modelR (TT s) (PP s) with
 | .error (c, jj) => c ≠ 0 ∧ e = .returned (.tuple #[.pointer none, .int .i64 c, .int .i64 (PP s jj)])
 | .ok (ts, m) => match checkP ts with
  | some (p, c) => e = .returned (.tuple #[.pointer none, .int .i64 c, .int .i64 p])
  | none => ∃ b kv rv pv kl rl pl l, e = .returned (.tuple #[.pointer (some ⟨b, 5, none⟩), .int .i64 0, .int .i64 0]) ∧ DM w' b kv rv pv kl rl pl l ∧ ModB pl kl rl ts ∧ Gd s m)
theorem RM.dm {base : Nat} {w : World} {b : Nat} {s : ByteArray} {tv : Value} {i d e a : Nat} {kv rv pv : Value} {kl : List (ByteArray × Nat)} {rl : List RV} {pl : List PV} {l : List PX} (h : RM base w b s tv i d e a kv rv pv kl rl pl l) (h1 : kl.length ≤ 5) (h2 : rl.length ≤ 500) (h3 : pl.length ≤ 500) : DM w b kv rv pv kl rl pl l := by
 obtain ⟨_, _, _, _, _, c5, c6, c7⟩ := h.rs.blk.eight
 exact ⟨c5, c6, c7, own_zero h.kt, own_zero h.rt, ⟨h.pt.fst, own_zero h.pt.row, h.pt.rep⟩, h1, h2, h3⟩
set_option maxHeartbeats 2000000 in
set_option maxRecDepth 100000 in
theorem parse_long (s : ByteArray) (w : World) (hs : 500 < s.size) : Calls Tryz.prog 80 #[.string s] w fun e w' => e = .returned (.tuple #[.pointer none, .int .i64 1, .int .i64 0]) ∧ Below w.heap.size w w' := by
 have hs' : (500 : Int) < (s.size : Int) := by omega
 go_enter Tryz.func80, Tryz.ntmps80
 go_wp2
 go_ret3
 exact ⟨rfl, Below.refl _ _⟩
set_option maxHeartbeats 2000000 in
set_option maxRecDepth 100000 in
theorem parse_any (s : ByteArray) (w : World) (hs : s.size ≤ 500) (PR : ∀ kl rl pl ts m, modelR (TT s) (PP s) = .ok (ts, m) → Gd s m → ModB pl kl rl ts → PremOK kl rl pl ts) : Calls Tryz.prog 80 #[.string s] w (PaPost s w) := by
 have hs' : ¬ ((500 : Int) < (s.size : Int)) := by omega
 have HPR := hide PR
 have C := hide (rtokens_any s w hs)
 have HSZ := hide hs
 clear PR hs
 go_enter Tryz.func80, Tryz.ntmps80
 go_wp2_with fail
 refine (uh C).mono ?_
 rintro e w1 ⟨v, rfl, hb1, hs1⟩
 obtain ⟨ta, tc, rfl⟩ := own_form hs1
 have b2 := hb1.alloc hb1.size (.cells #[.slice ta (toks s).length tc, .int .i64 0, .int .i64 0, .int .i64 0, .int .i64 0, .slice none 0 0, .slice none 0 0, .slice none 0 0] 252)
 have hsz1 := hb1.size
 have RM1 := hide (show RM w.heap.size (w1.alloc (.cells #[.slice ta (toks s).length tc, .int .i64 0, .int .i64 0, .int .i64 0, .int .i64 0, .slice none 0 0, .slice none 0 0, .slice none 0 0] 252)) w1.heap.size s (.slice ta (toks s).length tc) 0 0 0 0 (.slice none 0 0) (.slice none 0 0) (.slice none 0 0) [] [] [] [] from
  ⟨⟨Blk.new w1 _ _, own_zero (hs1.alloc _), fun j hj => by omega, ⟨⟨_, _, _, rfl⟩, ⟨_, _, _, rfl⟩, ⟨_, _, _, rfl⟩⟩, uh HSZ⟩, ⟨rfl, World.ownsRow_nil _ _ _ _, by simp⟩, World.ownsRow_nil _ _ _ _, World.ownsRow_nil _ _ _ _⟩)
 have B2 := hide b2
 have C2 := hide (rmodel_any w.heap.size w1.heap.size s _ _ _ _ [] _ (uh RM1) hsz1 (by simp; omega))
 clear hb1 hs1 C b2 RM1
 go_wp2_with fail
 refine (uh C2).mono ?_
 rintro e w3 ⟨rfl, hb3, kv, rv, pv, kl, rl, pl, l, j, e3, a3, rm3, hres⟩
 have B3 := hide ((uh B2).trans hb3)
 have sz3 := (uh B3).size
 obtain ⟨r0, r1, r2, r3, r4, r5, r6, r7⟩ := rm3.rs.blk.eight
 have HRM := hide rm3
 have hrl := rm3.rs.lt
 generalize hb0 : w1.heap.size = b at *
 clear hb0 hb3 rm3 C2 B2
 cases hm : modelR (TT s) (PP s) with
 | error er =>
  obtain ⟨c, jj⟩ := er
  rw [hm] at hres
  obtain ⟨hc, rfl, rfl⟩ := hres
  have hc' : ¬ ((e3 : Int) = 0) := by omega
  have hc2 : ((e3 : Int) != 0) = true := bne_iff_ne.2 hc'
  have HM := hide hm
  clear hm
  go_wp2
  go_quiet (fail)
  go_wp2
  go_ret3
  exact ⟨below_drewN (uh B3) _, by rw [uh HM]; exact ⟨by omega, rfl⟩⟩
 | ok y =>
  obtain ⟨ts, m⟩ := y
  rw [hm] at hres
  obtain ⟨rfl, rfl, h1, h2, h3, hmb⟩ := hres
  obtain ⟨Gof, lvOf, QOf, szOf, hG, hL, htw, hrest⟩ := uh HPR kl rl pl ts _ hm (uh HRM).rs.gd hmb
  have HDM := hide ((uh HRM).dm h1 h2 h3)
  have HMB := hide hmb
  have HGD := hide (uh HRM).rs.gd
  have HM := hide hm
  have HG := hide hG
  have HL := hide hL
  have HRE := hide hrest
  have C := hide (rtwice_any b kv rv pv kl rl pl l w3 (uh HDM))
  rw [htw] at C
  clear hm hmb hG hL htw hrest HRM HPR
  cases ht : twT [] ts with
  | some p =>
   rw [ht] at C
   have HT := hide ht
   unfold intO at C
   simp only at C
   clear ht
   have hp0 : (0 : Int) ≤ (p : Int) := by omega
   go_wp2_with fail
   refine (uh C).mono ?_
   rintro e w4 ⟨rfl, hb4⟩
   have B4 := hide ((uh B3).trans (hb4.mono sz3))
   clear hb4 C
   go_wp2
   go_ret3
   exact ⟨uh B4, by rw [uh HM]; simp only [checkP, uh HT]; rfl⟩
  | none =>
   rw [ht] at C
   have HT := hide ht
   obtain ⟨hnm, hrest2⟩ := uh HRE ht
   have HRE2 := hide hrest2
   have HNM := hide hnm
   unfold intO at C
   simp only at C
   clear ht HRE hnm hrest2
   go_wp2_with fail
   refine (uh C).mono ?_
   rintro e w4 ⟨rfl, hb4⟩
   have B4 := hide ((uh B3).trans (hb4.mono sz3))
   have sz4 := (uh B4).size
   have D4 := hide ((uh HDM).below hb4)
   clear hb4 C
   have C := hide (rnames_any b kv rv pv kl rl pl l Gof lvOf w4 (uh D4) (uh HG) (uh HL))
   rw [uh HNM] at C
   cases hn : eachN (namesP ts) ts with
   | some p =>
    rw [hn] at C
    have HN := hide hn
    unfold intO at C
    simp only at C
    clear hn
    have hp0 : (0 : Int) ≤ (p : Int) := by omega
    go_wp2_with fail
    refine (uh C).mono ?_
    rintro e w5 ⟨rfl, hb5⟩
    have B5 := hide ((uh B4).trans (hb5.mono sz4))
    clear hb5 C
    go_wp2
    go_ret3
    exact ⟨uh B5, by rw [uh HM]; simp only [checkP, uh HT, uh HN]; rfl⟩
   | none =>
    rw [hn] at C
    have HN := hide hn
    obtain ⟨hro, hto, hlo⟩ := uh HRE2 hn
    have HRO := hide hro
    have HTO := hide hto
    have HLO := hide hlo
    unfold intO at C
    simp only at C
    clear hn HRE2 hro hto hlo
    go_wp2_with fail
    refine (uh C).mono ?_
    rintro e w5 ⟨rfl, hb5⟩
    have B5 := hide ((uh B4).trans (hb5.mono sz4))
    have sz5 := (uh B5).size
    have D5 := hide ((uh D4).below hb5)
    clear hb5 C D4 HDM
    have C := hide (rloops_any b kv rv pv kl rl pl l Gof lvOf QOf szOf w5 (uh D5) (uh HG) (uh HRO) (uh HTO))
    rw [uh HLO] at C
    cases hl : eachN (loopsP ts) ts with
    | some p =>
     rw [hl] at C
     have HLL := hide hl
     unfold intO at C
     simp only at C
     clear hl
     have hp0 : (0 : Int) ≤ (p : Int) := by omega
     go_wp2_with fail
     refine (uh C).mono ?_
     rintro e w6 ⟨rfl, hb6⟩
     have B6 := hide ((uh B5).trans (hb6.mono sz5))
     clear hb6 C
     go_wp2
     go_ret3
     exact ⟨uh B6, by rw [uh HM]; simp only [checkP, uh HT, uh HN, uh HLL]; rfl⟩
    | none =>
     rw [hl] at C
     have HLL := hide hl
     unfold intO at C
     simp only at C
     clear hl
     go_wp2_with fail
     refine (uh C).mono ?_
     rintro e w6 ⟨rfl, hb6⟩
     have B6 := hide ((uh B5).trans (hb6.mono sz5))
     have D6 := hide ((uh D5).below hb6)
     clear hb6 C D5
     go_wp2
     go_ret3
     exact ⟨uh B6, by rw [uh HM]; simp only [checkP, uh HT, uh HN, uh HLL]; exact ⟨b, kv, rv, pv, kl, rl, pl, l, rfl, uh D6, uh HMB, uh HGD⟩⟩
/-! A model without doubles: its names, by numbers and by themselves. -/
structure Distinct (ts : List Ty) : Prop where
 ty : ts.Pairwise fun t u => t.name ≠ u.name
 rl : ∀ t ∈ ts, t.rels.Pairwise fun r q => r.name ≠ q.name
theorem twN_none : ∀ (l : List (ByteArray × Nat)) (ah : List ByteArray), twN ah l = none → (∀ x ∈ l, x.1 ∉ ah) ∧ l.Pairwise fun x y => x.1 ≠ y.1
 | [], ah, _ => ⟨by simp, by simp⟩
 | (n, p) :: l, ah, h => by
  rw [twN] at h
  cases hd : (ah.any fun m => eqs m n)
  ·rw [hd] at h
   simp only [Bool.false_eq_true, if_false] at h
   obtain ⟨h1, h2⟩ := twN_none l _ h
   have hn : n ∉ ah := fun hm => by
    rw [List.any_eq_false] at hd
    exact hd n hm ((eqs_iff _ _).2 rfl)
   refine ⟨fun x hx => ?_, ?_⟩
   ·rcases List.mem_cons.1 hx with rfl | hx
    ·exact hn
    ·exact fun hm => h1 x hx (by simp [hm])
   ·rw [List.pairwise_cons]
    exact ⟨fun y hy e => h1 y hy (by simp at e; simp [e]), h2⟩
  ·rw [hd] at h
   simp at h
theorem twT_none : ∀ (l : List Ty) (ah : List ByteArray), twT ah l = none → (∀ t ∈ l, t.name ∉ ah) ∧ Distinct l
 | [], ah, _ => ⟨by simp, by simp, by simp⟩
 | t :: l, ah, h => by
  rw [twT] at h
  cases hd : (ah.any fun m => eqs m t.name)
  ·rw [hd] at h
   simp only [Bool.false_eq_true, if_false] at h
   have hn : t.name ∉ ah := fun hm => by
    rw [List.any_eq_false] at hd
    exact hd _ hm ((eqs_iff _ _).2 rfl)
   unfold twR at h
   cases hw : twN [] (t.rels.map fun r => (r.name, r.place)) with
   | some p => rw [hw] at h; simp at h
   | none =>
    rw [hw] at h
    simp only at h
    obtain ⟨h1, h2⟩ := twT_none l _ h
    obtain ⟨_, h4⟩ := twN_none _ _ hw
    rw [List.pairwise_map] at h4
    refine ⟨fun x hx => ?_, ?_, ?_⟩
    ·rcases List.mem_cons.1 hx with rfl | hx
     ·exact hn
     ·exact fun hm => h1 x hx (by simp [hm])
    ·rw [List.pairwise_cons]
     exact ⟨fun y hy e => h1 y hy (by rw [← e]; simp), h2.ty⟩
    ·intro x hx
     rcases List.mem_cons.1 hx with rfl | hx
     ·exact h4
     ·exact h2.rl x hx
  ·rw [hd] at h
   simp at h
theorem findTy_mem {ts : List Ty} (h : Distinct ts) {t : Ty} (ht : t ∈ ts) : findTy ts t.name = some t := by
 unfold findTy
 obtain ⟨A, B, rfl⟩ := List.append_of_mem ht
 have hp := h.ty
 rw [List.pairwise_append, List.pairwise_cons] at hp
 rw [List.find?_append]
 have : A.find? (fun u => eqs u.name t.name) = none := by
  rw [List.find?_eq_none]
  intro u hu he
  exact hp.2.2 u hu t (by simp) ((eqs_iff _ _).1 he)
 rw [this]
 simp [(eqs_iff t.name t.name).2 rfl]
theorem findRl_mem {t : Ty} (h : t.rels.Pairwise fun r q => r.name ≠ q.name) {r : Rl} (hr : r ∈ t.rels) : findRl t r.name = some r := by
 unfold findRl
 obtain ⟨A, B, e⟩ := List.append_of_mem hr
 rw [e] at h ⊢
 rw [List.pairwise_append, List.pairwise_cons] at h
 rw [List.find?_append]
 have : A.find? (fun u => eqs u.name r.name) = none := by
  rw [List.find?_eq_none]
  intro u hu he
  exact h.2.2 u hu r (by simp) ((eqs_iff _ _).1 he)
 rw [this]
 simp [(eqs_iff r.name r.name).2 rfl]
theorem findTy_some {ts : List Ty} {k : ByteArray} {t : Ty} (h : findTy ts k = some t) : t ∈ ts ∧ t.name = k := ⟨List.mem_of_find?_eq_some h, (eqs_iff _ _).1 (List.find?_some (p := fun t : Ty => eqs t.name k) h)⟩
theorem findRl_some {t : Ty} {n : ByteArray} {r : Rl} (h : findRl t n = some r) : r ∈ t.rels ∧ r.name = n := ⟨List.mem_of_find?_eq_some h, (eqs_iff _ _).1 (List.find?_some (p := fun r : Rl => eqs r.name n) h)⟩
/-- A number that is found is the number of a relation of that type and name. -/
theorem findN_flat {pl : List PV} (k n : ByteArray) : ∀ (rl : List RV) (ps : List (ByteArray × Rl)) (i : Nat), FlatB pl rl ps → (findN k n rl i = -1 ∧ ∀ p ∈ ps, ¬ (p.1 = k ∧ p.2.name = n)) ∨ ∃ j p, findN k n rl i = ((i + j : Nat) : Int) ∧ ps[j]? = some p ∧ p.1 = k ∧ p.2.name = n
 | [], [], i, _ => .inl ⟨rfl, by simp⟩
 | x :: rl, p :: ps, i, h => by
  obtain ⟨⟨h1, h2, _, _⟩, h4⟩ := h
  rw [findN]
  by_cases hx : (eqs x.kd k && eqs x.nm n) = true
  ·rw [if_pos hx]
   rw [Bool.and_eq_true, eqs_iff, eqs_iff] at hx
   exact .inr ⟨0, p, by simp, by simp, h1 ▸ hx.1, h2 ▸ hx.2⟩
  ·rw [if_neg hx]
   rcases findN_flat k n rl ps (i + 1) h4 with ⟨e, hno⟩ | ⟨j, q, e, h5, h6⟩
   ·refine .inl ⟨e, fun q hq => ?_⟩
    rcases List.mem_cons.1 hq with rfl | hq
    ·rintro ⟨e1, e2⟩
     exact hx (by rw [Bool.and_eq_true, eqs_iff, eqs_iff, h1, h2]; exact ⟨e1, e2⟩)
    ·exact hno q hq
   ·exact .inr ⟨j + 1, q, by rw [e]; omega, by simpa using h5, h6⟩
 | [], _ :: _, _, h => h.elim
 | _ :: _, [], _, h => h.elim
theorem flat_mem {ts : List Ty} {p : ByteArray × Rl} : p ∈ flatT ts ↔ ∃ t ∈ ts, t.name = p.1 ∧ p.2 ∈ t.rels := by
 unfold flatT
 rw [List.mem_flatMap]
 constructor
 ·rintro ⟨t, ht, hp⟩
  obtain ⟨r, hr, rfl⟩ := List.mem_map.1 hp
  exact ⟨t, ht, rfl, hr⟩
 ·rintro ⟨t, ht, e, hr⟩
  exact ⟨t, ht, List.mem_map.2 ⟨p.2, hr, by rw [e]⟩⟩
/-- Found by number just where it is found by name. -/
theorem findN_spec {pl : List PV} {rl : List RV} {ts : List Ty} (hd : Distinct ts) (hf : FlatB pl rl (flatT ts)) (k n : ByteArray) :
  (findN k n rl 0 = -1 ∧ ∀ t, findTy ts k = some t → findRl t n = none) ∨ ∃ (j : Nat) (t : Ty) (r : Rl), findN k n rl 0 = j ∧ findTy ts k = some t ∧ findRl t n = some r ∧ (flatT ts)[j]? = some (k, r) := by
 rcases findN_flat k n rl _ 0 hf with ⟨e, hno⟩ | ⟨j, p, e, hj, h1, h2⟩
 ·refine .inl ⟨e, fun t ht => ?_⟩
  cases hr : findRl t n with
  | none => rfl
  | some r =>
   obtain ⟨hm, hk⟩ := findTy_some ht
   obtain ⟨hrm, hn⟩ := findRl_some hr
   exact absurd ⟨rfl, hn⟩ (hno (k, r) (flat_mem.2 ⟨t, hm, hk, hrm⟩))
 ·obtain ⟨t, ht, h3, h4⟩ := flat_mem.1 (List.mem_of_getElem? hj)
  refine .inr ⟨j, t, p.2, by simpa using e, ?_, ?_, ?_⟩
  ·rw [← h1, ← h3]
   exact findTy_mem hd ht
  ·rw [← h2]
   exact findRl_mem (hd.rl t ht) h4
  ·rw [hj, ← h1]
theorem hasK_find {ts : List Ty} (x : ByteArray) : ((ts.map fun t => (t.name, t.place)).any fun k => eqs k.1 x) = (findTy ts x).isSome := by
 unfold findTy
 rw [List.any_map, Bool.eq_iff_iff, List.any_eq_true, List.find?_isSome]
 rfl
/-- A grant as it is read. -/
def GrOK (g : Gr) : Prop := (g.reach = 0 ∧ g.rel = em) ∨ g.reach = 1 ∨ (g.reach = 2 ∧ isNm g.rel = true)
theorem isNm_em : isNm em = false := by decide
theorem isNm_star : isNm (sg 42) = false := by decide
theorem relOf_two {g : Gr} (h : g.reach = 2) : relOf g = g.rel := by unfold relOf; rw [if_neg (by omega)]
theorem gUnk_grantN {pl : List PV} {rl : List RV} {ts : List Ty} (hd : Distinct ts) (hf : FlatB pl rl (flatT ts)) (g : Gr) (hg : GrOK g) : gUnk (ts.map fun t => (t.name, t.place)) rl g = grantN ts g := by
 unfold gUnk grantN
 rw [hasK_find]
 cases ht : findTy ts g.ty with
 | none => simp
 | some t =>
  simp only [Option.isSome_some, Bool.true_eq_false, if_false]
  rcases hg with ⟨h1, h2⟩ | h1 | ⟨h1, h2⟩
  ·have e : relOf g = em := by unfold relOf; rw [if_neg (by omega), h2]
   rw [e, (eqs_iff em em).2 rfl, h1]
   simp
  ·have e : relOf g = sg 42 := by unfold relOf; rw [if_pos h1]
   rw [e, (eqs_iff (sg 42) (sg 42)).2 rfl, h1]
   simp
  ·rw [relOf_two h1, h1]
   have e1 : eqs g.rel em = false := by
    cases e : eqs g.rel em
    ·rfl
    ·rw [(eqs_iff _ _).1 e, isNm_em] at h2; cases h2
   have e2 : eqs g.rel (sg 42) = false := by
    cases e : eqs g.rel (sg 42)
    ·rfl
    ·rw [(eqs_iff _ _).1 e, isNm_star] at h2; cases h2
   rw [e1, e2]
   rcases findN_spec hd hf g.ty g.rel with ⟨e, hno⟩ | ⟨j, t', r, e, h4, h5, _⟩
   ·rw [e, hno t ht]
    simp
   ·rw [ht] at h4
    simp only [Option.some.injEq] at h4
    subst h4
    rw [e, h5]
    have : ¬ ((j : Int) < 0) := by omega
    simp [this]
end Go.Proofs.YtlbpnlngckgcbaaGreatDoor
