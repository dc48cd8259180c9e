import Derived.Test.YtlbpnlngckgcbaaGreatDoorM20
namespace Go.Proofs.YtlbpnlngckgcbaaGreatDoor
open Go.RowKit Go.PlainAid
set_option linter.unusedSimpArgs false
set_option linter.unusedVariables false
/-! P4: of one part: the place of a name that is not there. -/
def gUnk (kl : List (ByteArray × Nat)) (rl : List RV) (g : Gr) : Option Nat :=
 if (kl.any fun k => eqs k.1 g.ty) = false then some g.tp
 else if eqs (relOf g) em = false ∧ eqs (relOf g) (sg 42) = false ∧ findN g.ty (relOf g) rl 0 < 0 then some g.rp else none
def unkP (kl : List (ByteArray × Nat)) (rl : List RV) (Gof : Nat → List Gr) (kd : ByteArray) (p : PV) : Option Nat := match p.gs.findSome? (gUnk kl rl) with
 | some a => some a
 | none => if p.kind = 2 then (if findN kd p.nr rl 0 < 0 then some p.pa else none)
  else if p.kind = 3 then (if findN kd p.nb rl 0 < 0 then some p.pa else if tiedN rl p.nr (Gof (findN kd p.nb rl 0).toNat) = [] then some p.pr else none)
  else none
def intO : Option Nat → Int
 | some a => a
 | none => -1
set_option maxHeartbeats 2000000 in
set_option maxRecDepth 100000 in
theorem unknown_any (b : Nat) (kv rv pv : Value) (kl : List (ByteArray × Nat)) (rl : List RV) (pl : List PV) (l : List PX) (Gof : Nat → List Gr) (kd : ByteArray) (p : PV) (ga : Option Addr) (gc : Nat) (pa : Option Addr) (pc : Nat) (sa : Option Addr) (sc : Nat) (w : World) (h : DM w b kv rv pv kl rl pl l) (hG : ∀ r, r < rl.length → GrC rl pl r (Gof r) ∧ (Gof r).length ≤ 1000000) (hr : RepP w (p, .slice ga p.gs.length gc, .slice pa p.ps.length pc, .slice sa p.sg.length sc)) (hgl : p.gs.length ≤ 1000000) :
  Calls Tryz.prog 192 #[.pointer (some ⟨b, 5, none⟩), .string kd, .agg #[.int .i64 p.kind, .slice ga p.gs.length gc, .string p.nb, .string p.nr, .int .i64 p.pa, .int .i64 p.pr, .slice pa p.ps.length pc, .slice sa p.sg.length sc]] w fun e w' => e = .returned (.int .i64 (intO (unkP kl rl Gof kd p))) ∧ Below w.heap.size w w' := by
 have HD := hide h
 have HG := hide hG
 have RG := hide hr.g
 generalize hR : unkP kl rl Gof kd p = R
 have HR := hide hR
 have b1 := (Below.refl _ w).alloc (Nat.le_refl _) (.cells #[.int .i64 p.kind, .slice ga p.gs.length gc, .string p.nb, .string p.nr, .int .i64 p.pa, .int .i64 p.pr, .slice pa p.ps.length pc, .slice sa p.sg.length sc] 255)
 have B1 := hide b1
 have PB1 := hide (Blk.new w #[.int .i64 p.kind, .slice ga p.gs.length gc, .string p.nb, .string p.nr, .int .i64 p.pa, .int .i64 p.pr, .slice pa p.ps.length pc, .slice sa p.sg.length sc] 255)
 have HQ0 := hide (show (match (p.gs.drop 0).findSome? (gUnk kl rl) with
  | some a => some a
  | none => if p.kind = 2 then (if findN kd p.nr rl 0 < 0 then some p.pa else none)
   else if p.kind = 3 then (if findN kd p.nb rl 0 < 0 then some p.pa else if tiedN rl p.nr (Gof (findN kd p.nb rl 0).toNat) = [] then some p.pr else none)
   else none) = R from hR)
 clear h hG hr hR b1
 go_enter Tryz.func192, Tryz.ntmps192
 go_wp2_with fail
 go_loopw [7] (fun u7 wr => ∃ (k : Nat), k ≤ p.gs.length ∧ u7 = .int .i64 k ∧ Below w.heap.size w wr ∧ Blk wr w.heap.size #[.int .i64 p.kind, .slice ga p.gs.length gc, .string p.nb, .string p.nr, .int .i64 p.pa, .int .i64 p.pr, .slice pa p.ps.length pc, .slice sa p.sg.length sc] 255 ∧ Hid ((match (p.gs.drop k).findSome? (gUnk kl rl) with
  | some a => some a
  | none => if p.kind = 2 then (if findN kd p.nr rl 0 < 0 then some p.pa else none)
   else if p.kind = 3 then (if findN kd p.nb rl 0 < 0 then some p.pa else if tiedN rl p.nr (Gof (findN kd p.nb rl 0).toNat) = [] then some p.pr else none)
   else none) = R)) (fun u7 _ => p.gs.length - (intOf u7).toNat)
 case atStart => exact ⟨0, by omega, rfl, uh B1, uh PB1, HQ0⟩
 case round =>
  clear B1 PB1 HQ0 HR
  obtain ⟨k, hk1, rfl, hb, hpb, HQ⟩ := hrel
  have HB := hide hb
  have HPB := hide hpb
  have hwr := hb.size
  obtain ⟨p0, p1, p2, p3, p4, p5, p6, p7⟩ := hpb.eight
  have pl0 := hpb.lt
  by_cases hlt : k < p.gs.length
  ·obtain ⟨gg, cg, e1, hc⟩ := flat_cell rgCells 4 (fun _ => rfl) (row_below (uh RG) hb) k p.gs[k] (List.getElem?_eq_getElem hlt)
   simp only [Value.slice.injEq, true_and] at e1
   obtain ⟨rfl, rfl⟩ := e1
   have hq := uh HQ
   rw [List.drop_eq_getElem_cons hlt, List.findSome?_cons] at hq
   generalize p.gs[k] = x at *
   have k0 : wr.cell? ⟨gg, k * 4, none⟩ = some (.string x.ty) := hc 0 _ (by omega) rfl
   have k1 : wr.cell? ⟨gg, k * 4 + 1, none⟩ = some (.string (relOf x)) := hc 1 _ (by omega) rfl
   have k2 : wr.cell? ⟨gg, k * 4 + 2, none⟩ = some (.int .i64 x.tp) := hc 2 _ (by omega) rfl
   have k3 : wr.cell? ⟨gg, k * 4 + 3, none⟩ = some (.int .i64 x.rp) := hc 3 _ (by omega) rfl
   have hkn : (k : Int) < (p.gs.length : Int) := by omega
   have b2 := (Below.refl _ wr).alloc (Nat.le_refl _) (.cells #[.string x.ty, .string (relOf x), .int .i64 x.tp, .int .i64 x.rp] 257)
   have B2 := hide ((uh HB).trans (b2.mono hwr))
   have PB2 := hide ((uh HPB).below b2)
   have GB2 := hide (Blk.new wr #[.string x.ty, .string (relOf x), .int .i64 x.tp, .int .i64 x.rp] 257)
   have C := hide (hasKind_any b kv rv pv kl rl pl l x.ty _ ((uh HD).below (uh B2)))
   have HQ2 := hide hq
   clear hb hpb hc HQ hq b2
   go_wp2_with fail
   refine (uh C).mono ?_
   rintro e w3 ⟨rfl, hb3⟩
   have B3 := hide ((uh B2).trans (hb3.mono (uh B2).size))
   have PB3 := hide ((uh PB2).below hb3)
   have GB3 := hide ((uh GB2).below hb3)
   obtain ⟨g0, g1, g2, g3⟩ := (uh GB3).four
   have gl3 := (uh GB3).lt
   have C2 := hide (rfind_any b kv rv pv kl rl pl l x.ty (relOf x) _ ((uh HD).below (uh B3)))
   clear hb3 C B2 PB2 GB2 k0 k1 k2 k3 p0 p1 p2 p3 p4 p5 p6 p7
   go_wp2_with fail
   refine (uh C2).mono ?_
   rintro e w4 ⟨rfl, hb4⟩
   have B4 := hide ((uh B3).trans (hb4.mono (uh B3).size))
   have PB4 := hide ((uh PB3).below hb4)
   have GB4 := hide ((uh GB3).below hb4)
   clear g0 g1 g2 g3
   obtain ⟨g0, g1, g2, g3⟩ := (uh GB4).four
   have gl4 := (uh GB4).lt
   clear hb4 C2 B3 PB3 GB3
   cases hk : (kl.any fun k => eqs k.1 x.ty)
   ·have hu : gUnk kl rl x = some x.tp := by unfold gUnk; rw [hk]; simp
    have HRF := hide (show some x.tp = R from by rw [← uh HQ2, hu])
    clear hk hu
    go_wp2
    go_ret
    exact ⟨by rw [← uh HRF]; rfl, uh B4⟩
   ·cases h1 : eqs (relOf x) em
    ·have h1' : ((relOf x).toList == []) = false := by rw [← h1, eqs_em]
     cases h2 : eqs (relOf x) (sg 42)
     ·have h2' : ((relOf x).toList == [42]) = false := by rw [← h2, eqs_toList]; rw [show (sg 42).toList = [42] from by rw [toList_lst]; rfl]
      rcases findN_cases x.ty (relOf x) rl 0 with hfi | ⟨j, hfi, hj1, hj2⟩
      ·have hu : gUnk kl rl x = some x.rp := by unfold gUnk; rw [hk]; simp [h1, h2, hfi]
       have HRF := hide (show some x.rp = R from by rw [← uh HQ2, hu])
       rw [hfi]
       clear hk hu h1 h2 hfi
       go_wp2
       go_ret
       exact ⟨by rw [← uh HRF]; rfl, uh B4⟩
      ·have hu : gUnk kl rl x = none := by
        unfold gUnk
        rw [hk]
        have : ¬ ((j : Int) < 0) := by omega
        simp [h1, h2, hfi, this]
       have HQ3 := hide (uh HQ2)
       rw [hu] at HQ3
       rw [hfi]
       have hj0 : ¬ ((j : Int) < 0) := by omega
       clear hk hu h1 h2 hfi
       go_wp2
       go_roundw
       case rel => exact ⟨k + 1, by omega, by go_num, uh B4, uh PB4, HQ3⟩
       case measure => simp [intOf]; omega
     ·have h2' : ((relOf x).toList == [42]) = true := by rw [← h2, eqs_toList]; rw [show (sg 42).toList = [42] from by rw [toList_lst]; rfl]
      have hu : gUnk kl rl x = none := by unfold gUnk; rw [hk]; simp [h1, h2]
      have HQ3 := hide (uh HQ2)
      rw [hu] at HQ3
      clear hk hu h1 h2
      go_wp2
      go_roundw
      case rel => exact ⟨k + 1, by omega, by go_num, uh B4, uh PB4, HQ3⟩
      case measure => simp [intOf]; omega
    ·have h1' : ((relOf x).toList == []) = true := by rw [← h1, eqs_em]
     have hu : gUnk kl rl x = none := by unfold gUnk; rw [hk]; simp [h1]
     have HQ3 := hide (uh HQ2)
     rw [hu] at HQ3
     clear hk hu h1
     go_wp2
     go_roundw
     case rel => exact ⟨k + 1, by omega, by go_num, uh B4, uh PB4, HQ3⟩
     case measure => simp [intOf]; omega
  ·have hkn : ¬ ((k : Int) < (p.gs.length : Int)) := by omega
   have hq := uh HQ
   rw [List.drop_of_length_le (by omega), List.findSome?_nil] at hq
   simp only at hq
   clear hb hpb HQ
   by_cases hk2 : p.kind = 2
   ·have e2 : ((p.kind : Int) == 2) = true := by rw [hk2]; rfl
    have e3 : ((p.kind : Int) == 3) = false := by rw [hk2]; rfl
    rw [if_pos hk2] at hq
    have HQ2 := hide hq
    have C := hide (rfind_any b kv rv pv kl rl pl l kd p.nr wr ((uh HD).below (uh HB)))
    clear hk2 hq
    go_wp2_with fail
    refine (uh C).mono ?_
    rintro e w4 ⟨rfl, hb4⟩
    have B4 := hide ((uh HB).trans (hb4.mono hwr))
    have PB4 := hide ((uh HPB).below hb4)
    clear p0 p1 p2 p3 p4 p5 p6 p7
    obtain ⟨p0, p1, p2, p3, p4, p5, p6, p7⟩ := (uh PB4).eight
    have pl4 := (uh PB4).lt
    clear hb4 C
    rcases findN_cases kd p.nr rl 0 with hfi | ⟨j, hfi, hj1, hj2⟩
    ·have HRF := hide (show some p.pa = R from by rw [← uh HQ2, hfi]; simp)
     rw [hfi]
     clear hfi
     go_wp2
     go_ret
     exact ⟨by rw [← uh HRF]; rfl, uh B4⟩
    ·have hj0 : ¬ ((j : Int) < 0) := by omega
     have HRF := hide (show none = R from by rw [← uh HQ2, hfi]; simp [hj0])
     rw [hfi]
     clear hfi
     go_wp2
     go_ret
     exact ⟨by rw [← uh HRF]; rfl, uh B4⟩
   ·by_cases hk3 : p.kind = 3
    ·have e2 : ((p.kind : Int) == 2) = false := by rw [hk3]; rfl
     have e3 : ((p.kind : Int) == 3) = true := by rw [hk3]; rfl
     rw [if_neg hk2, if_pos hk3] at hq
     have HQ2 := hide hq
     have C := hide (rfind_any b kv rv pv kl rl pl l kd p.nb wr ((uh HD).below (uh HB)))
     clear hk2 hk3 hq
     go_wp2_with fail
     refine (uh C).mono ?_
     rintro e w4 ⟨rfl, hb4⟩
     have B4 := hide ((uh HB).trans (hb4.mono hwr))
     have PB4 := hide ((uh HPB).below hb4)
     clear p0 p1 p2 p3 p4 p5 p6 p7
     obtain ⟨p0, p1, p2, p3, p4, p5, p6, p7⟩ := (uh PB4).eight
     have pl4 := (uh PB4).lt
     clear hb4 C
     rcases findN_cases kd p.nb rl 0 with hfi | ⟨j, hfi, hj1, hj2⟩
     ·have HRF := hide (show some p.pa = R from by rw [← uh HQ2, hfi]; simp)
      rw [hfi]
      clear hfi
      go_wp2
      go_ret
      exact ⟨by rw [← uh HRF]; rfl, uh B4⟩
     ·have hj0 : ¬ ((j : Int) < 0) := by omega
      have hq := uh HQ2
      rw [hfi, if_neg hj0, Int.toNat_natCast] at hq
      have HQ3 := hide hq
      obtain ⟨hg1, hg2⟩ := uh HG j (by omega)
      have C2 := hide (rtied_any b kv rv pv kl rl pl l j (Gof j) p.nr w4 ((uh HD).below (uh B4)) hg1 hg2)
      rw [hfi]
      clear hfi hq HQ2 hg1 hg2
      go_wp2_with fail
      refine (uh C2).mono ?_
      rintro e w5 ⟨sv, rfl, hb5, hs5⟩
      obtain ⟨ta, tc, rfl⟩ := own_form hs5
      have B5 := hide ((uh B4).trans (hb5.mono (uh B4).size))
      have PB5 := hide ((uh PB4).below hb5)
      clear p0 p1 p2 p3 p4 p5 p6 p7
      obtain ⟨p0, p1, p2, p3, p4, p5, p6, p7⟩ := (uh PB5).eight
      have pl5 := (uh PB5).lt
      clear hb5 hs5 C2
      by_cases ht : tiedN rl p.nr (Gof j) = []
      ·have HRF := hide (show some p.pr = R from by rw [← uh HQ3, ht]; simp)
       rw [ht]
       clear ht
       simp only [List.length_nil]
       go_wp2
       go_ret
       exact ⟨by rw [← uh HRF]; rfl, uh B5⟩
      ·have HRF := hide (show none = R from by rw [← uh HQ3, if_neg ht])
       have hl : 0 < (tiedN rl p.nr (Gof j)).length := List.length_pos_iff.2 ht
       have hl' : ¬ (((tiedN rl p.nr (Gof j)).length : Int) = 0) := by omega
       have hl2 : (((tiedN rl p.nr (Gof j)).length : Int) == 0) = false := beq_eq_false_iff_ne.2 hl'
       clear ht
       generalize (tiedN rl p.nr (Gof j)).length = tn at *
       go_wp2
       go_ret
       exact ⟨by rw [← uh HRF]; rfl, uh B5⟩
    ·have e2 : ((p.kind : Int) == 2) = false := beq_eq_false_iff_ne.2 (by omega)
     have e3 : ((p.kind : Int) == 3) = false := beq_eq_false_iff_ne.2 (by omega)
     rw [if_neg hk2, if_neg hk3] at hq
     have HRF := hide hq
     clear hk2 hk3 hq
     go_wp2
     go_ret
     exact ⟨by rw [← uh HRF]; rfl, uh HB⟩
/-! P5: what the document's model writes of a part. -/
def sComma : ByteArray := ⟨#[44, 32]⟩
def commaW (s : ByteArray) (i : Nat) : ByteArray := if 0 < i then s ++ sComma else s
def hashW (s : ByteArray) (g : Gr) : ByteArray := if eqs (relOf g) em || eqs (relOf g) (sg 42) then s else s ++ sg 35
def grW (s : ByteArray) (i : Nat) (g : Gr) : ByteArray := hashW (commaW s i ++ g.ty) g ++ relOf g
def grsW : List Gr → Nat → ByteArray → ByteArray
 | [], _, s => s
 | g :: gs, i, s => grsW gs (i + 1) (grW s i g)
theorem bsize_app (a c : ByteArray) : (a ++ c).size = a.size + c.size := ByteArray.size_append
theorem commaW_le (s : ByteArray) (i : Nat) : s.size ≤ (commaW s i).size := by
 unfold commaW
 split
 ·rw [bsize_app]; omega
 ·omega
theorem hashW_le (s : ByteArray) (g : Gr) : s.size ≤ (hashW s g).size := by
 unfold hashW
 split
 ·omega
 ·rw [bsize_app]; omega
theorem grW_le (s : ByteArray) (i : Nat) (g : Gr) : s.size + g.ty.size + (relOf g).size ≤ (grW s i g).size := by
 unfold grW
 have h1 := commaW_le s i
 have h2 := hashW_le (commaW s i ++ g.ty) g
 rw [bsize_app] at h2
 rw [bsize_app]
 omega
theorem grsW_le : ∀ (gs : List Gr) (i : Nat) (s : ByteArray), s.size ≤ (grsW gs i s).size
 | [], _, s => Nat.le_refl _
 | g :: gs, i, s => by
  have h1 := grsW_le gs (i + 1) (grW s i g)
  have h2 := grW_le s i g
  rw [grsW]
  omega
/-- The contract of 'written' at a part. -/
def WrN (pl : List PV) (n : Nat) (W : Bool → Bool → ByteArray) : Prop := ∀ (u d : Bool) (b : Nat) (kv rv pv : Value) (kl : List (ByteArray × Nat)) (rl : List RV) (l : List PX) (w : World), DM w b kv rv pv kl rl pl l →
 Calls Tryz.prog 81 #[.pointer (some ⟨b, 5, none⟩), .int .i64 n, .bool u, .bool d] w fun e w' => e = .returned (.string (W u d)) ∧ Below w.heap.size w w'
set_option maxHeartbeats 1000000 in
set_option maxRecDepth 100000 in
theorem rwritten_own (pl : List PV) (n : Nat) (p : PV) (hp : pl[n]? = some p) (hk : p.kind = 2) : WrN pl n (fun _ _ => p.nr) := by
 intro u d b kv rv pv kl rl l w h
 obtain ⟨g, c, ga, gc, pa, pc, sa, sc, rfl, hr, k0, k1, k2, k3, k4, k5, k6, k7⟩ := h.pat n p hp
 have c7 := h.c7
 have hn := (List.getElem?_eq_some_iff.1 hp).1
 have hpn := h.pn
 have hn' : (n : Int) < (pl.length : Int) := by omega
 have h1b : ((p.kind : Int) == 1) = false := by rw [hk]; rfl
 have h2b : ((p.kind : Int) == 2) = true := by rw [hk]; rfl
 have glt := lt_of_cell k0
 clear h hr hp hk
 go_enter Tryz.func81, Tryz.ntmps81
 go_wp2
 go_ret
 exact ⟨rfl, (Below.refl _ _).alloc (Nat.le_refl _) _⟩
set_option maxHeartbeats 1000000 in
set_option maxRecDepth 100000 in
theorem rwritten_tie (pl : List PV) (n : Nat) (p : PV) (hp : pl[n]? = some p) (hk : p.kind = 3) (hs : p.nb.size + p.nr.size ≤ 100000) : WrN pl n (fun _ _ => (p.nb ++ sg 46) ++ p.nr) := by
 intro u d b kv rv pv kl rl l w h
 obtain ⟨g, c, ga, gc, pa, pc, sa, sc, rfl, hr, k0, k1, k2, k3, k4, k5, k6, k7⟩ := h.pat n p hp
 have c7 := h.c7
 have hn := (List.getElem?_eq_some_iff.1 hp).1
 have hpn := h.pn
 have hn' : (n : Int) < (pl.length : Int) := by omega
 have h1b : ((p.kind : Int) == 1) = false := by rw [hk]; rfl
 have h2b : ((p.kind : Int) == 2) = false := by rw [hk]; rfl
 have h3b : ((p.kind : Int) == 3) = true := by rw [hk]; rfl
 have glt := lt_of_cell k0
 clear h hr hp hk
 go_enter Tryz.func81, Tryz.ntmps81
 go_wp2
 go_ret
 exact ⟨rfl, (Below.refl _ _).alloc (Nat.le_refl _) _⟩
set_option maxHeartbeats 2000000 in
set_option maxRecDepth 100000 in
theorem rwritten_list (pl : List PV) (n : Nat) (p : PV) (hp : pl[n]? = some p) (hk : p.kind = 1) (hs : (grsW p.gs 0 em).size ≤ 100000) (hgl : p.gs.length ≤ 1000) : WrN pl n (fun _ _ => (sg 91 ++ grsW p.gs 0 em) ++ sg 93) := by
 intro u d b kv rv pv kl rl l w h
 obtain ⟨g, c, ga, gc, pa, pc, sa, sc, rfl, hr, k0, k1, k2, k3, k4, k5, k6, k7⟩ := h.pat n p hp
 have c7 := h.c7
 have hn := (List.getElem?_eq_some_iff.1 hp).1
 have hpn := h.pn
 have hn' : (n : Int) < (pl.length : Int) := by omega
 have h1b : ((p.kind : Int) == 1) = true := by rw [hk]; rfl
 have glt := lt_of_cell k0
 generalize hR : grsW p.gs 0 em = R at *
 have RG := hide hr.g
 have HR := hide (show grsW (p.gs.drop 0) 0 em = R from hR)
 have B0 := hide (show Below w.heap.size w (w.alloc (.cells #[.int .i64 p.kind, .slice ga p.gs.length gc, .string p.nb, .string p.nr, .int .i64 p.pa, .int .i64 p.pr, .slice pa p.ps.length pc, .slice sa p.sg.length sc] 255)) from (Below.refl _ w).alloc (Nat.le_refl _) _)
 have PB0 := hide (Blk.new w #[.int .i64 p.kind, .slice ga p.gs.length gc, .string p.nb, .string p.nr, .int .i64 p.pa, .int .i64 p.pr, .slice pa p.ps.length pc, .slice sa p.sg.length sc] 255)
 clear h hr hp hk hR
 go_enter Tryz.func81, Tryz.ntmps81
 go_wp2_with fail
 clear k0 k1 k2 k3 k4 k5 k6 k7 c7 h1b
 go_loopw [10, 11] (fun u10 u11 wr => ∃ (k : Nat) (s : ByteArray), k ≤ p.gs.length ∧ u11 = .int .i64 k ∧ u10 = .string s ∧ Below w.heap.size w wr ∧ Blk wr w.heap.size #[.int .i64 p.kind, .slice ga p.gs.length gc, .string p.nb, .string p.nr, .int .i64 p.pa, .int .i64 p.pr, .slice pa p.ps.length pc, .slice sa p.sg.length sc] 255 ∧ Hid (grsW (p.gs.drop k) k s = R)) (fun _ u11 _ => p.gs.length - (intOf u11).toNat)
 case atStart => exact ⟨0, em, by omega, rfl, rfl, uh B0, uh PB0, HR⟩
 case round =>
  clear B0 PB0 HR
  obtain ⟨k, s, hk1, rfl, rfl, hb, hpb, HF⟩ := hrel
  have HB := hide hb
  have HPB := hide hpb
  obtain ⟨p0, p1, p2, p3, p4, p5, p6, p7⟩ := hpb.eight
  have hwr := hb.size
  have plt := hpb.lt
  have hsz := grsW_le (p.gs.drop k) k s
  rw [uh HF] at hsz
  by_cases hlt : k < p.gs.length
  ·obtain ⟨gg, cg, e1, hc⟩ := flat_cell rgCells 4 (fun _ => rfl) (row_below (uh RG) hb) k p.gs[k] (List.getElem?_eq_getElem hlt)
   simp only [Value.slice.injEq, true_and] at e1
   obtain ⟨rfl, rfl⟩ := e1
   have hq := uh HF
   rw [List.drop_eq_getElem_cons hlt, grsW] at hq
   generalize p.gs[k] = x at *
   have k0 : wr.cell? ⟨gg, k * 4, none⟩ = some (.string x.ty) := hc 0 _ (by omega) rfl
   have k1 : wr.cell? ⟨gg, k * 4 + 1, none⟩ = some (.string (relOf x)) := hc 1 _ (by omega) rfl
   have k2 : wr.cell? ⟨gg, k * 4 + 2, none⟩ = some (.int .i64 x.tp) := hc 2 _ (by omega) rfl
   have k3 : wr.cell? ⟨gg, k * 4 + 3, none⟩ = some (.int .i64 x.rp) := hc 3 _ (by omega) rfl
   have hkn : (k : Int) < (p.gs.length : Int) := by omega
   have hs1 := grsW_le (p.gs.drop (k + 1)) (k + 1) (grW s k x)
   rw [hq] at hs1
   have hs2 := grW_le s k x
   have hs3 : s.size + x.ty.size + (relOf x).size ≤ 100000 := by omega
   have HQ2 := hide hq
   clear hb hpb hc HF hq hs1 hs2
   cases h1 : eqs (relOf x) em
   ·have h1' : ((relOf x).toList == []) = false := by rw [← h1, eqs_em]
    have h1n : ((relOf x).toList != []) = true := by rw [bne, h1']; rfl
    cases h2 : eqs (relOf x) (sg 42)
    ·have h2' : ((relOf x).toList == [42]) = false := by rw [← h2, eqs_toList]; rw [show (sg 42).toList = [42] from by rw [toList_lst]; rfl]
     have h2n : ((relOf x).toList != [42]) = true := by rw [bne, h2']; rfl
     by_cases hk0 : 0 < k
     ·have hk0' : (0 : Int) < (k : Int) := by omega
      have hw : grW s k x = (((s ++ sComma) ++ x.ty) ++ sg 35) ++ relOf x := by unfold grW hashW commaW; rw [if_pos hk0]; simp [h1, h2]
      have HQ3 := hide (uh HQ2)
      rw [hw] at HQ3
      clear hw h1 h2
      go_wp2
      go_roundw
      case rel => exact ⟨k + 1, _, by omega, by go_num, rfl, uh HB, uh HPB, HQ3⟩
      case measure => simp [intOf]; omega
     ·have hk0' : ¬ ((0 : Int) < (k : Int)) := by omega
      have hw : grW s k x = ((s ++ x.ty) ++ sg 35) ++ relOf x := by unfold grW hashW commaW; rw [if_neg hk0]; simp [h1, h2]
      have HQ3 := hide (uh HQ2)
      rw [hw] at HQ3
      clear hw h1 h2
      go_wp2
      go_roundw
      case rel => exact ⟨k + 1, _, by omega, by go_num, rfl, uh HB, uh HPB, HQ3⟩
      case measure => simp [intOf]; omega
    ·have h2' : ((relOf x).toList == [42]) = true := by rw [← h2, eqs_toList]; rw [show (sg 42).toList = [42] from by rw [toList_lst]; rfl]
     have h2n : ((relOf x).toList != [42]) = false := by rw [bne, h2']; rfl
     by_cases hk0 : 0 < k
     ·have hk0' : (0 : Int) < (k : Int) := by omega
      have hw : grW s k x = ((s ++ sComma) ++ x.ty) ++ relOf x := by unfold grW hashW commaW; rw [if_pos hk0]; simp [h1, h2]
      have HQ3 := hide (uh HQ2)
      rw [hw] at HQ3
      clear hw h1 h2
      go_wp2
      go_roundw
      case rel => exact ⟨k + 1, _, by omega, by go_num, rfl, uh HB, uh HPB, HQ3⟩
      case measure => simp [intOf]; omega
     ·have hk0' : ¬ ((0 : Int) < (k : Int)) := by omega
      have hw : grW s k x = (s ++ x.ty) ++ relOf x := by unfold grW hashW commaW; rw [if_neg hk0]; simp [h1, h2]
      have HQ3 := hide (uh HQ2)
      rw [hw] at HQ3
      clear hw h1 h2
      go_wp2
      go_roundw
      case rel => exact ⟨k + 1, _, by omega, by go_num, rfl, uh HB, uh HPB, HQ3⟩
      case measure => simp [intOf]; omega
   ·have h1' : ((relOf x).toList == []) = true := by rw [← h1, eqs_em]
    have h1n : ((relOf x).toList != []) = false := by rw [bne, h1']; rfl
    by_cases hk0 : 0 < k
    ·have hk0' : (0 : Int) < (k : Int) := by omega
     have hw : grW s k x = ((s ++ sComma) ++ x.ty) ++ relOf x := by unfold grW hashW commaW; rw [if_pos hk0]; simp [h1]
     have HQ3 := hide (uh HQ2)
     rw [hw] at HQ3
     clear hw h1
     go_wp2
     go_roundw
     case rel => exact ⟨k + 1, _, by omega, by go_num, rfl, uh HB, uh HPB, HQ3⟩
     case measure => simp [intOf]; omega
    ·have hk0' : ¬ ((0 : Int) < (k : Int)) := by omega
     have hw : grW s k x = (s ++ x.ty) ++ relOf x := by unfold grW hashW commaW; rw [if_neg hk0]; simp [h1]
     have HQ3 := hide (uh HQ2)
     rw [hw] at HQ3
     clear hw h1
     go_wp2
     go_roundw
     case rel => exact ⟨k + 1, _, by omega, by go_num, rfl, uh HB, uh HPB, HQ3⟩
     case measure => simp [intOf]; omega
  ·have hkn : ¬ ((k : Int) < (p.gs.length : Int)) := by omega
   have e : s = R := by
    have := uh HF
    rw [List.drop_eq_nil_of_le (by omega), grsW] at this
    exact this
   subst e
   clear hb hpb HF hsz
   go_wp2
   go_ret
   exact ⟨rfl, uh HB⟩
end Go.Proofs.YtlbpnlngckgcbaaGreatDoor
