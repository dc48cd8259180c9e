import Derived.Test.YtlbpnlngckgcbaaGreatDoorM07
namespace Go.Proofs.YtlbpnlngckgcbaaGreatDoor
open Go.RowKit Go.PlainAid
set_option linter.unusedSimpArgs false
set_option linter.unusedVariables false
theorem type_post (b : Nat) (s : ByteArray) (i d : Nat) (w : World) (hs : s.size ≤ 500) (h : At w b s i d) (hd : d + 4 = 4) :
  Calls Tryz.prog 114 #[.pointer (some ⟨b, 0, none⟩)] w (Post b s d w (typeR (TT s) (PP s) i) (RepTy b) IsTy) := by
 unfold typeR
 cases he : eqs (TT s i) sType
 ·simp only [he, Bool.false_eq_true, if_false]
  exact type_no b s i d w hs h he
 ·simp only [he, if_true]
  cases hn : nameThenR (TT s) (sg 123) (i + 1) with
  | error e => exact type_nbad b s i d w hs h he e.1 e.2 (hide hn)
  | ok y =>
   obtain ⟨⟨⟩, j⟩ := y
   exact type_ok b s i d w hs h hd he j (hide hn)
theorem Tryz.info110 : (Tryz.prog.info? 110).map (fun i => (i.zero, i.size, i.bytes)) = some (some (.agg #[.int .i64 0, .string ⟨#[]⟩, .slice none 0 0]), 3, 48) := by kernel_rfl
def tyCells (p : Ty × Value) : List Value := [.int .i64 p.1.place, .string p.1.name, p.2]
/-- The slice holds the types. -/
def RepTys (base b : Nat) (w : World) (sv : Value) (ts : List Ty) : Prop :=
 ∃ l : List (Ty × Value), l.map Prod.fst = ts ∧ (∀ p ∈ l, RepRls (b + 1) b w p.2 p.1.rels) ∧ w.ownsRow base 110 3 sv ts.length (l.flatMap tyCells)
def MKept (b : Nat) (w w' : World) : Prop := ∀ g cs T f, b + 1 ≤ g → w.heap[g]? = some (.cells cs T f) → (T = 207 ∨ T = 159 ∨ T = 110) → w'.heap[g]? = w.heap[g]?
theorem MKept.of_but {b : Nat} {w w' : World} (h : But b w w') : MKept b w w' := fun g cs T f hg hh _ => h.block g (lt_of_some hh) (by omega)
theorem MKept.below {b : Nat} {w w' : World} (h : Below w.heap.size w w') : MKept b w w' := MKept.of_but (But.of_below h)
theorem MKept.r {b : Nat} {w w' : World} (h : MKept b w w') : RKept b w w' := fun g cs T f hg hh ht => h g cs T f hg hh (by rcases ht with h | h; exact .inl h; exact .inr (.inl h))
theorem MKept.trans {b : Nat} {x y z : World} (h : MKept b x y) (k : MKept b y z) : MKept b x z := fun g cs T f hg hh ht => (k g cs T f hg ((h g cs T f hg hh ht).trans hh) ht).trans (h g cs T f hg hh ht)
theorem MKept.set {b : Nat} {w : World} {g : Nat} {cs : Array Value} {T : TypeId} (hb : Blk w g cs T) (h1 : T ≠ 207) (h2 : T ≠ 159) (h3 : T ≠ 110) (o : Nat) (u : Value) : MKept b w (w.setCell ⟨g, o, none⟩ u) :=
 fun g' cs' T' f hg hh ht => Below.heap_setCell _ _ _ _ (fun (e' : g' = g) => by
  subst e'
  unfold Blk at hb
  rw [hb] at hh
  simp at hh
  obtain ⟨_, rfl, _⟩ := hh
  rcases ht with ht | ht | ht
  ·exact h1 ht
  ·exact h2 ht
  ·exact h3 ht)
theorem RepTys.frame {base b : Nat} {w w' : World} {sv : Value} {ts : List Ty} (h : RepTys base b w sv ts) (k : MKept b w w') (hb : b + 1 ≤ base) : RepTys base b w' sv ts := by
 obtain ⟨l, h1, h2, h3⟩ := h
 exact ⟨l, h1, fun p hp => (h2 p hp).frame k.r (Nat.le_refl _), ownsRow_frame h3 fun g cs f hg hh => k g cs _ f (by omega) hh (.inr (.inr rfl))⟩
theorem RepTys.base {base base' b : Nat} {w : World} {sv : Value} {ts : List Ty} (h : RepTys base b w sv ts) (hb : base' ≤ base) : RepTys base' b w sv ts := by
 obtain ⟨l, h1, h2, h3⟩ := h
 exact ⟨l, h1, h2, ownsRow_base h3 hb⟩
def RepM (b : Nat) (w : World) (ts : List Ty) (v : Value) : Prop := ∃ sv, v = .agg #[sv] ∧ RepTys (b + 1) b w sv ts
def IsM (v : Value) : Prop := ∃ (a : Option Addr) (n c : Nat), v = .agg #[.slice a n c]
set_option maxHeartbeats 2000000 in
set_option maxRecDepth 100000 in
theorem model_post (b : Nat) (s : ByteArray) (d : Nat) (w : World) (hs : s.size ≤ 500) (h : At w b s 0 d) (hd : d + 4 = 4) :
  Calls Tryz.prog 72 #[.pointer (some ⟨b, 0, none⟩)] w (Post b s d w (modelR (TT s) (PP s)) (RepM b) IsM) := by
 obtain ⟨i0, hi, hz0, hz1, hz2⟩ := info_parts Tryz.info110
 have HI := hide hi
 have HZ0 := hide hz0
 have HZ1 := hide hz1
 have HZ2 := hide hz2
 clear hi hz0 hz1 hz2
 unfold modelR
 generalize hR : modelL (TT s) (PP s) 512 [] 0 = R
 have HRR := hide hR
 clear hR
 have hlt := h.lt
 have Hs : Hid (s.size ≤ maxLen) := hide (by unfold maxLen; omega)
 have A0 := hide h
 clear h
 go_enter Tryz.func72, Tryz.ntmps72
 go_wp2_with fail
 go_loopg [6] 512 (fun k u6 wr => ∃ (ts : List Ty) (j : Nat) (sv : Value), But b w wr ∧ At wr b s j d ∧ 512 ≤ k + j ∧ ts.length ≤ j ∧ Blk wr w.heap.size #[.slice none 0 0] 75 ∧
  Blk wr (w.heap.size + 1) #[sv] 75 ∧ RepTys w.heap.size b wr sv ts ∧ Hid (modelL (TT s) (PP s) k ts j = R))
 case atStart => exact ⟨[], 0, _, ((But.refl b w).alloc _).alloc _, (by repeat (first | with_reducible exact uh A0 | with_reducible refine At.alloc ?_ _ | with_reducible refine At.drew ?_ | (with_reducible refine At.setNew ?_ ?_ _; rotate_left; exact (by first | omega | (simp; omega) | simp | (simp; done))))), by omega, by simp, (Blk.new w _ _).alloc _, Blk.new' (w.alloc _) _ _ _ (by simp), ⟨[], rfl, by simp, World.ownsRow_nil _ _ _ _⟩, HRR⟩
 case round =>
  obtain ⟨ts, j, sv, hb, ha, hk, hrl, hbr, hbt, hrep, HQ⟩ := hrel
  have hf : 12 ≤ gk := by have := ha.le; omega
  obtain ⟨fu, rfl⟩ : ∃ f, gk = f + 1 := ⟨gk - 1, by omega⟩
  obtain ⟨l, hl1, hl2, hl3⟩ := hrep
  obtain ⟨sa, sc, rfl⟩ := own_form hl3
  have P0 : Hid (RepTys w.heap.size b wr (.slice sa ts.length sc) ts) := hide ⟨l, hl1, hl2, hl3⟩
  have HA := hide ha
  have HB := hide hb
  have HR := hide hbr
  have HT := hide hbt
  have HL1 := hide hl1
  have HL2 := hide hl2
  have HL3 := hide hl3
  have hRk := uh HQ
  have t0 := hbt.cell (o := 0) rfl
  have x0 := hbr.cell (o := 0) rfl
  simp only [List.getElem_toArray, List.getElem_cons_zero] at t0 x0
  have zx := hbr.fz
  have zt := hbt.fz
  have hlt' := hbt.lt
  have hlt2 : w.heap.size < wr.heap.size := by omega
  have hlr := ha.lt
  unfold modelL at hRk
  clear ha hb hbr hbt hl1 hl2 hl3 HQ
  cases h1 : eqs (TT s j) em
  ·simp only [h1, Bool.false_eq_true, if_false] at hRk
   cases h2 : eqs (TT s j) sType
   ·simp only [h2, Bool.false_and, Bool.false_eq_true, if_false] at hRk
    have HK := hide hRk
    clear hRk
    go_wp2_with fail
    refine (ats b s j d _ _ em _ ?_ ?_).mono ?_
    ·exact (by repeat (first | with_reducible exact uh HA | with_reducible refine At.alloc ?_ _ | with_reducible refine At.drew ?_ | (with_reducible refine At.setNew ?_ ?_ _; rotate_left; exact (by first | omega | (simp; omega) | simp | (simp; done)))))
    ·exact cell_new1 _ _ _ _ (by simp)
    rintro e w1 ⟨rfl, rfl⟩
    rw [h1]
    go_wp2_with fail
    refine (ats b s j d _ _ sType _ ?_ ?_).mono ?_
    ·exact (by repeat (first | with_reducible exact uh HA | with_reducible refine At.alloc ?_ _ | with_reducible refine At.drew ?_ | (with_reducible refine At.setNew ?_ ?_ _; rotate_left; exact (by first | omega | (simp; omega) | simp | (simp; done)))))
    ·exact cell_new1 _ _ _ _ (by simp)
    rintro e w1 ⟨rfl, rfl⟩
    rw [h2]
    have A3 := hide (show At ((wr.alloc (.cells #[.string ⟨#[]⟩] 9)).alloc (.cells #[.string ⟨#[116, 121, 112, 101]⟩] 9)) b s j d from (by repeat (first | with_reducible exact uh HA | with_reducible refine At.alloc ?_ _ | with_reducible refine At.drew ?_ | (with_reducible refine At.setNew ?_ ?_ _; rotate_left; exact (by first | omega | (simp; omega) | simp | (simp; done))))))
    have B3 := hide (show But b w ((wr.alloc (.cells #[.string ⟨#[]⟩] 9)).alloc (.cells #[.string ⟨#[116, 121, 112, 101]⟩] 9)) from (by repeat (first | with_reducible exact uh HB | with_reducible refine But.alloc ?_ _ | with_reducible refine But.drew ?_ | (with_reducible refine But.setNew ?_ ?_ _; rotate_left; exact (by first | omega | (simp; omega) | simp | (simp; done))))))
    have G3 := ((uh HT).alloc (.cells #[.string ⟨#[]⟩] 9)).alloc (.cells #[.string ⟨#[116, 121, 112, 101]⟩] 9)
    have R3 := ((uh HR).alloc (.cells #[.string ⟨#[]⟩] 9)).alloc (.cells #[.string ⟨#[116, 121, 112, 101]⟩] 9)
    have P3 := hide ((uh P0).frame (MKept.below (b := b) (((Below.refl _ wr).alloc (Nat.le_refl _) (.cells #[.string ⟨#[]⟩] 9)).alloc (by simp) (.cells #[.string ⟨#[116, 121, 112, 101]⟩] 9))) (by omega))
    generalize (wr.alloc (.cells #[.string ⟨#[]⟩] 9)).alloc (.cells #[.string ⟨#[116, 121, 112, 101]⟩] 9) = w3 at *
    clear t0 x0 zx zt HA HB HR HT HL1 HL2 HL3 hlt' hlt2 P0 hlr
    have HG3 := hide G3
    have HR3 := hide R3
    have q0 := G3.cell (o := 0) rfl
    have x0 := R3.cell (o := 0) rfl
    simp only [List.getElem_toArray, List.getElem_cons_zero] at q0 x0
    have zx := R3.fz
    have zq := G3.fz
    have hW := G3.lt
    have hW' := R3.lt
    have hlr := (uh A3).lt
    clear G3 R3
    cases hq : typeR (TT s) (PP s) j with
    | error e =>
     obtain ⟨c4, j4⟩ := e
     have C := hide (type_post b s j d w3 hs (uh A3) hd)
     rw [hq] at C HK
     clear hq
     go_wp2_with fail
     refine (uh C).mono ?_
     rintro e w4 ⟨b4, v4, d4, rfl, ⟨p4, s4, va, vn, vc, rfl⟩, a4⟩
     have R4 := (uh HR3).but b4 (by omega)
     have G4 := (uh HG3).but b4 (by omega)
     have B4 := hide (But.trans (uh B3) b4)
     have P4 := hide ((uh P3).frame (MKept.of_but b4) (by omega))
     have A4 := hide a4
     have HR4 := hide R4
     have HG4 := hide G4
     have y0 := R4.cell (o := 0) rfl
     have k0 := G4.cell (o := 0) rfl
     simp only [List.getElem_toArray, List.getElem_cons_zero] at y0 k0
     have zy := R4.fz
     have zk := G4.fz
     have yl := G4.lt
     have yl' : w.heap.size < w4.heap.size := by omega
     clear a4 b4 R4 G4 q0 x0 zx zq C
     unfold errv
     go_wp2
     rw [← uh HK]
     refine bodyPost_ret (v := .tuple #[.agg #[.slice sa ts.length sc], errv c4]) (res_cc Tryz.results72 _ _ w.heap.size _ 75 _ _ rfl rfl ?hB Tryz.underlying75 rfl (by kernel_rfl)) rfl ?post
     case hB => exact ⟨_, (by repeat (first | with_reducible exact uh HR4 | with_reducible apply Blk.alloc | with_reducible apply Blk.drew | with_reducible apply Blk.set | (with_reducible apply Blk.other; case ha => exact (by first | omega | (simp; omega) | simp | (simp; done))))), by rfl⟩
     case post => exact ⟨(by repeat (first | with_reducible exact uh B4 | with_reducible refine But.alloc ?_ _ | with_reducible refine But.drew ?_ | (with_reducible refine But.setNew ?_ ?_ _; rotate_left; exact (by first | omega | (simp; omega) | simp | (simp; done))))), _, d4, rfl, ⟨_, _, _, rfl⟩, (by repeat (first | with_reducible exact uh A4 | with_reducible refine At.alloc ?_ _ | with_reducible refine At.drew ?_ | (with_reducible refine At.setNew ?_ ?_ _; rotate_left; exact (by first | omega | (simp; omega) | simp | (simp; done)))))⟩
    | ok y =>
     obtain ⟨t4, j4⟩ := y
     have C := hide (type_post b s j d w3 hs (uh A3) hd)
     have hj4 := typeR_mono _ _ _ _ _ hq
     rw [hq] at C HK
     clear hq
     go_wp2_with fail
     refine (uh C).mono ?_
     rintro e w4 ⟨b4, v4, rfl, ⟨tv4, rfl, hx4⟩, a4⟩
     have R4 := (uh HR3).but b4 (by omega)
     have G4 := (uh HG3).but b4 (by omega)
     have B4 := hide (But.trans (uh B3) b4)
     have P4 := hide ((uh P3).frame (MKept.of_but b4) (by omega))
     have A4 := hide a4
     have HR4 := hide R4
     have HG4 := hide G4
     have y0 := R4.cell (o := 0) rfl
     have k0 := G4.cell (o := 0) rfl
     simp only [List.getElem_toArray, List.getElem_cons_zero] at y0 k0
     have zy := R4.fz
     have zk := G4.fz
     have yl := G4.lt
     have yl' : w.heap.size < w4.heap.size := by omega
     clear a4 b4 R4 G4 q0 x0 zx zq C
     have hfm : ∃ a n c, tv4 = .slice a n c := by
      obtain ⟨_, _, _, h3⟩ := hx4
      obtain ⟨a, c, h⟩ := own_form h3
      exact ⟨a, _, c, h⟩
     obtain ⟨va, vn, vc, rfl⟩ := hfm
     have V4 := hide hx4
     have le4 := (uh A4).le
     clear hx4
     obtain ⟨l4, e1, e2, e3⟩ := uh P4
     have E1 := hide e1
     have E2 := hide e2
     have E3 := hide e3
     clear e1 e2 e3
     go_wp2_with (at_builtin; go_must (refine wpList_append_lies _ rfl _ _ 73 rfl w.heap.size 110 i0 _ 3 48 Tryz.underlying73 (uh HI) (uh HZ0) (uh HZ1) (uh HZ2) rfl (by decide) (.slice sa ts.length sc) ts.length (l4.flatMap tyCells) rfl ?hown ⟨w4.heap.size + 1, 0, none⟩ 1 1 (tyCells (t4, .slice va vn vc)) rfl rfl ?hnews ?hone (by decide) ?h63 ?hbytes ?hbase (w4.heap.size + 2) ?hH ?hrest))
     case hown => exact ((uh E3).alloc _).alloc _
     case hnews => exact World.news_of_block (B := w4.heap.size + 1) (cs := #[.int .i64 t4.place, .string t4.name, .slice va vn vc]) (t := 110) (fr := (0, 0)) (Blk.new' (w4.alloc _) _ _ _ (by simp))
     case hone =>
      intro u hu
      simp [tyCells] at hu
      rcases hu with rfl | rfl | rfl <;> rfl
     case h63 => unfold maxLen; omega
     case hbytes => omega
     case hbase => simp; omega
     case hH => simp
     case hrest =>
      intro g5 cap5 w5 hown5 hgrow5 hat5 hgl5
      have b0 : Below w4.heap.size w4 ((w4.alloc (.cells #[.int .i64 t4.place, .string t4.name, .slice va vn vc] 110)).alloc (.cells #[.int .i64 t4.place, .string t4.name, .slice va vn vc] 110)) := ((Below.refl _ _).alloc (Nat.le_refl _) _).alloc (by simp) _
      have G4' := (uh HG4).below b0
      have R4' := (uh HR4).below b0
      have A4' := (uh A4).below b0
      have O4' := ((uh E3).alloc (.cells #[.int .i64 t4.place, .string t4.name, .slice va vn vc] 110)).alloc (.cells #[.int .i64 t4.place, .string t4.name, .slice va vn vc] 110)
      have gk5 : RKept b w4 w5 := fun g cs T f hg hh ht => (hgrow5.block g (Nat.lt_of_lt_of_le (lt_of_some hh) b0.size) (own_nf O4' ((b0.block g (lt_of_some hh)).trans hh) (by rcases ht with rfl | rfl <;> decide))).trans (b0.block g (lt_of_some hh))
      have X5 := hide (show ∀ p ∈ l4 ++ [(t4, Value.slice va vn vc)], RepRls (b + 1) b w5 p.2 p.1.rels from fun p hp => by
       rw [List.mem_append] at hp
       rcases hp with hp | hp
       ·exact (uh E2 p hp).frame gk5 (Nat.le_refl _)
       ·simp at hp
        subst hp
        exact (uh V4).frame gk5 (Nat.le_refl _))
      have HG5 := hide (show Blk w5 (w.heap.size + 1) #[.slice sa ts.length sc] 75 from (hgrow5.block _ G4'.lt (own_ne O4' G4' (by decide))).trans G4')
      have HR5 := hide (show Blk w5 w.heap.size #[.slice none 0 0] 75 from (hgrow5.block _ R4'.lt (own_ne O4' R4' (by decide))).trans R4')
      have A5 := hide (A4'.grown hgrow5 (own_ne O4' A4'.pos.rd.blk (by decide)))
      have B5 := hide (But.grown ((uh B4).trans (But.of_below b0)) hgrow5 (fun k hk => (O4'.lt k hk).1))
      have O5 := hide hown5
      have m0 := (uh HG5).cell (o := 0) rfl
      simp only [List.getElem_toArray, List.getElem_cons_zero] at m0
      have zm := (uh HG5).fz
      have ml := (uh HG5).lt
      clear b0 G4' R4' A4' O4' gk5 hown5 hgrow5 hat5 y0 k0 zy zk
      go_wp2
      go_roundg fu
      case measure => omega
      case rel => exact ⟨ts ++ [t4], j4, _, (by repeat (first | with_reducible exact uh B5 | with_reducible refine But.alloc ?_ _ | with_reducible refine But.drew ?_ | (with_reducible refine But.setNew ?_ ?_ _; rotate_left; exact (by first | omega | (simp; omega) | simp | (simp; done))))), (by repeat (first | with_reducible exact uh A5 | with_reducible refine At.alloc ?_ _ | with_reducible refine At.drew ?_ | (with_reducible refine At.setNew ?_ ?_ _; rotate_left; exact (by first | omega | (simp; omega) | simp | (simp; done))))), by omega, by simp; omega, (by repeat (first | with_reducible exact uh HR5 | with_reducible apply Blk.alloc | with_reducible apply Blk.drew | with_reducible apply Blk.set | (with_reducible apply Blk.other; case ha => exact (by first | omega | (simp; omega) | simp | (simp; done))))), (uh HG5).set 0 _, ⟨l4 ++ [(t4, .slice va vn vc)], by simp [uh E1], fun p hp => (uh X5 p hp).frame (RKept.set (uh HG5) (by decide) (by decide) 0 _) (Nat.le_refl _), by rw [List.length_append, List.flatMap_append]; exact own_set (uh O5) (uh HG5) (by decide) 0 _⟩, HK⟩
   ·cases h5 : ((ts.length : Int) == 5)
    ·have h5' : (ts.length == 5) = false := by
      rw [beq_eq_false_iff_ne] at *
      omega
     simp only [h2, h5', Bool.and_false, Bool.false_eq_true, if_false] at hRk
     have HK := hide hRk
     clear hRk h5'
     go_wp2_with fail
     refine (ats b s j d _ _ em _ ?_ ?_).mono ?_
     ·exact (by repeat (first | with_reducible exact uh HA | with_reducible refine At.alloc ?_ _ | with_reducible refine At.drew ?_ | (with_reducible refine At.setNew ?_ ?_ _; rotate_left; exact (by first | omega | (simp; omega) | simp | (simp; done)))))
     ·exact cell_new1 _ _ _ _ (by simp)
     rintro e w1 ⟨rfl, rfl⟩
     rw [h1]
     go_wp2_with fail
     refine (ats b s j d _ _ sType _ ?_ ?_).mono ?_
     ·exact (by repeat (first | with_reducible exact uh HA | with_reducible refine At.alloc ?_ _ | with_reducible refine At.drew ?_ | (with_reducible refine At.setNew ?_ ?_ _; rotate_left; exact (by first | omega | (simp; omega) | simp | (simp; done)))))
     ·exact cell_new1 _ _ _ _ (by simp)
     rintro e w1 ⟨rfl, rfl⟩
     rw [h2]
     have A3 := hide (show At ((wr.alloc (.cells #[.string ⟨#[]⟩] 9)).alloc (.cells #[.string ⟨#[116, 121, 112, 101]⟩] 9)) b s j d from (by repeat (first | with_reducible exact uh HA | with_reducible refine At.alloc ?_ _ | with_reducible refine At.drew ?_ | (with_reducible refine At.setNew ?_ ?_ _; rotate_left; exact (by first | omega | (simp; omega) | simp | (simp; done))))))
     have B3 := hide (show But b w ((wr.alloc (.cells #[.string ⟨#[]⟩] 9)).alloc (.cells #[.string ⟨#[116, 121, 112, 101]⟩] 9)) from (by repeat (first | with_reducible exact uh HB | with_reducible refine But.alloc ?_ _ | with_reducible refine But.drew ?_ | (with_reducible refine But.setNew ?_ ?_ _; rotate_left; exact (by first | omega | (simp; omega) | simp | (simp; done))))))
     have G3 := ((uh HT).alloc (.cells #[.string ⟨#[]⟩] 9)).alloc (.cells #[.string ⟨#[116, 121, 112, 101]⟩] 9)
     have R3 := ((uh HR).alloc (.cells #[.string ⟨#[]⟩] 9)).alloc (.cells #[.string ⟨#[116, 121, 112, 101]⟩] 9)
     have P3 := hide ((uh P0).frame (MKept.below (b := b) (((Below.refl _ wr).alloc (Nat.le_refl _) (.cells #[.string ⟨#[]⟩] 9)).alloc (by simp) (.cells #[.string ⟨#[116, 121, 112, 101]⟩] 9))) (by omega))
     generalize (wr.alloc (.cells #[.string ⟨#[]⟩] 9)).alloc (.cells #[.string ⟨#[116, 121, 112, 101]⟩] 9) = w3 at *
     clear t0 x0 zx zt HA HB HR HT HL1 HL2 HL3 hlt' hlt2 P0 hlr
     have HG3 := hide G3
     have HR3 := hide R3
     have q0 := G3.cell (o := 0) rfl
     have x0 := R3.cell (o := 0) rfl
     simp only [List.getElem_toArray, List.getElem_cons_zero] at q0 x0
     have zx := R3.fz
     have zq := G3.fz
     have hW := G3.lt
     have hW' := R3.lt
     have hlr := (uh A3).lt
     clear G3 R3
     cases hq : typeR (TT s) (PP s) j with
     | error e =>
      obtain ⟨c4, j4⟩ := e
      have C := hide (type_post b s j d w3 hs (uh A3) hd)
      rw [hq] at C HK
      clear hq
      go_wp2_with fail
      refine (uh C).mono ?_
      rintro e w4 ⟨b4, v4, d4, rfl, ⟨p4, s4, va, vn, vc, rfl⟩, a4⟩
      have R4 := (uh HR3).but b4 (by omega)
      have G4 := (uh HG3).but b4 (by omega)
      have B4 := hide (But.trans (uh B3) b4)
      have P4 := hide ((uh P3).frame (MKept.of_but b4) (by omega))
      have A4 := hide a4
      have HR4 := hide R4
      have HG4 := hide G4
      have y0 := R4.cell (o := 0) rfl
      have k0 := G4.cell (o := 0) rfl
      simp only [List.getElem_toArray, List.getElem_cons_zero] at y0 k0
      have zy := R4.fz
      have zk := G4.fz
      have yl := G4.lt
      have yl' : w.heap.size < w4.heap.size := by omega
      clear a4 b4 R4 G4 q0 x0 zx zq C
      unfold errv
      go_wp2
      rw [← uh HK]
      refine bodyPost_ret (v := .tuple #[.agg #[.slice sa ts.length sc], errv c4]) (res_cc Tryz.results72 _ _ w.heap.size _ 75 _ _ rfl rfl ?hB Tryz.underlying75 rfl (by kernel_rfl)) rfl ?post
      case hB => exact ⟨_, (by repeat (first | with_reducible exact uh HR4 | with_reducible apply Blk.alloc | with_reducible apply Blk.drew | with_reducible apply Blk.set | (with_reducible apply Blk.other; case ha => exact (by first | omega | (simp; omega) | simp | (simp; done))))), by rfl⟩
      case post => exact ⟨(by repeat (first | with_reducible exact uh B4 | with_reducible refine But.alloc ?_ _ | with_reducible refine But.drew ?_ | (with_reducible refine But.setNew ?_ ?_ _; rotate_left; exact (by first | omega | (simp; omega) | simp | (simp; done))))), _, d4, rfl, ⟨_, _, _, rfl⟩, (by repeat (first | with_reducible exact uh A4 | with_reducible refine At.alloc ?_ _ | with_reducible refine At.drew ?_ | (with_reducible refine At.setNew ?_ ?_ _; rotate_left; exact (by first | omega | (simp; omega) | simp | (simp; done)))))⟩
     | ok y =>
      obtain ⟨t4, j4⟩ := y
      have C := hide (type_post b s j d w3 hs (uh A3) hd)
      have hj4 := typeR_mono _ _ _ _ _ hq
      rw [hq] at C HK
      clear hq
      go_wp2_with fail
      refine (uh C).mono ?_
      rintro e w4 ⟨b4, v4, rfl, ⟨tv4, rfl, hx4⟩, a4⟩
      have R4 := (uh HR3).but b4 (by omega)
      have G4 := (uh HG3).but b4 (by omega)
      have B4 := hide (But.trans (uh B3) b4)
      have P4 := hide ((uh P3).frame (MKept.of_but b4) (by omega))
      have A4 := hide a4
      have HR4 := hide R4
      have HG4 := hide G4
      have y0 := R4.cell (o := 0) rfl
      have k0 := G4.cell (o := 0) rfl
      simp only [List.getElem_toArray, List.getElem_cons_zero] at y0 k0
      have zy := R4.fz
      have zk := G4.fz
      have yl := G4.lt
      have yl' : w.heap.size < w4.heap.size := by omega
      clear a4 b4 R4 G4 q0 x0 zx zq C
      have hfm : ∃ a n c, tv4 = .slice a n c := by
       obtain ⟨_, _, _, h3⟩ := hx4
       obtain ⟨a, c, h⟩ := own_form h3
       exact ⟨a, _, c, h⟩
      obtain ⟨va, vn, vc, rfl⟩ := hfm
      have V4 := hide hx4
      have le4 := (uh A4).le
      clear hx4
      obtain ⟨l4, e1, e2, e3⟩ := uh P4
      have E1 := hide e1
      have E2 := hide e2
      have E3 := hide e3
      clear e1 e2 e3
      go_wp2_with (at_builtin; go_must (refine wpList_append_lies _ rfl _ _ 73 rfl w.heap.size 110 i0 _ 3 48 Tryz.underlying73 (uh HI) (uh HZ0) (uh HZ1) (uh HZ2) rfl (by decide) (.slice sa ts.length sc) ts.length (l4.flatMap tyCells) rfl ?hown ⟨w4.heap.size + 1, 0, none⟩ 1 1 (tyCells (t4, .slice va vn vc)) rfl rfl ?hnews ?hone (by decide) ?h63 ?hbytes ?hbase (w4.heap.size + 2) ?hH ?hrest))
      case hown => exact ((uh E3).alloc _).alloc _
      case hnews => exact World.news_of_block (B := w4.heap.size + 1) (cs := #[.int .i64 t4.place, .string t4.name, .slice va vn vc]) (t := 110) (fr := (0, 0)) (Blk.new' (w4.alloc _) _ _ _ (by simp))
      case hone =>
       intro u hu
       simp [tyCells] at hu
       rcases hu with rfl | rfl | rfl <;> rfl
      case h63 => unfold maxLen; omega
      case hbytes => omega
      case hbase => simp; omega
      case hH => simp
      case hrest =>
       intro g5 cap5 w5 hown5 hgrow5 hat5 hgl5
       have b0 : Below w4.heap.size w4 ((w4.alloc (.cells #[.int .i64 t4.place, .string t4.name, .slice va vn vc] 110)).alloc (.cells #[.int .i64 t4.place, .string t4.name, .slice va vn vc] 110)) := ((Below.refl _ _).alloc (Nat.le_refl _) _).alloc (by simp) _
       have G4' := (uh HG4).below b0
       have R4' := (uh HR4).below b0
       have A4' := (uh A4).below b0
       have O4' := ((uh E3).alloc (.cells #[.int .i64 t4.place, .string t4.name, .slice va vn vc] 110)).alloc (.cells #[.int .i64 t4.place, .string t4.name, .slice va vn vc] 110)
       have gk5 : RKept b w4 w5 := fun g cs T f hg hh ht => (hgrow5.block g (Nat.lt_of_lt_of_le (lt_of_some hh) b0.size) (own_nf O4' ((b0.block g (lt_of_some hh)).trans hh) (by rcases ht with rfl | rfl <;> decide))).trans (b0.block g (lt_of_some hh))
       have X5 := hide (show ∀ p ∈ l4 ++ [(t4, Value.slice va vn vc)], RepRls (b + 1) b w5 p.2 p.1.rels from fun p hp => by
        rw [List.mem_append] at hp
        rcases hp with hp | hp
        ·exact (uh E2 p hp).frame gk5 (Nat.le_refl _)
        ·simp at hp
         subst hp
         exact (uh V4).frame gk5 (Nat.le_refl _))
       have HG5 := hide (show Blk w5 (w.heap.size + 1) #[.slice sa ts.length sc] 75 from (hgrow5.block _ G4'.lt (own_ne O4' G4' (by decide))).trans G4')
       have HR5 := hide (show Blk w5 w.heap.size #[.slice none 0 0] 75 from (hgrow5.block _ R4'.lt (own_ne O4' R4' (by decide))).trans R4')
       have A5 := hide (A4'.grown hgrow5 (own_ne O4' A4'.pos.rd.blk (by decide)))
       have B5 := hide (But.grown ((uh B4).trans (But.of_below b0)) hgrow5 (fun k hk => (O4'.lt k hk).1))
       have O5 := hide hown5
       have m0 := (uh HG5).cell (o := 0) rfl
       simp only [List.getElem_toArray, List.getElem_cons_zero] at m0
       have zm := (uh HG5).fz
       have ml := (uh HG5).lt
       clear b0 G4' R4' A4' O4' gk5 hown5 hgrow5 hat5 y0 k0 zy zk
       go_wp2
       go_roundg fu
       case measure => omega
       case rel => exact ⟨ts ++ [t4], j4, _, (by repeat (first | with_reducible exact uh B5 | with_reducible refine But.alloc ?_ _ | with_reducible refine But.drew ?_ | (with_reducible refine But.setNew ?_ ?_ _; rotate_left; exact (by first | omega | (simp; omega) | simp | (simp; done))))), (by repeat (first | with_reducible exact uh A5 | with_reducible refine At.alloc ?_ _ | with_reducible refine At.drew ?_ | (with_reducible refine At.setNew ?_ ?_ _; rotate_left; exact (by first | omega | (simp; omega) | simp | (simp; done))))), by omega, by simp; omega, (by repeat (first | with_reducible exact uh HR5 | with_reducible apply Blk.alloc | with_reducible apply Blk.drew | with_reducible apply Blk.set | (with_reducible apply Blk.other; case ha => exact (by first | omega | (simp; omega) | simp | (simp; done))))), (uh HG5).set 0 _, ⟨l4 ++ [(t4, .slice va vn vc)], by simp [uh E1], fun p hp => (uh X5 p hp).frame (RKept.set (uh HG5) (by decide) (by decide) 0 _) (Nat.le_refl _), by rw [List.length_append, List.flatMap_append]; exact own_set (uh O5) (uh HG5) (by decide) 0 _⟩, HK⟩
    ·have h5' : (ts.length == 5) = true := by
      rw [beq_iff_eq] at *
      omega
     simp only [h2, h5', Bool.and_true, if_true] at hRk
     have HK := hide hRk
     clear hRk h5'
     go_wp2_with fail
     refine (ats b s j d _ _ em _ ?_ ?_).mono ?_
     ·exact (by repeat (first | with_reducible exact uh HA | with_reducible refine At.alloc ?_ _ | with_reducible refine At.drew ?_ | (with_reducible refine At.setNew ?_ ?_ _; rotate_left; exact (by first | omega | (simp; omega) | simp | (simp; done)))))
     ·exact cell_new1 _ _ _ _ (by simp)
     rintro e w1 ⟨rfl, rfl⟩
     rw [h1]
     go_wp2_with fail
     refine (ats b s j d _ _ sType _ ?_ ?_).mono ?_
     ·exact (by repeat (first | with_reducible exact uh HA | with_reducible refine At.alloc ?_ _ | with_reducible refine At.drew ?_ | (with_reducible refine At.setNew ?_ ?_ _; rotate_left; exact (by first | omega | (simp; omega) | simp | (simp; done)))))
     ·exact cell_new1 _ _ _ _ (by simp)
     rintro e w1 ⟨rfl, rfl⟩
     rw [h2]
     have A3 := hide (show At ((wr.alloc (.cells #[.string ⟨#[]⟩] 9)).alloc (.cells #[.string ⟨#[116, 121, 112, 101]⟩] 9)) b s j d from (by repeat (first | with_reducible exact uh HA | with_reducible refine At.alloc ?_ _ | with_reducible refine At.drew ?_ | (with_reducible refine At.setNew ?_ ?_ _; rotate_left; exact (by first | omega | (simp; omega) | simp | (simp; done))))))
     have B3 := hide (show But b w ((wr.alloc (.cells #[.string ⟨#[]⟩] 9)).alloc (.cells #[.string ⟨#[116, 121, 112, 101]⟩] 9)) from (by repeat (first | with_reducible exact uh HB | with_reducible refine But.alloc ?_ _ | with_reducible refine But.drew ?_ | (with_reducible refine But.setNew ?_ ?_ _; rotate_left; exact (by first | omega | (simp; omega) | simp | (simp; done))))))
     have G3 := ((uh HT).alloc (.cells #[.string ⟨#[]⟩] 9)).alloc (.cells #[.string ⟨#[116, 121, 112, 101]⟩] 9)
     have R3 := ((uh HR).alloc (.cells #[.string ⟨#[]⟩] 9)).alloc (.cells #[.string ⟨#[116, 121, 112, 101]⟩] 9)
     have P3 := hide ((uh P0).frame (MKept.below (b := b) (((Below.refl _ wr).alloc (Nat.le_refl _) (.cells #[.string ⟨#[]⟩] 9)).alloc (by simp) (.cells #[.string ⟨#[116, 121, 112, 101]⟩] 9))) (by omega))
     generalize (wr.alloc (.cells #[.string ⟨#[]⟩] 9)).alloc (.cells #[.string ⟨#[116, 121, 112, 101]⟩] 9) = w3 at *
     clear t0 x0 zx zt HA HB HR HT HL1 HL2 HL3 hlt' hlt2 P0 hlr
     have HG3 := hide G3
     have HR3 := hide R3
     have q0 := G3.cell (o := 0) rfl
     have x0 := R3.cell (o := 0) rfl
     simp only [List.getElem_toArray, List.getElem_cons_zero] at q0 x0
     have zx := R3.fz
     have zq := G3.fz
     have hW := G3.lt
     have hW' := R3.lt
     have hlr := (uh A3).lt
     clear G3 R3
     go_wp2
     rw [← uh HK]
     refine bodyPost_ret (v := .tuple #[.agg #[.slice sa ts.length sc], errv 3]) (res_cc Tryz.results72 _ _ w.heap.size _ 75 _ _ rfl rfl ?hB Tryz.underlying75 rfl (by kernel_rfl)) rfl ?post
     case hB => exact ⟨_, (by repeat (first | with_reducible exact uh HR3 | with_reducible apply Blk.alloc | with_reducible apply Blk.drew | with_reducible apply Blk.set | (with_reducible apply Blk.other; case ha => exact (by first | omega | (simp; omega) | simp | (simp; done))))), by rfl⟩
     case post => exact ⟨(by repeat (first | with_reducible exact uh B3 | with_reducible refine But.alloc ?_ _ | with_reducible refine But.drew ?_ | (with_reducible refine But.setNew ?_ ?_ _; rotate_left; exact (by first | omega | (simp; omega) | simp | (simp; done))))), _, d, rfl, ⟨_, _, _, rfl⟩, (by repeat (first | with_reducible exact uh A3 | with_reducible refine At.alloc ?_ _ | with_reducible refine At.drew ?_ | (with_reducible refine At.setNew ?_ ?_ _; rotate_left; exact (by first | omega | (simp; omega) | simp | (simp; done)))))⟩
  ·simp only [h1, if_true] at hRk
   have HK := hide hRk
   clear hRk
   go_wp2_with fail
   refine (ats b s j d _ _ em _ ?_ ?_).mono ?_
   ·exact (by repeat (first | with_reducible exact uh HA | with_reducible refine At.alloc ?_ _ | with_reducible refine At.drew ?_ | (with_reducible refine At.setNew ?_ ?_ _; rotate_left; exact (by first | omega | (simp; omega) | simp | (simp; done)))))
   ·exact cell_new1 _ _ _ _ (by simp)
   rintro e w1 ⟨rfl, rfl⟩
   rw [h1]
   go_wp2
   rw [← uh HK]
   refine bodyPost_ret (v := .tuple #[.agg #[.slice sa ts.length sc], .nilIface]) (res_cc Tryz.results72 _ _ w.heap.size _ 75 _ _ rfl rfl ?hB Tryz.underlying75 rfl (by kernel_rfl)) rfl ?post
   case hB => exact ⟨_, (by repeat (first | with_reducible exact uh HR | with_reducible apply Blk.alloc | with_reducible apply Blk.drew | with_reducible apply Blk.set | (with_reducible apply Blk.other; case ha => exact (by first | omega | (simp; omega) | simp | (simp; done))))), by rfl⟩
   case post => exact ⟨(by repeat (first | with_reducible exact uh HB | with_reducible refine But.alloc ?_ _ | with_reducible refine But.drew ?_ | (with_reducible refine But.setNew ?_ ?_ _; rotate_left; exact (by first | omega | (simp; omega) | simp | (simp; done))))), _, rfl, ⟨_, rfl, ((uh P0).frame ((MKept.set (uh HR) (by decide) (by decide) (by decide) 0 _).trans (MKept.below ((Below.refl _ _).alloc (Nat.le_refl _) _))) (by omega)).base (by omega)⟩, (by repeat (first | with_reducible exact uh HA | with_reducible refine At.alloc ?_ _ | with_reducible refine At.drew ?_ | (with_reducible refine At.setNew ?_ ?_ _; rotate_left; exact (by first | omega | (simp; omega) | simp | (simp; done)))))⟩
/-- An element of three cells: a place, a name, a third value. -/
abbrev E3 := Nat × ByteArray × Value
def c3 (e : E3) : List Value := [.int .i64 e.1, .string e.2.1, e.2.2]
def Row3 (w : World) (T : TypeId) (v : Value) (l : List E3) : Prop := w.ownsRow 0 T 3 v l.length (l.flatMap c3)
theorem flat3_length : ∀ l : List E3, (l.flatMap c3).length = l.length * 3
 | [] => rfl
 | e :: l => by simp [List.flatMap_cons, flat3_length l, c3]; omega
theorem flat3_get (e : E3) : ∀ (l : List E3) (i : Nat), l[i]? = some e → (l.flatMap c3)[i * 3]? = some (.int .i64 e.1) ∧ (l.flatMap c3)[i * 3 + 1]? = some (.string e.2.1) ∧ (l.flatMap c3)[i * 3 + 2]? = some e.2.2
 | [], i, h => by simp at h
 | e' :: l, 0, h => by simp at h; subst h; simp [List.flatMap_cons, c3]
 | e' :: l, i + 1, h => by
  have := flat3_get e l i (by simpa using h)
  rw [List.flatMap_cons, show (i + 1) * 3 = i * 3 + 3 by omega]
  simpa [c3] using this
theorem own_cell {w : World} {base : Nat} {e : TypeId} {size : Nat} {v : Value} {n : Nat} {xs : List Value} (h : w.ownsRow base e size v n xs) (k : Nat) (u : Value) (hu : xs[k]? = some u) : ∃ g c, v = .slice (some ⟨g, 0, none⟩) n c ∧ w.cell? ⟨g, k, none⟩ = some u := by
 have hk : k < xs.length := by
  rcases Nat.lt_or_ge k xs.length with h | h
  ·exact h
  ·rw [List.getElem?_eq_none h] at hu; cases hu
 rcases h with ⟨h1, ⟨rfl, rfl⟩ | ⟨g, cap, cur, rfl, hg, hh, h3, h4, h5, h6⟩⟩
 ·simp at h1; rw [h1] at hk; simp at hk
 ·refine ⟨g, cap, rfl, ?_⟩
  rw [← h6] at hu
  have hk2 : k < n * size := by omega
  rw [List.getElem?_take_of_lt hk2] at hu
  simpa [World.cell?, hh] using hu
theorem Row3.cell {w : World} {T : TypeId} {v : Value} {l : List E3} (h : Row3 w T v l) (i : Nat) (hi : i < l.length) :
  ∃ g c, v = .slice (some ⟨g, 0, none⟩) l.length c ∧ w.cell? ⟨g, i * 3, none⟩ = some (.int .i64 l[i].1) ∧ w.cell? ⟨g, i * 3 + 1, none⟩ = some (.string l[i].2.1) ∧ w.cell? ⟨g, i * 3 + 2, none⟩ = some l[i].2.2 := by
 obtain ⟨h0, h1, h2⟩ := flat3_get l[i] l i (List.getElem?_eq_getElem hi)
 obtain ⟨g, c, rfl, e0⟩ := own_cell h _ _ h0
 obtain ⟨g', c', e', e1⟩ := own_cell h _ _ h1
 obtain ⟨g'', c'', e'', e2⟩ := own_cell h _ _ h2
 simp only [Value.slice.injEq, Option.some.injEq, Addr.mk.injEq] at e' e''
 obtain ⟨⟨rfl, _⟩, _⟩ := e'
 obtain ⟨⟨rfl, _⟩, _⟩ := e''
 exact ⟨g, c, rfl, e0, e1, e2⟩
theorem Row3.below {w w' : World} {T : TypeId} {v : Value} {l : List E3} (h : Row3 w T v l) (k : Below w.heap.size w w') : Row3 w' T v l :=
 ownsRow_frame h fun g cs f _ hh => k.block g (lt_of_some hh)
/-- Where an element of this name first stands; -1: nowhere. -/
def idx3 (x : ByteArray) (l : List E3) : Int := match l.findIdx? (fun e => eqs e.2.1 x) with
 | some k => k
 | none => -1
theorem idx3_yes (x : ByteArray) (l : List E3) (k : Nat) (hk : k < l.length) (he : eqs l[k].2.1 x = true) (hall : ∀ j, (h : j < l.length) → j < k → eqs l[j].2.1 x = false) : idx3 x l = k := by
 have : l.findIdx? (fun e => eqs e.2.1 x) = some k := by
  rw [List.findIdx?_eq_some_iff_getElem]
  exact ⟨hk, he, fun j hj => by rw [hall j (by omega) hj]; decide⟩
 simp [idx3, this]
theorem idx3_no (x : ByteArray) (l : List E3) (hall : ∀ j, (h : j < l.length) → eqs l[j].2.1 x = false) : idx3 x l = -1 := by
 have : l.findIdx? (fun e => eqs e.2.1 x) = none := by
  rw [List.findIdx?_eq_none_iff]
  intro e he
  obtain ⟨j, hj, rfl⟩ := List.getElem_of_mem he
  exact hall j hj
 simp [idx3, this]
set_option maxHeartbeats 1000000 in
set_option maxRecDepth 100000 in
theorem find1_T (p : Nat) (n x : ByteArray) (v : Value) (q : Nat) (w : World) (hx : Blk w q #[.string x] 9) :
  Calls Tryz.prog 96 #[.agg #[.int .i64 p, .string n, v], .pointer (some ⟨q, 0, none⟩)] w fun e w' => e = .returned (.bool (eqs n x)) ∧ Below w.heap.size w w' := by
 have c0 : w.cell? ⟨q, 0, none⟩ = some (.string x) := hx.cell rfl
 have hl := hx.lt
 have he : (n.toList == x.toList) = eqs n x := by rw [toList_lst, toList_lst]; rfl
 clear hx
 go_enter Tryz.func96, Tryz.ntmps96
 go_wp2
 go_ret
 exact ⟨rfl, (Below.refl _ _).alloc (Nat.le_refl _) _⟩
set_option maxHeartbeats 1000000 in
set_option maxRecDepth 100000 in
theorem indexFunc_T (v : Value) (l : List E3) (x : ByteArray) (q : Nat) (w : World) (hn : l.length ≤ 1000) (h : Row3 w 110 v l) (hx : Blk w q #[.string x] 9) :
  Calls Tryz.prog 95 #[v, .func (.func 96) #[] #[.pointer (some ⟨q, 0, none⟩)]] w fun e w' => e = .returned (.int .i64 (idx3 x l)) ∧ Below w.heap.size w w' := by
 obtain ⟨sa, sc, rfl⟩ := own_form h
 have H := hide h
 have HX := hide hx
 clear h hx
 go_enter Tryz.func95, Tryz.ntmps95
 go_wp2
 go_loopw [5, 8] (fun u i wr => ∃ k : Nat, k ≤ l.length ∧ i = .int .i64 k ∧ Below w.heap.size w wr ∧ Hid (∀ j, (h : j < l.length) → j < k → eqs l[j].2.1 x = false)) (fun _ i _ => l.length - (intOf i).toNat)
 case atStart => exact ⟨0, by omega, rfl, Below.refl _ _, hide (fun j e h => by omega)⟩
 case round =>
  obtain ⟨k, hk, rfl, hb, Hall⟩ := hrel
  have HB := hide hb
  by_cases hlt : k < l.length
  ·obtain ⟨g, c, e1, k0, k1, k2⟩ := ((uh H).below hb).cell k hlt
   simp only [Value.slice.injEq] at e1
   obtain ⟨rfl, _, rfl⟩ := e1
   have HX' := hide ((uh HX).below hb)
   clear hb
   cases he : eqs l[k].2.1 x
   ·have Hn := hide (show ∀ j, (h : j < l.length) → j < k + 1 → eqs l[j].2.1 x = false from fun j h h' => by
     by_cases e : j = k
     ·subst e; exact he
     ·exact uh Hall j h (by omega))
    have He := hide he
    clear he
    go_wp2_with fail
    refine (find1_T _ _ _ _ _ _ (uh HX')).mono ?_
    rintro e w2 ⟨rfl, hb2⟩
    rw [uh He]
    have HB2 := hide ((uh HB).trans (hb2.mono (uh HB).size))
    clear hb2
    go_wp2
    go_roundw
    case rel => exact ⟨k + 1, by omega, by go_num, uh HB2, Hn⟩
    case measure => simp [intOf]; omega
   ·have Hfin := hide (idx3_yes x l k hlt he (uh Hall))
    have He := hide he
    clear he
    go_wp2_with fail
    refine (find1_T _ _ _ _ _ _ (uh HX')).mono ?_
    rintro e w2 ⟨rfl, hb2⟩
    rw [uh He]
    have HB2 := hide ((uh HB).trans (hb2.mono (uh HB).size))
    clear hb2
    go_wp2
    go_ret
    exact ⟨by rw [uh Hfin]; rfl, uh HB2⟩
  ·have Hfin := hide (idx3_no x l (fun j h => uh Hall j h (by omega)))
   clear hb
   go_wp2
   go_ret
   exact ⟨by rw [uh Hfin]; rfl, uh HB⟩
set_option maxHeartbeats 1000000 in
set_option maxRecDepth 100000 in
theorem find1_R (p : Nat) (n x : ByteArray) (v : Value) (q : Nat) (w : World) (hx : Blk w q #[.string x] 9) :
  Calls Tryz.prog 206 #[.agg #[.int .i64 p, .string n, v], .pointer (some ⟨q, 0, none⟩)] w fun e w' => e = .returned (.bool (eqs n x)) ∧ Below w.heap.size w w' := by
 have c0 : w.cell? ⟨q, 0, none⟩ = some (.string x) := hx.cell rfl
 have hl := hx.lt
 have he : (n.toList == x.toList) = eqs n x := by rw [toList_lst, toList_lst]; rfl
 clear hx
 go_enter Tryz.func206, Tryz.ntmps206
 go_wp2
 go_ret
 exact ⟨rfl, (Below.refl _ _).alloc (Nat.le_refl _) _⟩
set_option maxHeartbeats 1000000 in
set_option maxRecDepth 100000 in
theorem indexFunc_R (v : Value) (l : List E3) (x : ByteArray) (q : Nat) (w : World) (hn : l.length ≤ 1000) (h : Row3 w 159 v l) (hx : Blk w q #[.string x] 9) :
  Calls Tryz.prog 205 #[v, .func (.func 206) #[] #[.pointer (some ⟨q, 0, none⟩)]] w fun e w' => e = .returned (.int .i64 (idx3 x l)) ∧ Below w.heap.size w w' := by
 obtain ⟨sa, sc, rfl⟩ := own_form h
 have H := hide h
 have HX := hide hx
 clear h hx
 go_enter Tryz.func205, Tryz.ntmps205
 go_wp2
 go_loopw [5, 8] (fun u i wr => ∃ k : Nat, k ≤ l.length ∧ i = .int .i64 k ∧ Below w.heap.size w wr ∧ Hid (∀ j, (h : j < l.length) → j < k → eqs l[j].2.1 x = false)) (fun _ i _ => l.length - (intOf i).toNat)
 case atStart => exact ⟨0, by omega, rfl, Below.refl _ _, hide (fun j e h => by omega)⟩
 case round =>
  obtain ⟨k, hk, rfl, hb, Hall⟩ := hrel
  have HB := hide hb
  by_cases hlt : k < l.length
  ·obtain ⟨g, c, e1, k0, k1, k2⟩ := ((uh H).below hb).cell k hlt
   simp only [Value.slice.injEq] at e1
   obtain ⟨rfl, _, rfl⟩ := e1
   have HX' := hide ((uh HX).below hb)
   clear hb
   cases he : eqs l[k].2.1 x
   ·have Hn := hide (show ∀ j, (h : j < l.length) → j < k + 1 → eqs l[j].2.1 x = false from fun j h h' => by
     by_cases e : j = k
     ·subst e; exact he
     ·exact uh Hall j h (by omega))
    have He := hide he
    clear he
    go_wp2_with fail
    refine (find1_R _ _ _ _ _ _ (uh HX')).mono ?_
    rintro e w2 ⟨rfl, hb2⟩
    rw [uh He]
    have HB2 := hide ((uh HB).trans (hb2.mono (uh HB).size))
    clear hb2
    go_wp2
    go_roundw
    case rel => exact ⟨k + 1, by omega, by go_num, uh HB2, Hn⟩
    case measure => simp [intOf]; omega
   ·have Hfin := hide (idx3_yes x l k hlt he (uh Hall))
    have He := hide he
    clear he
    go_wp2_with fail
    refine (find1_R _ _ _ _ _ _ (uh HX')).mono ?_
    rintro e w2 ⟨rfl, hb2⟩
    rw [uh He]
    have HB2 := hide ((uh HB).trans (hb2.mono (uh HB).size))
    clear hb2
    go_wp2
    go_ret
    exact ⟨by rw [uh Hfin]; rfl, uh HB2⟩
  ·have Hfin := hide (idx3_no x l (fun j h => uh Hall j h (by omega)))
   clear hb
   go_wp2
   go_ret
   exact ⟨by rw [uh Hfin]; rfl, uh HB⟩
end Go.Proofs.YtlbpnlngckgcbaaGreatDoor
