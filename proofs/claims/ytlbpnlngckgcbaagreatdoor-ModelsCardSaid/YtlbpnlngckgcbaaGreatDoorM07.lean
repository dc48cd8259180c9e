import Derived.Test.YtlbpnlngckgcbaaGreatDoorM06
namespace Go.Proofs.YtlbpnlngckgcbaaGreatDoor
open Go.RowKit Go.PlainAid
set_option linter.unusedSimpArgs false
set_option linter.unusedVariables false
theorem Tryz.info159 : (Tryz.prog.info? 159).map (fun i => (i.zero, i.size, i.bytes)) = some (some (.agg #[.int .i64 0, .string ⟨#[]⟩, .nilIface]), 3, 40) := by kernel_rfl
def rlCells (p : Rl × Value) : List Value := [.int .i64 p.1.place, .string p.1.name, p.2]
/-- The slice holds the relations. -/
def RepRls (base b : Nat) (w : World) (sv : Value) (rs : List Rl) : Prop :=
 ∃ l : List (Rl × Value), l.map Prod.fst = rs ∧ (∀ p ∈ l, RepEx b w p.1.body p.2) ∧ w.ownsRow base 159 3 sv rs.length (l.flatMap rlCells)
theorem own_form {w : World} {base : Nat} {e : TypeId} {size : Nat} {v : Value} {n : Nat} {xs : List Value} (h : w.ownsRow base e size v n xs) : ∃ a cap, v = .slice a n cap := by
 rcases h.2 with ⟨rfl, rfl⟩ | ⟨g, cap, cur, rfl, _⟩
 ·exact ⟨_, _, rfl⟩
 ·exact ⟨_, _, rfl⟩
/-- The blocks of grants and of relations behind b are as they were. -/
def RKept (b : Nat) (w w' : World) : Prop := ∀ g cs T f, b + 1 ≤ g → w.heap[g]? = some (.cells cs T f) → (T = 207 ∨ T = 159) → w'.heap[g]? = w.heap[g]?
theorem RKept.of_but {b : Nat} {w w' : World} (h : But b w w') : RKept b w w' := fun g cs T f hg hh _ => h.block g (lt_of_some hh) (by omega)
theorem RKept.g {b : Nat} {w w' : World} (h : RKept b w w') : GKept b w w' := fun g cs f hg hh => h g cs _ f hg hh (.inl rfl)
theorem RepRls.frame {base b : Nat} {w w' : World} {sv : Value} {rs : List Rl} (h : RepRls base b w sv rs) (k : RKept b w w') (hb : b + 1 ≤ base) : RepRls base b w' sv rs := by
 obtain ⟨l, h1, h2, h3⟩ := h
 exact ⟨l, h1, fun p hp => RepEx.frame k.g _ _ (h2 p hp), ownsRow_frame h3 fun g cs f hg hh => k g cs _ f (by omega) hh (.inr rfl)⟩
theorem RepRls.base {base base' b : Nat} {w : World} {sv : Value} {rs : List Rl} (h : RepRls base b w sv rs) (hb : base' ≤ base) : RepRls base' b w sv rs := by
 obtain ⟨l, h1, h2, h3⟩ := h
 exact ⟨l, h1, h2, ownsRow_base h3 hb⟩
theorem RKept.set {b : Nat} {w : World} {g : Nat} {cs : Array Value} {T : TypeId} (hb : Blk w g cs T) (h1 : T ≠ 207) (h2 : T ≠ 159) (o : Nat) (u : Value) : RKept b w (w.setCell ⟨g, o, none⟩ u) :=
 fun g' cs' T' f hg hh ht => Below.heap_setCell _ _ _ _ (fun (e' : g' = g) => by
  subst e'
  unfold Blk at hb
  rw [hb] at hh
  simp at hh
  obtain ⟨_, rfl, _⟩ := hh
  rcases ht with ht | ht
  ·exact h1 ht
  ·exact h2 ht)
theorem RKept.trans {b : Nat} {x y z : World} (h : RKept b x y) (k : RKept b y z) : RKept b x z := fun g cs T f hg hh ht => (k g cs T f hg ((h g cs T f hg hh ht).trans hh) ht).trans (h g cs T f hg hh ht)
theorem RKept.below {b : Nat} {w w' : World} (h : Below w.heap.size w w') : RKept b w w' := RKept.of_but (But.of_below h)
theorem own_nf {w : World} {base : Nat} {e : TypeId} {size : Nat} {v : Value} {n : Nat} {xs : List Value} {g : Nat} {cs : Array Value} {T : TypeId} {f : Nat × Nat} (h : w.ownsRow base e size v n xs) (hb : w.heap[g]? = some (.cells cs T f)) (ht : T ≠ e) : some g ≠ v.ownBlock := by
 rcases h.2 with ⟨rfl, _⟩ | ⟨g', cap, cur, rfl, hg, hh, r⟩
 ·simp [Value.ownBlock]
 ·intro he
  simp only [Value.ownBlock, Option.some.injEq] at he
  subst he
  rw [hb] at hh
  simp at hh
  exact ht hh.2.1
def RepTy (b : Nat) (w : World) (t : Ty) (v : Value) : Prop := ∃ sv, v = .agg #[.int .i64 t.place, .string t.name, sv] ∧ RepRls (b + 1) b w sv t.rels
def IsTy (v : Value) : Prop := ∃ (p : Nat) (t : ByteArray) (a : Option Addr) (n c : Nat), v = .agg #[.int .i64 p, .string t, .slice a n c]
def typeM (T : Nat → ByteArray) (P : Nat → Nat) (i : Nat) (R : Res (List Rl)) : Res Ty := match R with
 | .error e => .error e
 | .ok (rs, m) => .ok (⟨T (i + 1), P (i + 1), rs⟩, m)
set_option maxHeartbeats 1000000 in
set_option maxRecDepth 100000 in
theorem type_no (b : Nat) (s : ByteArray) (i d : Nat) (w : World) (hs : s.size ≤ 500) (h : At w b s i d) (he : eqs (TT s i) sType = false) :
  Calls Tryz.prog 114 #[.pointer (some ⟨b, 0, none⟩)] w (Post b s d w (.error (2, i) : Res Ty) (RepTy b) IsTy) := by
 have hlt := h.lt
 have A0 := hide h
 clear h
 go_enter Tryz.func114, Tryz.ntmps114
 go_wp2_with fail
 refine (takes_no b s i d sType _ ?_ he).mono ?_
 ·exact (by repeat (first | with_reducible exact uh A0 | with_reducible refine At.alloc ?_ _ | with_reducible refine At.drew ?_ | (with_reducible refine At.setNew ?_ ?_ _; rotate_left; exact (by first | omega | (simp; omega) | simp | (simp; done)))))
 rintro e w1 ⟨rfl, a1, b1⟩
 have B1 := hide (((But.refl b w).alloc _).alloc _ |>.trans b1)
 have R := ((Blk.new w #[.int .i64 0, .string ⟨#[]⟩, .slice none 0 0] 110).alloc (.cells #[.int .i64 0, .string ⟨#[]⟩, .slice none 0 0] 110)).but b1 (by omega)
 have G := (Blk.new' (w.alloc (.cells #[.int .i64 0, .string ⟨#[]⟩, .slice none 0 0] 110)) #[.int .i64 0, .string ⟨#[]⟩, .slice none 0 0] 110 (w.heap.size + 1) (by simp)).but b1 (by omega)
 have HR := hide R
 have HG := hide G
 obtain ⟨r0, r1, r2⟩ := R.three
 obtain ⟨g0, g1, g2⟩ := G.three
 have zr := R.fz
 have zg := G.fz
 have A1 := hide a1
 clear a1 b1 R G
 unfold errv
 go_wp2
 refine bodyPost_ret (v := .tuple #[.agg #[.int .i64 0, .string ⟨#[]⟩, .slice none 0 0], errv 2]) (res_cc Tryz.results114 _ _ w.heap.size _ 110 _ _ rfl rfl ?hB Tryz.underlying110 rfl (by kernel_rfl)) rfl ?post
 case hB => exact ⟨_, (by repeat (first | with_reducible exact uh HR | with_reducible apply Blk.alloc | with_reducible apply Blk.drew | with_reducible apply Blk.set | (with_reducible apply Blk.other; case ha => exact (by first | omega | (simp; omega) | simp | (simp; done))))), by rfl⟩
 case post => exact ⟨(by repeat (first | with_reducible exact uh B1 | with_reducible refine But.alloc ?_ _ | with_reducible refine But.drew ?_ | (with_reducible refine But.setNew ?_ ?_ _; rotate_left; exact (by first | omega | (simp; omega) | simp | (simp; done))))), _, d, rfl, ⟨0, _, _, _, _, rfl⟩, (by repeat (first | with_reducible exact uh A1 | with_reducible refine At.alloc ?_ _ | with_reducible refine At.drew ?_ | (with_reducible refine At.setNew ?_ ?_ _; rotate_left; exact (by first | omega | (simp; omega) | simp | (simp; done)))))⟩
set_option maxHeartbeats 1000000 in
set_option maxRecDepth 100000 in
theorem type_nbad (b : Nat) (s : ByteArray) (i d : Nat) (w : World) (hs : s.size ≤ 500) (h : At w b s i d) (he : eqs (TT s i) sType = true) (c j : Nat) (Hn : Hid (nameThenR (TT s) (sg 123) (i + 1) = .error (c, j))) :
  Calls Tryz.prog 114 #[.pointer (some ⟨b, 0, none⟩)] w (Post b s d w (.error (c, j) : Res Ty) (RepTy b) IsTy) := by
 have hlt := h.lt
 have Hs : Hid (s.size ≤ maxLen) := hide (by unfold maxLen; omega)
 have He := hide he
 have A0 := hide h
 clear h he
 go_enter Tryz.func114, Tryz.ntmps114
 go_wp2_with fail
 refine (takes_yes b s i d sType _ (uh Hs) ?_ (uh He) (by decide)).mono ?_
 ·exact (by repeat (first | with_reducible exact uh A0 | with_reducible refine At.alloc ?_ _ | with_reducible refine At.drew ?_ | (with_reducible refine At.setNew ?_ ?_ _; rotate_left; exact (by first | omega | (simp; omega) | simp | (simp; done)))))
 rintro e w1 ⟨rfl, a1, b1⟩
 have B1 := hide (((But.refl b w).alloc _).alloc _ |>.trans b1)
 have R1 := hide (((Blk.new w #[.int .i64 0, .string ⟨#[]⟩, .slice none 0 0] 110).alloc (.cells #[.int .i64 0, .string ⟨#[]⟩, .slice none 0 0] 110)).but b1 (by omega))
 have G1 := hide ((Blk.new' (w.alloc (.cells #[.int .i64 0, .string ⟨#[]⟩, .slice none 0 0] 110)) #[.int .i64 0, .string ⟨#[]⟩, .slice none 0 0] 110 (w.heap.size + 1) (by simp)).but b1 (by omega))
 have A1 := hide a1
 clear a1 b1
 have C := hide (nameThen_post b s (i + 1) d (sg 123) w1 (uh Hs) (uh A1) (by decide))
 rw [uh Hn] at C
 go_wp2_with fail
 refine (uh C).mono ?_
 rintro e w2 ⟨b2, v, d2, rfl, ⟨p, t, rfl⟩, a2⟩
 have B2 := hide (But.trans (uh B1) b2)
 have R := (uh R1).but b2 (by omega)
 have G := (uh G1).but b2 (by omega)
 have HR := hide R
 have HG := hide G
 obtain ⟨r0, r1, r2⟩ := R.three
 obtain ⟨g0, g1, g2⟩ := G.three
 have zr := R.fz
 have zg := G.fz
 have hz := G.lt
 have A2 := hide a2
 clear a2 b2 R G C
 unfold errv
 go_wp2
 refine bodyPost_ret (v := .tuple #[.agg #[.int .i64 p, .string t, .slice none 0 0], errv c]) (res_cc Tryz.results114 _ _ w.heap.size _ 110 _ _ rfl rfl ?hB Tryz.underlying110 rfl (by kernel_rfl)) rfl ?post
 case hB => exact ⟨_, (by repeat (first | with_reducible exact uh HR | with_reducible apply Blk.alloc | with_reducible apply Blk.drew | with_reducible apply Blk.set | (with_reducible apply Blk.other; case ha => exact (by first | omega | (simp; omega) | simp | (simp; done))))), by rfl⟩
 case post => exact ⟨(by repeat (first | with_reducible exact uh B2 | with_reducible refine But.alloc ?_ _ | with_reducible refine But.drew ?_ | (with_reducible refine But.setNew ?_ ?_ _; rotate_left; exact (by first | omega | (simp; omega) | simp | (simp; done))))), _, d2, rfl, ⟨p, t, _, _, _, rfl⟩, (by repeat (first | with_reducible exact uh A2 | with_reducible refine At.alloc ?_ _ | with_reducible refine At.drew ?_ | (with_reducible refine At.setNew ?_ ?_ _; rotate_left; exact (by first | omega | (simp; omega) | simp | (simp; done)))))⟩
set_option maxHeartbeats 2000000 in
set_option maxRecDepth 100000 in
theorem type_ok (b : Nat) (s : ByteArray) (i d : Nat) (w : World) (hs : s.size ≤ 500) (h : At w b s i d) (hd : d + 4 = 4) (he : eqs (TT s i) sType = true) (j : Nat) (Hn : Hid (nameThenR (TT s) (sg 123) (i + 1) = .ok ((), j))) :
  Calls Tryz.prog 114 #[.pointer (some ⟨b, 0, none⟩)] w (Post b s d w (typeM (TT s) (PP s) i (relsL (TT s) (PP s) 512 [] j)) (RepTy b) IsTy) := by
 obtain ⟨i0, hi, hz0, hz1, hz2⟩ := info_parts Tryz.info159
 have HI := hide hi
 have HZ0 := hide hz0
 have HZ1 := hide hz1
 have HZ2 := hide hz2
 clear hi hz0 hz1 hz2
 generalize hR : relsL (TT s) (PP s) 512 [] j = R
 have HRR := hide hR
 clear hR
 have hlt := h.lt
 have Hs : Hid (s.size ≤ maxLen) := hide (by unfold maxLen; omega)
 have He := hide he
 have A0 := hide h
 clear h he
 go_enter Tryz.func114, Tryz.ntmps114
 go_wp2_with fail
 refine (takes_yes b s i d sType _ (uh Hs) ?_ (uh He) (by decide)).mono ?_
 ·exact (by repeat (first | with_reducible exact uh A0 | with_reducible refine At.alloc ?_ _ | with_reducible refine At.drew ?_ | (with_reducible refine At.setNew ?_ ?_ _; rotate_left; exact (by first | omega | (simp; omega) | simp | (simp; done)))))
 rintro e w1 ⟨rfl, a1, b1⟩
 have B1 := hide (((But.refl b w).alloc _).alloc _ |>.trans b1)
 have R1 := hide (((Blk.new w #[.int .i64 0, .string ⟨#[]⟩, .slice none 0 0] 110).alloc (.cells #[.int .i64 0, .string ⟨#[]⟩, .slice none 0 0] 110)).but b1 (by omega))
 have G1 := hide ((Blk.new' (w.alloc (.cells #[.int .i64 0, .string ⟨#[]⟩, .slice none 0 0] 110)) #[.int .i64 0, .string ⟨#[]⟩, .slice none 0 0] 110 (w.heap.size + 1) (by simp)).but b1 (by omega))
 have A1 := hide a1
 clear a1 b1
 have C := hide (nameThen_post b s (i + 1) d (sg 123) w1 (uh Hs) (uh A1) (by decide))
 rw [uh Hn] at C
 go_wp2_with fail
 refine (uh C).mono ?_
 rintro e w2 ⟨b2, v, rfl, rfl, a2⟩
 have B2 := hide (But.trans (uh B1) b2)
 have R := (uh R1).but b2 (by omega)
 have G := (uh G1).but b2 (by omega)
 have HR := hide R
 have HG := hide G
 obtain ⟨r0, r1, r2⟩ := R.three
 obtain ⟨g0, g1, g2⟩ := G.three
 have zr := R.fz
 have zg := G.fz
 have hz := G.lt
 have A2 := hide a2
 clear a2 b2 R G C
 unfold nmv
 go_wp2_with fail
 go_loopg [7] 512 (fun k u7 wr => ∃ (rs : List Rl) (j : Nat) (sv : Value), But b w wr ∧ At wr b s j d ∧ 512 ≤ k + j ∧ rs.length ≤ j ∧ Blk wr w.heap.size #[.int .i64 0, .string ⟨#[]⟩, .slice none 0 0] 110 ∧
  Blk wr (w.heap.size + 1) #[.int .i64 (tokP s (K s (i + 1))), .string (tokT s (K s (i + 1))), sv] 110 ∧ RepRls w.heap.size b wr sv rs ∧ Hid (relsL (TT s) (PP s) k rs j = R))
 case atStart => exact ⟨[], j, _, (by repeat (first | with_reducible exact uh B2 | with_reducible refine But.alloc ?_ _ | with_reducible refine But.drew ?_ | (with_reducible refine But.setNew ?_ ?_ _; rotate_left; exact (by first | omega | (simp; omega) | simp | (simp; done))))), (by repeat (first | with_reducible exact uh A2 | with_reducible refine At.alloc ?_ _ | with_reducible refine At.drew ?_ | (with_reducible refine At.setNew ?_ ?_ _; rotate_left; exact (by first | omega | (simp; omega) | simp | (simp; done))))), by omega, by simp, ((uh HR).other (by simp) _).other (by simp) _, ((uh HG).set 0 _).set 1 _, ⟨[], rfl, by simp, World.ownsRow_nil _ _ _ _⟩, HRR⟩
 case round =>
  obtain ⟨rs, j, sv, hb, ha, hk, hrl, hbr, hbt, hrep, HQ⟩ := hrel
  have hf : 12 ≤ gk := by have := ha.le; omega
  obtain ⟨fu, rfl⟩ : ∃ f, gk = f + 1 := ⟨gk - 1, by omega⟩
  obtain ⟨l, hl1, hl2, hl3⟩ := hrep
  obtain ⟨sa, sc, rfl⟩ := own_form hl3
  have HA := hide ha
  have HB := hide hb
  have HR := hide hbr
  have HT := hide hbt
  have HL1 := hide hl1
  have HL2 := hide hl2
  have HL3 := hide hl3
  have hRk := uh HQ
  obtain ⟨t0, t1, t2⟩ := hbt.three
  obtain ⟨x0, x1, x2⟩ := hbr.three
  have zx := hbr.fz
  have zt := hbt.fz
  have hlt' := hbt.lt
  have hlt2 : w.heap.size < wr.heap.size := by omega
  have n1 := ha.pos.rd.c1
  have n2 := ha.pos.rd.c2
  have hlr := ha.lt
  unfold relsL at hRk
  clear ha hb hbr hbt hl1 hl2 hl3 HQ r0 r1 r2 g0 g1 g2 zr zg
  cases h1 : eqs (TT s j) (sg 125)
  ·simp only [h1, Bool.false_eq_true, if_false] at hRk
   have P0 : Hid (RepRls w.heap.size b wr (.slice sa rs.length sc) rs) := hide ⟨l, uh HL1, uh HL2, uh HL3⟩
   cases hm : isNm (TT s j)
   ·simp only [hm, Bool.false_and, Bool.false_eq_true, if_false] at hRk
    have HK := hide hRk
    clear hRk
    go_wp2_with fail
    refine (ats b s j d _ _ (sg 125) _ ?_ ?_).mono ?_
    ·exact (by repeat (first | with_reducible exact uh HA | with_reducible refine At.alloc ?_ _ | with_reducible refine At.drew ?_ | (with_reducible refine At.setNew ?_ ?_ _; rotate_left; exact (by first | omega | (simp; omega) | simp | (simp; done)))))
    ·exact cell_new1 _ _ _ _ (by simp)
    rintro e w1 ⟨rfl, rfl⟩
    rw [h1]
    go_wp2_with fail
    refine (isName_any _ _ _ (tokT_max s (K s j) (by unfold maxLen; omega) (uh HA).pos.le)).mono ?_
    rintro e w3 ⟨rfl, hb3⟩
    rw [show isNm (tokT s (K s j)) = false from hm]
    clear hm
    have A3 := hide ((show At (wr.alloc (.cells #[.string ⟨#[125]⟩] 9)) b s j d from (by repeat (first | with_reducible exact uh HA | with_reducible refine At.alloc ?_ _ | with_reducible refine At.drew ?_ | (with_reducible refine At.setNew ?_ ?_ _; rotate_left; exact (by first | omega | (simp; omega) | simp | (simp; done)))))).below hb3)
    have B3 := hide ((show But b w (wr.alloc (.cells #[.string ⟨#[125]⟩] 9)) from (by repeat (first | with_reducible exact uh HB | with_reducible refine But.alloc ?_ _ | with_reducible refine But.drew ?_ | (with_reducible refine But.setNew ?_ ?_ _; rotate_left; exact (by first | omega | (simp; omega) | simp | (simp; done)))))).trans (But.of_below hb3))
    have G3 := ((uh HT).alloc (.cells #[.string ⟨#[125]⟩] 9)).below hb3
    have R3 := ((uh HR).alloc (.cells #[.string ⟨#[125]⟩] 9)).below hb3
    have P3 := hide ((uh P0).frame ((RKept.below (b := b) ((Below.refl _ wr).alloc (Nat.le_refl _) (.cells #[.string ⟨#[125]⟩] 9))).trans (RKept.below hb3)) (by omega))
    clear hb3 t0 t1 t2 x0 x1 x2 zx zt n1 n2 HA HB HR HT HL1 HL2 HL3 hlt' hlt2 P0 hlr
    have HG3 := hide G3
    have HR3 := hide R3
    obtain ⟨q0, q1, q2⟩ := G3.three
    obtain ⟨x0, x1, x2⟩ := R3.three
    have zx := R3.fz
    have zq := G3.fz
    have hW := G3.lt
    have hW' := R3.lt
    have hlr := (uh A3).lt
    clear G3 R3
    cases hq : relR (TT s) (PP s) j with
    | error e =>
     obtain ⟨c4, j4⟩ := e
     have C := hide (rel_post b s j d w3 hs (uh A3) hd)
     rw [hq] at C HK
     clear hq
     go_wp2_with fail
     refine (uh C).mono ?_
     rintro e w4 ⟨b4, v4, d4, rfl, ⟨p4, s4, bv4, rfl, hi4⟩, a4⟩
     have R4 := (uh HR3).but b4 (by omega)
     have G4 := (uh HG3).but b4 (by omega)
     have B4 := hide (But.trans (uh B3) b4)
     have P4 := hide ((uh P3).frame (RKept.of_but b4) (by omega))
     have A4 := hide a4
     have HR4 := hide R4
     have HG4 := hide G4
     obtain ⟨y0, y1, y2⟩ := R4.three
     obtain ⟨k0, k1, k2⟩ := G4.three
     have zy := R4.fz
     have zk := G4.fz
     have yl := G4.lt
     have yl' : w.heap.size < w4.heap.size := by omega
     clear a4 b4 R4 G4 q0 q1 q2 x0 x1 x2 zx zq C
     unfold errv
     rcases hi4 with rfl | ⟨tx, vx, rfl⟩
     all_goals
      go_wp2
      rw [← uh HK]
      refine bodyPost_ret (v := .tuple #[.agg #[.int .i64 (tokP s (K s (i + 1))), .string (tokT s (K s (i + 1))), .slice sa rs.length sc], errv c4]) (res_cc Tryz.results114 _ _ w.heap.size _ 110 _ _ rfl rfl ?hB Tryz.underlying110 rfl (by kernel_rfl)) rfl ?post
      case hB => exact ⟨_, (by repeat (first | with_reducible exact uh HR4 | with_reducible apply Blk.alloc | with_reducible apply Blk.drew | with_reducible apply Blk.set | (with_reducible apply Blk.other; case ha => exact (by first | omega | (simp; omega) | simp | (simp; done))))), by rfl⟩
      case post => exact ⟨(by repeat (first | with_reducible exact uh B4 | with_reducible refine But.alloc ?_ _ | with_reducible refine But.drew ?_ | (with_reducible refine But.setNew ?_ ?_ _; rotate_left; exact (by first | omega | (simp; omega) | simp | (simp; done))))), _, d4, rfl, ⟨_, _, _, _, _, rfl⟩, (by repeat (first | with_reducible exact uh A4 | with_reducible refine At.alloc ?_ _ | with_reducible refine At.drew ?_ | (with_reducible refine At.setNew ?_ ?_ _; rotate_left; exact (by first | omega | (simp; omega) | simp | (simp; done)))))⟩
    | ok y =>
     obtain ⟨r4, j4⟩ := y
     have C := hide (rel_post b s j d w3 hs (uh A3) hd)
     have hj4 := relR_mono _ _ _ _ _ hq
     rw [hq] at C HK
     clear hq
     go_wp2_with fail
     refine (uh C).mono ?_
     rintro e w4 ⟨b4, v4, rfl, ⟨bv4, rfl, hx4⟩, a4⟩
     have R4 := (uh HR3).but b4 (by omega)
     have G4 := (uh HG3).but b4 (by omega)
     have B4 := hide (But.trans (uh B3) b4)
     have P4 := hide ((uh P3).frame (RKept.of_but b4) (by omega))
     have A4 := hide a4
     have HR4 := hide R4
     have HG4 := hide G4
     obtain ⟨y0, y1, y2⟩ := R4.three
     obtain ⟨k0, k1, k2⟩ := G4.three
     have zy := R4.fz
     have zk := G4.fz
     have yl := G4.lt
     have yl' : w.heap.size < w4.heap.size := by omega
     clear a4 b4 R4 G4 q0 q1 q2 x0 x1 x2 zx zq C
     obtain ⟨tx, vx, rfl⟩ := hx4.isI
     have V4 := hide hx4
     have le4 := (uh A4).le
     clear hx4
     obtain ⟨l4, e1, e2, e3⟩ := uh P4
     have E1 := hide e1
     have E2 := hide e2
     have E3 := hide e3
     clear e1 e2 e3
     unfold errv at *
     go_wp2_with (at_builtin; go_must (refine wpList_append_lies _ rfl _ _ 108 rfl w.heap.size 159 i0 _ 3 40 Tryz.underlying108 (uh HI) (uh HZ0) (uh HZ1) (uh HZ2) rfl (by decide) (.slice sa rs.length sc) rs.length (l4.flatMap rlCells) rfl ?hown ⟨w4.heap.size + 1, 0, none⟩ 1 1 (rlCells (r4, .iface tx vx)) rfl rfl ?hnews ?hone (by decide) ?h63 ?hbytes ?hbase (w4.heap.size + 2) ?hH ?hrest))
     case hown => exact ((uh E3).alloc _).alloc _
     case hnews => exact World.news_of_block (B := w4.heap.size + 1) (cs := #[.int .i64 r4.place, .string r4.name, .iface tx vx]) (t := 159) (fr := (0, 0)) (Blk.new' (w4.alloc _) _ _ _ (by simp))
     case hone =>
      intro u hu
      simp [rlCells] at hu
      rcases hu with rfl | rfl | rfl <;> rfl
     case h63 => unfold maxLen; omega
     case hbytes => omega
     case hbase => simp; omega
     case hH => simp
     case hrest =>
      intro g5 cap5 w5 hown5 hgrow5 hat5 hgl5
      have b0 : Below w4.heap.size w4 ((w4.alloc (.cells #[.int .i64 r4.place, .string r4.name, .iface tx vx] 159)).alloc (.cells #[.int .i64 r4.place, .string r4.name, .iface tx vx] 159)) := ((Below.refl _ _).alloc (Nat.le_refl _) _).alloc (by simp) _
      have G4' := (uh HG4).below b0
      have R4' := (uh HR4).below b0
      have A4' := (uh A4).below b0
      have O4' := ((uh E3).alloc (.cells #[.int .i64 r4.place, .string r4.name, .iface tx vx] 159)).alloc (.cells #[.int .i64 r4.place, .string r4.name, .iface tx vx] 159)
      have gk5 : GKept b w4 w5 := fun g cs f hg hh => (hgrow5.block g (Nat.lt_of_lt_of_le (lt_of_some hh) b0.size) (own_nf O4' ((b0.block g (lt_of_some hh)).trans hh) (by decide))).trans (b0.block g (lt_of_some hh))
      have X5 := hide (show ∀ p ∈ l4 ++ [(r4, Value.iface tx vx)], RepEx b w5 p.1.body p.2 from fun p hp => by
       rw [List.mem_append] at hp
       rcases hp with hp | hp
       ·exact RepEx.frame gk5 _ _ (uh E2 p hp)
       ·simp at hp
        subst hp
        exact RepEx.frame gk5 _ _ (uh V4))
      have HG5 := hide (show Blk w5 (w.heap.size + 1) #[.int .i64 (tokP s (K s (i + 1))), .string (tokT s (K s (i + 1))), .slice sa rs.length sc] 110 from (hgrow5.block _ G4'.lt (own_ne O4' G4' (by decide))).trans G4')
      have HR5 := hide (show Blk w5 w.heap.size #[.int .i64 0, .string ⟨#[]⟩, .slice none 0 0] 110 from (hgrow5.block _ R4'.lt (own_ne O4' R4' (by decide))).trans R4')
      have A5 := hide (A4'.grown hgrow5 (own_ne O4' A4'.pos.rd.blk (by decide)))
      have B5 := hide (But.grown ((uh B4).trans (But.of_below b0)) hgrow5 (fun k hk => (O4'.lt k hk).1))
      have O5 := hide hown5
      obtain ⟨m0, m1, m2⟩ := (uh HG5).three
      have zm := (uh HG5).fz
      have ml := (uh HG5).lt
      clear b0 G4' R4' A4' O4' gk5 hown5 hgrow5 hat5 y0 y1 y2 k0 k1 k2 zy zk
      go_wp2
      go_roundg fu
      case measure => omega
      case rel => exact ⟨rs ++ [r4], j4, _, (by repeat (first | with_reducible exact uh B5 | with_reducible refine But.alloc ?_ _ | with_reducible refine But.drew ?_ | (with_reducible refine But.setNew ?_ ?_ _; rotate_left; exact (by first | omega | (simp; omega) | simp | (simp; done))))), (by repeat (first | with_reducible exact uh A5 | with_reducible refine At.alloc ?_ _ | with_reducible refine At.drew ?_ | (with_reducible refine At.setNew ?_ ?_ _; rotate_left; exact (by first | omega | (simp; omega) | simp | (simp; done))))), by omega, by simp; omega, (by repeat (first | with_reducible exact uh HR5 | with_reducible apply Blk.alloc | with_reducible apply Blk.drew | with_reducible apply Blk.set | (with_reducible apply Blk.other; case ha => exact (by first | omega | (simp; omega) | simp | (simp; done))))), (uh HG5).set 2 _, ⟨l4 ++ [(r4, .iface tx vx)], by simp [uh E1], fun p hp => RepEx.set (uh X5 p hp) (uh HG5) (by decide) 2 _, by rw [List.length_append, List.flatMap_append]; exact own_set (uh O5) (uh HG5) (by decide) 2 _⟩, HK⟩
   ·cases h6 : ((rs.length : Int) == 6)
    ·have h6' : (rs.length == 6) = false := by
      rw [beq_eq_false_iff_ne] at *
      omega
     simp only [hm, h6', Bool.and_false, Bool.false_eq_true, if_false] at hRk
     have HK := hide hRk
     clear hRk h6'
     go_wp2_with fail
     refine (ats b s j d _ _ (sg 125) _ ?_ ?_).mono ?_
     ·exact (by repeat (first | with_reducible exact uh HA | with_reducible refine At.alloc ?_ _ | with_reducible refine At.drew ?_ | (with_reducible refine At.setNew ?_ ?_ _; rotate_left; exact (by first | omega | (simp; omega) | simp | (simp; done)))))
     ·exact cell_new1 _ _ _ _ (by simp)
     rintro e w1 ⟨rfl, rfl⟩
     rw [h1]
     go_wp2_with fail
     refine (isName_any _ _ _ (tokT_max s (K s j) (by unfold maxLen; omega) (uh HA).pos.le)).mono ?_
     rintro e w3 ⟨rfl, hb3⟩
     rw [show isNm (tokT s (K s j)) = true from hm]
     clear hm
     have A3 := hide ((show At (wr.alloc (.cells #[.string ⟨#[125]⟩] 9)) b s j d from (by repeat (first | with_reducible exact uh HA | with_reducible refine At.alloc ?_ _ | with_reducible refine At.drew ?_ | (with_reducible refine At.setNew ?_ ?_ _; rotate_left; exact (by first | omega | (simp; omega) | simp | (simp; done)))))).below hb3)
     have B3 := hide ((show But b w (wr.alloc (.cells #[.string ⟨#[125]⟩] 9)) from (by repeat (first | with_reducible exact uh HB | with_reducible refine But.alloc ?_ _ | with_reducible refine But.drew ?_ | (with_reducible refine But.setNew ?_ ?_ _; rotate_left; exact (by first | omega | (simp; omega) | simp | (simp; done)))))).trans (But.of_below hb3))
     have G3 := ((uh HT).alloc (.cells #[.string ⟨#[125]⟩] 9)).below hb3
     have R3 := ((uh HR).alloc (.cells #[.string ⟨#[125]⟩] 9)).below hb3
     have P3 := hide ((uh P0).frame ((RKept.below (b := b) ((Below.refl _ wr).alloc (Nat.le_refl _) (.cells #[.string ⟨#[125]⟩] 9))).trans (RKept.below hb3)) (by omega))
     clear hb3 t0 t1 t2 x0 x1 x2 zx zt n1 n2 HA HB HR HT HL1 HL2 HL3 hlt' hlt2 P0 hlr
     have HG3 := hide G3
     have HR3 := hide R3
     obtain ⟨q0, q1, q2⟩ := G3.three
     obtain ⟨x0, x1, x2⟩ := R3.three
     have zx := R3.fz
     have zq := G3.fz
     have hW := G3.lt
     have hW' := R3.lt
     have hlr := (uh A3).lt
     clear G3 R3
     cases hq : relR (TT s) (PP s) j with
     | error e =>
      obtain ⟨c4, j4⟩ := e
      have C := hide (rel_post b s j d w3 hs (uh A3) hd)
      rw [hq] at C HK
      clear hq
      go_wp2_with fail
      refine (uh C).mono ?_
      rintro e w4 ⟨b4, v4, d4, rfl, ⟨p4, s4, bv4, rfl, hi4⟩, a4⟩
      have R4 := (uh HR3).but b4 (by omega)
      have G4 := (uh HG3).but b4 (by omega)
      have B4 := hide (But.trans (uh B3) b4)
      have P4 := hide ((uh P3).frame (RKept.of_but b4) (by omega))
      have A4 := hide a4
      have HR4 := hide R4
      have HG4 := hide G4
      obtain ⟨y0, y1, y2⟩ := R4.three
      obtain ⟨k0, k1, k2⟩ := G4.three
      have zy := R4.fz
      have zk := G4.fz
      have yl := G4.lt
      have yl' : w.heap.size < w4.heap.size := by omega
      clear a4 b4 R4 G4 q0 q1 q2 x0 x1 x2 zx zq C
      unfold errv
      rcases hi4 with rfl | ⟨tx, vx, rfl⟩
      all_goals
       go_wp2
       rw [← uh HK]
       refine bodyPost_ret (v := .tuple #[.agg #[.int .i64 (tokP s (K s (i + 1))), .string (tokT s (K s (i + 1))), .slice sa rs.length sc], errv c4]) (res_cc Tryz.results114 _ _ w.heap.size _ 110 _ _ rfl rfl ?hB Tryz.underlying110 rfl (by kernel_rfl)) rfl ?post
       case hB => exact ⟨_, (by repeat (first | with_reducible exact uh HR4 | with_reducible apply Blk.alloc | with_reducible apply Blk.drew | with_reducible apply Blk.set | (with_reducible apply Blk.other; case ha => exact (by first | omega | (simp; omega) | simp | (simp; done))))), by rfl⟩
       case post => exact ⟨(by repeat (first | with_reducible exact uh B4 | with_reducible refine But.alloc ?_ _ | with_reducible refine But.drew ?_ | (with_reducible refine But.setNew ?_ ?_ _; rotate_left; exact (by first | omega | (simp; omega) | simp | (simp; done))))), _, d4, rfl, ⟨_, _, _, _, _, rfl⟩, (by repeat (first | with_reducible exact uh A4 | with_reducible refine At.alloc ?_ _ | with_reducible refine At.drew ?_ | (with_reducible refine At.setNew ?_ ?_ _; rotate_left; exact (by first | omega | (simp; omega) | simp | (simp; done)))))⟩
     | ok y =>
      obtain ⟨r4, j4⟩ := y
      have C := hide (rel_post b s j d w3 hs (uh A3) hd)
      have hj4 := relR_mono _ _ _ _ _ hq
      rw [hq] at C HK
      clear hq
      go_wp2_with fail
      refine (uh C).mono ?_
      rintro e w4 ⟨b4, v4, rfl, ⟨bv4, rfl, hx4⟩, a4⟩
      have R4 := (uh HR3).but b4 (by omega)
      have G4 := (uh HG3).but b4 (by omega)
      have B4 := hide (But.trans (uh B3) b4)
      have P4 := hide ((uh P3).frame (RKept.of_but b4) (by omega))
      have A4 := hide a4
      have HR4 := hide R4
      have HG4 := hide G4
      obtain ⟨y0, y1, y2⟩ := R4.three
      obtain ⟨k0, k1, k2⟩ := G4.three
      have zy := R4.fz
      have zk := G4.fz
      have yl := G4.lt
      have yl' : w.heap.size < w4.heap.size := by omega
      clear a4 b4 R4 G4 q0 q1 q2 x0 x1 x2 zx zq C
      obtain ⟨tx, vx, rfl⟩ := hx4.isI
      have V4 := hide hx4
      have le4 := (uh A4).le
      clear hx4
      obtain ⟨l4, e1, e2, e3⟩ := uh P4
      have E1 := hide e1
      have E2 := hide e2
      have E3 := hide e3
      clear e1 e2 e3
      unfold errv at *
      go_wp2_with (at_builtin; go_must (refine wpList_append_lies _ rfl _ _ 108 rfl w.heap.size 159 i0 _ 3 40 Tryz.underlying108 (uh HI) (uh HZ0) (uh HZ1) (uh HZ2) rfl (by decide) (.slice sa rs.length sc) rs.length (l4.flatMap rlCells) rfl ?hown ⟨w4.heap.size + 1, 0, none⟩ 1 1 (rlCells (r4, .iface tx vx)) rfl rfl ?hnews ?hone (by decide) ?h63 ?hbytes ?hbase (w4.heap.size + 2) ?hH ?hrest))
      case hown => exact ((uh E3).alloc _).alloc _
      case hnews => exact World.news_of_block (B := w4.heap.size + 1) (cs := #[.int .i64 r4.place, .string r4.name, .iface tx vx]) (t := 159) (fr := (0, 0)) (Blk.new' (w4.alloc _) _ _ _ (by simp))
      case hone =>
       intro u hu
       simp [rlCells] at hu
       rcases hu with rfl | rfl | rfl <;> rfl
      case h63 => unfold maxLen; omega
      case hbytes => omega
      case hbase => simp; omega
      case hH => simp
      case hrest =>
       intro g5 cap5 w5 hown5 hgrow5 hat5 hgl5
       have b0 : Below w4.heap.size w4 ((w4.alloc (.cells #[.int .i64 r4.place, .string r4.name, .iface tx vx] 159)).alloc (.cells #[.int .i64 r4.place, .string r4.name, .iface tx vx] 159)) := ((Below.refl _ _).alloc (Nat.le_refl _) _).alloc (by simp) _
       have G4' := (uh HG4).below b0
       have R4' := (uh HR4).below b0
       have A4' := (uh A4).below b0
       have O4' := ((uh E3).alloc (.cells #[.int .i64 r4.place, .string r4.name, .iface tx vx] 159)).alloc (.cells #[.int .i64 r4.place, .string r4.name, .iface tx vx] 159)
       have gk5 : GKept b w4 w5 := fun g cs f hg hh => (hgrow5.block g (Nat.lt_of_lt_of_le (lt_of_some hh) b0.size) (own_nf O4' ((b0.block g (lt_of_some hh)).trans hh) (by decide))).trans (b0.block g (lt_of_some hh))
       have X5 := hide (show ∀ p ∈ l4 ++ [(r4, Value.iface tx vx)], RepEx b w5 p.1.body p.2 from fun p hp => by
        rw [List.mem_append] at hp
        rcases hp with hp | hp
        ·exact RepEx.frame gk5 _ _ (uh E2 p hp)
        ·simp at hp
         subst hp
         exact RepEx.frame gk5 _ _ (uh V4))
       have HG5 := hide (show Blk w5 (w.heap.size + 1) #[.int .i64 (tokP s (K s (i + 1))), .string (tokT s (K s (i + 1))), .slice sa rs.length sc] 110 from (hgrow5.block _ G4'.lt (own_ne O4' G4' (by decide))).trans G4')
       have HR5 := hide (show Blk w5 w.heap.size #[.int .i64 0, .string ⟨#[]⟩, .slice none 0 0] 110 from (hgrow5.block _ R4'.lt (own_ne O4' R4' (by decide))).trans R4')
       have A5 := hide (A4'.grown hgrow5 (own_ne O4' A4'.pos.rd.blk (by decide)))
       have B5 := hide (But.grown ((uh B4).trans (But.of_below b0)) hgrow5 (fun k hk => (O4'.lt k hk).1))
       have O5 := hide hown5
       obtain ⟨m0, m1, m2⟩ := (uh HG5).three
       have zm := (uh HG5).fz
       have ml := (uh HG5).lt
       clear b0 G4' R4' A4' O4' gk5 hown5 hgrow5 hat5 y0 y1 y2 k0 k1 k2 zy zk
       go_wp2
       go_roundg fu
       case measure => omega
       case rel => exact ⟨rs ++ [r4], j4, _, (by repeat (first | with_reducible exact uh B5 | with_reducible refine But.alloc ?_ _ | with_reducible refine But.drew ?_ | (with_reducible refine But.setNew ?_ ?_ _; rotate_left; exact (by first | omega | (simp; omega) | simp | (simp; done))))), (by repeat (first | with_reducible exact uh A5 | with_reducible refine At.alloc ?_ _ | with_reducible refine At.drew ?_ | (with_reducible refine At.setNew ?_ ?_ _; rotate_left; exact (by first | omega | (simp; omega) | simp | (simp; done))))), by omega, by simp; omega, (by repeat (first | with_reducible exact uh HR5 | with_reducible apply Blk.alloc | with_reducible apply Blk.drew | with_reducible apply Blk.set | (with_reducible apply Blk.other; case ha => exact (by first | omega | (simp; omega) | simp | (simp; done))))), (uh HG5).set 2 _, ⟨l4 ++ [(r4, .iface tx vx)], by simp [uh E1], fun p hp => RepEx.set (uh X5 p hp) (uh HG5) (by decide) 2 _, by rw [List.length_append, List.flatMap_append]; exact own_set (uh O5) (uh HG5) (by decide) 2 _⟩, HK⟩
    ·have h6' : (rs.length == 6) = true := by
      rw [beq_iff_eq] at *
      omega
     simp only [hm, h6', Bool.and_true, if_true] at hRk
     have HK := hide hRk
     clear hRk h6'
     go_wp2_with fail
     refine (ats b s j d _ _ (sg 125) _ ?_ ?_).mono ?_
     ·exact (by repeat (first | with_reducible exact uh HA | with_reducible refine At.alloc ?_ _ | with_reducible refine At.drew ?_ | (with_reducible refine At.setNew ?_ ?_ _; rotate_left; exact (by first | omega | (simp; omega) | simp | (simp; done)))))
     ·exact cell_new1 _ _ _ _ (by simp)
     rintro e w1 ⟨rfl, rfl⟩
     rw [h1]
     go_wp2_with fail
     refine (isName_any _ _ _ (tokT_max s (K s j) (by unfold maxLen; omega) (uh HA).pos.le)).mono ?_
     rintro e w3 ⟨rfl, hb3⟩
     rw [show isNm (tokT s (K s j)) = true from hm]
     clear hm
     have A3 := hide ((show At (wr.alloc (.cells #[.string ⟨#[125]⟩] 9)) b s j d from (by repeat (first | with_reducible exact uh HA | with_reducible refine At.alloc ?_ _ | with_reducible refine At.drew ?_ | (with_reducible refine At.setNew ?_ ?_ _; rotate_left; exact (by first | omega | (simp; omega) | simp | (simp; done)))))).below hb3)
     have B3 := hide ((show But b w (wr.alloc (.cells #[.string ⟨#[125]⟩] 9)) from (by repeat (first | with_reducible exact uh HB | with_reducible refine But.alloc ?_ _ | with_reducible refine But.drew ?_ | (with_reducible refine But.setNew ?_ ?_ _; rotate_left; exact (by first | omega | (simp; omega) | simp | (simp; done)))))).trans (But.of_below hb3))
     have G3 := ((uh HT).alloc (.cells #[.string ⟨#[125]⟩] 9)).below hb3
     have R3 := ((uh HR).alloc (.cells #[.string ⟨#[125]⟩] 9)).below hb3
     have P3 := hide ((uh P0).frame ((RKept.below (b := b) ((Below.refl _ wr).alloc (Nat.le_refl _) (.cells #[.string ⟨#[125]⟩] 9))).trans (RKept.below hb3)) (by omega))
     clear hb3 t0 t1 t2 x0 x1 x2 zx zt n1 n2 HA HB HR HT HL1 HL2 HL3 hlt' hlt2 P0 hlr
     have HG3 := hide G3
     have HR3 := hide R3
     obtain ⟨q0, q1, q2⟩ := G3.three
     obtain ⟨x0, x1, x2⟩ := R3.three
     have zx := R3.fz
     have zq := G3.fz
     have hW := G3.lt
     have hW' := R3.lt
     have hlr := (uh A3).lt
     clear G3 R3
     go_wp2
     rw [← uh HK]
     refine bodyPost_ret (v := .tuple #[.agg #[.int .i64 (tokP s (K s (i + 1))), .string (tokT s (K s (i + 1))), .slice sa rs.length sc], errv 3]) (res_cc Tryz.results114 _ _ w.heap.size _ 110 _ _ rfl rfl ?hB Tryz.underlying110 rfl (by kernel_rfl)) rfl ?post
     case hB => exact ⟨_, (by repeat (first | with_reducible exact uh HR3 | with_reducible apply Blk.alloc | with_reducible apply Blk.drew | with_reducible apply Blk.set | (with_reducible apply Blk.other; case ha => exact (by first | omega | (simp; omega) | simp | (simp; done))))), by rfl⟩
     case post => exact ⟨(by repeat (first | with_reducible exact uh B3 | with_reducible refine But.alloc ?_ _ | with_reducible refine But.drew ?_ | (with_reducible refine But.setNew ?_ ?_ _; rotate_left; exact (by first | omega | (simp; omega) | simp | (simp; done))))), _, d, rfl, ⟨_, _, _, _, _, rfl⟩, (by repeat (first | with_reducible exact uh A3 | with_reducible refine At.alloc ?_ _ | with_reducible refine At.drew ?_ | (with_reducible refine At.setNew ?_ ?_ _; rotate_left; exact (by first | omega | (simp; omega) | simp | (simp; done)))))⟩
  ·simp only [h1, if_true] at hRk
   have HK := hide hRk
   have H1 := hide h1
   clear hRk
   go_wp2_with fail
   refine (ats b s j d _ _ (sg 125) _ ?_ ?_).mono ?_
   ·exact (by repeat (first | with_reducible exact uh HA | with_reducible refine At.alloc ?_ _ | with_reducible refine At.drew ?_ | (with_reducible refine At.setNew ?_ ?_ _; rotate_left; exact (by first | omega | (simp; omega) | simp | (simp; done)))))
   ·exact cell_new1 _ _ _ _ (by simp)
   rintro e w1 ⟨rfl, rfl⟩
   rw [h1]
   clear h1
   go_wp2_with fail
   have A2' := hide (show At (wr.alloc (.cells #[.string ⟨#[125]⟩] 9)) b s j d from (by repeat (first | with_reducible exact uh HA | with_reducible refine At.alloc ?_ _ | with_reducible refine At.drew ?_ | (with_reducible refine At.setNew ?_ ?_ _; rotate_left; exact (by first | omega | (simp; omega) | simp | (simp; done))))))
   have B2' := hide (show But b w (wr.alloc (.cells #[.string ⟨#[125]⟩] 9)) from (by repeat (first | with_reducible exact uh HB | with_reducible refine But.alloc ?_ _ | with_reducible refine But.drew ?_ | (with_reducible refine But.setNew ?_ ?_ _; rotate_left; exact (by first | omega | (simp; omega) | simp | (simp; done))))))
   have G3 := (uh HT).alloc (.cells #[.string ⟨#[125]⟩] 9)
   have R3 := (uh HR).alloc (.cells #[.string ⟨#[125]⟩] 9)
   have P3 := hide (RepRls.frame (base := w.heap.size) ⟨l, uh HL1, uh HL2, uh HL3⟩ (RKept.below (b := b) ((Below.refl _ wr).alloc (Nat.le_refl _) (.cells #[.string ⟨#[125]⟩] 9))) (by omega))
   generalize wr.alloc (.cells #[.string ⟨#[125]⟩] 9) = W at *
   clear t0 t1 t2 x0 x1 x2 zx zt n1 n2 HA HB HR HT HL1 HL2 HL3 hlt' hlt2
   have HG3 := hide G3
   have HR3 := hide R3
   obtain ⟨q0, q1, q2⟩ := G3.three
   have zq := G3.fz
   have hW := G3.lt
   have hW' := R3.lt
   clear G3 R3
   have hne : ¬ (w.heap.size + 1 = w.heap.size) := by omega
   go_region_held3 (fun w' => w'.cell? ⟨w.heap.size + 1, 0, none⟩ = some (.int .i64 (tokP s (K s (i + 1)))) ∧ w'.cell? ⟨w.heap.size + 1, 1, none⟩ = some (.string (tokT s (K s (i + 1)))) ∧ w'.cell? ⟨w.heap.size + 1, 2, none⟩ = some (.slice sa rs.length sc)) (go_keep)
    ((go_at_call 169; refine (takes_yes b s j d (sg 125) _ (uh Hs) ?_ (uh H1) (by decide)).mono ?_; (exact (uh A2').drew); rintro e w3 ⟨rfl, a3, b3⟩; have G4 := (uh HG3).drew.but b3 (by omega); obtain ⟨k0, k1, k2⟩ := G4.three; have R4 := (uh HR3).drew.but b3 (by omega); obtain ⟨m0, m1, m2⟩ := R4.three; have zk := Blk.fz R4; have HR4 := hide R4; have A4 := hide a3; have P4 := hide ((uh P3).frame (RKept.of_but (But.trans ((But.refl b W).drew) b3)) (by omega)); have B4 := hide (But.trans (uh B2').drew b3); clear G4 R4 a3 b3))
   go_wp2
   rw [← uh HK]
   refine bodyPost_ret (v := .tuple #[.agg #[.int .i64 (tokP s (K s (i + 1))), .string (tokT s (K s (i + 1))), .slice sa rs.length sc], .nilIface]) (res_cc Tryz.results114 _ _ w.heap.size _ 110 _ _ rfl rfl ?hB Tryz.underlying110 rfl (by kernel_rfl)) rfl ?post
   case hB => exact ⟨_, (by repeat (first | with_reducible exact uh HR4 | with_reducible apply Blk.alloc | with_reducible apply Blk.drew | with_reducible apply Blk.set | (with_reducible apply Blk.other; case ha => exact (by first | omega | (simp; omega) | simp | (simp; done))))), by rfl⟩
   case post => exact ⟨(by repeat (first | with_reducible exact uh B4 | with_reducible refine But.alloc ?_ _ | with_reducible refine But.drew ?_ | (with_reducible refine But.setNew ?_ ?_ _; rotate_left; exact (by first | omega | (simp; omega) | simp | (simp; done))))), _, rfl, ⟨_, rfl, ((uh P4).frame ((RKept.set (uh HR4) (by decide) (by decide) 0 _).trans ((RKept.set ((uh HR4).set 0 _) (by decide) (by decide) 1 _).trans (RKept.set (((uh HR4).set 0 _).set 1 _) (by decide) (by decide) 2 _))) (by omega)).base (by omega)⟩, (by repeat (first | with_reducible exact uh A4 | with_reducible refine At.alloc ?_ _ | with_reducible refine At.drew ?_ | (with_reducible refine At.setNew ?_ ?_ _; rotate_left; exact (by first | omega | (simp; omega) | simp | (simp; done)))))⟩
end Go.Proofs.YtlbpnlngckgcbaaGreatDoor
