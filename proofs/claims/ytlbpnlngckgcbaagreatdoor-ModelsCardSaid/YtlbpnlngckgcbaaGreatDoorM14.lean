import Derived.Test.YtlbpnlngckgcbaaGreatDoorM13
namespace Go.Proofs.YtlbpnlngckgcbaaGreatDoor
open Go.RowKit Go.PlainAid
set_option linter.unusedSimpArgs false
set_option linter.unusedVariables false
theorem Gd.pp {s : ByteArray} {i : Nat} (h : Gd s i) : PP s i ≤ s.size := by
 unfold PP
 have := tok_fits s (K s i) (K_le s i)
 omega
/-- What is left of a list behind a grant. -/
def tailL (T : Nat → ByteArray) (P : Nat → Nat) (k : Nat) (gs : List Gr) (j : Nat) : Res (List Gr) := if eqs (T j) (sg 44) then listL T P k gs j else if eqs (T j) (sg 93) then .ok (gs, j + 1) else .error (2, j)
theorem listL_tail (T : Nat → ByteArray) (P : Nat → Nat) (k : Nat) (gs : List Gr) (j : Nat) : listL T P (k + 1) gs j = match grantR T P (j + 1) with
  | .error e => .error e
  | .ok (g, m) => tailL T P k (gs ++ [g]) m := by
 simp only [listL, tailL]
 rfl
theorem listL_ok (T : Nat → ByteArray) (P : Nat → Nat) (k : Nat) (gs : List Gr) (j : Nat) (g : Gr) (m : Nat) (h : grantR T P (j + 1) = .ok (g, m)) : listL T P (k + 1) gs j = tailL T P k (gs ++ [g]) m := by rw [listL_tail, h]
theorem listL_bad (T : Nat → ByteArray) (P : Nat → Nat) (k : Nat) (gs : List Gr) (j : Nat) (e : Nat × Nat) (h : grantR T P (j + 1) = .error e) : listL T P (k + 1) gs j = .error e := by rw [listL_tail, h]
/-- The memory of the loop in 'list'. -/
structure LsI (b : Nat) (s : ByteArray) (tv : Value) (d : Nat) (kv rv pv : Value) (i : Nat) (w wr : World) (f : Bool) (j e aa : Nat) (gs : List Gr) (ga : Option Addr) (gc : Nat) : Prop where
 but : But b w wr
 rs : RS wr b s tv j d e aa kv rv pv
 box : Blk wr w.heap.size #[.int .i64 1, .slice ga gs.length gc, .string ⟨#[]⟩, .string ⟨#[]⟩, .int .i64 (PP s i), .int .i64 0, .slice none 0 0, .slice none 0 0] 255
 row : wr.ownsRow w.heap.size 257 4 (.slice ga gs.length gc) gs.length (gs.flatMap rgCells)
 len : gs.length ≤ j
theorem LsI.below {b : Nat} {s : ByteArray} {tv : Value} {d : Nat} {kv rv pv : Value} {i : Nat} {w wr wr' : World} {f : Bool} {j e aa : Nat} {gs : List Gr} {ga : Option Addr} {gc : Nat} (h : LsI b s tv d kv rv pv i w wr f j e aa gs ga gc) (k : Below wr.heap.size wr wr') : LsI b s tv d kv rv pv i w wr' f j e aa gs ga gc :=
 ⟨h.but.trans (But.of_below k), h.rs.below k, h.box.below k, ownsRow_frame h.row (fun g cs f _ hh => k.block g (lt_of_some hh)), h.len⟩
theorem LsI.step {b : Nat} {s : ByteArray} {tv : Value} {d : Nat} {kv rv pv : Value} {i : Nat} {w wr wr' : World} {f : Bool} {j e aa : Nat} {gs : List Gr} {ga : Option Addr} {gc : Nat} (h : LsI b s tv d kv rv pv i w wr f j e aa gs ga gc) (hb : b < w.heap.size) (k : But b wr wr') {j' e' aa' : Nat} (r : RS wr' b s tv j' d e' aa' kv rv pv) (hj : j ≤ j') : LsI b s tv d kv rv pv i w wr' f j' e' aa' gs ga gc :=
 ⟨h.but.trans k, r, h.box.but k (by omega), ownsRow_frame h.row (fun g cs f _ hh => k.block g (lt_of_some hh) (fun e => by
  subst e
  have := h.rs.blk
  unfold Blk at this
  rw [this] at hh
  simp at hh)), Nat.le_trans h.len hj⟩
theorem LsI.inc {b : Nat} {s : ByteArray} {tv : Value} {d : Nat} {kv rv pv : Value} {i : Nat} {w wr : World} {f : Bool} {j e aa : Nat} {gs : List Gr} {ga : Option Addr} {gc : Nat} (h : LsI b s tv d kv rv pv i w wr f j e aa gs ga gc) (hb : b < w.heap.size) (hj : Gd s (j + 1)) : LsI b s tv d kv rv pv i w (wr.setCell ⟨b, 1, none⟩ (.int .i64 ((j : Int) + 1))) f (j + 1) e aa gs ga gc :=
 h.step hb ((But.refl b wr).setCell 1 _) (h.rs.setI (j + 1) hj) (by omega)
theorem is_okB (b : Nat) (s : ByteArray) (tv : Value) (i d a : Nat) (kv rv pv : Value) (x : ByteArray) (w : World) (h : RS w b s tv i d 0 a kv rv pv) (y : Bool) (hy : eqs (TT s i) x = y) :
  Calls Tryz.prog 187 #[.pointer (some ⟨b, 0, none⟩), .string x] w fun e w' => e = .returned (.bool y) ∧ Below w.heap.size w w' :=
 (is_ok b s tv i d a kv rv pv x w h).mono fun e w' ⟨he, m, hm⟩ => ⟨by rw [he, hy], by rw [hm]; exact Below.drewN' m⟩
theorem is_errB (b : Nat) (s : ByteArray) (tv : Value) (i d e0 a : Nat) (kv rv pv : Value) (x : ByteArray) (w : World) (h : RS w b s tv i d e0 a kv rv pv) (he : e0 ≠ 0) :
  Calls Tryz.prog 187 #[.pointer (some ⟨b, 0, none⟩), .string x] w fun e w' => e = .returned (.bool false) ∧ Below w.heap.size w w' :=
 (is_err b s tv i d e0 a kv rv pv x w h he).mono fun e w' ⟨he, m, hm⟩ => ⟨he, by rw [hm]; exact Below.drewN' m⟩
theorem Blk.four {w : World} {g : Nat} {x y z u : Value} {T : TypeId} (h : Blk w g #[x, y, z, u] T) : w.cell? ⟨g, 0, none⟩ = some x ∧ w.cell? ⟨g, 1, none⟩ = some y ∧ w.cell? ⟨g, 2, none⟩ = some z ∧ w.cell? ⟨g, 3, none⟩ = some u := ⟨h.cell rfl, h.cell rfl, h.cell rfl, h.cell rfl⟩
theorem ls_grown {b : Nat} {s : ByteArray} {tv : Value} {d : Nat} {kv rv pv : Value} {i : Nat} {w w4 w5 : World} {f : Bool} {j e aa : Nat} {gs : List Gr} {ga : Option Addr} {gc : Nat} {o : Obj} (L4 : LsI b s tv d kv rv pv i w w4 f j e aa gs ga gc) (G5 : (w4.alloc o).grownBy w5 (Value.slice ga gs.length gc).ownBlock) :
  But b w w5 ∧ RS w5 b s tv j d e aa kv rv pv ∧ Blk w5 w.heap.size #[.int .i64 1, .slice ga gs.length gc, .string ⟨#[]⟩, .string ⟨#[]⟩, .int .i64 (PP s i), .int .i64 0, .slice none 0 0, .slice none 0 0] 255 := by
 have b0 : Below w4.heap.size w4 (w4.alloc o) := (Below.refl _ _).alloc (Nat.le_refl _) _
 have L := L4.below b0
 refine ⟨But.grown L.but G5 (fun k hk => (L.row.lt k hk).1), ⟨(G5.block _ L.rs.blk.lt (own_ne L.row L.rs.blk (by decide))).trans L.rs.blk, ownsRow_frame L.rs.tok (fun g cs f _ hh => G5.block g (lt_of_some hh) (own_nf L.row hh (by decide))), L.rs.gd, L.rs.fm, L.rs.sz⟩, (G5.block _ L.box.lt (own_ne L.row L.box (by decide))).trans L.box⟩
theorem ls_close {b : Nat} {s : ByteArray} {tv : Value} {d : Nat} {kv rv pv : Value} {i : Nat} {w w4 w5 : World} {f : Bool} {j e aa : Nat} {gs : List Gr} {ga : Option Addr} {gc : Nat} {o : Obj} (L4 : LsI b s tv d kv rv pv i w w4 f j e aa gs ga gc) (hlt : b < w.heap.size) (G5 : (w4.alloc o).grownBy w5 (Value.slice ga gs.length gc).ownBlock) {gr : Gr} {g5 cap5 : Nat} (O5 : w5.ownsRow w.heap.size 257 4 (.slice (some ⟨g5, 0, none⟩) (gs.length + 1) cap5) (gs.length + 1) (gs.flatMap rgCells ++ rgCells gr)) (hj : gs.length + 1 ≤ j) (f' : Bool) :
  LsI b s tv d kv rv pv i w (w5.setCell ⟨w.heap.size, 1, none⟩ (.slice (some ⟨g5, 0, none⟩) (gs.length + 1) cap5)) f' j e aa (gs ++ [gr]) (some ⟨g5, 0, none⟩) cap5 := by
 obtain ⟨h1, h2, h3⟩ := ls_grown L4 G5
 have el : (gs ++ [gr]).length = gs.length + 1 := by simp
 refine ⟨h1.setNew (Nat.le_refl _) _, ⟨h2.blk.other (by simp; omega) _, own_set h2.tok h3 (by decide) _ _, h2.gd, h2.fm, h2.sz⟩, ?_, ?_, by rw [el]; exact hj⟩
 ·rw [el]; exact h3.set 1 _
 ·rw [el, List.flatMap_append]
  simpa using own_set O5 h3 (by decide) 1 (.slice (some ⟨g5, 0, none⟩) (gs.length + 1) cap5)
theorem Tryz.infoGr : (Tryz.prog.info? 257).map (fun i => (i.zero, i.size, i.bytes)) = some (some (.agg #[.string ⟨#[]⟩, .string ⟨#[]⟩, .int .i64 0, .int .i64 0]), 4, 48) := by kernel_rfl
theorem LsI.inc' {b : Nat} {s : ByteArray} {tv : Value} {d : Nat} {kv rv pv : Value} {i : Nat} {w wr : World} {f : Bool} {j e aa : Nat} {gs : List Gr} {ga : Option Addr} {gc : Nat} (h : LsI b s tv d kv rv pv i w wr f j e aa gs ga gc) (hb : b < w.heap.size) (hj : Gd s (j + 1)) (v : Int) (hv : v = (j : Int) + 1) : LsI b s tv d kv rv pv i w (wr.setCell ⟨b, 1, none⟩ (.int .i64 v)) f (j + 1) e aa gs ga gc := by
 subst hv
 exact h.inc hb hj
theorem LsI.far {b : Nat} {s : ByteArray} {tv : Value} {d : Nat} {kv rv pv : Value} {i : Nat} {w wr : World} {f : Bool} {j e aa : Nat} {gs : List Gr} {ga : Option Addr} {gc : Nat} (h : LsI b s tv d kv rv pv i w wr f j e aa gs ga gc) {gb : Nat} {cs : Array Value} (G : Blk wr gb cs 257) (n1 : ¬ (b = gb)) (n2 : w.heap.size < gb) (hr : (Value.slice ga gs.length gc).ownBlock ≠ some gb) (o : Nat) (u : Value) : LsI b s tv d kv rv pv i w (wr.setCell ⟨gb, o, none⟩ u) f j e aa gs ga gc :=
 ⟨h.but.setNew (by simp; omega) _, ⟨h.rs.blk.other n1 _, own_set h.rs.tok G (by decide) _ _, h.rs.gd, h.rs.fm, h.rs.sz⟩, h.box.other (by simp; omega) _, ownsRow_setCell_other h.row hr _, h.len⟩
theorem fresh_row {w : World} {B : Nat} {T : TypeId} {size : Nat} {v : Value} {n : Nat} {xs : List Value} (h : w.ownsRow B T size v n xs) {p : PV} : Fresh B (p, v, .slice none 0 0, .slice none 0 0) := fun g hg => by
 rcases hg with hg | hg | hg
 ·exact (h.lt g hg).1
 ·cases hg
 ·cases hg
theorem own_zero {w : World} {base : Nat} {e : TypeId} {size : Nat} {v : Value} {n : Nat} {xs : List Value} (h : w.ownsRow base e size v n xs) : w.ownsRow 0 e size v n xs := by
 refine ⟨h.1, ?_⟩
 rcases h.2 with h | ⟨g, cap, cur, h1, _, h3⟩
 ·exact .inl h
 ·exact .inr ⟨g, cap, cur, h1, Nat.zero_le _, h3⟩
theorem PT.but {base b : Nat} {w w' : World} {pv : Value} {pl : List PV} {l : List PX} (h : PT base w pv pl l) (k : But b w w') {cs : Array Value} (hb : Blk w b cs 252) (h1 : base ≤ b) (h2 : base ≤ w.heap.size) : PT base w' pv pl l :=
 ⟨h.fst, ownsRow_frame h.row (fun g cs' f _ hh => k.block g (lt_of_some hh) (fun e => by
  subst e
  unfold Blk at hb
  rw [hb] at hh
  simp at hh)), fun x hx => (h.rep x hx).frame (Fr.of_but k h1 h2) hb h.row⟩
/-- What 'list' leaves. -/
def ListPost (base b : Nat) (s : ByteArray) (tv : Value) (i d a : Nat) (kv rv pv : Value) (pl : List PV) (l : List PX) (w : World) (R : Res (List Gr)) (e : Ending) (w' : World) : Prop :=
 e = .returned (.int .i64 pl.length) ∧ ∃ pv' p x, Fr base b w w' pv pv' ∧ PT base w' pv' (pl ++ [p]) (l ++ [x]) ∧ Fresh w.heap.size x ∧ match R with
  | .ok (gs, j) => RS w' b s tv j d 0 a kv rv pv' ∧ p = ⟨1, gs, em, em, PP s i, 0, [], []⟩ ∧ i < j
  | .error (c, jj) => c ≠ 0 ∧ ∃ j', i ≤ j' ∧ RS w' b s tv j' d c (PP s jj) kv rv pv'
/-- Where the loop stands, and what the list will be. -/
def LsC (T : Nat → ByteArray) (P : Nat → Nat) (i a : Nat) (R : Res (List Gr)) (k : Nat) (f : Bool) (j e aa : Nat) (gs : List Gr) : Prop :=
 (f = true ∧ e = 0 ∧ a = aa ∧ i = j ∧ gs = [] ∧ listL T P k gs j = R) ∨ (f = false ∧ e = 0 ∧ a = aa ∧ i < j ∧ tailL T P k gs j = R) ∨ (f = false ∧ e ≠ 0 ∧ i ≤ j ∧ ∃ jj, P jj = aa ∧ R = .error (e, jj))
set_option maxHeartbeats 20000000 in
set_option maxRecDepth 100000 in
theorem rlist_any (base b : Nat) (s : ByteArray) (tv : Value) (i d a : Nat) (kv rv pv : Value) (pl : List PV) (l : List PX) (w : World) (h : RS w b s tv i d 0 a kv rv pv) (ht : PT base w pv pl l) (hbb : base ≤ b) (hbw : base ≤ w.heap.size) (hl : pl.length ≤ 1900) (he : eqs (TT s i) (sg 91) = true) :
  Calls Tryz.prog 274 #[.pointer (some ⟨b, 0, none⟩)] w (ListPost base b s tv i d a kv rv pv pl l w (listL (TT s) (PP s) 512 [] i)) := by
 obtain ⟨i0, hi0, hz0, hz1, hz2⟩ := info_parts Tryz.infoGr
 have HI := hide hi0
 have HZ0 := hide hz0
 have HZ1 := hide hz1
 have HZ2 := hide hz2
 clear hi0 hz0 hz1 hz2
 generalize hR : listL (TT s) (PP s) 512 [] i = R
 have HR := hide hR
 have HE := hide he
 have H0 := hide h
 have HT0 := hide ht
 obtain ⟨g, c, e0, hi, t0, t1, t2⟩ := h.at
 obtain ⟨r0, r1, r2, r3, r4, r5, r6, r7⟩ := h.blk.eight
 have hz := h.blk.fz
 have hlt := h.lt
 have E0 := hide e0
 rw [e0] at r0
 have gl := lt_of_cell t0
 have m0 := World.new_ne w _ r0
 have m1 := World.new_ne w _ r1
 have m2 := World.new_ne w _ t1
 clear h ht e0 hR he
 go_enter Tryz.func274, Tryz.ntmps274
 go_wp2_with fail
 go_region_held3 (fun w' => w'.cell? ⟨b, 0, none⟩ = some (.slice (some ⟨g, 0, none⟩) (toks s).length c) ∧ w'.cell? ⟨b, 1, none⟩ = some (.int .i64 i) ∧ w'.cell? ⟨g, i * 3 + 1, none⟩ = some (.int .i64 (PP s i))) (go_keep) (fail)
 rename_i hh
 clear hh r0 r1 r2 r3 r4 r5 r6 r7 t0 t1 t2 m0 m1 m2 hz
 have I0 := hide (show LsI b s tv d kv rv pv i w ((w.alloc (.cells #[.int .i64 1, .slice none 0 0, .string ⟨#[]⟩, .string ⟨#[]⟩, .int .i64 (PP s i), .int .i64 0, .slice none 0 0, .slice none 0 0] 255)).drew) true i 0 a [] none 0 from
  ⟨((But.refl b w).alloc _).drew, (uh H0).below ((Below.refl _ w).alloc (Nat.le_refl _) _).drew, (Blk.new w _ _).drew, World.ownsRow_nil _ _ _ _, by simp⟩)
 go_wp2_with fail
 go_loopg [4] 512 (fun k vf wr => ∃ (f : Bool) (j e aa : Nat) (gs : List Gr) (ga : Option Addr) (gc : Nat), vf = .bool f ∧ LsI b s tv d kv rv pv i w wr f j e aa gs ga gc ∧ 512 ≤ k + j ∧ Hid (LsC (TT s) (PP s) i a R k f j e aa gs))
 case atStart => exact ⟨true, i, 0, a, [], none, 0, rfl, uh I0, by omega, hide (.inl ⟨rfl, rfl, rfl, rfl, rfl, uh HR⟩)⟩
 case round =>
  obtain ⟨f, j, e, aa, gs, ga, gc, rfl, hI, hk, HC⟩ := hrel
  have hle := hI.rs.gd.le
  have hsz := hI.rs.sz
  have hgl := hI.len
  rcases uh HC with ⟨rfl, rfl, rfl, hij, hgs, hc⟩ | ⟨rfl, rfl, rfl, hij, hc⟩ | ⟨rfl, he, hij3, jj, rfl, hc⟩
  ·obtain ⟨fu, rfl⟩ : ∃ f, gk = f + 1 := ⟨gk - 1, by omega⟩
   have HJ := hide (hI.rs.gd.succ (eqs_pos (show eqs (TT s j) (sg 91) = true from hij ▸ uh HE) (by decide)))
   have HIJ := hide (show i ≤ j by omega)
   obtain ⟨r0, r1, r2, r3, r4, _⟩ := hI.rs.blk.eight
   have hz := hI.rs.blk.fz
   have L1 := hide (hI.inc hlt (uh HJ))
   clear hI HC hij hgs HR
   have HCC := hide hc
   clear hc
   go_wp2_with fail
   clear r0 r1 r2 r3 r4 hz
   generalize wr.setCell ⟨b, 1, none⟩ (.int .i64 ((j : Int) + 1)) = W1 at *
   cases hn : isNm (TT s (j + 1))
   ·have hg0 : grantR (TT s) (PP s) (j + 1) = .error (2, j + 1) := by unfold grantR nameR; rw [hn]; rfl
    rw [listL_bad _ _ _ _ _ _ hg0] at HCC
    clear hg0
    refine (rname_text b s tv (j + 1) d a kv rv pv true _ (uh L1).rs hn).mono ?_
    rintro e w2 ⟨rfl, b2, k2⟩
    have L2 := hide ((uh L1).step hlt b2 k2 (Nat.le_refl _))
    have BW2 := hide (Below.refl w2.heap.size w2)
    have sz2 := (uh L2).box.lt
    have HRW := hide (show (Value.slice ga gs.length gc).ownBlock ≠ some (w2.heap.size + 1) from fun e => by have := ((uh L2).row.lt _ e).2; omega)
    clear b2 k2 L1
    unfold tkv
    go_wp2_with fail
    refine (is_errB b s tv (j + 1) d 2 (PP s (j + 1)) kv rv pv (sg 42) _ ?r1Aa (by decide)).mono ?_
    case r1Aa => exact ((uh L2).below (by repeat (first | with_reducible exact uh BW2 | with_reducible refine Below.drew ?_ | (with_reducible refine Below.setCell ?_ ?_ _; rotate_left; exact (by first | omega | (simp; omega) | simp | (simp; done))) | (with_reducible refine Below.alloc ?_ ?_ _; rotate_left; exact (by first | omega | (simp; omega) | simp | (simp; done)))))).rs
    rintro e w3 ⟨rfl, hb3⟩
    have GB3 := hide ((Blk.new' (w2.alloc (.cells #[.string (TT s (j + 1)), .int .i64 (PP s (j + 1)), .bool (wordT (TT s (j + 1)))] 259)) #[.string (TT s (j + 1)), .string ⟨#[]⟩, .int .i64 (PP s (j + 1)), .int .i64 0] 257 (w2.heap.size + 1) (by simp)).below hb3)
    have L3 := hide (((uh L2).below (by repeat (first | with_reducible exact uh BW2 | with_reducible refine Below.drew ?_ | (with_reducible refine Below.setCell ?_ ?_ _; rotate_left; exact (by first | omega | (simp; omega) | simp | (simp; done))) | (with_reducible refine Below.alloc ?_ ?_ _; rotate_left; exact (by first | omega | (simp; omega) | simp | (simp; done)))))).below hb3)
    clear hb3 L2 BW2
    go_wp2_with fail
    refine (is_errB b s tv (j + 1) d 2 (PP s (j + 1)) kv rv pv (sg 35) _ (uh L3).rs (by decide)).mono ?_
    rintro e w4 ⟨rfl, hb4⟩
    have L4 := hide ((uh L3).below hb4)
    have GB4 := hide ((uh GB3).below hb4)
    clear hb4 GB3 L3
    obtain ⟨p0, p1, p2, p3, p4, p5, p6, p7⟩ := (uh L4).box.eight
    have zp := (uh L4).box.fz
    obtain ⟨g0, g1, g2, g3⟩ := (uh GB4).four
    have zg := (uh GB4).fz
    obtain ⟨r0, r1, r2, r3, r4, _⟩ := (uh L4).rs.blk.eight
    have zr := (uh L4).rs.blk.fz
    have n1 : ¬ (w2.heap.size + 1 = b) := by omega
    have n2 : ¬ (b = w2.heap.size + 1) := by omega
    have n3 : ¬ (w.heap.size = b) := by omega
    have n4 : ¬ (b = w.heap.size) := by omega
    have n5 : ¬ (w.heap.size = w2.heap.size + 1) := by omega
    have n6 : ¬ (w2.heap.size + 1 = w.heap.size) := by omega
    have LX := L4
    clear hn
    have lgs := (uh LX).len
    have O4 := hide (uh LX).row
    have sz4 := (uh LX).but.size
    go_wp2_with (at_builtin; go_must (refine wpList_append_lies _ rfl _ _ 253 rfl w.heap.size 257 i0 _ 4 48 Tryz.underlying253 (uh HI) (uh HZ0) (uh HZ1) (uh HZ2) rfl (by decide) (.slice ga gs.length gc) gs.length (gs.flatMap rgCells) rfl ?hownAa ⟨w4.heap.size, 0, none⟩ 1 1 (rgCells ⟨TT s (j + 1), PP s (j + 1), 0, em, 0⟩) rfl rfl ?hnewsAa ?honeAa (by decide) ?h63Aa ?hbytesAa ?hbaseAa (w4.heap.size + 1) ?hHAa ?hrestAa))
    case hownAa => exact (uh O4).alloc _
    case hnewsAa => exact World.news_of_block (B := w4.heap.size) (cs := #[.string (TT s (j + 1)), .string ⟨#[]⟩, .int .i64 (PP s (j + 1)), .int .i64 0]) (t := 257) (fr := (0, 0)) (Blk.new' _ _ _ _ (by simp))
    case honeAa =>
     intro u hu
     simp only [rgCells, List.mem_cons, List.not_mem_nil, or_false] at hu
     rcases hu with rfl | rfl | rfl | rfl <;> rfl
    case h63Aa => unfold maxLen; omega
    case hbytesAa => omega
    case hbaseAa => simp at sz4 ⊢; omega
    case hHAa => simp
    case hrestAa =>
     intro g5 cap5 w5 hown5 hgrow5 hat5 hgl5
     obtain ⟨hb5, hr5, hx5⟩ := ls_grown (uh LX) hgrow5
     have L5 := hide (ls_close (gr := ⟨TT s (j + 1), PP s (j + 1), 0, em, 0⟩) (uh LX) hlt hgrow5 hown5 (by omega) false)
     obtain ⟨q0, q1, q2, q3, q4, q5, q6, q7⟩ := hx5.eight
     have zq := hx5.fz
     have lq := hx5.lt
     clear hb5 hr5 hx5 hown5 hgrow5 hat5 p0 p1 p2 p3 p4 p5 p6 p7 zp g0 g1 g2 g3 zg r0 r1 r2 r3 r4 zr
     go_wp2
     go_roundg fu
     case measure => omega
     case rel =>
      have PC := hide (show LsC (TT s) (PP s) i a R fu false (j + 1) 2 (PP s (j + 1)) (gs ++ [⟨TT s (j + 1), PP s (j + 1), 0, em, 0⟩]) from .inr (.inr ⟨rfl, by decide, by have := uh HIJ; omega, j + 1, rfl, (uh HCC).symm⟩))
      refine ⟨false, j + 1, 2, PP s (j + 1), gs ++ [⟨TT s (j + 1), PP s (j + 1), 0, em, 0⟩], some ⟨g5, 0, none⟩, cap5, rfl, ?_, by omega, PC⟩
      with_reducible exact uh L5
   ·by_cases hl : 8 < (TT s (j + 1)).size
    ·have hg0 : grantR (TT s) (PP s) (j + 1) = .error (3, j + 1) := by unfold grantR nameR; rw [hn, if_pos rfl, if_pos hl]
     rw [listL_bad _ _ _ _ _ _ hg0] at HCC
     clear hg0
     refine (rname_big b s tv (j + 1) d a kv rv pv true _ (uh L1).rs hn hl).mono ?_
     rintro e w2 ⟨rfl, b2, k2⟩
     have L2 := hide ((uh L1).step hlt b2 k2 (Nat.le_refl _))
     have BW2 := hide (Below.refl w2.heap.size w2)
     have sz2 := (uh L2).box.lt
     have HRW := hide (show (Value.slice ga gs.length gc).ownBlock ≠ some (w2.heap.size + 1) from fun e => by have := ((uh L2).row.lt _ e).2; omega)
     clear b2 k2 L1
     unfold tkv
     go_wp2_with fail
     refine (is_errB b s tv (j + 1) d 3 (PP s (j + 1)) kv rv pv (sg 42) _ ?r1Ab (by decide)).mono ?_
     case r1Ab => exact ((uh L2).below (by repeat (first | with_reducible exact uh BW2 | with_reducible refine Below.drew ?_ | (with_reducible refine Below.setCell ?_ ?_ _; rotate_left; exact (by first | omega | (simp; omega) | simp | (simp; done))) | (with_reducible refine Below.alloc ?_ ?_ _; rotate_left; exact (by first | omega | (simp; omega) | simp | (simp; done)))))).rs
     rintro e w3 ⟨rfl, hb3⟩
     have GB3 := hide ((Blk.new' (w2.alloc (.cells #[.string (TT s (j + 1)), .int .i64 (PP s (j + 1)), .bool (wordT (TT s (j + 1)))] 259)) #[.string (TT s (j + 1)), .string ⟨#[]⟩, .int .i64 (PP s (j + 1)), .int .i64 0] 257 (w2.heap.size + 1) (by simp)).below hb3)
     have L3 := hide (((uh L2).below (by repeat (first | with_reducible exact uh BW2 | with_reducible refine Below.drew ?_ | (with_reducible refine Below.setCell ?_ ?_ _; rotate_left; exact (by first | omega | (simp; omega) | simp | (simp; done))) | (with_reducible refine Below.alloc ?_ ?_ _; rotate_left; exact (by first | omega | (simp; omega) | simp | (simp; done)))))).below hb3)
     clear hb3 L2 BW2
     go_wp2_with fail
     refine (is_errB b s tv (j + 1) d 3 (PP s (j + 1)) kv rv pv (sg 35) _ (uh L3).rs (by decide)).mono ?_
     rintro e w4 ⟨rfl, hb4⟩
     have L4 := hide ((uh L3).below hb4)
     have GB4 := hide ((uh GB3).below hb4)
     clear hb4 GB3 L3
     obtain ⟨p0, p1, p2, p3, p4, p5, p6, p7⟩ := (uh L4).box.eight
     have zp := (uh L4).box.fz
     obtain ⟨g0, g1, g2, g3⟩ := (uh GB4).four
     have zg := (uh GB4).fz
     obtain ⟨r0, r1, r2, r3, r4, _⟩ := (uh L4).rs.blk.eight
     have zr := (uh L4).rs.blk.fz
     have n1 : ¬ (w2.heap.size + 1 = b) := by omega
     have n2 : ¬ (b = w2.heap.size + 1) := by omega
     have n3 : ¬ (w.heap.size = b) := by omega
     have n4 : ¬ (b = w.heap.size) := by omega
     have n5 : ¬ (w.heap.size = w2.heap.size + 1) := by omega
     have n6 : ¬ (w2.heap.size + 1 = w.heap.size) := by omega
     have LX := L4
     clear hn
     have lgs := (uh LX).len
     have O4 := hide (uh LX).row
     have sz4 := (uh LX).but.size
     go_wp2_with (at_builtin; go_must (refine wpList_append_lies _ rfl _ _ 253 rfl w.heap.size 257 i0 _ 4 48 Tryz.underlying253 (uh HI) (uh HZ0) (uh HZ1) (uh HZ2) rfl (by decide) (.slice ga gs.length gc) gs.length (gs.flatMap rgCells) rfl ?hownAb ⟨w4.heap.size, 0, none⟩ 1 1 (rgCells ⟨TT s (j + 1), PP s (j + 1), 0, em, 0⟩) rfl rfl ?hnewsAb ?honeAb (by decide) ?h63Ab ?hbytesAb ?hbaseAb (w4.heap.size + 1) ?hHAb ?hrestAb))
     case hownAb => exact (uh O4).alloc _
     case hnewsAb => exact World.news_of_block (B := w4.heap.size) (cs := #[.string (TT s (j + 1)), .string ⟨#[]⟩, .int .i64 (PP s (j + 1)), .int .i64 0]) (t := 257) (fr := (0, 0)) (Blk.new' _ _ _ _ (by simp))
     case honeAb =>
      intro u hu
      simp only [rgCells, List.mem_cons, List.not_mem_nil, or_false] at hu
      rcases hu with rfl | rfl | rfl | rfl <;> rfl
     case h63Ab => unfold maxLen; omega
     case hbytesAb => omega
     case hbaseAb => simp at sz4 ⊢; omega
     case hHAb => simp
     case hrestAb =>
      intro g5 cap5 w5 hown5 hgrow5 hat5 hgl5
      obtain ⟨hb5, hr5, hx5⟩ := ls_grown (uh LX) hgrow5
      have L5 := hide (ls_close (gr := ⟨TT s (j + 1), PP s (j + 1), 0, em, 0⟩) (uh LX) hlt hgrow5 hown5 (by omega) false)
      obtain ⟨q0, q1, q2, q3, q4, q5, q6, q7⟩ := hx5.eight
      have zq := hx5.fz
      have lq := hx5.lt
      clear hb5 hr5 hx5 hown5 hgrow5 hat5 p0 p1 p2 p3 p4 p5 p6 p7 zp g0 g1 g2 g3 zg r0 r1 r2 r3 r4 zr
      go_wp2
      go_roundg fu
      case measure => omega
      case rel =>
       have PC := hide (show LsC (TT s) (PP s) i a R fu false (j + 1) 3 (PP s (j + 1)) (gs ++ [⟨TT s (j + 1), PP s (j + 1), 0, em, 0⟩]) from .inr (.inr ⟨rfl, by decide, by have := uh HIJ; omega, j + 1, rfl, (uh HCC).symm⟩))
       refine ⟨false, j + 1, 3, PP s (j + 1), gs ++ [⟨TT s (j + 1), PP s (j + 1), 0, em, 0⟩], some ⟨g5, 0, none⟩, cap5, rfl, ?_, by omega, PC⟩
       with_reducible exact uh L5
    ·have hg0 : nameR (TT s) (j + 1) = .ok ((), j + 2) := by unfold nameR; rw [hn, if_pos rfl, if_neg hl]
     refine (rname_ok b s tv (j + 1) d a kv rv pv _ (uh L1).rs hn (by omega)).mono ?_
     rintro e w2 ⟨rfl, b2, k2⟩
     have L2 := hide ((uh L1).step (j' := j + 2) hlt b2 k2 (by omega))
     have BW2 := hide (Below.refl w2.heap.size w2)
     have sz2 := (uh L2).box.lt
     have HRW := hide (show (Value.slice ga gs.length gc).ownBlock ≠ some (w2.heap.size + 1) from fun e => by have := ((uh L2).row.lt _ e).2; omega)
     clear b2 k2 L1 hn hl
     unfold tkv
     cases hst : eqs (TT s (j + 2)) (sg 42)
     ·cases hha : eqs (TT s (j + 2)) (sg 35)
      ·have hg1 : grantR (TT s) (PP s) (j + 1) = .ok (⟨TT s (j + 1), PP s (j + 1), 0, em, 0⟩, j + 2) := by unfold grantR; rw [hg0]; simp only [hst, hha]; rfl
       rw [listL_ok _ _ _ _ _ _ _ hg1] at HCC
       clear hg0 hg1
       go_wp2_with fail
       refine (is_okB b s tv (j + 2) d a kv rv pv (sg 42) _ ?r1Ac false hst).mono ?_
       case r1Ac => exact ((uh L2).below (by repeat (first | with_reducible exact uh BW2 | with_reducible refine Below.drew ?_ | (with_reducible refine Below.setCell ?_ ?_ _; rotate_left; exact (by first | omega | (simp; omega) | simp | (simp; done))) | (with_reducible refine Below.alloc ?_ ?_ _; rotate_left; exact (by first | omega | (simp; omega) | simp | (simp; done)))))).rs
       rintro e w3 ⟨rfl, hb3⟩
       have GB3 := hide ((Blk.new' (w2.alloc (.cells #[.string (TT s (j + 1)), .int .i64 (PP s (j + 1)), .bool (wordT (TT s (j + 1)))] 259)) #[.string (TT s (j + 1)), .string ⟨#[]⟩, .int .i64 (PP s (j + 1)), .int .i64 0] 257 (w2.heap.size + 1) (by simp)).below hb3)
       have L3 := hide (((uh L2).below (by repeat (first | with_reducible exact uh BW2 | with_reducible refine Below.drew ?_ | (with_reducible refine Below.setCell ?_ ?_ _; rotate_left; exact (by first | omega | (simp; omega) | simp | (simp; done))) | (with_reducible refine Below.alloc ?_ ?_ _; rotate_left; exact (by first | omega | (simp; omega) | simp | (simp; done)))))).below hb3)
       clear hb3 L2 BW2
       go_wp2_with fail
       refine (is_okB b s tv (j + 2) d a kv rv pv (sg 35) _ (uh L3).rs false hha).mono ?_
       rintro e w4 ⟨rfl, hb4⟩
       have L4 := hide ((uh L3).below hb4)
       have GB4 := hide ((uh GB3).below hb4)
       clear hb4 GB3 L3
       clear hst hha
       obtain ⟨p0, p1, p2, p3, p4, p5, p6, p7⟩ := (uh L4).box.eight
       have zp := (uh L4).box.fz
       obtain ⟨g0, g1, g2, g3⟩ := (uh GB4).four
       have zg := (uh GB4).fz
       obtain ⟨r0, r1, r2, r3, r4, _⟩ := (uh L4).rs.blk.eight
       have zr := (uh L4).rs.blk.fz
       have n1 : ¬ (w2.heap.size + 1 = b) := by omega
       have n2 : ¬ (b = w2.heap.size + 1) := by omega
       have n3 : ¬ (w.heap.size = b) := by omega
       have n4 : ¬ (b = w.heap.size) := by omega
       have n5 : ¬ (w.heap.size = w2.heap.size + 1) := by omega
       have n6 : ¬ (w2.heap.size + 1 = w.heap.size) := by omega
       have LX := L4
       have lgs := (uh LX).len
       have O4 := hide (uh LX).row
       have sz4 := (uh LX).but.size
       go_wp2_with (at_builtin; go_must (refine wpList_append_lies _ rfl _ _ 253 rfl w.heap.size 257 i0 _ 4 48 Tryz.underlying253 (uh HI) (uh HZ0) (uh HZ1) (uh HZ2) rfl (by decide) (.slice ga gs.length gc) gs.length (gs.flatMap rgCells) rfl ?hownAc ⟨w4.heap.size, 0, none⟩ 1 1 (rgCells ⟨TT s (j + 1), PP s (j + 1), 0, em, 0⟩) rfl rfl ?hnewsAc ?honeAc (by decide) ?h63Ac ?hbytesAc ?hbaseAc (w4.heap.size + 1) ?hHAc ?hrestAc))
       case hownAc => exact (uh O4).alloc _
       case hnewsAc => exact World.news_of_block (B := w4.heap.size) (cs := #[.string (TT s (j + 1)), .string ⟨#[]⟩, .int .i64 (PP s (j + 1)), .int .i64 0]) (t := 257) (fr := (0, 0)) (Blk.new' _ _ _ _ (by simp))
       case honeAc =>
        intro u hu
        simp only [rgCells, List.mem_cons, List.not_mem_nil, or_false] at hu
        rcases hu with rfl | rfl | rfl | rfl <;> rfl
       case h63Ac => unfold maxLen; omega
       case hbytesAc => omega
       case hbaseAc => simp at sz4 ⊢; omega
       case hHAc => simp
       case hrestAc =>
        intro g5 cap5 w5 hown5 hgrow5 hat5 hgl5
        obtain ⟨hb5, hr5, hx5⟩ := ls_grown (uh LX) hgrow5
        have L5 := hide (ls_close (gr := ⟨TT s (j + 1), PP s (j + 1), 0, em, 0⟩) (uh LX) hlt hgrow5 hown5 (by omega) false)
        obtain ⟨q0, q1, q2, q3, q4, q5, q6, q7⟩ := hx5.eight
        have zq := hx5.fz
        have lq := hx5.lt
        clear hb5 hr5 hx5 hown5 hgrow5 hat5 p0 p1 p2 p3 p4 p5 p6 p7 zp g0 g1 g2 g3 zg r0 r1 r2 r3 r4 zr
        go_wp2
        go_roundg fu
        case measure => omega
        case rel =>
         have PC := hide (show LsC (TT s) (PP s) i a R fu false (j + 2) 0 (a) (gs ++ [⟨TT s (j + 1), PP s (j + 1), 0, em, 0⟩]) from .inr (.inl ⟨rfl, rfl, rfl, by have := uh HIJ; omega, uh HCC⟩))
         refine ⟨false, j + 2, 0, a, gs ++ [⟨TT s (j + 1), PP s (j + 1), 0, em, 0⟩], some ⟨g5, 0, none⟩, cap5, rfl, ?_, by omega, PC⟩
         with_reducible exact uh L5
      ·have HG3 := hide (show Gd s (j + 2 + 1) from (uh L2).rs.gd.succ (eqs_pos hha (by decide)))
       go_wp2_with fail
       refine (is_okB b s tv (j + 2) d a kv rv pv (sg 42) _ ?r1Ad false hst).mono ?_
       case r1Ad => exact ((uh L2).below (by repeat (first | with_reducible exact uh BW2 | with_reducible refine Below.drew ?_ | (with_reducible refine Below.setCell ?_ ?_ _; rotate_left; exact (by first | omega | (simp; omega) | simp | (simp; done))) | (with_reducible refine Below.alloc ?_ ?_ _; rotate_left; exact (by first | omega | (simp; omega) | simp | (simp; done)))))).rs
       rintro e w3 ⟨rfl, hb3⟩
       have GB3 := hide ((Blk.new' (w2.alloc (.cells #[.string (TT s (j + 1)), .int .i64 (PP s (j + 1)), .bool (wordT (TT s (j + 1)))] 259)) #[.string (TT s (j + 1)), .string ⟨#[]⟩, .int .i64 (PP s (j + 1)), .int .i64 0] 257 (w2.heap.size + 1) (by simp)).below hb3)
       have L3 := hide (((uh L2).below (by repeat (first | with_reducible exact uh BW2 | with_reducible refine Below.drew ?_ | (with_reducible refine Below.setCell ?_ ?_ _; rotate_left; exact (by first | omega | (simp; omega) | simp | (simp; done))) | (with_reducible refine Below.alloc ?_ ?_ _; rotate_left; exact (by first | omega | (simp; omega) | simp | (simp; done)))))).below hb3)
       clear hb3 L2 BW2
       go_wp2_with fail
       refine (is_okB b s tv (j + 2) d a kv rv pv (sg 35) _ (uh L3).rs true hha).mono ?_
       rintro e w4 ⟨rfl, hb4⟩
       have L4 := hide ((uh L3).below hb4)
       have GB4 := hide ((uh GB3).below hb4)
       clear hb4 GB3 L3
       obtain ⟨p0, p1, p2, p3, p4, p5, p6, p7⟩ := (uh L4).box.eight
       have zp := (uh L4).box.fz
       obtain ⟨g0, g1, g2, g3⟩ := (uh GB4).four
       have zg := (uh GB4).fz
       obtain ⟨r0, r1, r2, r3, r4, _⟩ := (uh L4).rs.blk.eight
       have zr := (uh L4).rs.blk.fz
       have n1 : ¬ (w2.heap.size + 1 = b) := by omega
       have n2 : ¬ (b = w2.heap.size + 1) := by omega
       have n3 : ¬ (w.heap.size = b) := by omega
       have n4 : ¬ (b = w.heap.size) := by omega
       have n5 : ¬ (w.heap.size = w2.heap.size + 1) := by omega
       have n6 : ¬ (w2.heap.size + 1 = w.heap.size) := by omega
       go_wp2_with fail
       have M4 := hide (show LsI b s tv d kv rv pv i w (w4.setCell ⟨b, 1, none⟩ (.int .i64 ((j : Int) + 2 + 1))) _ (j + 3) 0 a gs ga gc from (uh L4).inc' hlt (uh HG3) ((j : Int) + 2 + 1) (by omega))
       have N4 := hide (show Blk (w4.setCell ⟨b, 1, none⟩ (.int .i64 ((j : Int) + 2 + 1))) (w2.heap.size + 1) #[.string (TT s (j + 1)), .string ⟨#[]⟩, .int .i64 (PP s (j + 1)), .int .i64 0] 257 from (uh GB4).other n1 _)
       generalize w4.setCell ⟨b, 1, none⟩ (.int .i64 ((j : Int) + 2 + 1)) = W4 at *
       clear p0 p1 p2 p3 p4 p5 p6 p7 zp g0 g1 g2 g3 zg r0 r1 r2 r3 r4 zr L4 GB4
       cases hn3 : isNm (TT s (j + 3))
       ·have hg1 : grantR (TT s) (PP s) (j + 1) = .error (2, j + 3) := by unfold grantR; rw [hg0]; simp only [hst, hha, nameR, hn3]; rfl
        rw [listL_bad _ _ _ _ _ _ hg1] at HCC
        clear hg0 hg1 hst hha
        refine (rname_text b s tv (j + 3) d a kv rv pv true _ (uh M4).rs hn3).mono ?_
        rintro e w4 ⟨rfl, b4, k4⟩
        have L4 := hide ((uh M4).step (j' := j + 3) hlt b4 k4 (by omega))
        have GB4 := hide ((uh N4).but b4 n1)
        have sz5 := b4.size
        have sz6 := (uh N4).lt
        have BW4 := hide (Below.refl w4.heap.size w4)
        clear b4 k4 M4 N4
        unfold tkv
        obtain ⟨p0, p1, p2, p3, p4, p5, p6, p7⟩ := (uh L4).box.eight
        have zp := (uh L4).box.fz
        obtain ⟨g0, g1, g2, g3⟩ := (uh GB4).four
        have zg := (uh GB4).fz
        obtain ⟨r0, r1, r2, r3, r4, _⟩ := (uh L4).rs.blk.eight
        have zr := (uh L4).rs.blk.fz
        have n1 : ¬ (w2.heap.size + 1 = b) := by omega
        have n2 : ¬ (b = w2.heap.size + 1) := by omega
        have n3 : ¬ (w.heap.size = b) := by omega
        have n4 : ¬ (b = w.heap.size) := by omega
        have n5 : ¬ (w.heap.size = w2.heap.size + 1) := by omega
        have n6 : ¬ (w2.heap.size + 1 = w.heap.size) := by omega
        have lgb := (uh GB4).lt
        have lpb := (uh L4).box.lt
        have lrb := (uh L4).rs.lt
        have n7 : ¬ (w4.heap.size = w2.heap.size + 1) := by omega
        have n8 : ¬ (w2.heap.size + 1 = w4.heap.size) := by omega
        have n9 : ¬ (w4.heap.size = w.heap.size) := by omega
        have n10 : ¬ (w.heap.size = w4.heap.size) := by omega
        have n11 : ¬ (w4.heap.size = b) := by omega
        have n12 : ¬ (b = w4.heap.size) := by omega
        clear hn3
        have LX := hide ((((uh L4).far (uh GB4) n2 (by omega) (uh HRW) 1 (.string (TT s (j + 3)))).far ((uh GB4).set 1 _) n2 (by omega) (uh HRW) 3 (.int .i64 (PP s (j + 3)))).below ((Below.refl _ _).alloc (Nat.le_refl _) (.cells #[.string (TT s (j + 3)), .int .i64 (PP s (j + 3)), .bool (wordT (TT s (j + 3)))] 259)))
        have lgs := (uh LX).len
        have O4 := hide (uh LX).row
        have sz4 := (uh LX).but.size
        go_wp2_with (at_builtin; go_must (refine wpList_append_lies _ rfl _ _ 253 rfl w.heap.size 257 i0 _ 4 48 Tryz.underlying253 (uh HI) (uh HZ0) (uh HZ1) (uh HZ2) rfl (by decide) (.slice ga gs.length gc) gs.length (gs.flatMap rgCells) rfl ?hownAe ⟨w4.heap.size + 1, 0, none⟩ 1 1 (rgCells ⟨TT s (j + 1), PP s (j + 1), 2, TT s (j + 3), PP s (j + 3)⟩) rfl rfl ?hnewsAe ?honeAe (by decide) ?h63Ae ?hbytesAe ?hbaseAe (w4.heap.size + 1 + 1) ?hHAe ?hrestAe))
        case hownAe => exact (uh O4).alloc _
        case hnewsAe => exact World.news_of_block (B := w4.heap.size + 1) (cs := #[.string (TT s (j + 1)), .string (TT s (j + 3)), .int .i64 (PP s (j + 1)), .int .i64 (PP s (j + 3))]) (t := 257) (fr := (0, 0)) (Blk.new' _ _ _ _ (by simp))
        case honeAe =>
         intro u hu
         simp only [rgCells, List.mem_cons, List.not_mem_nil, or_false] at hu
         rcases hu with rfl | rfl | rfl | rfl <;> rfl
        case h63Ae => unfold maxLen; omega
        case hbytesAe => omega
        case hbaseAe => simp at sz4 ⊢; omega
        case hHAe => simp
        case hrestAe =>
         intro g5 cap5 w5 hown5 hgrow5 hat5 hgl5
         obtain ⟨hb5, hr5, hx5⟩ := ls_grown (uh LX) hgrow5
         have L5 := hide (ls_close (gr := ⟨TT s (j + 1), PP s (j + 1), 2, TT s (j + 3), PP s (j + 3)⟩) (uh LX) hlt hgrow5 hown5 (by omega) false)
         obtain ⟨q0, q1, q2, q3, q4, q5, q6, q7⟩ := hx5.eight
         have zq := hx5.fz
         have lq := hx5.lt
         clear hb5 hr5 hx5 hown5 hgrow5 hat5 p0 p1 p2 p3 p4 p5 p6 p7 zp g0 g1 g2 g3 zg r0 r1 r2 r3 r4 zr
         go_wp2
         go_roundg fu
         case measure => omega
         case rel =>
          have PC := hide (show LsC (TT s) (PP s) i a R fu false (j + 3) 2 (PP s (j + 3)) (gs ++ [⟨TT s (j + 1), PP s (j + 1), 2, TT s (j + 3), PP s (j + 3)⟩]) from .inr (.inr ⟨rfl, by decide, by have := uh HIJ; omega, j + 3, rfl, (uh HCC).symm⟩))
          refine ⟨false, j + 3, 2, PP s (j + 3), gs ++ [⟨TT s (j + 1), PP s (j + 1), 2, TT s (j + 3), PP s (j + 3)⟩], some ⟨g5, 0, none⟩, cap5, rfl, ?_, by omega, PC⟩
          with_reducible exact uh L5
       ·by_cases hl3 : 8 < (TT s (j + 3)).size
        ·have hg1 : grantR (TT s) (PP s) (j + 1) = .error (3, j + 3) := by unfold grantR; rw [hg0]; simp only [hst, hha, nameR, hn3, hl3]; rfl
         rw [listL_bad _ _ _ _ _ _ hg1] at HCC
         clear hg0 hg1 hst hha
         refine (rname_big b s tv (j + 3) d a kv rv pv true _ (uh M4).rs hn3 hl3).mono ?_
         rintro e w4 ⟨rfl, b4, k4⟩
         have L4 := hide ((uh M4).step (j' := j + 3) hlt b4 k4 (by omega))
         have GB4 := hide ((uh N4).but b4 n1)
         have sz5 := b4.size
         have sz6 := (uh N4).lt
         have BW4 := hide (Below.refl w4.heap.size w4)
         clear b4 k4 M4 N4
         unfold tkv
         obtain ⟨p0, p1, p2, p3, p4, p5, p6, p7⟩ := (uh L4).box.eight
         have zp := (uh L4).box.fz
         obtain ⟨g0, g1, g2, g3⟩ := (uh GB4).four
         have zg := (uh GB4).fz
         obtain ⟨r0, r1, r2, r3, r4, _⟩ := (uh L4).rs.blk.eight
         have zr := (uh L4).rs.blk.fz
         have n1 : ¬ (w2.heap.size + 1 = b) := by omega
         have n2 : ¬ (b = w2.heap.size + 1) := by omega
         have n3 : ¬ (w.heap.size = b) := by omega
         have n4 : ¬ (b = w.heap.size) := by omega
         have n5 : ¬ (w.heap.size = w2.heap.size + 1) := by omega
         have n6 : ¬ (w2.heap.size + 1 = w.heap.size) := by omega
         have lgb := (uh GB4).lt
         have lpb := (uh L4).box.lt
         have lrb := (uh L4).rs.lt
         have n7 : ¬ (w4.heap.size = w2.heap.size + 1) := by omega
         have n8 : ¬ (w2.heap.size + 1 = w4.heap.size) := by omega
         have n9 : ¬ (w4.heap.size = w.heap.size) := by omega
         have n10 : ¬ (w.heap.size = w4.heap.size) := by omega
         have n11 : ¬ (w4.heap.size = b) := by omega
         have n12 : ¬ (b = w4.heap.size) := by omega
         clear hn3
         have LX := hide ((((uh L4).far (uh GB4) n2 (by omega) (uh HRW) 1 (.string (TT s (j + 3)))).far ((uh GB4).set 1 _) n2 (by omega) (uh HRW) 3 (.int .i64 (PP s (j + 3)))).below ((Below.refl _ _).alloc (Nat.le_refl _) (.cells #[.string (TT s (j + 3)), .int .i64 (PP s (j + 3)), .bool (wordT (TT s (j + 3)))] 259)))
         have lgs := (uh LX).len
         have O4 := hide (uh LX).row
         have sz4 := (uh LX).but.size
         go_wp2_with (at_builtin; go_must (refine wpList_append_lies _ rfl _ _ 253 rfl w.heap.size 257 i0 _ 4 48 Tryz.underlying253 (uh HI) (uh HZ0) (uh HZ1) (uh HZ2) rfl (by decide) (.slice ga gs.length gc) gs.length (gs.flatMap rgCells) rfl ?hownAf ⟨w4.heap.size + 1, 0, none⟩ 1 1 (rgCells ⟨TT s (j + 1), PP s (j + 1), 2, TT s (j + 3), PP s (j + 3)⟩) rfl rfl ?hnewsAf ?honeAf (by decide) ?h63Af ?hbytesAf ?hbaseAf (w4.heap.size + 1 + 1) ?hHAf ?hrestAf))
         case hownAf => exact (uh O4).alloc _
         case hnewsAf => exact World.news_of_block (B := w4.heap.size + 1) (cs := #[.string (TT s (j + 1)), .string (TT s (j + 3)), .int .i64 (PP s (j + 1)), .int .i64 (PP s (j + 3))]) (t := 257) (fr := (0, 0)) (Blk.new' _ _ _ _ (by simp))
         case honeAf =>
          intro u hu
          simp only [rgCells, List.mem_cons, List.not_mem_nil, or_false] at hu
          rcases hu with rfl | rfl | rfl | rfl <;> rfl
         case h63Af => unfold maxLen; omega
         case hbytesAf => omega
         case hbaseAf => simp at sz4 ⊢; omega
         case hHAf => simp
         case hrestAf =>
          intro g5 cap5 w5 hown5 hgrow5 hat5 hgl5
          obtain ⟨hb5, hr5, hx5⟩ := ls_grown (uh LX) hgrow5
          have L5 := hide (ls_close (gr := ⟨TT s (j + 1), PP s (j + 1), 2, TT s (j + 3), PP s (j + 3)⟩) (uh LX) hlt hgrow5 hown5 (by omega) false)
          obtain ⟨q0, q1, q2, q3, q4, q5, q6, q7⟩ := hx5.eight
          have zq := hx5.fz
          have lq := hx5.lt
          clear hb5 hr5 hx5 hown5 hgrow5 hat5 p0 p1 p2 p3 p4 p5 p6 p7 zp g0 g1 g2 g3 zg r0 r1 r2 r3 r4 zr
          go_wp2
          go_roundg fu
          case measure => omega
          case rel =>
           have PC := hide (show LsC (TT s) (PP s) i a R fu false (j + 3) 3 (PP s (j + 3)) (gs ++ [⟨TT s (j + 1), PP s (j + 1), 2, TT s (j + 3), PP s (j + 3)⟩]) from .inr (.inr ⟨rfl, by decide, by have := uh HIJ; omega, j + 3, rfl, (uh HCC).symm⟩))
           refine ⟨false, j + 3, 3, PP s (j + 3), gs ++ [⟨TT s (j + 1), PP s (j + 1), 2, TT s (j + 3), PP s (j + 3)⟩], some ⟨g5, 0, none⟩, cap5, rfl, ?_, by omega, PC⟩
           with_reducible exact uh L5
        ·have hg1 : grantR (TT s) (PP s) (j + 1) = .ok (⟨TT s (j + 1), PP s (j + 1), 2, TT s (j + 3), PP s (j + 3)⟩, j + 4) := by unfold grantR; rw [hg0]; simp only [hst, hha, nameR, hn3, hl3]; rfl
         rw [listL_ok _ _ _ _ _ _ _ hg1] at HCC
         clear hg0 hg1 hst hha
         refine (rname_ok b s tv (j + 3) d a kv rv pv _ (uh M4).rs hn3 (by omega)).mono ?_
         rintro e w4 ⟨rfl, b4, k4⟩
         have L4 := hide ((uh M4).step (j' := j + 4) hlt b4 k4 (by omega))
         have GB4 := hide ((uh N4).but b4 n1)
         have sz5 := b4.size
         have sz6 := (uh N4).lt
         have BW4 := hide (Below.refl w4.heap.size w4)
         clear b4 k4 M4 N4
         unfold tkv
         obtain ⟨p0, p1, p2, p3, p4, p5, p6, p7⟩ := (uh L4).box.eight
         have zp := (uh L4).box.fz
         obtain ⟨g0, g1, g2, g3⟩ := (uh GB4).four
         have zg := (uh GB4).fz
         obtain ⟨r0, r1, r2, r3, r4, _⟩ := (uh L4).rs.blk.eight
         have zr := (uh L4).rs.blk.fz
         have n1 : ¬ (w2.heap.size + 1 = b) := by omega
         have n2 : ¬ (b = w2.heap.size + 1) := by omega
         have n3 : ¬ (w.heap.size = b) := by omega
         have n4 : ¬ (b = w.heap.size) := by omega
         have n5 : ¬ (w.heap.size = w2.heap.size + 1) := by omega
         have n6 : ¬ (w2.heap.size + 1 = w.heap.size) := by omega
         have lgb := (uh GB4).lt
         have lpb := (uh L4).box.lt
         have lrb := (uh L4).rs.lt
         have n7 : ¬ (w4.heap.size = w2.heap.size + 1) := by omega
         have n8 : ¬ (w2.heap.size + 1 = w4.heap.size) := by omega
         have n9 : ¬ (w4.heap.size = w.heap.size) := by omega
         have n10 : ¬ (w.heap.size = w4.heap.size) := by omega
         have n11 : ¬ (w4.heap.size = b) := by omega
         have n12 : ¬ (b = w4.heap.size) := by omega
         clear hn3
         have LX := hide ((((uh L4).far (uh GB4) n2 (by omega) (uh HRW) 1 (.string (TT s (j + 3)))).far ((uh GB4).set 1 _) n2 (by omega) (uh HRW) 3 (.int .i64 (PP s (j + 3)))).below ((Below.refl _ _).alloc (Nat.le_refl _) (.cells #[.string (TT s (j + 3)), .int .i64 (PP s (j + 3)), .bool (wordT (TT s (j + 3)))] 259)))
         have lgs := (uh LX).len
         have O4 := hide (uh LX).row
         have sz4 := (uh LX).but.size
         go_wp2_with (at_builtin; go_must (refine wpList_append_lies _ rfl _ _ 253 rfl w.heap.size 257 i0 _ 4 48 Tryz.underlying253 (uh HI) (uh HZ0) (uh HZ1) (uh HZ2) rfl (by decide) (.slice ga gs.length gc) gs.length (gs.flatMap rgCells) rfl ?hownAg ⟨w4.heap.size + 1, 0, none⟩ 1 1 (rgCells ⟨TT s (j + 1), PP s (j + 1), 2, TT s (j + 3), PP s (j + 3)⟩) rfl rfl ?hnewsAg ?honeAg (by decide) ?h63Ag ?hbytesAg ?hbaseAg (w4.heap.size + 1 + 1) ?hHAg ?hrestAg))
         case hownAg => exact (uh O4).alloc _
         case hnewsAg => exact World.news_of_block (B := w4.heap.size + 1) (cs := #[.string (TT s (j + 1)), .string (TT s (j + 3)), .int .i64 (PP s (j + 1)), .int .i64 (PP s (j + 3))]) (t := 257) (fr := (0, 0)) (Blk.new' _ _ _ _ (by simp))
         case honeAg =>
          intro u hu
          simp only [rgCells, List.mem_cons, List.not_mem_nil, or_false] at hu
          rcases hu with rfl | rfl | rfl | rfl <;> rfl
         case h63Ag => unfold maxLen; omega
         case hbytesAg => omega
         case hbaseAg => simp at sz4 ⊢; omega
         case hHAg => simp
         case hrestAg =>
          intro g5 cap5 w5 hown5 hgrow5 hat5 hgl5
          obtain ⟨hb5, hr5, hx5⟩ := ls_grown (uh LX) hgrow5
          have L5 := hide (ls_close (gr := ⟨TT s (j + 1), PP s (j + 1), 2, TT s (j + 3), PP s (j + 3)⟩) (uh LX) hlt hgrow5 hown5 (by omega) false)
          obtain ⟨q0, q1, q2, q3, q4, q5, q6, q7⟩ := hx5.eight
          have zq := hx5.fz
          have lq := hx5.lt
          clear hb5 hr5 hx5 hown5 hgrow5 hat5 p0 p1 p2 p3 p4 p5 p6 p7 zp g0 g1 g2 g3 zg r0 r1 r2 r3 r4 zr
          go_wp2
          go_roundg fu
          case measure => omega
          case rel =>
           have PC := hide (show LsC (TT s) (PP s) i a R fu false (j + 4) 0 (a) (gs ++ [⟨TT s (j + 1), PP s (j + 1), 2, TT s (j + 3), PP s (j + 3)⟩]) from .inr (.inl ⟨rfl, rfl, rfl, by have := uh HIJ; omega, uh HCC⟩))
           refine ⟨false, j + 4, 0, a, gs ++ [⟨TT s (j + 1), PP s (j + 1), 2, TT s (j + 3), PP s (j + 3)⟩], some ⟨g5, 0, none⟩, cap5, rfl, ?_, by omega, PC⟩
           with_reducible exact uh L5
     ·have hha : eqs (TT s (j + 2)) (sg 35) = false := by
       unfold eqs at hst ⊢
       rw [beq_iff_eq] at hst
       rw [hst]; decide
      have hg1 : grantR (TT s) (PP s) (j + 1) = .ok (⟨TT s (j + 1), PP s (j + 1), 1, em, 0⟩, j + 3) := by unfold grantR; rw [hg0]; simp only [hst, if_true]
      rw [listL_ok _ _ _ _ _ _ _ hg1] at HCC
      have HG3 := hide (show Gd s (j + 2 + 1) from (uh L2).rs.gd.succ (eqs_pos hst (by decide)))
      clear hg0 hg1
      go_wp2_with fail
      refine (is_okB b s tv (j + 2) d a kv rv pv (sg 42) _ ?r1Ah true hst).mono ?_
      case r1Ah => exact ((uh L2).below (by repeat (first | with_reducible exact uh BW2 | with_reducible refine Below.drew ?_ | (with_reducible refine Below.setCell ?_ ?_ _; rotate_left; exact (by first | omega | (simp; omega) | simp | (simp; done))) | (with_reducible refine Below.alloc ?_ ?_ _; rotate_left; exact (by first | omega | (simp; omega) | simp | (simp; done)))))).rs
      rintro e w3 ⟨rfl, hb3⟩
      have GB3 := hide ((Blk.new' (w2.alloc (.cells #[.string (TT s (j + 1)), .int .i64 (PP s (j + 1)), .bool (wordT (TT s (j + 1)))] 259)) #[.string (TT s (j + 1)), .string ⟨#[]⟩, .int .i64 (PP s (j + 1)), .int .i64 0] 257 (w2.heap.size + 1) (by simp)).below hb3)
      have L3 := hide (((uh L2).below (by repeat (first | with_reducible exact uh BW2 | with_reducible refine Below.drew ?_ | (with_reducible refine Below.setCell ?_ ?_ _; rotate_left; exact (by first | omega | (simp; omega) | simp | (simp; done))) | (with_reducible refine Below.alloc ?_ ?_ _; rotate_left; exact (by first | omega | (simp; omega) | simp | (simp; done)))))).below hb3)
      clear hb3 L2 BW2
      go_wp2_with fail
      refine (is_okB b s tv (j + 2) d a kv rv pv (sg 35) _ (uh L3).rs false hha).mono ?_
      rintro e w4 ⟨rfl, hb4⟩
      have L4 := hide ((uh L3).below hb4)
      have GB4 := hide ((uh GB3).below hb4)
      clear hb4 GB3 L3
      clear hst hha
      obtain ⟨p0, p1, p2, p3, p4, p5, p6, p7⟩ := (uh L4).box.eight
      have zp := (uh L4).box.fz
      obtain ⟨g0, g1, g2, g3⟩ := (uh GB4).four
      have zg := (uh GB4).fz
      obtain ⟨r0, r1, r2, r3, r4, _⟩ := (uh L4).rs.blk.eight
      have zr := (uh L4).rs.blk.fz
      have n1 : ¬ (w2.heap.size + 1 = b) := by omega
      have n2 : ¬ (b = w2.heap.size + 1) := by omega
      have n3 : ¬ (w.heap.size = b) := by omega
      have n4 : ¬ (b = w.heap.size) := by omega
      have n5 : ¬ (w.heap.size = w2.heap.size + 1) := by omega
      have n6 : ¬ (w2.heap.size + 1 = w.heap.size) := by omega
      have LX := hide ((LsI.inc' (uh L4) hlt (uh HG3) ((j : Int) + 2 + 1) (by omega)).far ((uh GB4).other n1 _) n2 (by omega) (uh HRW) 1 (.string ⟨#[42]⟩))
      have lgs := (uh LX).len
      have O4 := hide (uh LX).row
      have sz4 := (uh LX).but.size
      go_wp2_with (at_builtin; go_must (refine wpList_append_lies _ rfl _ _ 253 rfl w.heap.size 257 i0 _ 4 48 Tryz.underlying253 (uh HI) (uh HZ0) (uh HZ1) (uh HZ2) rfl (by decide) (.slice ga gs.length gc) gs.length (gs.flatMap rgCells) rfl ?hownAh ⟨w4.heap.size, 0, none⟩ 1 1 (rgCells ⟨TT s (j + 1), PP s (j + 1), 1, em, 0⟩) rfl rfl ?hnewsAh ?honeAh (by decide) ?h63Ah ?hbytesAh ?hbaseAh (w4.heap.size + 1) ?hHAh ?hrestAh))
      case hownAh => exact (uh O4).alloc _
      case hnewsAh => exact World.news_of_block (B := w4.heap.size) (cs := #[.string (TT s (j + 1)), .string ⟨#[42]⟩, .int .i64 (PP s (j + 1)), .int .i64 0]) (t := 257) (fr := (0, 0)) (Blk.new' _ _ _ _ (by simp))
      case honeAh =>
       intro u hu
       simp only [rgCells, List.mem_cons, List.not_mem_nil, or_false] at hu
       rcases hu with rfl | rfl | rfl | rfl <;> rfl
      case h63Ah => unfold maxLen; omega
      case hbytesAh => omega
      case hbaseAh => simp at sz4 ⊢; omega
      case hHAh => simp
      case hrestAh =>
       intro g5 cap5 w5 hown5 hgrow5 hat5 hgl5
       obtain ⟨hb5, hr5, hx5⟩ := ls_grown (uh LX) hgrow5
       have L5 := hide (ls_close (gr := ⟨TT s (j + 1), PP s (j + 1), 1, em, 0⟩) (uh LX) hlt hgrow5 hown5 (by omega) false)
       obtain ⟨q0, q1, q2, q3, q4, q5, q6, q7⟩ := hx5.eight
       have zq := hx5.fz
       have lq := hx5.lt
       clear hb5 hr5 hx5 hown5 hgrow5 hat5 p0 p1 p2 p3 p4 p5 p6 p7 zp g0 g1 g2 g3 zg r0 r1 r2 r3 r4 zr
       go_wp2
       go_roundg fu
       case measure => omega
       case rel =>
        have PC := hide (show LsC (TT s) (PP s) i a R fu false (j + 3) 0 (a) (gs ++ [⟨TT s (j + 1), PP s (j + 1), 1, em, 0⟩]) from .inr (.inl ⟨rfl, rfl, rfl, by have := uh HIJ; omega, uh HCC⟩))
        refine ⟨false, j + 3, 0, a, gs ++ [⟨TT s (j + 1), PP s (j + 1), 1, em, 0⟩], some ⟨g5, 0, none⟩, cap5, rfl, ?_, by omega, PC⟩
        with_reducible exact uh L5
  ·cases h44 : eqs (TT s j) (sg 44)
   ·have HI2 := hide hI
    clear hI HC HR
    unfold tailL at hc
    rw [h44] at hc
    simp only [Bool.false_eq_true, if_false] at hc
    go_wp2_with fail
    refine (is_okB b s tv j d a kv rv pv (sg 44) _ (uh HI2).rs false h44).mono ?_
    rintro e w3 ⟨rfl, hb3⟩
    have L3 := hide ((uh HI2).below hb3)
    clear hb3 HI2 h44
    cases h93 : eqs (TT s j) (sg 93)
    ·rw [h93] at hc
     have HCC := hide (show R = .error (2, j) from hc.symm)
     clear hc
     go_wp2_with fail
     refine (sign_no b s tv j d a kv rv pv (sg 93) _ (uh L3).rs h93).mono ?_
     rintro e w4 ⟨rfl, b4, k4⟩
     have L4 := hide ((uh L3).step hlt b4 k4 (Nat.le_refl _))
     clear b4 k4 L3 h93
     have T4 := hide ((uh HT0).but (uh L4).but (uh H0).blk hbb hbw)
     have X4 := hide (show RepP w4 (⟨1, gs, em, em, PP s i, 0, [], []⟩, .slice ga gs.length gc, .slice none 0 0, .slice none 0 0) from ⟨own_zero (uh L4).row, World.ownsRow_nil _ _ _ _, World.ownsRow_nil _ _ _ _⟩)
     obtain ⟨p0, p1, p2, p3, p4, p5, p6, p7⟩ := (uh L4).box.eight
     have hb4 : base ≤ w4.heap.size := Nat.le_trans hbw (uh L4).but.size
     go_wp2_with fail
     refine (part_any base b s tv (j) d 2 (PP s j) kv rv pv pl l ⟨1, gs, em, em, PP s i, 0, [], []⟩ ga gc none 0 none 0 w4 (uh L4).rs (uh T4) (uh X4) (by omega) hb4 hbb).mono ?_
     rintro e' w6 ⟨pv', rfl, fr, rs6, pt6⟩
     have F6 := hide fr
     have R6 := hide rs6
     have P6 := hide pt6
     clear fr rs6 pt6 p0 p1 p2 p3 p4 p5 p6 p7
     go_wp2
     go_ret
     rw [uh HCC]
     exact ⟨rfl, pv', _, _, (Fr.of_but (uh L4).but hbb hbw).trans (uh F6), uh P6, fresh_row (uh L4).row, by decide, j, by omega, uh R6⟩
    ·rw [h93] at hc
     have HCC := hide (show R = .ok (gs, j + 1) from hc.symm)
     clear hc
     go_wp2_with fail
     refine (sign_yes b s tv j d a kv rv pv (sg 93) _ (uh L3).rs h93 (by decide)).mono ?_
     rintro e w4 ⟨rfl, b4, k4⟩
     have L4 := hide ((uh L3).step hlt b4 k4 (by omega))
     clear b4 k4 L3 h93
     have T4 := hide ((uh HT0).but (uh L4).but (uh H0).blk hbb hbw)
     have X4 := hide (show RepP w4 (⟨1, gs, em, em, PP s i, 0, [], []⟩, .slice ga gs.length gc, .slice none 0 0, .slice none 0 0) from ⟨own_zero (uh L4).row, World.ownsRow_nil _ _ _ _, World.ownsRow_nil _ _ _ _⟩)
     obtain ⟨p0, p1, p2, p3, p4, p5, p6, p7⟩ := (uh L4).box.eight
     have hb4 : base ≤ w4.heap.size := Nat.le_trans hbw (uh L4).but.size
     go_wp2_with fail
     refine (part_any base b s tv (j + 1) d 0 (a) kv rv pv pl l ⟨1, gs, em, em, PP s i, 0, [], []⟩ ga gc none 0 none 0 w4 (uh L4).rs (uh T4) (uh X4) (by omega) hb4 hbb).mono ?_
     rintro e' w6 ⟨pv', rfl, fr, rs6, pt6⟩
     have F6 := hide fr
     have R6 := hide rs6
     have P6 := hide pt6
     clear fr rs6 pt6 p0 p1 p2 p3 p4 p5 p6 p7
     go_wp2
     go_ret
     rw [uh HCC]
     exact ⟨rfl, pv', _, _, (Fr.of_but (uh L4).but hbb hbw).trans (uh F6), uh P6, fresh_row (uh L4).row, uh R6, rfl, by omega⟩
   ·obtain ⟨fu, rfl⟩ : ∃ f, gk = f + 1 := ⟨gk - 1, by omega⟩
    have HJ := hide (hI.rs.gd.succ (eqs_pos h44 (by decide)))
    have HIJ := hide (show i ≤ j by omega)
    unfold tailL at hc
    rw [h44] at hc
    simp only [if_true] at hc
    have HCC := hide hc
    have HI2 := hide hI
    clear hI HC HR hc
    go_wp2_with fail
    refine (is_okB b s tv j d a kv rv pv (sg 44) _ (uh HI2).rs true h44).mono ?_
    rintro e wx ⟨rfl, hbx⟩
    have LZ := hide ((uh HI2).below hbx)
    clear hbx HI2 h44
    obtain ⟨r0, r1, r2, r3, r4, _⟩ := (uh LZ).rs.blk.eight
    have hz := (uh LZ).rs.blk.fz
    have L1 := hide ((uh LZ).inc hlt (uh HJ))
    go_wp2_with fail
    clear r0 r1 r2 r3 r4 hz LZ
    generalize wx.setCell ⟨b, 1, none⟩ (.int .i64 ((j : Int) + 1)) = W1 at *
    cases hn : isNm (TT s (j + 1))
    ·have hg0 : grantR (TT s) (PP s) (j + 1) = .error (2, j + 1) := by unfold grantR nameR; rw [hn]; rfl
     rw [listL_bad _ _ _ _ _ _ hg0] at HCC
     clear hg0
     refine (rname_text b s tv (j + 1) d a kv rv pv true _ (uh L1).rs hn).mono ?_
     rintro e w2 ⟨rfl, b2, k2⟩
     have L2 := hide ((uh L1).step hlt b2 k2 (Nat.le_refl _))
     have BW2 := hide (Below.refl w2.heap.size w2)
     have sz2 := (uh L2).box.lt
     have HRW := hide (show (Value.slice ga gs.length gc).ownBlock ≠ some (w2.heap.size + 1) from fun e => by have := ((uh L2).row.lt _ e).2; omega)
     clear b2 k2 L1
     unfold tkv
     go_wp2_with fail
     refine (is_errB b s tv (j + 1) d 2 (PP s (j + 1)) kv rv pv (sg 42) _ ?r1Ba (by decide)).mono ?_
     case r1Ba => exact ((uh L2).below (by repeat (first | with_reducible exact uh BW2 | with_reducible refine Below.drew ?_ | (with_reducible refine Below.setCell ?_ ?_ _; rotate_left; exact (by first | omega | (simp; omega) | simp | (simp; done))) | (with_reducible refine Below.alloc ?_ ?_ _; rotate_left; exact (by first | omega | (simp; omega) | simp | (simp; done)))))).rs
     rintro e w3 ⟨rfl, hb3⟩
     have GB3 := hide ((Blk.new' (w2.alloc (.cells #[.string (TT s (j + 1)), .int .i64 (PP s (j + 1)), .bool (wordT (TT s (j + 1)))] 259)) #[.string (TT s (j + 1)), .string ⟨#[]⟩, .int .i64 (PP s (j + 1)), .int .i64 0] 257 (w2.heap.size + 1) (by simp)).below hb3)
     have L3 := hide (((uh L2).below (by repeat (first | with_reducible exact uh BW2 | with_reducible refine Below.drew ?_ | (with_reducible refine Below.setCell ?_ ?_ _; rotate_left; exact (by first | omega | (simp; omega) | simp | (simp; done))) | (with_reducible refine Below.alloc ?_ ?_ _; rotate_left; exact (by first | omega | (simp; omega) | simp | (simp; done)))))).below hb3)
     clear hb3 L2 BW2
     go_wp2_with fail
     refine (is_errB b s tv (j + 1) d 2 (PP s (j + 1)) kv rv pv (sg 35) _ (uh L3).rs (by decide)).mono ?_
     rintro e w4 ⟨rfl, hb4⟩
     have L4 := hide ((uh L3).below hb4)
     have GB4 := hide ((uh GB3).below hb4)
     clear hb4 GB3 L3
     obtain ⟨p0, p1, p2, p3, p4, p5, p6, p7⟩ := (uh L4).box.eight
     have zp := (uh L4).box.fz
     obtain ⟨g0, g1, g2, g3⟩ := (uh GB4).four
     have zg := (uh GB4).fz
     obtain ⟨r0, r1, r2, r3, r4, _⟩ := (uh L4).rs.blk.eight
     have zr := (uh L4).rs.blk.fz
     have n1 : ¬ (w2.heap.size + 1 = b) := by omega
     have n2 : ¬ (b = w2.heap.size + 1) := by omega
     have n3 : ¬ (w.heap.size = b) := by omega
     have n4 : ¬ (b = w.heap.size) := by omega
     have n5 : ¬ (w.heap.size = w2.heap.size + 1) := by omega
     have n6 : ¬ (w2.heap.size + 1 = w.heap.size) := by omega
     have LX := L4
     clear hn
     have lgs := (uh LX).len
     have O4 := hide (uh LX).row
     have sz4 := (uh LX).but.size
     go_wp2_with (at_builtin; go_must (refine wpList_append_lies _ rfl _ _ 253 rfl w.heap.size 257 i0 _ 4 48 Tryz.underlying253 (uh HI) (uh HZ0) (uh HZ1) (uh HZ2) rfl (by decide) (.slice ga gs.length gc) gs.length (gs.flatMap rgCells) rfl ?hownBa ⟨w4.heap.size, 0, none⟩ 1 1 (rgCells ⟨TT s (j + 1), PP s (j + 1), 0, em, 0⟩) rfl rfl ?hnewsBa ?honeBa (by decide) ?h63Ba ?hbytesBa ?hbaseBa (w4.heap.size + 1) ?hHBa ?hrestBa))
     case hownBa => exact (uh O4).alloc _
     case hnewsBa => exact World.news_of_block (B := w4.heap.size) (cs := #[.string (TT s (j + 1)), .string ⟨#[]⟩, .int .i64 (PP s (j + 1)), .int .i64 0]) (t := 257) (fr := (0, 0)) (Blk.new' _ _ _ _ (by simp))
     case honeBa =>
      intro u hu
      simp only [rgCells, List.mem_cons, List.not_mem_nil, or_false] at hu
      rcases hu with rfl | rfl | rfl | rfl <;> rfl
     case h63Ba => unfold maxLen; omega
     case hbytesBa => omega
     case hbaseBa => simp at sz4 ⊢; omega
     case hHBa => simp
     case hrestBa =>
      intro g5 cap5 w5 hown5 hgrow5 hat5 hgl5
      obtain ⟨hb5, hr5, hx5⟩ := ls_grown (uh LX) hgrow5
      have L5 := hide (ls_close (gr := ⟨TT s (j + 1), PP s (j + 1), 0, em, 0⟩) (uh LX) hlt hgrow5 hown5 (by omega) false)
      obtain ⟨q0, q1, q2, q3, q4, q5, q6, q7⟩ := hx5.eight
      have zq := hx5.fz
      have lq := hx5.lt
      clear hb5 hr5 hx5 hown5 hgrow5 hat5 p0 p1 p2 p3 p4 p5 p6 p7 zp g0 g1 g2 g3 zg r0 r1 r2 r3 r4 zr
      go_wp2
      go_roundg fu
      case measure => omega
      case rel =>
       have PC := hide (show LsC (TT s) (PP s) i a R fu false (j + 1) 2 (PP s (j + 1)) (gs ++ [⟨TT s (j + 1), PP s (j + 1), 0, em, 0⟩]) from .inr (.inr ⟨rfl, by decide, by have := uh HIJ; omega, j + 1, rfl, (uh HCC).symm⟩))
       refine ⟨false, j + 1, 2, PP s (j + 1), gs ++ [⟨TT s (j + 1), PP s (j + 1), 0, em, 0⟩], some ⟨g5, 0, none⟩, cap5, rfl, ?_, by omega, PC⟩
       with_reducible exact uh L5
    ·by_cases hl : 8 < (TT s (j + 1)).size
     ·have hg0 : grantR (TT s) (PP s) (j + 1) = .error (3, j + 1) := by unfold grantR nameR; rw [hn, if_pos rfl, if_pos hl]
      rw [listL_bad _ _ _ _ _ _ hg0] at HCC
      clear hg0
      refine (rname_big b s tv (j + 1) d a kv rv pv true _ (uh L1).rs hn hl).mono ?_
      rintro e w2 ⟨rfl, b2, k2⟩
      have L2 := hide ((uh L1).step hlt b2 k2 (Nat.le_refl _))
      have BW2 := hide (Below.refl w2.heap.size w2)
      have sz2 := (uh L2).box.lt
      have HRW := hide (show (Value.slice ga gs.length gc).ownBlock ≠ some (w2.heap.size + 1) from fun e => by have := ((uh L2).row.lt _ e).2; omega)
      clear b2 k2 L1
      unfold tkv
      go_wp2_with fail
      refine (is_errB b s tv (j + 1) d 3 (PP s (j + 1)) kv rv pv (sg 42) _ ?r1Bb (by decide)).mono ?_
      case r1Bb => exact ((uh L2).below (by repeat (first | with_reducible exact uh BW2 | with_reducible refine Below.drew ?_ | (with_reducible refine Below.setCell ?_ ?_ _; rotate_left; exact (by first | omega | (simp; omega) | simp | (simp; done))) | (with_reducible refine Below.alloc ?_ ?_ _; rotate_left; exact (by first | omega | (simp; omega) | simp | (simp; done)))))).rs
      rintro e w3 ⟨rfl, hb3⟩
      have GB3 := hide ((Blk.new' (w2.alloc (.cells #[.string (TT s (j + 1)), .int .i64 (PP s (j + 1)), .bool (wordT (TT s (j + 1)))] 259)) #[.string (TT s (j + 1)), .string ⟨#[]⟩, .int .i64 (PP s (j + 1)), .int .i64 0] 257 (w2.heap.size + 1) (by simp)).below hb3)
      have L3 := hide (((uh L2).below (by repeat (first | with_reducible exact uh BW2 | with_reducible refine Below.drew ?_ | (with_reducible refine Below.setCell ?_ ?_ _; rotate_left; exact (by first | omega | (simp; omega) | simp | (simp; done))) | (with_reducible refine Below.alloc ?_ ?_ _; rotate_left; exact (by first | omega | (simp; omega) | simp | (simp; done)))))).below hb3)
      clear hb3 L2 BW2
      go_wp2_with fail
      refine (is_errB b s tv (j + 1) d 3 (PP s (j + 1)) kv rv pv (sg 35) _ (uh L3).rs (by decide)).mono ?_
      rintro e w4 ⟨rfl, hb4⟩
      have L4 := hide ((uh L3).below hb4)
      have GB4 := hide ((uh GB3).below hb4)
      clear hb4 GB3 L3
      obtain ⟨p0, p1, p2, p3, p4, p5, p6, p7⟩ := (uh L4).box.eight
      have zp := (uh L4).box.fz
      obtain ⟨g0, g1, g2, g3⟩ := (uh GB4).four
      have zg := (uh GB4).fz
      obtain ⟨r0, r1, r2, r3, r4, _⟩ := (uh L4).rs.blk.eight
      have zr := (uh L4).rs.blk.fz
      have n1 : ¬ (w2.heap.size + 1 = b) := by omega
      have n2 : ¬ (b = w2.heap.size + 1) := by omega
      have n3 : ¬ (w.heap.size = b) := by omega
      have n4 : ¬ (b = w.heap.size) := by omega
      have n5 : ¬ (w.heap.size = w2.heap.size + 1) := by omega
      have n6 : ¬ (w2.heap.size + 1 = w.heap.size) := by omega
      have LX := L4
      clear hn
      have lgs := (uh LX).len
      have O4 := hide (uh LX).row
      have sz4 := (uh LX).but.size
      go_wp2_with (at_builtin; go_must (refine wpList_append_lies _ rfl _ _ 253 rfl w.heap.size 257 i0 _ 4 48 Tryz.underlying253 (uh HI) (uh HZ0) (uh HZ1) (uh HZ2) rfl (by decide) (.slice ga gs.length gc) gs.length (gs.flatMap rgCells) rfl ?hownBb ⟨w4.heap.size, 0, none⟩ 1 1 (rgCells ⟨TT s (j + 1), PP s (j + 1), 0, em, 0⟩) rfl rfl ?hnewsBb ?honeBb (by decide) ?h63Bb ?hbytesBb ?hbaseBb (w4.heap.size + 1) ?hHBb ?hrestBb))
      case hownBb => exact (uh O4).alloc _
      case hnewsBb => exact World.news_of_block (B := w4.heap.size) (cs := #[.string (TT s (j + 1)), .string ⟨#[]⟩, .int .i64 (PP s (j + 1)), .int .i64 0]) (t := 257) (fr := (0, 0)) (Blk.new' _ _ _ _ (by simp))
      case honeBb =>
       intro u hu
       simp only [rgCells, List.mem_cons, List.not_mem_nil, or_false] at hu
       rcases hu with rfl | rfl | rfl | rfl <;> rfl
      case h63Bb => unfold maxLen; omega
      case hbytesBb => omega
      case hbaseBb => simp at sz4 ⊢; omega
      case hHBb => simp
      case hrestBb =>
       intro g5 cap5 w5 hown5 hgrow5 hat5 hgl5
       obtain ⟨hb5, hr5, hx5⟩ := ls_grown (uh LX) hgrow5
       have L5 := hide (ls_close (gr := ⟨TT s (j + 1), PP s (j + 1), 0, em, 0⟩) (uh LX) hlt hgrow5 hown5 (by omega) false)
       obtain ⟨q0, q1, q2, q3, q4, q5, q6, q7⟩ := hx5.eight
       have zq := hx5.fz
       have lq := hx5.lt
       clear hb5 hr5 hx5 hown5 hgrow5 hat5 p0 p1 p2 p3 p4 p5 p6 p7 zp g0 g1 g2 g3 zg r0 r1 r2 r3 r4 zr
       go_wp2
       go_roundg fu
       case measure => omega
       case rel =>
        have PC := hide (show LsC (TT s) (PP s) i a R fu false (j + 1) 3 (PP s (j + 1)) (gs ++ [⟨TT s (j + 1), PP s (j + 1), 0, em, 0⟩]) from .inr (.inr ⟨rfl, by decide, by have := uh HIJ; omega, j + 1, rfl, (uh HCC).symm⟩))
        refine ⟨false, j + 1, 3, PP s (j + 1), gs ++ [⟨TT s (j + 1), PP s (j + 1), 0, em, 0⟩], some ⟨g5, 0, none⟩, cap5, rfl, ?_, by omega, PC⟩
        with_reducible exact uh L5
     ·have hg0 : nameR (TT s) (j + 1) = .ok ((), j + 2) := by unfold nameR; rw [hn, if_pos rfl, if_neg hl]
      refine (rname_ok b s tv (j + 1) d a kv rv pv _ (uh L1).rs hn (by omega)).mono ?_
      rintro e w2 ⟨rfl, b2, k2⟩
      have L2 := hide ((uh L1).step (j' := j + 2) hlt b2 k2 (by omega))
      have BW2 := hide (Below.refl w2.heap.size w2)
      have sz2 := (uh L2).box.lt
      have HRW := hide (show (Value.slice ga gs.length gc).ownBlock ≠ some (w2.heap.size + 1) from fun e => by have := ((uh L2).row.lt _ e).2; omega)
      clear b2 k2 L1 hn hl
      unfold tkv
      cases hst : eqs (TT s (j + 2)) (sg 42)
      ·cases hha : eqs (TT s (j + 2)) (sg 35)
       ·have hg1 : grantR (TT s) (PP s) (j + 1) = .ok (⟨TT s (j + 1), PP s (j + 1), 0, em, 0⟩, j + 2) := by unfold grantR; rw [hg0]; simp only [hst, hha]; rfl
        rw [listL_ok _ _ _ _ _ _ _ hg1] at HCC
        clear hg0 hg1
        go_wp2_with fail
        refine (is_okB b s tv (j + 2) d a kv rv pv (sg 42) _ ?r1Bc false hst).mono ?_
        case r1Bc => exact ((uh L2).below (by repeat (first | with_reducible exact uh BW2 | with_reducible refine Below.drew ?_ | (with_reducible refine Below.setCell ?_ ?_ _; rotate_left; exact (by first | omega | (simp; omega) | simp | (simp; done))) | (with_reducible refine Below.alloc ?_ ?_ _; rotate_left; exact (by first | omega | (simp; omega) | simp | (simp; done)))))).rs
        rintro e w3 ⟨rfl, hb3⟩
        have GB3 := hide ((Blk.new' (w2.alloc (.cells #[.string (TT s (j + 1)), .int .i64 (PP s (j + 1)), .bool (wordT (TT s (j + 1)))] 259)) #[.string (TT s (j + 1)), .string ⟨#[]⟩, .int .i64 (PP s (j + 1)), .int .i64 0] 257 (w2.heap.size + 1) (by simp)).below hb3)
        have L3 := hide (((uh L2).below (by repeat (first | with_reducible exact uh BW2 | with_reducible refine Below.drew ?_ | (with_reducible refine Below.setCell ?_ ?_ _; rotate_left; exact (by first | omega | (simp; omega) | simp | (simp; done))) | (with_reducible refine Below.alloc ?_ ?_ _; rotate_left; exact (by first | omega | (simp; omega) | simp | (simp; done)))))).below hb3)
        clear hb3 L2 BW2
        go_wp2_with fail
        refine (is_okB b s tv (j + 2) d a kv rv pv (sg 35) _ (uh L3).rs false hha).mono ?_
        rintro e w4 ⟨rfl, hb4⟩
        have L4 := hide ((uh L3).below hb4)
        have GB4 := hide ((uh GB3).below hb4)
        clear hb4 GB3 L3
        clear hst hha
        obtain ⟨p0, p1, p2, p3, p4, p5, p6, p7⟩ := (uh L4).box.eight
        have zp := (uh L4).box.fz
        obtain ⟨g0, g1, g2, g3⟩ := (uh GB4).four
        have zg := (uh GB4).fz
        obtain ⟨r0, r1, r2, r3, r4, _⟩ := (uh L4).rs.blk.eight
        have zr := (uh L4).rs.blk.fz
        have n1 : ¬ (w2.heap.size + 1 = b) := by omega
        have n2 : ¬ (b = w2.heap.size + 1) := by omega
        have n3 : ¬ (w.heap.size = b) := by omega
        have n4 : ¬ (b = w.heap.size) := by omega
        have n5 : ¬ (w.heap.size = w2.heap.size + 1) := by omega
        have n6 : ¬ (w2.heap.size + 1 = w.heap.size) := by omega
        have LX := L4
        have lgs := (uh LX).len
        have O4 := hide (uh LX).row
        have sz4 := (uh LX).but.size
        go_wp2_with (at_builtin; go_must (refine wpList_append_lies _ rfl _ _ 253 rfl w.heap.size 257 i0 _ 4 48 Tryz.underlying253 (uh HI) (uh HZ0) (uh HZ1) (uh HZ2) rfl (by decide) (.slice ga gs.length gc) gs.length (gs.flatMap rgCells) rfl ?hownBc ⟨w4.heap.size, 0, none⟩ 1 1 (rgCells ⟨TT s (j + 1), PP s (j + 1), 0, em, 0⟩) rfl rfl ?hnewsBc ?honeBc (by decide) ?h63Bc ?hbytesBc ?hbaseBc (w4.heap.size + 1) ?hHBc ?hrestBc))
        case hownBc => exact (uh O4).alloc _
        case hnewsBc => exact World.news_of_block (B := w4.heap.size) (cs := #[.string (TT s (j + 1)), .string ⟨#[]⟩, .int .i64 (PP s (j + 1)), .int .i64 0]) (t := 257) (fr := (0, 0)) (Blk.new' _ _ _ _ (by simp))
        case honeBc =>
         intro u hu
         simp only [rgCells, List.mem_cons, List.not_mem_nil, or_false] at hu
         rcases hu with rfl | rfl | rfl | rfl <;> rfl
        case h63Bc => unfold maxLen; omega
        case hbytesBc => omega
        case hbaseBc => simp at sz4 ⊢; omega
        case hHBc => simp
        case hrestBc =>
         intro g5 cap5 w5 hown5 hgrow5 hat5 hgl5
         obtain ⟨hb5, hr5, hx5⟩ := ls_grown (uh LX) hgrow5
         have L5 := hide (ls_close (gr := ⟨TT s (j + 1), PP s (j + 1), 0, em, 0⟩) (uh LX) hlt hgrow5 hown5 (by omega) false)
         obtain ⟨q0, q1, q2, q3, q4, q5, q6, q7⟩ := hx5.eight
         have zq := hx5.fz
         have lq := hx5.lt
         clear hb5 hr5 hx5 hown5 hgrow5 hat5 p0 p1 p2 p3 p4 p5 p6 p7 zp g0 g1 g2 g3 zg r0 r1 r2 r3 r4 zr
         go_wp2
         go_roundg fu
         case measure => omega
         case rel =>
          have PC := hide (show LsC (TT s) (PP s) i a R fu false (j + 2) 0 (a) (gs ++ [⟨TT s (j + 1), PP s (j + 1), 0, em, 0⟩]) from .inr (.inl ⟨rfl, rfl, rfl, by have := uh HIJ; omega, uh HCC⟩))
          refine ⟨false, j + 2, 0, a, gs ++ [⟨TT s (j + 1), PP s (j + 1), 0, em, 0⟩], some ⟨g5, 0, none⟩, cap5, rfl, ?_, by omega, PC⟩
          with_reducible exact uh L5
       ·have HG3 := hide (show Gd s (j + 2 + 1) from (uh L2).rs.gd.succ (eqs_pos hha (by decide)))
        go_wp2_with fail
        refine (is_okB b s tv (j + 2) d a kv rv pv (sg 42) _ ?r1Bd false hst).mono ?_
        case r1Bd => exact ((uh L2).below (by repeat (first | with_reducible exact uh BW2 | with_reducible refine Below.drew ?_ | (with_reducible refine Below.setCell ?_ ?_ _; rotate_left; exact (by first | omega | (simp; omega) | simp | (simp; done))) | (with_reducible refine Below.alloc ?_ ?_ _; rotate_left; exact (by first | omega | (simp; omega) | simp | (simp; done)))))).rs
        rintro e w3 ⟨rfl, hb3⟩
        have GB3 := hide ((Blk.new' (w2.alloc (.cells #[.string (TT s (j + 1)), .int .i64 (PP s (j + 1)), .bool (wordT (TT s (j + 1)))] 259)) #[.string (TT s (j + 1)), .string ⟨#[]⟩, .int .i64 (PP s (j + 1)), .int .i64 0] 257 (w2.heap.size + 1) (by simp)).below hb3)
        have L3 := hide (((uh L2).below (by repeat (first | with_reducible exact uh BW2 | with_reducible refine Below.drew ?_ | (with_reducible refine Below.setCell ?_ ?_ _; rotate_left; exact (by first | omega | (simp; omega) | simp | (simp; done))) | (with_reducible refine Below.alloc ?_ ?_ _; rotate_left; exact (by first | omega | (simp; omega) | simp | (simp; done)))))).below hb3)
        clear hb3 L2 BW2
        go_wp2_with fail
        refine (is_okB b s tv (j + 2) d a kv rv pv (sg 35) _ (uh L3).rs true hha).mono ?_
        rintro e w4 ⟨rfl, hb4⟩
        have L4 := hide ((uh L3).below hb4)
        have GB4 := hide ((uh GB3).below hb4)
        clear hb4 GB3 L3
        obtain ⟨p0, p1, p2, p3, p4, p5, p6, p7⟩ := (uh L4).box.eight
        have zp := (uh L4).box.fz
        obtain ⟨g0, g1, g2, g3⟩ := (uh GB4).four
        have zg := (uh GB4).fz
        obtain ⟨r0, r1, r2, r3, r4, _⟩ := (uh L4).rs.blk.eight
        have zr := (uh L4).rs.blk.fz
        have n1 : ¬ (w2.heap.size + 1 = b) := by omega
        have n2 : ¬ (b = w2.heap.size + 1) := by omega
        have n3 : ¬ (w.heap.size = b) := by omega
        have n4 : ¬ (b = w.heap.size) := by omega
        have n5 : ¬ (w.heap.size = w2.heap.size + 1) := by omega
        have n6 : ¬ (w2.heap.size + 1 = w.heap.size) := by omega
        go_wp2_with fail
        have M4 := hide (show LsI b s tv d kv rv pv i w (w4.setCell ⟨b, 1, none⟩ (.int .i64 ((j : Int) + 2 + 1))) _ (j + 3) 0 a gs ga gc from (uh L4).inc' hlt (uh HG3) ((j : Int) + 2 + 1) (by omega))
        have N4 := hide (show Blk (w4.setCell ⟨b, 1, none⟩ (.int .i64 ((j : Int) + 2 + 1))) (w2.heap.size + 1) #[.string (TT s (j + 1)), .string ⟨#[]⟩, .int .i64 (PP s (j + 1)), .int .i64 0] 257 from (uh GB4).other n1 _)
        generalize w4.setCell ⟨b, 1, none⟩ (.int .i64 ((j : Int) + 2 + 1)) = W4 at *
        clear p0 p1 p2 p3 p4 p5 p6 p7 zp g0 g1 g2 g3 zg r0 r1 r2 r3 r4 zr L4 GB4
        cases hn3 : isNm (TT s (j + 3))
        ·have hg1 : grantR (TT s) (PP s) (j + 1) = .error (2, j + 3) := by unfold grantR; rw [hg0]; simp only [hst, hha, nameR, hn3]; rfl
         rw [listL_bad _ _ _ _ _ _ hg1] at HCC
         clear hg0 hg1 hst hha
         refine (rname_text b s tv (j + 3) d a kv rv pv true _ (uh M4).rs hn3).mono ?_
         rintro e w4 ⟨rfl, b4, k4⟩
         have L4 := hide ((uh M4).step (j' := j + 3) hlt b4 k4 (by omega))
         have GB4 := hide ((uh N4).but b4 n1)
         have sz5 := b4.size
         have sz6 := (uh N4).lt
         have BW4 := hide (Below.refl w4.heap.size w4)
         clear b4 k4 M4 N4
         unfold tkv
         obtain ⟨p0, p1, p2, p3, p4, p5, p6, p7⟩ := (uh L4).box.eight
         have zp := (uh L4).box.fz
         obtain ⟨g0, g1, g2, g3⟩ := (uh GB4).four
         have zg := (uh GB4).fz
         obtain ⟨r0, r1, r2, r3, r4, _⟩ := (uh L4).rs.blk.eight
         have zr := (uh L4).rs.blk.fz
         have n1 : ¬ (w2.heap.size + 1 = b) := by omega
         have n2 : ¬ (b = w2.heap.size + 1) := by omega
         have n3 : ¬ (w.heap.size = b) := by omega
         have n4 : ¬ (b = w.heap.size) := by omega
         have n5 : ¬ (w.heap.size = w2.heap.size + 1) := by omega
         have n6 : ¬ (w2.heap.size + 1 = w.heap.size) := by omega
         have lgb := (uh GB4).lt
         have lpb := (uh L4).box.lt
         have lrb := (uh L4).rs.lt
         have n7 : ¬ (w4.heap.size = w2.heap.size + 1) := by omega
         have n8 : ¬ (w2.heap.size + 1 = w4.heap.size) := by omega
         have n9 : ¬ (w4.heap.size = w.heap.size) := by omega
         have n10 : ¬ (w.heap.size = w4.heap.size) := by omega
         have n11 : ¬ (w4.heap.size = b) := by omega
         have n12 : ¬ (b = w4.heap.size) := by omega
         clear hn3
         have LX := hide ((((uh L4).far (uh GB4) n2 (by omega) (uh HRW) 1 (.string (TT s (j + 3)))).far ((uh GB4).set 1 _) n2 (by omega) (uh HRW) 3 (.int .i64 (PP s (j + 3)))).below ((Below.refl _ _).alloc (Nat.le_refl _) (.cells #[.string (TT s (j + 3)), .int .i64 (PP s (j + 3)), .bool (wordT (TT s (j + 3)))] 259)))
         have lgs := (uh LX).len
         have O4 := hide (uh LX).row
         have sz4 := (uh LX).but.size
         go_wp2_with (at_builtin; go_must (refine wpList_append_lies _ rfl _ _ 253 rfl w.heap.size 257 i0 _ 4 48 Tryz.underlying253 (uh HI) (uh HZ0) (uh HZ1) (uh HZ2) rfl (by decide) (.slice ga gs.length gc) gs.length (gs.flatMap rgCells) rfl ?hownBe ⟨w4.heap.size + 1, 0, none⟩ 1 1 (rgCells ⟨TT s (j + 1), PP s (j + 1), 2, TT s (j + 3), PP s (j + 3)⟩) rfl rfl ?hnewsBe ?honeBe (by decide) ?h63Be ?hbytesBe ?hbaseBe (w4.heap.size + 1 + 1) ?hHBe ?hrestBe))
         case hownBe => exact (uh O4).alloc _
         case hnewsBe => exact World.news_of_block (B := w4.heap.size + 1) (cs := #[.string (TT s (j + 1)), .string (TT s (j + 3)), .int .i64 (PP s (j + 1)), .int .i64 (PP s (j + 3))]) (t := 257) (fr := (0, 0)) (Blk.new' _ _ _ _ (by simp))
         case honeBe =>
          intro u hu
          simp only [rgCells, List.mem_cons, List.not_mem_nil, or_false] at hu
          rcases hu with rfl | rfl | rfl | rfl <;> rfl
         case h63Be => unfold maxLen; omega
         case hbytesBe => omega
         case hbaseBe => simp at sz4 ⊢; omega
         case hHBe => simp
         case hrestBe =>
          intro g5 cap5 w5 hown5 hgrow5 hat5 hgl5
          obtain ⟨hb5, hr5, hx5⟩ := ls_grown (uh LX) hgrow5
          have L5 := hide (ls_close (gr := ⟨TT s (j + 1), PP s (j + 1), 2, TT s (j + 3), PP s (j + 3)⟩) (uh LX) hlt hgrow5 hown5 (by omega) false)
          obtain ⟨q0, q1, q2, q3, q4, q5, q6, q7⟩ := hx5.eight
          have zq := hx5.fz
          have lq := hx5.lt
          clear hb5 hr5 hx5 hown5 hgrow5 hat5 p0 p1 p2 p3 p4 p5 p6 p7 zp g0 g1 g2 g3 zg r0 r1 r2 r3 r4 zr
          go_wp2
          go_roundg fu
          case measure => omega
          case rel =>
           have PC := hide (show LsC (TT s) (PP s) i a R fu false (j + 3) 2 (PP s (j + 3)) (gs ++ [⟨TT s (j + 1), PP s (j + 1), 2, TT s (j + 3), PP s (j + 3)⟩]) from .inr (.inr ⟨rfl, by decide, by have := uh HIJ; omega, j + 3, rfl, (uh HCC).symm⟩))
           refine ⟨false, j + 3, 2, PP s (j + 3), gs ++ [⟨TT s (j + 1), PP s (j + 1), 2, TT s (j + 3), PP s (j + 3)⟩], some ⟨g5, 0, none⟩, cap5, rfl, ?_, by omega, PC⟩
           with_reducible exact uh L5
        ·by_cases hl3 : 8 < (TT s (j + 3)).size
         ·have hg1 : grantR (TT s) (PP s) (j + 1) = .error (3, j + 3) := by unfold grantR; rw [hg0]; simp only [hst, hha, nameR, hn3, hl3]; rfl
          rw [listL_bad _ _ _ _ _ _ hg1] at HCC
          clear hg0 hg1 hst hha
          refine (rname_big b s tv (j + 3) d a kv rv pv true _ (uh M4).rs hn3 hl3).mono ?_
          rintro e w4 ⟨rfl, b4, k4⟩
          have L4 := hide ((uh M4).step (j' := j + 3) hlt b4 k4 (by omega))
          have GB4 := hide ((uh N4).but b4 n1)
          have sz5 := b4.size
          have sz6 := (uh N4).lt
          have BW4 := hide (Below.refl w4.heap.size w4)
          clear b4 k4 M4 N4
          unfold tkv
          obtain ⟨p0, p1, p2, p3, p4, p5, p6, p7⟩ := (uh L4).box.eight
          have zp := (uh L4).box.fz
          obtain ⟨g0, g1, g2, g3⟩ := (uh GB4).four
          have zg := (uh GB4).fz
          obtain ⟨r0, r1, r2, r3, r4, _⟩ := (uh L4).rs.blk.eight
          have zr := (uh L4).rs.blk.fz
          have n1 : ¬ (w2.heap.size + 1 = b) := by omega
          have n2 : ¬ (b = w2.heap.size + 1) := by omega
          have n3 : ¬ (w.heap.size = b) := by omega
          have n4 : ¬ (b = w.heap.size) := by omega
          have n5 : ¬ (w.heap.size = w2.heap.size + 1) := by omega
          have n6 : ¬ (w2.heap.size + 1 = w.heap.size) := by omega
          have lgb := (uh GB4).lt
          have lpb := (uh L4).box.lt
          have lrb := (uh L4).rs.lt
          have n7 : ¬ (w4.heap.size = w2.heap.size + 1) := by omega
          have n8 : ¬ (w2.heap.size + 1 = w4.heap.size) := by omega
          have n9 : ¬ (w4.heap.size = w.heap.size) := by omega
          have n10 : ¬ (w.heap.size = w4.heap.size) := by omega
          have n11 : ¬ (w4.heap.size = b) := by omega
          have n12 : ¬ (b = w4.heap.size) := by omega
          clear hn3
          have LX := hide ((((uh L4).far (uh GB4) n2 (by omega) (uh HRW) 1 (.string (TT s (j + 3)))).far ((uh GB4).set 1 _) n2 (by omega) (uh HRW) 3 (.int .i64 (PP s (j + 3)))).below ((Below.refl _ _).alloc (Nat.le_refl _) (.cells #[.string (TT s (j + 3)), .int .i64 (PP s (j + 3)), .bool (wordT (TT s (j + 3)))] 259)))
          have lgs := (uh LX).len
          have O4 := hide (uh LX).row
          have sz4 := (uh LX).but.size
          go_wp2_with (at_builtin; go_must (refine wpList_append_lies _ rfl _ _ 253 rfl w.heap.size 257 i0 _ 4 48 Tryz.underlying253 (uh HI) (uh HZ0) (uh HZ1) (uh HZ2) rfl (by decide) (.slice ga gs.length gc) gs.length (gs.flatMap rgCells) rfl ?hownBf ⟨w4.heap.size + 1, 0, none⟩ 1 1 (rgCells ⟨TT s (j + 1), PP s (j + 1), 2, TT s (j + 3), PP s (j + 3)⟩) rfl rfl ?hnewsBf ?honeBf (by decide) ?h63Bf ?hbytesBf ?hbaseBf (w4.heap.size + 1 + 1) ?hHBf ?hrestBf))
          case hownBf => exact (uh O4).alloc _
          case hnewsBf => exact World.news_of_block (B := w4.heap.size + 1) (cs := #[.string (TT s (j + 1)), .string (TT s (j + 3)), .int .i64 (PP s (j + 1)), .int .i64 (PP s (j + 3))]) (t := 257) (fr := (0, 0)) (Blk.new' _ _ _ _ (by simp))
          case honeBf =>
           intro u hu
           simp only [rgCells, List.mem_cons, List.not_mem_nil, or_false] at hu
           rcases hu with rfl | rfl | rfl | rfl <;> rfl
          case h63Bf => unfold maxLen; omega
          case hbytesBf => omega
          case hbaseBf => simp at sz4 ⊢; omega
          case hHBf => simp
          case hrestBf =>
           intro g5 cap5 w5 hown5 hgrow5 hat5 hgl5
           obtain ⟨hb5, hr5, hx5⟩ := ls_grown (uh LX) hgrow5
           have L5 := hide (ls_close (gr := ⟨TT s (j + 1), PP s (j + 1), 2, TT s (j + 3), PP s (j + 3)⟩) (uh LX) hlt hgrow5 hown5 (by omega) false)
           obtain ⟨q0, q1, q2, q3, q4, q5, q6, q7⟩ := hx5.eight
           have zq := hx5.fz
           have lq := hx5.lt
           clear hb5 hr5 hx5 hown5 hgrow5 hat5 p0 p1 p2 p3 p4 p5 p6 p7 zp g0 g1 g2 g3 zg r0 r1 r2 r3 r4 zr
           go_wp2
           go_roundg fu
           case measure => omega
           case rel =>
            have PC := hide (show LsC (TT s) (PP s) i a R fu false (j + 3) 3 (PP s (j + 3)) (gs ++ [⟨TT s (j + 1), PP s (j + 1), 2, TT s (j + 3), PP s (j + 3)⟩]) from .inr (.inr ⟨rfl, by decide, by have := uh HIJ; omega, j + 3, rfl, (uh HCC).symm⟩))
            refine ⟨false, j + 3, 3, PP s (j + 3), gs ++ [⟨TT s (j + 1), PP s (j + 1), 2, TT s (j + 3), PP s (j + 3)⟩], some ⟨g5, 0, none⟩, cap5, rfl, ?_, by omega, PC⟩
            with_reducible exact uh L5
         ·have hg1 : grantR (TT s) (PP s) (j + 1) = .ok (⟨TT s (j + 1), PP s (j + 1), 2, TT s (j + 3), PP s (j + 3)⟩, j + 4) := by unfold grantR; rw [hg0]; simp only [hst, hha, nameR, hn3, hl3]; rfl
          rw [listL_ok _ _ _ _ _ _ _ hg1] at HCC
          clear hg0 hg1 hst hha
          refine (rname_ok b s tv (j + 3) d a kv rv pv _ (uh M4).rs hn3 (by omega)).mono ?_
          rintro e w4 ⟨rfl, b4, k4⟩
          have L4 := hide ((uh M4).step (j' := j + 4) hlt b4 k4 (by omega))
          have GB4 := hide ((uh N4).but b4 n1)
          have sz5 := b4.size
          have sz6 := (uh N4).lt
          have BW4 := hide (Below.refl w4.heap.size w4)
          clear b4 k4 M4 N4
          unfold tkv
          obtain ⟨p0, p1, p2, p3, p4, p5, p6, p7⟩ := (uh L4).box.eight
          have zp := (uh L4).box.fz
          obtain ⟨g0, g1, g2, g3⟩ := (uh GB4).four
          have zg := (uh GB4).fz
          obtain ⟨r0, r1, r2, r3, r4, _⟩ := (uh L4).rs.blk.eight
          have zr := (uh L4).rs.blk.fz
          have n1 : ¬ (w2.heap.size + 1 = b) := by omega
          have n2 : ¬ (b = w2.heap.size + 1) := by omega
          have n3 : ¬ (w.heap.size = b) := by omega
          have n4 : ¬ (b = w.heap.size) := by omega
          have n5 : ¬ (w.heap.size = w2.heap.size + 1) := by omega
          have n6 : ¬ (w2.heap.size + 1 = w.heap.size) := by omega
          have lgb := (uh GB4).lt
          have lpb := (uh L4).box.lt
          have lrb := (uh L4).rs.lt
          have n7 : ¬ (w4.heap.size = w2.heap.size + 1) := by omega
          have n8 : ¬ (w2.heap.size + 1 = w4.heap.size) := by omega
          have n9 : ¬ (w4.heap.size = w.heap.size) := by omega
          have n10 : ¬ (w.heap.size = w4.heap.size) := by omega
          have n11 : ¬ (w4.heap.size = b) := by omega
          have n12 : ¬ (b = w4.heap.size) := by omega
          clear hn3
          have LX := hide ((((uh L4).far (uh GB4) n2 (by omega) (uh HRW) 1 (.string (TT s (j + 3)))).far ((uh GB4).set 1 _) n2 (by omega) (uh HRW) 3 (.int .i64 (PP s (j + 3)))).below ((Below.refl _ _).alloc (Nat.le_refl _) (.cells #[.string (TT s (j + 3)), .int .i64 (PP s (j + 3)), .bool (wordT (TT s (j + 3)))] 259)))
          have lgs := (uh LX).len
          have O4 := hide (uh LX).row
          have sz4 := (uh LX).but.size
          go_wp2_with (at_builtin; go_must (refine wpList_append_lies _ rfl _ _ 253 rfl w.heap.size 257 i0 _ 4 48 Tryz.underlying253 (uh HI) (uh HZ0) (uh HZ1) (uh HZ2) rfl (by decide) (.slice ga gs.length gc) gs.length (gs.flatMap rgCells) rfl ?hownBg ⟨w4.heap.size + 1, 0, none⟩ 1 1 (rgCells ⟨TT s (j + 1), PP s (j + 1), 2, TT s (j + 3), PP s (j + 3)⟩) rfl rfl ?hnewsBg ?honeBg (by decide) ?h63Bg ?hbytesBg ?hbaseBg (w4.heap.size + 1 + 1) ?hHBg ?hrestBg))
          case hownBg => exact (uh O4).alloc _
          case hnewsBg => exact World.news_of_block (B := w4.heap.size + 1) (cs := #[.string (TT s (j + 1)), .string (TT s (j + 3)), .int .i64 (PP s (j + 1)), .int .i64 (PP s (j + 3))]) (t := 257) (fr := (0, 0)) (Blk.new' _ _ _ _ (by simp))
          case honeBg =>
           intro u hu
           simp only [rgCells, List.mem_cons, List.not_mem_nil, or_false] at hu
           rcases hu with rfl | rfl | rfl | rfl <;> rfl
          case h63Bg => unfold maxLen; omega
          case hbytesBg => omega
          case hbaseBg => simp at sz4 ⊢; omega
          case hHBg => simp
          case hrestBg =>
           intro g5 cap5 w5 hown5 hgrow5 hat5 hgl5
           obtain ⟨hb5, hr5, hx5⟩ := ls_grown (uh LX) hgrow5
           have L5 := hide (ls_close (gr := ⟨TT s (j + 1), PP s (j + 1), 2, TT s (j + 3), PP s (j + 3)⟩) (uh LX) hlt hgrow5 hown5 (by omega) false)
           obtain ⟨q0, q1, q2, q3, q4, q5, q6, q7⟩ := hx5.eight
           have zq := hx5.fz
           have lq := hx5.lt
           clear hb5 hr5 hx5 hown5 hgrow5 hat5 p0 p1 p2 p3 p4 p5 p6 p7 zp g0 g1 g2 g3 zg r0 r1 r2 r3 r4 zr
           go_wp2
           go_roundg fu
           case measure => omega
           case rel =>
            have PC := hide (show LsC (TT s) (PP s) i a R fu false (j + 4) 0 (a) (gs ++ [⟨TT s (j + 1), PP s (j + 1), 2, TT s (j + 3), PP s (j + 3)⟩]) from .inr (.inl ⟨rfl, rfl, rfl, by have := uh HIJ; omega, uh HCC⟩))
            refine ⟨false, j + 4, 0, a, gs ++ [⟨TT s (j + 1), PP s (j + 1), 2, TT s (j + 3), PP s (j + 3)⟩], some ⟨g5, 0, none⟩, cap5, rfl, ?_, by omega, PC⟩
            with_reducible exact uh L5
      ·have hha : eqs (TT s (j + 2)) (sg 35) = false := by
        unfold eqs at hst ⊢
        rw [beq_iff_eq] at hst
        rw [hst]; decide
       have hg1 : grantR (TT s) (PP s) (j + 1) = .ok (⟨TT s (j + 1), PP s (j + 1), 1, em, 0⟩, j + 3) := by unfold grantR; rw [hg0]; simp only [hst, if_true]
       rw [listL_ok _ _ _ _ _ _ _ hg1] at HCC
       have HG3 := hide (show Gd s (j + 2 + 1) from (uh L2).rs.gd.succ (eqs_pos hst (by decide)))
       clear hg0 hg1
       go_wp2_with fail
       refine (is_okB b s tv (j + 2) d a kv rv pv (sg 42) _ ?r1Bh true hst).mono ?_
       case r1Bh => exact ((uh L2).below (by repeat (first | with_reducible exact uh BW2 | with_reducible refine Below.drew ?_ | (with_reducible refine Below.setCell ?_ ?_ _; rotate_left; exact (by first | omega | (simp; omega) | simp | (simp; done))) | (with_reducible refine Below.alloc ?_ ?_ _; rotate_left; exact (by first | omega | (simp; omega) | simp | (simp; done)))))).rs
       rintro e w3 ⟨rfl, hb3⟩
       have GB3 := hide ((Blk.new' (w2.alloc (.cells #[.string (TT s (j + 1)), .int .i64 (PP s (j + 1)), .bool (wordT (TT s (j + 1)))] 259)) #[.string (TT s (j + 1)), .string ⟨#[]⟩, .int .i64 (PP s (j + 1)), .int .i64 0] 257 (w2.heap.size + 1) (by simp)).below hb3)
       have L3 := hide (((uh L2).below (by repeat (first | with_reducible exact uh BW2 | with_reducible refine Below.drew ?_ | (with_reducible refine Below.setCell ?_ ?_ _; rotate_left; exact (by first | omega | (simp; omega) | simp | (simp; done))) | (with_reducible refine Below.alloc ?_ ?_ _; rotate_left; exact (by first | omega | (simp; omega) | simp | (simp; done)))))).below hb3)
       clear hb3 L2 BW2
       go_wp2_with fail
       refine (is_okB b s tv (j + 2) d a kv rv pv (sg 35) _ (uh L3).rs false hha).mono ?_
       rintro e w4 ⟨rfl, hb4⟩
       have L4 := hide ((uh L3).below hb4)
       have GB4 := hide ((uh GB3).below hb4)
       clear hb4 GB3 L3
       clear hst hha
       obtain ⟨p0, p1, p2, p3, p4, p5, p6, p7⟩ := (uh L4).box.eight
       have zp := (uh L4).box.fz
       obtain ⟨g0, g1, g2, g3⟩ := (uh GB4).four
       have zg := (uh GB4).fz
       obtain ⟨r0, r1, r2, r3, r4, _⟩ := (uh L4).rs.blk.eight
       have zr := (uh L4).rs.blk.fz
       have n1 : ¬ (w2.heap.size + 1 = b) := by omega
       have n2 : ¬ (b = w2.heap.size + 1) := by omega
       have n3 : ¬ (w.heap.size = b) := by omega
       have n4 : ¬ (b = w.heap.size) := by omega
       have n5 : ¬ (w.heap.size = w2.heap.size + 1) := by omega
       have n6 : ¬ (w2.heap.size + 1 = w.heap.size) := by omega
       have LX := hide ((LsI.inc' (uh L4) hlt (uh HG3) ((j : Int) + 2 + 1) (by omega)).far ((uh GB4).other n1 _) n2 (by omega) (uh HRW) 1 (.string ⟨#[42]⟩))
       have lgs := (uh LX).len
       have O4 := hide (uh LX).row
       have sz4 := (uh LX).but.size
       go_wp2_with (at_builtin; go_must (refine wpList_append_lies _ rfl _ _ 253 rfl w.heap.size 257 i0 _ 4 48 Tryz.underlying253 (uh HI) (uh HZ0) (uh HZ1) (uh HZ2) rfl (by decide) (.slice ga gs.length gc) gs.length (gs.flatMap rgCells) rfl ?hownBh ⟨w4.heap.size, 0, none⟩ 1 1 (rgCells ⟨TT s (j + 1), PP s (j + 1), 1, em, 0⟩) rfl rfl ?hnewsBh ?honeBh (by decide) ?h63Bh ?hbytesBh ?hbaseBh (w4.heap.size + 1) ?hHBh ?hrestBh))
       case hownBh => exact (uh O4).alloc _
       case hnewsBh => exact World.news_of_block (B := w4.heap.size) (cs := #[.string (TT s (j + 1)), .string ⟨#[42]⟩, .int .i64 (PP s (j + 1)), .int .i64 0]) (t := 257) (fr := (0, 0)) (Blk.new' _ _ _ _ (by simp))
       case honeBh =>
        intro u hu
        simp only [rgCells, List.mem_cons, List.not_mem_nil, or_false] at hu
        rcases hu with rfl | rfl | rfl | rfl <;> rfl
       case h63Bh => unfold maxLen; omega
       case hbytesBh => omega
       case hbaseBh => simp at sz4 ⊢; omega
       case hHBh => simp
       case hrestBh =>
        intro g5 cap5 w5 hown5 hgrow5 hat5 hgl5
        obtain ⟨hb5, hr5, hx5⟩ := ls_grown (uh LX) hgrow5
        have L5 := hide (ls_close (gr := ⟨TT s (j + 1), PP s (j + 1), 1, em, 0⟩) (uh LX) hlt hgrow5 hown5 (by omega) false)
        obtain ⟨q0, q1, q2, q3, q4, q5, q6, q7⟩ := hx5.eight
        have zq := hx5.fz
        have lq := hx5.lt
        clear hb5 hr5 hx5 hown5 hgrow5 hat5 p0 p1 p2 p3 p4 p5 p6 p7 zp g0 g1 g2 g3 zg r0 r1 r2 r3 r4 zr
        go_wp2
        go_roundg fu
        case measure => omega
        case rel =>
         have PC := hide (show LsC (TT s) (PP s) i a R fu false (j + 3) 0 (a) (gs ++ [⟨TT s (j + 1), PP s (j + 1), 1, em, 0⟩]) from .inr (.inl ⟨rfl, rfl, rfl, by have := uh HIJ; omega, uh HCC⟩))
         refine ⟨false, j + 3, 0, a, gs ++ [⟨TT s (j + 1), PP s (j + 1), 1, em, 0⟩], some ⟨g5, 0, none⟩, cap5, rfl, ?_, by omega, PC⟩
         with_reducible exact uh L5
  ·have HI2 := hide hI
   have HIJ3 := hide hij3
   have HCC := hide hc
   clear hI HC HR hc
   go_wp2_with fail
   refine (is_errB b s tv j d e (PP s jj) kv rv pv (sg 44) _ (uh HI2).rs he).mono ?_
   rintro e' w3 ⟨rfl, hb3⟩
   have L3 := hide ((uh HI2).below hb3)
   clear hb3 HI2
   go_wp2_with fail
   refine (sign_err b s tv j d e (PP s jj) kv rv pv (sg 93) _ (uh L3).rs he).mono ?_
   rintro e' w4 ⟨rfl, hb4⟩
   have L4 := hide ((uh L3).below hb4)
   clear hb4 L3
   have T4 := hide ((uh HT0).but (uh L4).but (uh H0).blk hbb hbw)
   have X4 := hide (show RepP w4 (⟨1, gs, em, em, PP s i, 0, [], []⟩, .slice ga gs.length gc, .slice none 0 0, .slice none 0 0) from ⟨own_zero (uh L4).row, World.ownsRow_nil _ _ _ _, World.ownsRow_nil _ _ _ _⟩)
   obtain ⟨p0, p1, p2, p3, p4, p5, p6, p7⟩ := (uh L4).box.eight
   have hb4 : base ≤ w4.heap.size := Nat.le_trans hbw (uh L4).but.size
   go_wp2_with fail
   refine (part_any base b s tv (j) d e (PP s jj) kv rv pv pl l ⟨1, gs, em, em, PP s i, 0, [], []⟩ ga gc none 0 none 0 w4 (uh L4).rs (uh T4) (uh X4) (by omega) hb4 hbb).mono ?_
   rintro e' w6 ⟨pv', rfl, fr, rs6, pt6⟩
   have F6 := hide fr
   have R6 := hide rs6
   have P6 := hide pt6
   clear fr rs6 pt6 p0 p1 p2 p3 p4 p5 p6 p7
   go_wp2
   go_ret
   rw [uh HCC]
   exact ⟨rfl, pv', _, _, (Fr.of_but (uh L4).but hbb hbw).trans (uh F6), uh P6, fresh_row (uh L4).row, he, j, uh HIJ3, uh R6⟩
end Go.Proofs.YtlbpnlngckgcbaaGreatDoor
