import Derived.Test.YtlbpnlngckgcbaaGreatDoorM03
import Derived.Test.YtlbpnlngckgcbaaGreatDoorM04
import Derived.Deep.LoopGhost
namespace Go.Proofs.YtlbpnlngckgcbaaGreatDoor
open Go.RowKit Go.PlainAid
set_option linter.unusedSimpArgs false
set_option linter.unusedVariables false
theorem anyEq_pos {t : ByteArray} {l : List ByteArray} (h : anyEq t l = true) (hl : ∀ x ∈ l, 0 < (lst x).length) : 0 < t.size := by
 unfold anyEq at h
 rw [List.any_eq_true] at h
 obtain ⟨x, hx, he⟩ := h
 exact eqs_pos he (hl x hx)
set_option maxHeartbeats 2000000 in
set_option maxRecDepth 100000 in
theorem joined_unit (b : Nat) (s : ByteArray) (i d : Nat) (w : World) (hs : s.size ≤ 500) (h : At w b s i d) (g cap : Nat) (l : List ByteArray) (part : Nat → Res Ex) (hm : Mono part)
  (hp : ∀ i w, At w b s i d → Calls Tryz.prog 264 #[.pointer (some ⟨b, 0, none⟩)] w (PostE b s d w (part i)))
  (hl : l.length ≤ maxLen) (hpos : ∀ x ∈ l, 0 < (lst x).length) (hg : g ≠ b) (hgl : g < w.heap.size) (hc : ∀ i, i < l.length → w.cell? ⟨g, i, none⟩ = some (.string (l.getD i ByteArray.empty))) :
  Calls Tryz.prog 248 #[.pointer (some ⟨b, 0, none⟩), .func (.func 264) #[.pointer (some ⟨b, 0, none⟩)] #[], .slice (some ⟨g, 0, none⟩) l.length cap] w (PostE b s d w (joinR (TT s) (PP s) l part i)) := by
 have hlt := h.lt
 have Hs : Hid (s.size ≤ maxLen) := hide (by unfold maxLen; omega)
 have Hp := hide hp
 have Hm := hide hm
 have Hc := hide hc
 have Hl := hide hl
 have Hpos := hide hpos
 have A0 := hide h
 clear hp hm hc hl h hpos
 unfold joinR
 cases hr : part i with
 | error e =>
  obtain ⟨c, j⟩ := e
  have C := hide (uh Hp i w (uh A0))
  rw [hr] at C
  clear hr
  go_enter Tryz.func248, Tryz.ntmps248
  go_wp2_with fail
  refine (uh C).mono ?_
  rintro e w1 ⟨b1, v, d', rfl, hv, a1⟩
  have A1 := hide a1
  have B1 := hide b1
  have HV := hide hv
  clear a1 b1 hv
  unfold errv
  go_wp2_with fail
  refine wp_loop_rounds 1 ?_
  rw [rounds_succ]
  go_wp2
  go_ret2
  exact ⟨uh B1, v, d', rfl, uh HV, uh A1⟩
 | ok y =>
  obtain ⟨x0, j0⟩ := y
  have C := hide (uh Hp i w (uh A0))
  rw [hr] at C
  have Hj := hide (uh Hm _ _ _ hr)
  clear hr
  simp only
  generalize hR : joinL (TT s) (PP s) l part 512 x0 j0 = R
  have HR := hide hR
  clear hR
  go_enter Tryz.func248, Tryz.ntmps248
  go_wp2_with fail
  refine (uh C).mono ?_
  rintro e w1 ⟨b1, v, rfl, hv, a1⟩
  have A1 := hide a1
  have B1 := hide b1
  have HV := hide hv
  clear a1 b1 hv
  go_wp2_with fail
  go_loopg [8, 9] 512 (fun k u8 u9 wr => But b w wr ∧ ((u9 = .nilIface ∧ ∃ x j, RepEx b wr x u8 ∧ At wr b s j d ∧ 512 ≤ k + j ∧ Hid (joinL (TT s) (PP s) l part k x j = R)) ∨ (∃ c j d', u9 = errv c ∧ IsI u8 ∧ At wr b s j d' ∧ Hid (R = .error (c, j)))))
  case atStart => exact ⟨uh B1, .inl ⟨rfl, x0, j0, uh HV, uh A1, by omega, HR⟩⟩
  case round =>
   obtain ⟨hb, ⟨rfl, x, j, hv, ha, hk, HJ⟩ | ⟨c, j, d', rfl, hv, ha, HJ⟩⟩ := hrel
   ·have hf : 12 ≤ gk := by have := ha.le; omega
    obtain ⟨f, rfl⟩ : ∃ f, gk = f + 1 := ⟨gk - 1, by omega⟩
    have HA := hide ha
    have HB := hide hb
    have HX := hide hv
    have hc' := hide (show ∀ i, i < l.length → wr.cell? ⟨g, i, none⟩ = some (.string (l.getD i ByteArray.empty)) from fun i hi => (hb.cell hgl hg).trans (uh Hc i hi))
    have hlt' : b < wr.heap.size := ha.lt
    obtain ⟨tx, vx, rfl⟩ := hv.isI
    have c1 := ha.pos.rd.c1
    have c2 := ha.pos.rd.c2
    clear ha hb hv
    have HJ' := uh HJ
    unfold joinL at HJ'
    cases ht : anyEq (TT s j) l
    ·simp only [ht] at HJ'
     have HJ2 := hide HJ'
     clear HJ'
     go_wp2_with fail
     refine (rat_any b s _ _ d g cap l _ (uh HA).pos.rd (uh Hl) (uh hc')).mono ?_
     rintro e w2 ⟨rfl, rfl⟩
     rw [show anyEq (tokT s (K s j)) l = false from ht]
     go_wp2
     go_ret2
     rw [← uh HJ2]
     exact ⟨uh HB, _, rfl, uh HX, uh HA⟩
    ·simp only [ht, if_true] at HJ'
     have HJ2 := hide HJ'
     clear HJ'
     go_wp2_with fail
     refine (rat_any b s _ _ d g cap l _ (uh HA).pos.rd (uh Hl) (uh hc')).mono ?_
     rintro e w2 ⟨rfl, rfl⟩
     rw [show anyEq (tokT s (K s j)) l = true from ht]
     have Ht := hide ht
     clear ht
     go_wp2_with fail
     refine (steps b s j d _ (uh Hs) ((uh HA).alloc _) (anyEq_pos (uh Ht) (uh Hpos))).mono ?_
     rintro e w3 ⟨rfl, a3, b3⟩
     have S3 := hide ((Blk.new w2 #[.int .i64 (tokP s (K s j)), .string (tokT s (K s j))] 137).but b3 (by omega))
     have B3 := hide (But.trans (uh HB) (But.trans ((But.refl b w2).alloc _) b3))
     have X3 := hide (RepEx.but (uh HX) (But.trans ((But.refl b w2).alloc _) b3))
     have A3 := hide a3
     have hlt3 : b < w3.heap.size := a3.lt
     clear a3 b3 c1 c2
     cases hq : part (j + 1) with
     | error e =>
      obtain ⟨c4, j4⟩ := e
      have C3 := hide (uh Hp (j + 1) w3 (uh A3))
      rw [hq] at HJ2 C3
      clear hq
      go_wp2_with fail
      refine (uh C3).mono ?_
      rintro e w4 ⟨b4, v4, d4, rfl, hv4, a4⟩
      have S4 := (uh S3).but b4 (by have := (uh S3).lt; have := (uh HA).lt; omega)
      obtain ⟨s0, s1⟩ := S4.two
      have B4 := hide (But.trans (uh B3) b4)
      have A4 := hide a4
      have V4 := hide hv4
      clear a4 b4 hv4 S4
      unfold errv
      go_wp2_with fail
      refine (join_any _ _ _ _ (.inr ⟨_, _, rfl⟩) (uh V4) _).mono ?_
      rintro e w5 ⟨rfl, hb5⟩
      have B5 := hide (But.trans (uh B4) (But.of_below hb5))
      have A5 := hide ((uh A4).below hb5)
      clear hb5
      go_wp2
      go_roundg 0
      case measure => omega
      case rel => exact ⟨uh B5, .inr ⟨c4, j4, d4, rfl, .inr ⟨_, _, rfl⟩, uh A5, hide (uh HJ2).symm⟩⟩
     | ok y =>
      obtain ⟨y4, j4⟩ := y
      have C3 := hide (uh Hp (j + 1) w3 (uh A3))
      have hj4 : j + 1 < j4 := uh Hm _ _ _ hq
      rw [hq] at HJ2 C3
      clear hq
      go_wp2_with fail
      refine (uh C3).mono ?_
      rintro e w4 ⟨b4, v4, rfl, hv4, a4⟩
      have S4 := (uh S3).but b4 (by have := (uh S3).lt; have := (uh HA).lt; omega)
      obtain ⟨s0, s1⟩ := S4.two
      have B4 := hide (But.trans (uh B3) b4)
      have A4 := hide a4
      have V4 := hide hv4
      have X4 := hide (RepEx.but (uh X3) b4)
      have I4 := hide (show IsI v4 from .inr hv4.isI)
      clear a4 b4 hv4 S4
      go_wp2_with fail
      refine (join_any _ _ _ _ (.inr ⟨_, _, rfl⟩) (uh I4) _).mono ?_
      rintro e w5 ⟨rfl, hb5⟩
      have B5 := hide (But.trans (uh B4) (But.of_below hb5))
      have A5 := hide ((uh A4).below hb5)
      have X5 := hide (RepEx.but (uh X4) (But.of_below hb5))
      have V5 := hide (RepEx.but (uh V4) (But.of_below hb5))
      clear hb5
      go_wp2
      go_roundg f
      case measure => omega
      case rel => exact ⟨uh B5, .inl ⟨rfl, joinE (TT s j) (PP s j) x y4, j4, ⟨_, _, rfl, uh X5, uh V5⟩, uh A5, by omega, hide (uh HJ2)⟩⟩
   ·have HB := hide hb
    have HA := hide ha
    have HX := hide hv
    clear hb ha hv
    unfold errv
    go_wp2
    go_ret2
    rw [uh HJ]
    exact ⟨uh HB, _, d', rfl, uh HX, uh HA⟩
set_option maxHeartbeats 2000000 in
set_option maxRecDepth 100000 in
theorem joined_chain (b : Nat) (s : ByteArray) (i d : Nat) (w : World) (hs : s.size ≤ 500) (h : At w b s i d) (g cap : Nat) (l : List ByteArray) (part : Nat → Res Ex) (hm : Mono part)
  (hp : ∀ i w, At w b s i d → Calls Tryz.prog 249 #[.pointer (some ⟨b, 0, none⟩)] w (PostE b s d w (part i)))
  (hl : l.length ≤ maxLen) (hpos : ∀ x ∈ l, 0 < (lst x).length) (hg : g ≠ b) (hgl : g < w.heap.size) (hc : ∀ i, i < l.length → w.cell? ⟨g, i, none⟩ = some (.string (l.getD i ByteArray.empty))) :
  Calls Tryz.prog 248 #[.pointer (some ⟨b, 0, none⟩), .func (.func 249) #[.pointer (some ⟨b, 0, none⟩)] #[], .slice (some ⟨g, 0, none⟩) l.length cap] w (PostE b s d w (joinR (TT s) (PP s) l part i)) := by
 have hlt := h.lt
 have Hs : Hid (s.size ≤ maxLen) := hide (by unfold maxLen; omega)
 have Hp := hide hp
 have Hm := hide hm
 have Hc := hide hc
 have Hl := hide hl
 have Hpos := hide hpos
 have A0 := hide h
 clear hp hm hc hl h hpos
 unfold joinR
 cases hr : part i with
 | error e =>
  obtain ⟨c, j⟩ := e
  have C := hide (uh Hp i w (uh A0))
  rw [hr] at C
  clear hr
  go_enter Tryz.func248, Tryz.ntmps248
  go_wp2_with fail
  refine (uh C).mono ?_
  rintro e w1 ⟨b1, v, d', rfl, hv, a1⟩
  have A1 := hide a1
  have B1 := hide b1
  have HV := hide hv
  clear a1 b1 hv
  unfold errv
  go_wp2_with fail
  refine wp_loop_rounds 1 ?_
  rw [rounds_succ]
  go_wp2
  go_ret2
  exact ⟨uh B1, v, d', rfl, uh HV, uh A1⟩
 | ok y =>
  obtain ⟨x0, j0⟩ := y
  have C := hide (uh Hp i w (uh A0))
  rw [hr] at C
  have Hj := hide (uh Hm _ _ _ hr)
  clear hr
  simp only
  generalize hR : joinL (TT s) (PP s) l part 512 x0 j0 = R
  have HR := hide hR
  clear hR
  go_enter Tryz.func248, Tryz.ntmps248
  go_wp2_with fail
  refine (uh C).mono ?_
  rintro e w1 ⟨b1, v, rfl, hv, a1⟩
  have A1 := hide a1
  have B1 := hide b1
  have HV := hide hv
  clear a1 b1 hv
  go_wp2_with fail
  go_loopg [8, 9] 512 (fun k u8 u9 wr => But b w wr ∧ ((u9 = .nilIface ∧ ∃ x j, RepEx b wr x u8 ∧ At wr b s j d ∧ 512 ≤ k + j ∧ Hid (joinL (TT s) (PP s) l part k x j = R)) ∨ (∃ c j d', u9 = errv c ∧ IsI u8 ∧ At wr b s j d' ∧ Hid (R = .error (c, j)))))
  case atStart => exact ⟨uh B1, .inl ⟨rfl, x0, j0, uh HV, uh A1, by omega, HR⟩⟩
  case round =>
   obtain ⟨hb, ⟨rfl, x, j, hv, ha, hk, HJ⟩ | ⟨c, j, d', rfl, hv, ha, HJ⟩⟩ := hrel
   ·have hf : 12 ≤ gk := by have := ha.le; omega
    obtain ⟨f, rfl⟩ : ∃ f, gk = f + 1 := ⟨gk - 1, by omega⟩
    have HA := hide ha
    have HB := hide hb
    have HX := hide hv
    have hc' := hide (show ∀ i, i < l.length → wr.cell? ⟨g, i, none⟩ = some (.string (l.getD i ByteArray.empty)) from fun i hi => (hb.cell hgl hg).trans (uh Hc i hi))
    have hlt' : b < wr.heap.size := ha.lt
    obtain ⟨tx, vx, rfl⟩ := hv.isI
    have c1 := ha.pos.rd.c1
    have c2 := ha.pos.rd.c2
    clear ha hb hv
    have HJ' := uh HJ
    unfold joinL at HJ'
    cases ht : anyEq (TT s j) l
    ·simp only [ht] at HJ'
     have HJ2 := hide HJ'
     clear HJ'
     go_wp2_with fail
     refine (rat_any b s _ _ d g cap l _ (uh HA).pos.rd (uh Hl) (uh hc')).mono ?_
     rintro e w2 ⟨rfl, rfl⟩
     rw [show anyEq (tokT s (K s j)) l = false from ht]
     go_wp2
     go_ret2
     rw [← uh HJ2]
     exact ⟨uh HB, _, rfl, uh HX, uh HA⟩
    ·simp only [ht, if_true] at HJ'
     have HJ2 := hide HJ'
     clear HJ'
     go_wp2_with fail
     refine (rat_any b s _ _ d g cap l _ (uh HA).pos.rd (uh Hl) (uh hc')).mono ?_
     rintro e w2 ⟨rfl, rfl⟩
     rw [show anyEq (tokT s (K s j)) l = true from ht]
     have Ht := hide ht
     clear ht
     go_wp2_with fail
     refine (steps b s j d _ (uh Hs) ((uh HA).alloc _) (anyEq_pos (uh Ht) (uh Hpos))).mono ?_
     rintro e w3 ⟨rfl, a3, b3⟩
     have S3 := hide ((Blk.new w2 #[.int .i64 (tokP s (K s j)), .string (tokT s (K s j))] 137).but b3 (by omega))
     have B3 := hide (But.trans (uh HB) (But.trans ((But.refl b w2).alloc _) b3))
     have X3 := hide (RepEx.but (uh HX) (But.trans ((But.refl b w2).alloc _) b3))
     have A3 := hide a3
     have hlt3 : b < w3.heap.size := a3.lt
     clear a3 b3 c1 c2
     cases hq : part (j + 1) with
     | error e =>
      obtain ⟨c4, j4⟩ := e
      have C3 := hide (uh Hp (j + 1) w3 (uh A3))
      rw [hq] at HJ2 C3
      clear hq
      go_wp2_with fail
      refine (uh C3).mono ?_
      rintro e w4 ⟨b4, v4, d4, rfl, hv4, a4⟩
      have S4 := (uh S3).but b4 (by have := (uh S3).lt; have := (uh HA).lt; omega)
      obtain ⟨s0, s1⟩ := S4.two
      have B4 := hide (But.trans (uh B3) b4)
      have A4 := hide a4
      have V4 := hide hv4
      clear a4 b4 hv4 S4
      unfold errv
      go_wp2_with fail
      refine (join_any _ _ _ _ (.inr ⟨_, _, rfl⟩) (uh V4) _).mono ?_
      rintro e w5 ⟨rfl, hb5⟩
      have B5 := hide (But.trans (uh B4) (But.of_below hb5))
      have A5 := hide ((uh A4).below hb5)
      clear hb5
      go_wp2
      go_roundg 0
      case measure => omega
      case rel => exact ⟨uh B5, .inr ⟨c4, j4, d4, rfl, .inr ⟨_, _, rfl⟩, uh A5, hide (uh HJ2).symm⟩⟩
     | ok y =>
      obtain ⟨y4, j4⟩ := y
      have C3 := hide (uh Hp (j + 1) w3 (uh A3))
      have hj4 : j + 1 < j4 := uh Hm _ _ _ hq
      rw [hq] at HJ2 C3
      clear hq
      go_wp2_with fail
      refine (uh C3).mono ?_
      rintro e w4 ⟨b4, v4, rfl, hv4, a4⟩
      have S4 := (uh S3).but b4 (by have := (uh S3).lt; have := (uh HA).lt; omega)
      obtain ⟨s0, s1⟩ := S4.two
      have B4 := hide (But.trans (uh B3) b4)
      have A4 := hide a4
      have V4 := hide hv4
      have X4 := hide (RepEx.but (uh X3) b4)
      have I4 := hide (show IsI v4 from .inr hv4.isI)
      clear a4 b4 hv4 S4
      go_wp2_with fail
      refine (join_any _ _ _ _ (.inr ⟨_, _, rfl⟩) (uh I4) _).mono ?_
      rintro e w5 ⟨rfl, hb5⟩
      have B5 := hide (But.trans (uh B4) (But.of_below hb5))
      have A5 := hide ((uh A4).below hb5)
      have X5 := hide (RepEx.but (uh X4) (But.of_below hb5))
      have V5 := hide (RepEx.but (uh V4) (But.of_below hb5))
      clear hb5
      go_wp2
      go_roundg f
      case measure => omega
      case rel => exact ⟨uh B5, .inl ⟨rfl, joinE (TT s j) (PP s j) x y4, j4, ⟨_, _, rfl, uh X5, uh V5⟩, uh A5, by omega, hide (uh HJ2)⟩⟩
   ·have HB := hide hb
    have HA := hide ha
    have HX := hide hv
    clear hb ha hv
    unfold errv
    go_wp2
    go_ret2
    rw [uh HJ]
    exact ⟨uh HB, _, d', rfl, uh HX, uh HA⟩
theorem Tryz.info207 : (Tryz.prog.info? 207).map (fun i => (i.zero, i.size, i.bytes)) = some (some (.agg #[.int .i64 0, .string ⟨#[]⟩, .int .i64 0, .int .i64 0, .string ⟨#[]⟩]), 5, 56) := by kernel_rfl
def listT (T : Nat → ByteArray) (P : Nat → Nat) (k : Nat) (acc : List Gr) (j : Nat) : Res (List Gr) :=
 if eqs (T j) (sg 44) then listL T P k acc j else if eqs (T j) (sg 93) then .ok (acc, j + 1) else .error (2, j)
theorem own_ne {w : World} {base : Nat} {e : TypeId} {size : Nat} {v : Value} {n : Nat} {xs : List Value} {g : Nat} {cs : Array Value} {T : TypeId} (h : w.ownsRow base e size v n xs) (hb : Blk w g cs T) (ht : T ≠ e) : some g ≠ v.ownBlock := by
 rcases h.2 with ⟨rfl, _⟩ | ⟨g', cap, cur, rfl, hg, hh, r⟩
 ·simp [Value.ownBlock]
 ·intro he
  simp only [Value.ownBlock, Option.some.injEq] at he
  subst he
  unfold Blk at hb
  rw [hb] at hh
  simp at hh
  exact ht hh.2
theorem own_set {w : World} {base : Nat} {e : TypeId} {size : Nat} {v : Value} {n : Nat} {xs : List Value} {g : Nat} {cs : Array Value} {T : TypeId} (h : w.ownsRow base e size v n xs) (hb : Blk w g cs T) (ht : T ≠ e) (o : Nat) (u : Value) : (w.setCell ⟨g, o, none⟩ u).ownsRow base e size v n xs :=
 ownsRow_frame h fun g' cs' f hg hh => Below.heap_setCell _ _ _ _ (fun (e' : g' = g) => by
  subst e'
  unfold Blk at hb
  rw [hb] at hh
  simp at hh
  exact ht hh.2.1)
theorem ownsRow_base {w : World} {base base' : Nat} {e : TypeId} {size : Nat} {v : Value} {n : Nat} {xs : List Value} (h : w.ownsRow base e size v n xs) (hb : base' ≤ base) : w.ownsRow base' e size v n xs := by
 obtain ⟨h1, h2⟩ := h
 refine ⟨h1, ?_⟩
 rcases h2 with h2 | ⟨g, cap, cur, hv, hg, r⟩
 ·exact Or.inl h2
 ·exact Or.inr ⟨g, cap, cur, hv, Nat.le_trans hb hg, r⟩
theorem gsCells_snoc (l : List Gr) (g : Gr) : gsCells (l ++ [g]) = gsCells l ++ (grCells g).toList := by simp [gsCells]
theorem But.grown {b : Nat} {x y z : World} {row : Option Nat} (h : But b x y) (hg : y.grownBy z row) (hr : ∀ k, row = some k → x.heap.size ≤ k) : But b x z :=
 ⟨hg.os.trans h.os, hg.tape.trans h.tape, hg.output.trans h.output, Nat.le_trans h.size hg.size, fun k hk hb => (hg.block k (Nat.lt_of_lt_of_le hk h.size) (fun e => by have := hr k e.symm; omega)).trans (h.block k hk hb)⟩
theorem Blk.new' (w : World) (cs : Array Value) (T n : Nat) (h : n = w.heap.size) : Blk (w.alloc (.cells cs T)) n cs T := by subst h; exact Blk.new w cs T
theorem gr_one (g : Gr) : ∀ u ∈ (grCells g).toList, u.oneCell' = true := by
 intro u hu
 simp [grCells] at hu
 rcases hu with rfl | rfl | rfl | rfl | rfl <;> rfl
def listM (P : Nat → Nat) (i : Nat) (R : Res (List Gr)) : Res Ex := match R with
 | .error e => .error e
 | .ok (gs, j) => .ok (listE P i gs, j)
set_option maxHeartbeats 2000000 in
set_option maxRecDepth 100000 in
theorem list_post (b : Nat) (s : ByteArray) (i d : Nat) (w : World) (hs : s.size ≤ 500) (h : At w b s i d) (he : eqs (TT s i) (sg 91) = true) :
  Calls Tryz.prog 271 #[.pointer (some ⟨b, 0, none⟩)] w (PostE b s d w (listR (TT s) (PP s) i)) := by
 have hlt := h.lt
 have Hs : Hid (s.size ≤ maxLen) := hide (by unfold maxLen; omega)
 have He := hide (eqs_pos he (by decide))
 have A0 := hide h
 have c1 := h.pos.rd.c1
 clear h he
 obtain ⟨i0, hi, hz0, hz1, hz2⟩ := info_parts Tryz.info207
 have HI := hide hi
 have HZ0 := hide hz0
 have HZ1 := hide hz1
 have HZ2 := hide hz2
 clear hi hz0 hz1 hz2
 change Calls _ _ _ _ (PostE b s d w (listM (PP s) i (listL (TT s) (PP s) 512 [] i)))
 generalize hR : listL (TT s) (PP s) 512 [] i = R
 have HR := hide hR
 clear hR
 go_enter Tryz.func271, Tryz.ntmps271
 go_wp2_with fail
 go_loopg [5] 512 (fun k u5 wr => ∃ (f : Bool) (acc : List Gr) (j : Nat) (sv : Value), u5 = .bool f ∧ But b w wr ∧ At wr b s j d ∧ 512 ≤ k + j ∧ acc.length ≤ j ∧
  Blk wr w.heap.size #[.int .i64 (tokP s (K s i)), sv] 236 ∧ wr.ownsRow w.heap.size 207 5 sv acc.length (gsCells acc) ∧
  Hid ((f = true → j = i ∧ listL (TT s) (PP s) k acc j = R) ∧ (f = false → listT (TT s) (PP s) k acc j = R)))
 case atStart => exact ⟨true, [], i, _, rfl, (But.refl b w).alloc _, (uh A0).alloc _, by omega, by simp, Blk.new _ _ _, World.ownsRow_nil _ _ _ _, hide ⟨fun _ => ⟨rfl, uh HR⟩, fun h => by cases h⟩⟩
 case round =>
  obtain ⟨f, acc, j, sv, rfl, hb, ha, hk, hac, hl, ho, HQ⟩ := hrel
  have hf : 12 ≤ gk := by have := ha.le; omega
  obtain ⟨fu, rfl⟩ : ∃ f, gk = f + 1 := ⟨gk - 1, by omega⟩
  have HA := hide ha
  have HB := hide hb
  have HL := hide hl
  have HO := hide ho
  obtain ⟨l0, l1⟩ := hl.two
  have zl := hl.fz
  have hll := hl.lt
  have hlr := ha.lt
  clear ha hb hl ho
  cases f with
  | true =>
   obtain ⟨e1, e2⟩ := (uh HQ).1 rfl
   have HF := hide e2
   have Hj : Hid (0 < (TT s j).size) := hide (by rw [e1]; exact uh He)
   clear e1 e2 HQ
   go_wp2_with fail
   refine (steps b s j d _ (uh Hs) ?_ (uh Hj)).mono ?_
   ·exact (by repeat (first | with_reducible exact uh HA | with_reducible refine At.alloc ?_ _ | with_reducible refine At.drew ?_ | (with_reducible refine At.setNew ?_ ?_ _; rotate_left; exact (by first | omega | (simp; omega) | simp | (simp; done)))))
   rintro e w2 ⟨rfl, a2, b2⟩
   have L2 := hide (Blk.but (g := w.heap.size) (T := 236) (by repeat (first | with_reducible exact uh HL | with_reducible apply Blk.alloc | with_reducible apply Blk.drew | with_reducible apply Blk.set | (with_reducible apply Blk.other; case ha => exact (by first | omega | (simp; omega) | simp | (simp; done))))) b2 (by omega))
   have O2 := hide (ownsRow_frame (w' := w2) (uh HO) (fun g cs f hg hh => (b2.block g (by first | exact lt_of_some hh | (have := lt_of_some hh; simp; omega)) (by omega)).trans (by first | rfl | exact Below.heap_alloc _ _ _ (lt_of_some hh))))
   have B2 := hide (But.trans (x := w) (by repeat (first | with_reducible exact uh HB | with_reducible refine But.alloc ?_ _ | with_reducible refine But.drew ?_ | (with_reducible refine But.setNew ?_ ?_ _; rotate_left; exact (by first | omega | (simp; omega) | simp | (simp; done))))) b2)
   have A2 := hide a2
   clear a2 b2
   have hfu := uh HF
   unfold listL at hfu
   cases hq : grantR (TT s) (PP s) (j + 1) with
   | error e =>
    obtain ⟨c3, j3⟩ := e
    rw [hq] at hfu
    have HF2 := hide hfu
    have C := hide (grant_post b s (j + 1) d w2 (uh Hs) (uh A2))
    rw [hq] at C
    clear hq hfu
    go_wp2_with fail
    refine (uh C).mono ?_
    rintro e w3 ⟨b3, v3, d3, rfl, ⟨g3, rfl⟩, a3⟩
    have L3 := (uh L2).but b3 (by omega)
    have lt3 := L3.lt
    obtain ⟨l0, l1⟩ := L3.two
    have B3 := hide (But.trans (uh B2) b3)
    have A3 := hide a3
    clear a3 b3 L3
    unfold errv grv grCells
    go_wp2
    go_ret2
    rw [← uh HF2]
    exact ⟨(by repeat (first | with_reducible exact uh B3 | with_reducible refine But.alloc ?_ _ | with_reducible refine But.drew ?_ | (with_reducible refine But.setNew ?_ ?_ _; rotate_left; exact (by first | omega | (simp; omega) | simp | (simp; done))))), _, d3, rfl, .inr ⟨_, _, rfl⟩, (by repeat (first | with_reducible exact uh A3 | with_reducible refine At.alloc ?_ _ | with_reducible refine At.drew ?_ | (with_reducible refine At.setNew ?_ ?_ _; rotate_left; exact (by first | omega | (simp; omega) | simp | (simp; done)))))⟩
   | ok y =>
    obtain ⟨g3, j3⟩ := y
    have hj3 := grantR_mono _ _ _ _ _ hq
    rw [hq] at hfu
    have HF2 := hide hfu
    have C := hide (grant_post b s (j + 1) d w2 (uh Hs) (uh A2))
    rw [hq] at C
    clear hq hfu
    go_wp2_with fail
    refine (uh C).mono ?_
    rintro e w3 ⟨b3, v3, rfl, rfl, a3⟩
    have L3 := (uh L2).but b3 (by omega)
    have lt3 := L3.lt
    obtain ⟨l0, l1⟩ := L3.two
    have zl := L3.fz
    have HL3 := hide L3
    have O3 := hide (ownsRow_frame (w' := w3) (uh O2) (fun g cs f hg hh => b3.block g (lt_of_some hh) (by omega)))
    have B3 := hide (But.trans (uh B2) b3)
    have A3 := hide a3
    have le3 := a3.le
    clear a3 b3 L3
    unfold grv grCells
    go_wp2_with (at_builtin; go_must (refine wpList_append_lies _ rfl _ _ 211 rfl w.heap.size 207 i0 _ 5 56 Tryz.underlying211 (uh HI) (uh HZ0) (uh HZ1) (uh HZ2) rfl (by decide) sv acc.length (gsCells acc) rfl ?hown ⟨w3.heap.size + 1, 0, none⟩ 1 1 (grCells g3).toList rfl rfl ?hnews ?hone (by decide) ?h63 ?hbytes ?hbase (w3.heap.size + 2) ?hH ?hrest))
    case hown => exact ((uh O3).alloc _).alloc _
    case hnews => exact World.news_of_block (B := w3.heap.size + 1) (cs := grCells g3) (t := 207) (fr := (0, 0)) (Blk.new' (w3.alloc _) _ _ _ (by simp))
    case hone => exact gr_one g3
    case h63 => unfold maxLen; omega
    case hbytes => omega
    case hbase => simp; omega
    case hH => simp
    case hrest =>
     intro g4 cap4 w4 hown4 hgrow4 hat4 hgl4
     have L3' := ((uh HL3).alloc (.cells (grCells g3) 207)).alloc (.cells (grCells g3) 207)
     have O3' := ((uh O3).alloc (.cells (grCells g3) 207)).alloc (.cells (grCells g3) 207)
     have A3' := ((uh A3).alloc (.cells (grCells g3) 207)).alloc (.cells (grCells g3) 207)
     have L4 : Blk w4 w.heap.size #[.int .i64 (tokP s (K s i)), sv] 236 := (hgrow4.block _ L3'.lt (own_ne O3' L3' (by decide))).trans L3'
     have A4 := hide (A3'.grown hgrow4 (own_ne O3' A3'.pos.rd.blk (by decide)))
     have B4 := hide (But.grown (((uh B3).alloc (.cells (grCells g3) 207)).alloc (.cells (grCells g3) 207)) hgrow4 (fun k hk => (O3'.lt k hk).1))
     have O4 := hide hown4
     have HL4 := hide L4
     obtain ⟨m0, m1⟩ := L4.two
     have zm := L4.fz
     have ml := L4.lt
     clear L3' O3' A3' hown4 hgrow4 hat4 L4 l0 l1 zl
     go_wp2
     go_roundg fu
     case measure => omega
     case rel => exact ⟨false, acc ++ [g3], j3, _, rfl, (by repeat (first | with_reducible exact uh B4 | with_reducible refine But.alloc ?_ _ | with_reducible refine But.drew ?_ | (with_reducible refine But.setNew ?_ ?_ _; rotate_left; exact (by first | omega | (simp; omega) | simp | (simp; done))))), (by repeat (first | with_reducible exact uh A4 | with_reducible refine At.alloc ?_ _ | with_reducible refine At.drew ?_ | (with_reducible refine At.setNew ?_ ?_ _; rotate_left; exact (by first | omega | (simp; omega) | simp | (simp; done))))), by omega, by simp; omega, (uh HL4).set 1 _, by rw [List.length_append, gsCells_snoc]; exact own_set (uh O4) (uh HL4) (by decide) 1 _, hide ⟨fun h => (by cases h), fun _ => uh HF2⟩⟩
  | false =>
   have hq := (uh HQ).2 rfl
   unfold listT at hq
   cases ht : eqs (TT s j) (sg 44)
   ·simp only [ht] at hq
    go_wp2_with fail
    refine (ats b s j d _ _ (sg 44) _ ?_ ?_).mono ?_
    ·exact (by repeat (first | with_reducible exact uh HA | with_reducible refine At.alloc ?_ _ | with_reducible refine At.drew ?_ | (with_reducible refine At.setNew ?_ ?_ _; rotate_left; exact (by first | omega | (simp; omega) | simp | (simp; done)))))
    ·exact cell_new1 _ _ _ _ (by simp)
    rintro e w1 ⟨rfl, rfl⟩
    rw [ht]
    clear ht HQ
    have HQ2 := hide hq
    clear hq
    go_wp2_with fail
    cases hc : eqs (TT s j) (sg 93)
    ·have HC := hide hc
     clear hc
     go_region_held3 (fun w' => w'.cell? ⟨w.heap.size, 0, none⟩ = some (.int .i64 (tokP s (K s i))) ∧ w'.cell? ⟨w.heap.size, 1, none⟩ = some sv)
      (go_keep) ((go_at_call 169; refine (takes_no b s j d (sg 93) _ ?_ (uh HC)).mono ?_; (exact ((uh HA).alloc _).drew); rintro e w2 ⟨rfl, a2, b2⟩; have L2 := ((uh HL).alloc (.cells #[.string ⟨#[44]⟩] 9)).drew.but b2 (by omega); obtain ⟨m0, m1⟩ := L2.two; have A2 := hide a2; have O2 := hide (ownsRow_frame (w' := w2) (uh HO) (fun g cs f hg hh => (b2.block g (by have := lt_of_some hh; simp; omega) (by omega)).trans (Below.heap_alloc _ _ _ (lt_of_some hh)))); have B2 := hide (But.trans (x := w) ((uh HB).alloc (.cells #[.string ⟨#[44]⟩] 9)).drew b2); clear L2 a2 b2))
     all_goals
      go_wp2
      go_ret2
      have hQ := uh HQ2
      rw [uh HC] at hQ
      simp only [if_true, Bool.false_eq_true, if_false] at hQ
      rw [← hQ]
      exact ⟨uh B2, _, d, rfl, .inr ⟨_, _, rfl⟩, uh A2⟩
    ·have HC := hide hc
     clear hc
     go_region_held3 (fun w' => w'.cell? ⟨w.heap.size, 0, none⟩ = some (.int .i64 (tokP s (K s i))) ∧ w'.cell? ⟨w.heap.size, 1, none⟩ = some sv)
      (go_keep) ((go_at_call 169; refine (takes_yes b s j d (sg 93) _ (uh Hs) ?_ (uh HC) (by decide)).mono ?_; (exact ((uh HA).alloc _).drew); rintro e w2 ⟨rfl, a2, b2⟩; have L2 := ((uh HL).alloc (.cells #[.string ⟨#[44]⟩] 9)).drew.but b2 (by omega); obtain ⟨m0, m1⟩ := L2.two; have A2 := hide a2; have O2 := hide (ownsRow_frame (w' := w2) (uh HO) (fun g cs f hg hh => (b2.block g (by have := lt_of_some hh; simp; omega) (by omega)).trans (Below.heap_alloc _ _ _ (lt_of_some hh)))); have B2 := hide (But.trans (x := w) ((uh HB).alloc (.cells #[.string ⟨#[44]⟩] 9)).drew b2); clear L2 a2 b2))
     all_goals
      go_wp2
      go_ret2
      have hQ := uh HQ2
      rw [uh HC] at hQ
      simp only [if_true, Bool.false_eq_true, if_false] at hQ
      rw [← hQ]
      exact ⟨uh B2, _, rfl, .inl ⟨rfl, _, rfl, ownsRow_base (uh O2) (by omega)⟩, uh A2⟩
   ·simp only [ht, if_true] at hq
    have HF := hide hq
    have Hj : Hid (0 < (TT s j).size) := hide (eqs_pos ht (by decide))
    clear hq HQ
    go_wp2_with fail
    refine (ats b s j d _ _ (sg 44) _ ?_ ?_).mono ?_
    ·exact (by repeat (first | with_reducible exact uh HA | with_reducible refine At.alloc ?_ _ | with_reducible refine At.drew ?_ | (with_reducible refine At.setNew ?_ ?_ _; rotate_left; exact (by first | omega | (simp; omega) | simp | (simp; done)))))
    ·exact cell_new1 _ _ _ _ (by simp)
    rintro e w1 ⟨rfl, rfl⟩
    rw [ht]
    clear ht
    go_wp2_with fail
    refine (steps b s j d _ (uh Hs) ?_ (uh Hj)).mono ?_
    ·exact (by repeat (first | with_reducible exact uh HA | with_reducible refine At.alloc ?_ _ | with_reducible refine At.drew ?_ | (with_reducible refine At.setNew ?_ ?_ _; rotate_left; exact (by first | omega | (simp; omega) | simp | (simp; done)))))
    rintro e w2 ⟨rfl, a2, b2⟩
    have L2 := hide (Blk.but (g := w.heap.size) (T := 236) (by repeat (first | with_reducible exact uh HL | with_reducible apply Blk.alloc | with_reducible apply Blk.drew | with_reducible apply Blk.set | (with_reducible apply Blk.other; case ha => exact (by first | omega | (simp; omega) | simp | (simp; done))))) b2 (by omega))
    have O2 := hide (ownsRow_frame (w' := w2) (uh HO) (fun g cs f hg hh => (b2.block g (by first | exact lt_of_some hh | (have := lt_of_some hh; simp; omega)) (by omega)).trans (by first | rfl | exact Below.heap_alloc _ _ _ (lt_of_some hh))))
    have B2 := hide (But.trans (x := w) (by repeat (first | with_reducible exact uh HB | with_reducible refine But.alloc ?_ _ | with_reducible refine But.drew ?_ | (with_reducible refine But.setNew ?_ ?_ _; rotate_left; exact (by first | omega | (simp; omega) | simp | (simp; done))))) b2)
    have A2 := hide a2
    clear a2 b2
    have hfu := uh HF
    unfold listL at hfu
    cases hq : grantR (TT s) (PP s) (j + 1) with
    | error e =>
     obtain ⟨c3, j3⟩ := e
     rw [hq] at hfu
     have HF2 := hide hfu
     have C := hide (grant_post b s (j + 1) d w2 (uh Hs) (uh A2))
     rw [hq] at C
     clear hq hfu
     go_wp2_with fail
     refine (uh C).mono ?_
     rintro e w3 ⟨b3, v3, d3, rfl, ⟨g3, rfl⟩, a3⟩
     have L3 := (uh L2).but b3 (by omega)
     have lt3 := L3.lt
     obtain ⟨l0, l1⟩ := L3.two
     have B3 := hide (But.trans (uh B2) b3)
     have A3 := hide a3
     clear a3 b3 L3
     unfold errv grv grCells
     go_wp2
     go_ret2
     rw [← uh HF2]
     exact ⟨(by repeat (first | with_reducible exact uh B3 | with_reducible refine But.alloc ?_ _ | with_reducible refine But.drew ?_ | (with_reducible refine But.setNew ?_ ?_ _; rotate_left; exact (by first | omega | (simp; omega) | simp | (simp; done))))), _, d3, rfl, .inr ⟨_, _, rfl⟩, (by repeat (first | with_reducible exact uh A3 | with_reducible refine At.alloc ?_ _ | with_reducible refine At.drew ?_ | (with_reducible refine At.setNew ?_ ?_ _; rotate_left; exact (by first | omega | (simp; omega) | simp | (simp; done)))))⟩
    | ok y =>
     obtain ⟨g3, j3⟩ := y
     have hj3 := grantR_mono _ _ _ _ _ hq
     rw [hq] at hfu
     have HF2 := hide hfu
     have C := hide (grant_post b s (j + 1) d w2 (uh Hs) (uh A2))
     rw [hq] at C
     clear hq hfu
     go_wp2_with fail
     refine (uh C).mono ?_
     rintro e w3 ⟨b3, v3, rfl, rfl, a3⟩
     have L3 := (uh L2).but b3 (by omega)
     have lt3 := L3.lt
     obtain ⟨l0, l1⟩ := L3.two
     have zl := L3.fz
     have HL3 := hide L3
     have O3 := hide (ownsRow_frame (w' := w3) (uh O2) (fun g cs f hg hh => b3.block g (lt_of_some hh) (by omega)))
     have B3 := hide (But.trans (uh B2) b3)
     have A3 := hide a3
     have le3 := a3.le
     clear a3 b3 L3
     unfold grv grCells
     go_wp2_with (at_builtin; go_must (refine wpList_append_lies _ rfl _ _ 211 rfl w.heap.size 207 i0 _ 5 56 Tryz.underlying211 (uh HI) (uh HZ0) (uh HZ1) (uh HZ2) rfl (by decide) sv acc.length (gsCells acc) rfl ?hown ⟨w3.heap.size + 1, 0, none⟩ 1 1 (grCells g3).toList rfl rfl ?hnews ?hone (by decide) ?h63 ?hbytes ?hbase (w3.heap.size + 2) ?hH ?hrest))
     case hown => exact ((uh O3).alloc _).alloc _
     case hnews => exact World.news_of_block (B := w3.heap.size + 1) (cs := grCells g3) (t := 207) (fr := (0, 0)) (Blk.new' (w3.alloc _) _ _ _ (by simp))
     case hone => exact gr_one g3
     case h63 => unfold maxLen; omega
     case hbytes => omega
     case hbase => simp; omega
     case hH => simp
     case hrest =>
      intro g4 cap4 w4 hown4 hgrow4 hat4 hgl4
      have L3' := ((uh HL3).alloc (.cells (grCells g3) 207)).alloc (.cells (grCells g3) 207)
      have O3' := ((uh O3).alloc (.cells (grCells g3) 207)).alloc (.cells (grCells g3) 207)
      have A3' := ((uh A3).alloc (.cells (grCells g3) 207)).alloc (.cells (grCells g3) 207)
      have L4 : Blk w4 w.heap.size #[.int .i64 (tokP s (K s i)), sv] 236 := (hgrow4.block _ L3'.lt (own_ne O3' L3' (by decide))).trans L3'
      have A4 := hide (A3'.grown hgrow4 (own_ne O3' A3'.pos.rd.blk (by decide)))
      have B4 := hide (But.grown (((uh B3).alloc (.cells (grCells g3) 207)).alloc (.cells (grCells g3) 207)) hgrow4 (fun k hk => (O3'.lt k hk).1))
      have O4 := hide hown4
      have HL4 := hide L4
      obtain ⟨m0, m1⟩ := L4.two
      have zm := L4.fz
      have ml := L4.lt
      clear L3' O3' A3' hown4 hgrow4 hat4 L4 l0 l1 zl
      go_wp2
      go_roundg fu
      case measure => omega
      case rel => exact ⟨false, acc ++ [g3], j3, _, rfl, (by repeat (first | with_reducible exact uh B4 | with_reducible refine But.alloc ?_ _ | with_reducible refine But.drew ?_ | (with_reducible refine But.setNew ?_ ?_ _; rotate_left; exact (by first | omega | (simp; omega) | simp | (simp; done))))), (by repeat (first | with_reducible exact uh A4 | with_reducible refine At.alloc ?_ _ | with_reducible refine At.drew ?_ | (with_reducible refine At.setNew ?_ ?_ _; rotate_left; exact (by first | omega | (simp; omega) | simp | (simp; done))))), by omega, by simp; omega, (uh HL4).set 1 _, by rw [List.length_append, gsCells_snoc]; exact own_set (uh O4) (uh HL4) (by decide) 1 _, hide ⟨fun h => (by cases h), fun _ => uh HF2⟩⟩
end Go.Proofs.YtlbpnlngckgcbaaGreatDoor
