import Derived.Test.YtlbpnlngckgcbaaGreatDoorM12
import Derived.Deep.RegionLaw
namespace Go.Proofs.YtlbpnlngckgcbaaGreatDoor
open Go.RowKit Go.PlainAid
set_option linter.unusedSimpArgs false
set_option linter.unusedVariables false
/-! The table of parts. -/
structure PV where
 kind : Nat
 gs : List Gr
 nb : ByteArray
 nr : ByteArray
 pa : Nat
 pr : Nat
 ps : List Nat
 sg : List Tk
abbrev PX := PV × Value × Value × Value
def relOf (g : Gr) : ByteArray := if g.reach = 1 then sg 42 else g.rel
def rgCells (g : Gr) : List Value := [.string g.ty, .string (relOf g), .int .i64 g.tp, .int .i64 g.rp]
def pCells (x : PX) : List Value := [.int .i64 x.1.kind, x.2.1, .string x.1.nb, .string x.1.nr, .int .i64 x.1.pa, .int .i64 x.1.pr, x.2.2.1, x.2.2.2]
structure RepP (w : World) (x : PX) : Prop where
 g : w.ownsRow 0 257 4 x.2.1 x.1.gs.length (x.1.gs.flatMap rgCells)
 p : w.ownsRow 0 3 1 x.2.2.1 x.1.ps.length (x.1.ps.map fun n : Nat => .int .i64 n)
 s : w.ownsRow 0 259 3 x.2.2.2 x.1.sg.length (tksCells x.1.sg)
structure PT (base : Nat) (w : World) (pv : Value) (pl : List PV) (l : List PX) : Prop where
 fst : l.map Prod.fst = pl
 row : w.ownsRow base 255 8 pv pl.length (l.flatMap pCells)
 rep : ∀ x ∈ l, RepP w x
/-- The rows of a part are no older than B. -/
def Fresh (B : Nat) (x : PX) : Prop := ∀ g, (x.2.1.ownBlock = some g ∨ x.2.2.1.ownBlock = some g ∨ x.2.2.2.ownBlock = some g) → B ≤ g
theorem Fresh.mono {B C : Nat} {x : PX} (h : Fresh B x) (k : C ≤ B) : Fresh C x := fun g hg => Nat.le_trans k (h g hg)
theorem fresh_nil (B : Nat) (p : PV) : Fresh B (p, .slice none 0 0, .slice none 0 0, .slice none 0 0) := fun g h => by
 rcases h with h | h | h <;> cases h
/-- What may change: the reader's block, and the row of the table. -/
structure Fr (base b : Nat) (w w' : World) (pv pv' : Value) : Prop where
 below : Below base w w'
 keep : ∀ g, g < w.heap.size → g ≠ b → pv.ownBlock ≠ some g → w'.heap[g]? = w.heap[g]?
 own : ∀ g, pv'.ownBlock = some g → pv.ownBlock = some g ∨ w.heap.size ≤ g
theorem Fr.refl {base b : Nat} {w : World} {pv : Value} : Fr base b w w pv pv := ⟨Below.refl _ _, fun _ _ _ _ => rfl, fun g h => .inl h⟩
theorem Fr.trans {base b : Nat} {w w1 w2 : World} {p p1 p2 : Value} (h : Fr base b w w1 p p1) (k : Fr base b w1 w2 p1 p2) : Fr base b w w2 p p2 := by
 refine ⟨h.below.trans k.below, fun g hg hb hp => ?_, fun g hg => ?_⟩
 ·refine (k.keep g (Nat.lt_of_lt_of_le hg h.below.size) hb (fun e => ?_)).trans (h.keep g hg hb hp)
  rcases h.own g e with e | e
  ·exact hp e
  ·omega
 ·rcases k.own g hg with e | e
  ·exact h.own g e
  ·exact .inr (Nat.le_trans h.below.size e)
theorem Fr.of_below {base b : Nat} {w w' : World} {pv : Value} (h : Below w.heap.size w w') (hb : base ≤ w.heap.size) : Fr base b w w' pv pv := ⟨h.mono hb, fun g hg _ _ => h.block g hg, fun g e => .inl e⟩
theorem Fr.of_but {base b : Nat} {w w' : World} {pv : Value} (h : But b w w') (hb : base ≤ b) (hw : base ≤ w.heap.size) : Fr base b w w' pv pv := ⟨h.below hb hw, fun g hg hb' _ => h.block g hg hb', fun g e => .inl e⟩
theorem own_part {w : World} {base : Nat} {T : TypeId} {size : Nat} {v : Value} {n : Nat} {xs : List Value} (h : w.ownsRow base T size v n xs) {g : Nat} {cs : Array Value} {T' : TypeId} {f : Nat × Nat} (hh : w.heap[g]? = some (.cells cs T' f)) (ht : T' ≠ T) : v.ownBlock ≠ some g := fun e => own_nf h hh ht e.symm
theorem Fr.row {base b : Nat} {w w' : World} {pv pv' : Value} (h : Fr base b w w' pv pv') {bs : Nat} {T : TypeId} {size : Nat} {v : Value} {n : Nat} {xs : List Value} (k : w.ownsRow bs T size v n xs) {cs : Array Value} (hb : Blk w b cs 252) {pb : Nat} {pn : Nat} {px : List Value} (hp : w.ownsRow pb 255 8 pv pn px) (h1 : T ≠ 252) (h2 : T ≠ 255) : w'.ownsRow bs T size v n xs :=
 ownsRow_frame k (fun g cs f _ hh => h.keep g (lt_of_some hh) (fun e => by
  subst e
  unfold Blk at hb
  rw [hb] at hh
  simp only [Option.some.injEq, Obj.cells.injEq] at hh
  exact h1 hh.2.1.symm) (own_part hp hh h2))
theorem RepP.frame {base b : Nat} {w w' : World} {pv pv' : Value} (h : Fr base b w w' pv pv') {x : PX} (k : RepP w x) {cs : Array Value} (hb : Blk w b cs 252) {pb : Nat} {pn : Nat} {px : List Value} (hp : w.ownsRow pb 255 8 pv pn px) : RepP w' x :=
 ⟨h.row k.g hb hp (by decide) (by decide), h.row k.p hb hp (by decide) (by decide), h.row k.s hb hp (by decide) (by decide)⟩
theorem Fr.blk {base b : Nat} {w w' : World} {pv pv' : Value} (h : Fr base b w w' pv pv') {g : Nat} {cs : Array Value} {T : TypeId} (k : Blk w g cs T) (hg : g ≠ b) (hp : pv.ownBlock ≠ some g) : Blk w' g cs T := (h.keep g k.lt hg hp).trans k
theorem own_drew {w : World} {base : Nat} {e : TypeId} {size : Nat} {v : Value} {n : Nat} {xs : List Value} (h : w.ownsRow base e size v n xs) : w.drew.ownsRow base e size v n xs := h
theorem Tryz.infoPt : (Tryz.prog.info? 255).map (fun i => (i.zero, i.size, i.bytes)) = some (some (.agg #[.int .i64 0, .slice none 0 0, .string ⟨#[]⟩, .string ⟨#[]⟩, .int .i64 0, .int .i64 0, .slice none 0 0, .slice none 0 0]), 8, 128) := by kernel_rfl
/-- What 'part' leaves. -/
def PartPost (base b : Nat) (s : ByteArray) (tv : Value) (i d e0 a : Nat) (kv rv pv : Value) (pl : List PV) (l : List PX) (x : PX) (w : World) (e : Ending) (w' : World) : Prop :=
 ∃ pv', e = .returned (.int .i64 pl.length) ∧ Fr base b w w' pv pv' ∧ RS w' b s tv i d e0 a kv rv pv' ∧ PT base w' pv' (pl ++ [x.1]) (l ++ [x])
theorem part_close {base b : Nat} {s : ByteArray} {tv : Value} {i d e0 a : Nat} {kv rv : Value} {pl : List PV} {l : List PX} {x : PX} {w : World} {va : Option Addr} {vc : Nat} (H0 : RS w b s tv i d e0 a kv rv (.slice va pl.length vc)) (HT0 : PT base w (.slice va pl.length vc) pl l) (HX0 : RepP w x) (hbb : base ≤ b) (hbw : base ≤ w.heap.size)
  {W w5 : World} {o : Obj} {g5 cap5 : Nat} (hB : Below w.heap.size w W) (G5 : (W.alloc o).drew.grownBy w5 (Value.slice va pl.length vc).ownBlock) (O5 : w5.ownsRow base 255 8 (.slice (some ⟨g5, 0, none⟩) (pl.length + 1) cap5) (pl.length + 1) (l.flatMap pCells ++ pCells x)) (A5 : (Value.slice va pl.length vc).ownBlock = some g5 ∨ g5 = W.heap.size + 1)
  (K5 : Blk w5 b #[tv, .int .i64 i, .int .i64 d, .int .i64 e0, .int .i64 a, kv, rv, .slice va pl.length vc] 252) :
  PartPost base b s tv i d e0 a kv rv (.slice va pl.length vc) pl l x w (.returned (.int .i64 pl.length)) (w5.setCell ⟨b, 7, none⟩ (.slice (some ⟨g5, 0, none⟩) (pl.length + 1) cap5)) := by
 have hB2 : Below w.heap.size w (W.alloc o).drew := (hB.alloc hB.size o).drew
 have hO2 : (W.alloc o).drew.ownsRow base 255 8 (.slice va pl.length vc) pl.length (l.flatMap pCells) := ownsRow_frame HT0.row (fun g cs f _ hh => hB2.block g (lt_of_some hh))
 have fr : Fr base b w (w5.setCell ⟨b, 7, none⟩ (.slice (some ⟨g5, 0, none⟩) (pl.length + 1) cap5)) (.slice va pl.length vc) (.slice (some ⟨g5, 0, none⟩) (pl.length + 1) cap5) := by
  refine ⟨(Below.grown (hB2.mono hbw) G5 (Nat.le_trans hbw hB2.size) (fun k hk => (hO2.lt k hk).1)).setCell hbb _, fun g hg hb hp => ?_, fun g hg => ?_⟩
  ·exact (Below.heap_setCell _ _ _ _ hb).trans ((G5.block g (Nat.lt_of_lt_of_le hg hB2.size) (fun e => hp e.symm)).trans (hB2.block g hg))
  ·simp only [Value.ownBlock, Option.some.injEq] at hg
   rcases A5 with e | e
   ·exact .inl (by rw [e, hg])
   ·exact .inr (by have := hB.size; omega)
 refine ⟨_, rfl, fr, ⟨K5.set 7 _, fr.row H0.tok H0.blk HT0.row (by decide) (by decide), H0.gd, ⟨H0.fm.1, H0.fm.2.1, _, _, _, rfl⟩, H0.sz⟩, ⟨by rw [List.map_append, HT0.fst]; rfl, ?_, fun y hy => ?_⟩⟩
 ·have := own_set O5 K5 (by decide) 7 (.slice (some ⟨g5, 0, none⟩) (pl.length + 1) cap5)
  rw [List.flatMap_append, List.length_append]
  simpa using this
 ·rw [List.mem_append, List.mem_singleton] at hy
  rcases hy with hy | rfl
  ·exact (HT0.rep y hy).frame fr H0.blk HT0.row
  ·exact HX0.frame fr H0.blk HT0.row
set_option maxHeartbeats 1000000 in
set_option maxRecDepth 100000 in
theorem part_any (base b : Nat) (s : ByteArray) (tv : Value) (i d e0 a : Nat) (kv rv pv : Value) (pl : List PV) (l : List PX) (p : PV) (ga : Option Addr) (gc : Nat) (pa : Option Addr) (pc : Nat) (sa : Option Addr) (sc : Nat) (w : World) (h : RS w b s tv i d e0 a kv rv pv) (ht : PT base w pv pl l) (hx : RepP w (p, .slice ga p.gs.length gc, .slice pa p.ps.length pc, .slice sa p.sg.length sc)) (hl : pl.length ≤ 2000) (hbw : base ≤ w.heap.size) (hbb : base ≤ b) :
  Calls Tryz.prog 252 #[.pointer (some ⟨b, 0, none⟩), .agg #[.int .i64 p.kind, .slice ga p.gs.length gc, .string p.nb, .string p.nr, .int .i64 p.pa, .int .i64 p.pr, .slice pa p.ps.length pc, .slice sa p.sg.length sc]] w
   (PartPost base b s tv i d e0 a kv rv pv pl l (p, .slice ga p.gs.length gc, .slice pa p.ps.length pc, .slice sa p.sg.length sc) w) := by
 obtain ⟨i0, hi, hz0, hz1, hz2⟩ := info_parts Tryz.infoPt
 have HI := hide hi
 have HZ0 := hide hz0
 have HZ1 := hide hz1
 have HZ2 := hide hz2
 clear hi hz0 hz1 hz2
 have H0 := hide h
 have HT0 := hide ht
 have HX0 := hide hx
 obtain ⟨va, vc, rfl⟩ := own_form ht.row
 have b1 := (Below.refl _ w).alloc (Nat.le_refl _) (.cells #[.int .i64 p.kind, .slice ga p.gs.length gc, .string p.nb, .string p.nr, .int .i64 p.pa, .int .i64 p.pr, .slice pa p.ps.length pc, .slice sa p.sg.length sc] 255)
 have H := hide (h.below b1)
 have HO := hide (show (w.alloc (.cells #[.int .i64 p.kind, .slice ga p.gs.length gc, .string p.nb, .string p.nr, .int .i64 p.pa, .int .i64 p.pr, .slice pa p.ps.length pc, .slice sa p.sg.length sc] 255)).ownsRow base 255 8 (.slice va pl.length vc) pl.length (l.flatMap pCells) from ownsRow_frame ht.row (fun g cs f _ hh => b1.block g (lt_of_some hh)))
 have PB := Blk.new w #[.int .i64 p.kind, .slice ga p.gs.length gc, .string p.nb, .string p.nr, .int .i64 p.pa, .int .i64 p.pr, .slice pa p.ps.length pc, .slice sa p.sg.length sc] 255
 have B1 := hide b1
 have hlt := h.lt
 have hWs : w.heap.size < (w.alloc (.cells #[.int .i64 p.kind, .slice ga p.gs.length gc, .string p.nb, .string p.nr, .int .i64 p.pa, .int .i64 p.pr, .slice pa p.ps.length pc, .slice sa p.sg.length sc] 255)).heap.size := by simp
 clear h ht hx b1
 go_enter Tryz.func252, Tryz.ntmps252
 go_wp2_with fail
 generalize w.alloc (.cells #[.int .i64 p.kind, .slice ga p.gs.length gc, .string p.nb, .string p.nr, .int .i64 p.pa, .int .i64 p.pr, .slice pa p.ps.length pc, .slice sa p.sg.length sc] 255) = W at *
 obtain ⟨r0, r1, r2, r3, r4, r5, r6, r7⟩ := (uh H).blk.eight
 obtain ⟨x0, x1, x2, x3, x4, x5, x6, x7⟩ := PB.eight
 have hbk := (uh H).blk
 have hz := hbk.fz
 have HPB := hide PB
 have m7 := World.new_ne W _ r7
 have m8 := World.new_ne W _ x0
 have c7 : (W.alloc (.cells #[.int .i64 p.kind, .slice ga p.gs.length gc, .string p.nb, .string p.nr, .int .i64 p.pa, .int .i64 p.pr, .slice pa p.ps.length pc, .slice sa p.sg.length sc] 255)).cell? ⟨b, 7, none⟩ = some (.slice va pl.length vc) := (hbk.alloc _).cell rfl
 have hne : ¬ (b = W.heap.size) := by have := hbk.lt; omega
 have HBK := hide hbk
 clear PB hbk
 have HONE := hide (show ∀ u ∈ pCells (p, .slice ga p.gs.length gc, .slice pa p.ps.length pc, .slice sa p.sg.length sc), u.oneCell' = true from by
  intro u hu
  simp only [pCells, List.mem_cons, List.not_mem_nil, or_false] at hu
  rcases hu with rfl | rfl | rfl | rfl | rfl | rfl | rfl | rfl <;> rfl)
 have h63 : pl.length + 1 ≤ maxLen := by unfold maxLen; omega
 have hbyt : (pl.length + 1) * 128 ≤ 140737488355328 := by omega
 have HS := hide (show base ≤ (W.alloc (.cells #[.int .i64 p.kind, .slice ga p.gs.length gc, .string p.nb, .string p.nr, .int .i64 p.pa, .int .i64 p.pr, .slice pa p.ps.length pc, .slice sa p.sg.length sc] 255)).drew.heap.size from by
  have := ((Below.refl _ W).alloc (Nat.le_refl _) (.cells #[.int .i64 p.kind, .slice ga p.gs.length gc, .string p.nb, .string p.nr, .int .i64 p.pa, .int .i64 p.pr, .slice pa p.ps.length pc, .slice sa p.sg.length sc] 255)).drew.size
  omega)
 have HH := hide (show (W.alloc (.cells #[.int .i64 p.kind, .slice ga p.gs.length gc, .string p.nb, .string p.nr, .int .i64 p.pa, .int .i64 p.pr, .slice pa p.ps.length pc, .slice sa p.sg.length sc] 255)).drew.heap.size = W.heap.size + 1 from by simp)
 have H63 := hide h63
 have HBY := hide hbyt
 clear h63 hbyt
 go_region_law (refine step_append_lies _ rfl (.tmp 10) (.tmp 12) 166 rfl base 255 i0 _ 8 128 Tryz.underlying166 (uh HI) (uh HZ0) (uh HZ1) (uh HZ2) rfl (by decide) (.slice va pl.length vc) pl.length (l.flatMap pCells) (by simp [Act.eval, Act.put]) (own_drew ((uh HO).alloc _)) ⟨W.heap.size, 0, none⟩ 1 1 (pCells (p, .slice ga p.gs.length gc, .slice pa p.ps.length pc, .slice sa p.sg.length sc)) (by simp [Act.eval, Act.put]) rfl (World.news_of_block (B := W.heap.size) (cs := #[.int .i64 p.kind, .slice ga p.gs.length gc, .string p.nb, .string p.nr, .int .i64 p.pa, .int .i64 p.pr, .slice pa p.ps.length pc, .slice sa p.sg.length sc]) (t := 255) (fr := (0, 0)) (Blk.new W _ _).drew) (uh HONE) (by decide) (uh H63) (uh HBY) (uh HS) (W.heap.size + 1) (uh HH) ?_; intro g5 cap5 w5 hown5 hgrow5 hat5 hgl5; have O4' := own_drew ((uh HO).alloc (.cells #[.int .i64 p.kind, .slice ga p.gs.length gc, .string p.nb, .string p.nr, .int .i64 p.pa, .int .i64 p.pr, .slice pa p.ps.length pc, .slice sa p.sg.length sc] 255)); have K4' := ((uh HBK).alloc (.cells #[.int .i64 p.kind, .slice ga p.gs.length gc, .string p.nb, .string p.nr, .int .i64 p.pa, .int .i64 p.pr, .slice pa p.ps.length pc, .slice sa p.sg.length sc] 255)).drew; have K5 : Blk w5 b _ 252 := (hgrow5.block b K4'.lt (own_ne O4' K4' (by decide))).trans K4'; obtain ⟨q0, q1, q2, q3, q4, q5, q6, q7⟩ := K5.eight; have zq := K5.fz; have HK5 := hide K5; have G5 := hide hgrow5; have O5 := hide hown5; have A5 := hide hat5; have lq := K5.lt; clear O4' K4' K5 hgrow5 hown5 hat5)
 all_goals
  go_wp2
  go_ret
  exact part_close (uh H0) (uh HT0) (uh HX0) hbb hbw (uh B1) (uh G5) (uh O5) (uh A5) (uh HK5)
end Go.Proofs.YtlbpnlngckgcbaaGreatDoor
