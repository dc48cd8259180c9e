import Derived.Test.YtlbpnlngckgcbaaGreatDoorM16
import Derived.Test.YtlbpnlngckgcbaaGreatDoorM15
namespace Go.Proofs.YtlbpnlngckgcbaaGreatDoor
open Go.RowKit Go.PlainAid
set_option linter.unusedSimpArgs false
set_option linter.unusedVariables false
/-- No row of the part lies in this block. -/
def Away (o : Option Nat) (x : PX) : Prop := ∀ g, (x.2.1.ownBlock = some g ∨ x.2.2.1.ownBlock = some g ∨ x.2.2.2.ownBlock = some g) → o ≠ some g
theorem RepP.lt {w : World} {x : PX} (h : RepP w x) : ∀ g, (x.2.1.ownBlock = some g ∨ x.2.2.1.ownBlock = some g ∨ x.2.2.2.ownBlock = some g) → g < w.heap.size := fun g hg => by
 rcases hg with hg | hg | hg
 ·exact (h.g.lt g hg).2
 ·exact (h.p.lt g hg).2
 ·exact (h.s.lt g hg).2
theorem RepP.keep {w w' : World} {x : PX} (h : RepP w x) (k : ∀ g cs T f, w.heap[g]? = some (.cells cs T f) → (T = 257 ∨ T = 3 ∨ T = 259) → (x.2.1.ownBlock = some g ∨ x.2.2.1.ownBlock = some g ∨ x.2.2.2.ownBlock = some g) → w'.heap[g]? = w.heap[g]?) : RepP w' x := by
 have f : ∀ {T : TypeId} {size : Nat} {v : Value} {n : Nat} {xs : List Value}, w.ownsRow 0 T size v n xs → (∀ g cs f, w.heap[g]? = some (.cells cs T f) → v.ownBlock = some g → w'.heap[g]? = w.heap[g]?) → w'.ownsRow 0 T size v n xs := by
  intro T size v n xs h k
  refine ⟨h.1, ?_⟩
  rcases h.2 with h | ⟨g, cap, cur, h1, h2, h3, h4⟩
  ·exact .inl h
  ·exact .inr ⟨g, cap, cur, h1, h2, (k g cur (0, 0) h3 (by rw [h1]; rfl)).trans h3, h4⟩
 exact ⟨f h.g (fun g cs f hh ho => k g cs _ f hh (.inl rfl) (.inl ho)), f h.p (fun g cs f hh ho => k g cs _ f hh (.inr (.inl rfl)) (.inr (.inl ho))), f h.s (fun g cs f hh ho => k g cs _ f hh (.inr (.inr rfl)) (.inr (.inr ho)))⟩
theorem own_keep {w w' : World} {base : Nat} {T : TypeId} {size : Nat} {v : Value} {n : Nat} {xs : List Value} (h : w.ownsRow base T size v n xs) (k : ∀ g cs f, w.heap[g]? = some (.cells cs T f) → v.ownBlock = some g → w'.heap[g]? = w.heap[g]?) : w'.ownsRow base T size v n xs := by
 refine ⟨h.1, ?_⟩
 rcases h.2 with h | ⟨g, cap, cur, h1, h2, h3, h4⟩
 ·exact .inl h
 ·exact .inr ⟨g, cap, cur, h1, h2, (k g cur (0, 0) h3 (by rw [h1]; rfl)).trans h3, h4⟩
theorem own_some {w : World} {base : Nat} {T : TypeId} {size : Nat} {v : Value} {n : Nat} {xs : List Value} (h : w.ownsRow base T size v n xs) {g : Nat} (k : v.ownBlock = some g) : ∃ cur, Blk w g cur T := by
 rcases h.2 with ⟨e, _⟩ | ⟨g', cap, cur, h1, h2, h3, h4⟩
 ·rw [e] at k; cases k
 ·rw [h1] at k
  simp only [Value.ownBlock, Option.some.injEq] at k
  subst k
  exact ⟨cur, h3⟩
/-- The memory of the loops in 'chain' and 'expr': the part that is being made lies in the block w.heap.size. -/
structure ChI (base b : Nat) (s : ByteArray) (tv : Value) (d : Nat) (kv rv pv : Value) (i : Nat) (pl : List PV) (l : List PX) (w : World) (kd : Nat) (wr : World) (pvr : Value) (j e aa : Nat) (plr : List PV) (lr : List PX) (ps : List Nat) (pa : Option Addr) (pc : Nat) (sgs : List Tk) (sa : Option Addr) (sc : Nat) : Prop where
 fr : Fr base b w wr pv pvr
 rs : RS wr b s tv j d e aa kv rv pvr
 pt : PT base wr pvr plr lr
 box : Blk wr w.heap.size #[.int .i64 kd, .slice none 0 0, .string ⟨#[]⟩, .string ⟨#[]⟩, .int .i64 (PP s i), .int .i64 0, .slice pa ps.length pc, .slice sa sgs.length sc] 255
 nb : pvr.ownBlock ≠ some w.heap.size
 prow : wr.ownsRow w.heap.size 3 1 (.slice pa ps.length pc) ps.length (ps.map fun n : Nat => .int .i64 n)
 srow : wr.ownsRow w.heap.size 259 3 (.slice sa sgs.length sc) sgs.length (tksCells sgs)
 dp : ∀ x ∈ lr, Away (Value.slice pa ps.length pc).ownBlock x
 ds : ∀ x ∈ lr, Away (Value.slice sa sgs.length sc).ownBlock x
 sfx : ∃ t, plr = pl ++ t
 new : ∃ tl, lr = l ++ tl ∧ ∀ x ∈ tl, Fresh w.heap.size x
 blt : b < w.heap.size
 tvl : ∀ g, tv.ownBlock = some g → g < w.heap.size
theorem ChI.below {base b : Nat} {s : ByteArray} {tv : Value} {d : Nat} {kv rv pv : Value} {i : Nat} {pl : List PV} {l : List PX} {w wr : World} {kd : Nat} {pvr : Value} {j e aa : Nat} {plr : List PV} {lr : List PX} {ps : List Nat} {pa : Option Addr} {pc : Nat} {sgs : List Tk} {sa : Option Addr} {sc : Nat} {w' : World} (h : ChI base b s tv d kv rv pv i pl l w kd wr pvr j e aa plr lr ps pa pc sgs sa sc) (k : Below wr.heap.size wr w') (hb : base ≤ wr.heap.size) (hbb : base ≤ b) : ChI base b s tv d kv rv pv i pl l w kd w' pvr j e aa plr lr ps pa pc sgs sa sc :=
 ⟨h.fr.trans (Fr.of_below k hb), h.rs.below k, h.pt.but (But.of_below k) h.rs.blk hbb hb, h.box.below k, h.nb, ownsRow_frame h.prow (fun g cs f _ hh => k.block g (lt_of_some hh)), ownsRow_frame h.srow (fun g cs f _ hh => k.block g (lt_of_some hh)), h.dp, h.ds, h.sfx, h.new, h.blt, h.tvl⟩
theorem ChI.but {base b : Nat} {s : ByteArray} {tv : Value} {d : Nat} {kv rv pv : Value} {i : Nat} {pl : List PV} {l : List PX} {w wr : World} {kd : Nat} {pvr : Value} {j e aa : Nat} {plr : List PV} {lr : List PX} {ps : List Nat} {pa : Option Addr} {pc : Nat} {sgs : List Tk} {sa : Option Addr} {sc : Nat} {w' : World} (h : ChI base b s tv d kv rv pv i pl l w kd wr pvr j e aa plr lr ps pa pc sgs sa sc) (k : But b wr w') (hb : base ≤ wr.heap.size) (hbb : base ≤ b) {j' e' aa' : Nat} (r : RS w' b s tv j' d e' aa' kv rv pvr) : ChI base b s tv d kv rv pv i pl l w kd w' pvr j' e' aa' plr lr ps pa pc sgs sa sc :=
 have f := Fr.of_but (pv := pvr) k hbb hb
 ⟨h.fr.trans f, r, h.pt.but k h.rs.blk hbb hb, h.box.but k (by have := h.blt; omega), h.nb, f.row h.prow h.rs.blk h.pt.row (by decide) (by decide), f.row h.srow h.rs.blk h.pt.row (by decide) (by decide), h.dp, h.ds, h.sfx, h.new, h.blt, h.tvl⟩
/-- Behind the call that reads the next part. -/
theorem ChI.call {base b : Nat} {s : ByteArray} {tv : Value} {d : Nat} {kv rv pv : Value} {i : Nat} {pl : List PV} {l : List PX} {w wr : World} {kd : Nat} {pvr : Value} {j e aa : Nat} {plr : List PV} {lr : List PX} {ps : List Nat} {pa : Option Addr} {pc : Nat} {sgs : List Tk} {sa : Option Addr} {sc : Nat} {w1 : World} {pv1 : Value} {j1 e1 a1 : Nat} {pl1 t : List PV} {l1 tl : List PX} (h : ChI base b s tv d kv rv pv i pl l w kd wr pvr j e aa plr lr ps pa pc sgs sa sc) (f : Fr base b wr w1 pvr pv1) (p : PT base w1 pv1 (plr ++ t) (lr ++ tl)) (r : RS w1 b s tv j1 d e1 a1 kv rv pv1) (fs : ∀ x ∈ tl, Fresh wr.heap.size x) : ChI base b s tv d kv rv pv i pl l w kd w1 pv1 j1 e1 a1 (plr ++ t) (lr ++ tl) ps pa pc sgs sa sc := by
 have hlt := h.box.lt
 have away : ∀ {T : TypeId} {size : Nat} {v : Value} {n : Nat} {xs : List Value}, wr.ownsRow w.heap.size T size v n xs → (∀ x ∈ lr, Away v.ownBlock x) → ∀ x ∈ lr ++ tl, Away v.ownBlock x := by
  intro T size v n xs ho ha x hx
  rw [List.mem_append] at hx
  rcases hx with hx | hx
  ·exact ha x hx
  ·intro g hg e
   have := (ho.lt g e).2
   have := fs x hx g hg
   omega
 refine ⟨h.fr.trans f, r, p, f.blk h.box (by have := h.blt; omega) h.nb, fun e => ?_, f.row h.prow h.rs.blk h.pt.row (by decide) (by decide), f.row h.srow h.rs.blk h.pt.row (by decide) (by decide), away h.prow h.dp, away h.srow h.ds, ?_, ?_, h.blt, h.tvl⟩
 ·rcases f.own _ e with e | e
  ·exact h.nb e
  ·omega
 ·obtain ⟨t0, e⟩ := h.sfx
  exact ⟨t0 ++ t, by rw [e, List.append_assoc]⟩
 ·obtain ⟨t0, e, k⟩ := h.new
  refine ⟨t0 ++ tl, by rw [e, List.append_assoc], fun x hx => ?_⟩
  rw [List.mem_append] at hx
  rcases hx with hx | hx
  ·exact k x hx
  ·exact (fs x hx).mono (by omega)
/-- A store into the part that is being made, behind a row that has grown. -/
theorem ChI.grow {base b : Nat} {s : ByteArray} {tv : Value} {d : Nat} {kv rv pv : Value} {i : Nat} {pl : List PV} {l : List PX} {w wr : World} {kd : Nat} {pvr : Value} {j e aa : Nat} {plr : List PV} {lr : List PX} {ps : List Nat} {pa : Option Addr} {pc : Nat} {sgs : List Tk} {sa : Option Addr} {sc : Nat} {w5 : World} {o : Obj} {row : Option Nat} {u : Value} {c : Nat} (h : ChI base b s tv d kv rv pv i pl l w kd wr pvr j e aa plr lr ps pa pc sgs sa sc) (hb : base ≤ wr.heap.size) (hbb : base ≤ b) (hw : base ≤ w.heap.size) (G5 : (wr.alloc o).grownBy w5 row) (hrow : ∀ k, row = some k → w.heap.size ≤ k) (n1 : row ≠ some b) (n2 : row ≠ some w.heap.size) (n3 : ∀ k, pvr.ownBlock = some k → row ≠ some k) (n4 : ∀ x ∈ lr, Away row x) :
  Fr base b w (w5.setCell ⟨w.heap.size, c, none⟩ u) pv pvr ∧ RS (w5.setCell ⟨w.heap.size, c, none⟩ u) b s tv j d e aa kv rv pvr ∧ PT base (w5.setCell ⟨w.heap.size, c, none⟩ u) pvr plr lr ∧ Blk w5 w.heap.size #[.int .i64 kd, .slice none 0 0, .string ⟨#[]⟩, .string ⟨#[]⟩, .int .i64 (PP s i), .int .i64 0, .slice pa ps.length pc, .slice sa sgs.length sc] 255 := by
 have b0 : Below wr.heap.size wr (wr.alloc o) := (Below.refl _ _).alloc (Nat.le_refl _) _
 have H := h.below b0 hb hbb
 have keep : ∀ g, g < (wr.alloc o).heap.size → row ≠ some g → w5.heap[g]? = (wr.alloc o).heap[g]? := fun g hg hr => G5.block g hg (fun e => hr e.symm)
 have box5 : Blk w5 w.heap.size #[.int .i64 kd, .slice none 0 0, .string ⟨#[]⟩, .string ⟨#[]⟩, .int .i64 (PP s i), .int .i64 0, .slice pa ps.length pc, .slice sa sgs.length sc] 255 := (keep _ H.box.lt n2).trans H.box
 have blk5 := (keep _ H.rs.blk.lt n1).trans H.rs.blk
 have hne : b ≠ w.heap.size := by have := h.blt; omega
 refine ⟨⟨(Below.grown H.fr.below G5 (Nat.le_trans hw H.fr.below.size) (fun k hk => Nat.le_trans hw (hrow k hk))).setCell hw _, fun g hg hgb hp => ?_, h.fr.own⟩, ⟨Blk.other blk5 hne _, ?_, h.rs.gd, h.rs.fm, h.rs.sz⟩, ⟨h.pt.fst, ?_, fun x hx => ?_⟩, box5⟩
 ·have e1 : g ≠ w.heap.size := by omega
  exact (Below.heap_setCell _ _ _ _ e1).trans ((keep g (Nat.lt_of_lt_of_le hg H.fr.below.size) (fun e => by have := hrow g e; omega)).trans (H.fr.keep g hg hgb hp))
 ·refine own_set (T := 255) ?_ box5 (by decide) _ _
  refine own_keep H.rs.tok (fun g cs f hh ho => keep g (lt_of_some hh) (fun e => ?_))
  have := h.tvl g ho
  have := hrow g e
  omega
 ·refine ownsRow_setCell_other ?_ h.nb _
  exact own_keep H.pt.row (fun g cs f hh ho => keep g (lt_of_some hh) (n3 g ho))
 ·refine (H.pt.rep x hx).keep (fun g cs T f hh ht ho => ?_)
  have e1 : g ≠ w.heap.size := fun e => by
   subst e
   have := H.box
   unfold Blk at this
   rw [this] at hh
   simp only [Option.some.injEq, Obj.cells.injEq] at hh
   rcases ht with ht | ht | ht <;> rw [ht] at hh <;> exact absurd hh.2.1 (by decide)
  exact (Below.heap_setCell _ _ _ _ e1).trans (keep g (lt_of_some hh) (n4 x hx g ho))
/-- A store into the sign's box. -/
theorem ChI.sign {base b : Nat} {s : ByteArray} {tv : Value} {d : Nat} {kv rv pv : Value} {i : Nat} {pl : List PV} {l : List PX} {w wr : World} {kd : Nat} {pvr : Value} {j e aa : Nat} {plr : List PV} {lr : List PX} {ps : List Nat} {pa : Option Addr} {pc : Nat} {sgs : List Tk} {sa : Option Addr} {sc : Nat} (h : ChI base b s tv d kv rv pv i pl l w kd wr pvr j e aa plr lr ps pa pc sgs sa sc) (hw : base ≤ w.heap.size) {cs : Array Value} (S : Blk wr (w.heap.size + 1) cs 259) (ns : (Value.slice sa sgs.length sc).ownBlock ≠ some (w.heap.size + 1)) (da : ∀ x ∈ lr, Away (some (w.heap.size + 1)) x) (c : Nat) (u : Value) : ChI base b s tv d kv rv pv i pl l w kd (wr.setCell ⟨w.heap.size + 1, c, none⟩ u) pvr j e aa plr lr ps pa pc sgs sa sc := by
 have hb := h.blt
 refine ⟨⟨h.fr.below.setCell (show base ≤ w.heap.size + 1 by omega) _, fun g hg hgb hp => ?_, h.fr.own⟩, ⟨h.rs.blk.other (show b ≠ w.heap.size + 1 by omega) _, ?_, h.rs.gd, h.rs.fm, h.rs.sz⟩, ⟨h.pt.fst, own_set h.pt.row S (by decide) _ _, fun x hx => ?_⟩, h.box.other (show w.heap.size ≠ w.heap.size + 1 by omega) _, h.nb, own_set h.prow S (by decide) _ _, ownsRow_setCell_other h.srow ns _, h.dp, h.ds, h.sfx, h.new, h.blt, h.tvl⟩
 ·exact (Below.heap_setCell _ _ _ _ (show g ≠ w.heap.size + 1 by omega)).trans (h.fr.keep g hg hgb hp)
 ·refine ownsRow_setCell_other h.rs.tok (fun e => ?_) _
  have := h.tvl (w.heap.size + 1) e
  omega
 ·exact (h.pt.rep x hx).keep (fun g cs T f hh ht ho => Below.heap_setCell _ _ _ _ (fun e => da x hx g ho (by rw [e])))
theorem away_new {base b : Nat} {s : ByteArray} {tv : Value} {d : Nat} {kv rv pv : Value} {i : Nat} {pl : List PV} {l : List PX} {w wr : World} {kd : Nat} {pvr : Value} {j e aa : Nat} {plr : List PV} {lr : List PX} {ps : List Nat} {pa : Option Addr} {pc : Nat} {sgs : List Tk} {sa : Option Addr} {sc : Nat} {v : Value} {g5 cap5 m : Nat} (h : ChI base b s tv d kv rv pv i pl l w kd wr pvr j e aa plr lr ps pa pc sgs sa sc) (A5 : v.ownBlock = some g5 ∨ g5 = wr.heap.size + 1) (k : ∀ x ∈ lr, Away v.ownBlock x) : ∀ x ∈ lr, Away (Value.slice (some ⟨g5, 0, none⟩) m cap5).ownBlock x := fun x hx g hg e => by
 simp only [Value.ownBlock, Option.some.injEq] at e
 subst e
 rcases A5 with e | e
 ·exact k x hx g5 hg e
 ·have := (h.pt.rep x hx).lt g5 hg
  omega
/-- Behind the append to Parts. -/
theorem ChI.grownP {base b : Nat} {s : ByteArray} {tv : Value} {d : Nat} {kv rv pv : Value} {i : Nat} {pl : List PV} {l : List PX} {w wr : World} {kd : Nat} {pvr : Value} {j e aa : Nat} {plr : List PV} {lr : List PX} {ps : List Nat} {pa : Option Addr} {pc : Nat} {sgs : List Tk} {sa : Option Addr} {sc : Nat} {w5 : World} {o : Obj} (h : ChI base b s tv d kv rv pv i pl l w kd wr pvr j e aa plr lr ps pa pc sgs sa sc) (hb : base ≤ wr.heap.size) (hbb : base ≤ b) (hw : base ≤ w.heap.size) (G5 : (wr.alloc o).grownBy w5 (Value.slice pa ps.length pc).ownBlock) {g5 cap5 m : Nat} (O5 : w5.ownsRow w.heap.size 3 1 (.slice (some ⟨g5, 0, none⟩) (ps.length + 1) cap5) (ps.length + 1) ((ps.map fun n : Nat => Value.int .i64 n) ++ [.int .i64 m])) (A5 : (Value.slice pa ps.length pc).ownBlock = some g5 ∨ g5 = wr.heap.size + 1) :
  Blk w5 w.heap.size #[.int .i64 kd, .slice none 0 0, .string ⟨#[]⟩, .string ⟨#[]⟩, .int .i64 (PP s i), .int .i64 0, .slice pa ps.length pc, .slice sa sgs.length sc] 255 ∧ ChI base b s tv d kv rv pv i pl l w kd (w5.setCell ⟨w.heap.size, 6, none⟩ (.slice (some ⟨g5, 0, none⟩) (ps.length + 1) cap5)) pvr j e aa plr lr (ps ++ [m]) (some ⟨g5, 0, none⟩) cap5 sgs sa sc := by
 have el : (ps ++ [m]).length = ps.length + 1 := by simp
 have b0 : Below wr.heap.size wr (wr.alloc o) := (Below.refl _ _).alloc (Nat.le_refl _) _
 have H := h.below b0 hb hbb
 obtain ⟨f1, f2, f3, f4⟩ := h.grow (u := .slice (some ⟨g5, 0, none⟩) (ps.length + 1) cap5) (c := 6) hb hbb hw G5 (fun k hk => (h.prow.lt k hk).1) (own_part h.prow h.rs.blk (by decide)) (own_part h.prow h.box (by decide)) (fun k hk => by
  obtain ⟨cur, hc⟩ := own_some h.pt.row hk
  exact own_part h.prow hc (by decide)) h.dp
 refine ⟨f4, f1, f2, f3, ?_, h.nb, ?_, ?_, ?_, h.ds, h.sfx, h.new, h.blt, h.tvl⟩
 ·rw [el]; exact f4.set 6 _
 ·rw [el, List.map_append]; exact own_set O5 f4 (by decide) _ _
 ·refine own_set ?_ f4 (by decide) _ _
  exact own_keep H.srow (fun g cs f hh ho => G5.block g (lt_of_some hh) (own_nf H.prow hh (by decide)))
 ·rw [el]; exact away_new h A5 h.dp
/-- Behind the append to Signs. -/
theorem ChI.grownS {base b : Nat} {s : ByteArray} {tv : Value} {d : Nat} {kv rv pv : Value} {i : Nat} {pl : List PV} {l : List PX} {w wr : World} {kd : Nat} {pvr : Value} {j e aa : Nat} {plr : List PV} {lr : List PX} {ps : List Nat} {pa : Option Addr} {pc : Nat} {sgs : List Tk} {sa : Option Addr} {sc : Nat} {w5 : World} {o : Obj} (h : ChI base b s tv d kv rv pv i pl l w kd wr pvr j e aa plr lr ps pa pc sgs sa sc) (hb : base ≤ wr.heap.size) (hbb : base ≤ b) (hw : base ≤ w.heap.size) (G5 : (wr.alloc o).grownBy w5 (Value.slice sa sgs.length sc).ownBlock) {g5 cap5 : Nat} {t : Tk} (O5 : w5.ownsRow w.heap.size 259 3 (.slice (some ⟨g5, 0, none⟩) (sgs.length + 1) cap5) (sgs.length + 1) (tksCells sgs ++ tkCells t)) (A5 : (Value.slice sa sgs.length sc).ownBlock = some g5 ∨ g5 = wr.heap.size + 1) :
  Blk w5 w.heap.size #[.int .i64 kd, .slice none 0 0, .string ⟨#[]⟩, .string ⟨#[]⟩, .int .i64 (PP s i), .int .i64 0, .slice pa ps.length pc, .slice sa sgs.length sc] 255 ∧ ChI base b s tv d kv rv pv i pl l w kd (w5.setCell ⟨w.heap.size, 7, none⟩ (.slice (some ⟨g5, 0, none⟩) (sgs.length + 1) cap5)) pvr j e aa plr lr ps pa pc (sgs ++ [t]) (some ⟨g5, 0, none⟩) cap5 := by
 have el : (sgs ++ [t]).length = sgs.length + 1 := by simp
 have b0 : Below wr.heap.size wr (wr.alloc o) := (Below.refl _ _).alloc (Nat.le_refl _) _
 have H := h.below b0 hb hbb
 obtain ⟨f1, f2, f3, f4⟩ := h.grow (u := .slice (some ⟨g5, 0, none⟩) (sgs.length + 1) cap5) (c := 7) hb hbb hw G5 (fun k hk => (h.srow.lt k hk).1) (own_part h.srow h.rs.blk (by decide)) (own_part h.srow h.box (by decide)) (fun k hk => by
  obtain ⟨cur, hc⟩ := own_some h.pt.row hk
  exact own_part h.srow hc (by decide)) h.ds
 refine ⟨f4, f1, f2, f3, ?_, h.nb, ?_, ?_, h.dp, ?_, h.sfx, h.new, h.blt, h.tvl⟩
 ·rw [el]; exact f4.set 7 _
 ·refine own_set ?_ f4 (by decide) _ _
  exact own_keep H.prow (fun g cs f hh ho => G5.block g (lt_of_some hh) (own_nf H.srow hh (by decide)))
 ·rw [el]
  unfold tksCells
  rw [List.flatMap_append]
  have := own_set O5 f4 (by decide) 7 (.slice (some ⟨g5, 0, none⟩) (sgs.length + 1) cap5)
  simpa [tksCells] using this
 ·rw [el]; exact away_new h A5 h.ds
/-! Chains and expressions, as their parts come. -/
def nextE (prev : Option (Ex × ByteArray × Nat)) (y : Ex) : Ex := match prev with
 | none => y
 | some (x, t, p) => joinE t p x y
/-- What is read from the part at j on, behind 'prev'. -/
def contR (T : Nat → ByteArray) (P : Nat → Nat) (signs : List ByteArray) (part : Nat → Res Ex) (k : Nat) (prev : Option (Ex × ByteArray × Nat)) (j : Nat) : Res Ex := match part j with
 | .error e => .error e
 | .ok (y, m) => joinL T P signs part k (nextE prev y) m
theorem joinR_cont (T : Nat → ByteArray) (P : Nat → Nat) (signs : List ByteArray) (part : Nat → Res Ex) (i : Nat) : joinR T P signs part i = contR T P signs part 512 none i := by
 unfold joinR contR
 cases part i with
 | error e => rfl
 | ok y => rfl
theorem cont_bad {T : Nat → ByteArray} {P : Nat → Nat} {signs : List ByteArray} {part : Nat → Res Ex} {k : Nat} {prev : Option (Ex × ByteArray × Nat)} {j : Nat} {e : Nat × Nat} (h : part j = .error e) : contR T P signs part k prev j = .error e := by unfold contR; rw [h]
theorem cont_ok {T : Nat → ByteArray} {P : Nat → Nat} {signs : List ByteArray} {part : Nat → Res Ex} {k : Nat} {prev : Option (Ex × ByteArray × Nat)} {j : Nat} {y : Ex} {m : Nat} (h : part j = .ok (y, m)) : contR T P signs part k prev j = joinL T P signs part k (nextE prev y) m := by unfold contR; rw [h]
theorem joinL_yes {T : Nat → ByteArray} {P : Nat → Nat} {signs : List ByteArray} {part : Nat → Res Ex} {k : Nat} {x : Ex} {j : Nat} (h : anyEq (T j) signs = true) : joinL T P signs part (k + 1) x j = contR T P signs part k (some (x, T j, P j)) (j + 1) := by
 simp only [joinL, h, if_true]
 unfold contR
 cases part (j + 1) with
 | error e => rfl
 | ok y => rfl
theorem joinL_no {T : Nat → ByteArray} {P : Nat → Nat} {signs : List ByteArray} {part : Nat → Res Ex} {k : Nat} {x : Ex} {j : Nat} (h : anyEq (T j) signs = false) : joinL T P signs part (k + 1) x j = .ok (x, j) := by
 simp [joinL, h]
theorem foldE_snoc : ∀ (rs : List (ByteArray × Nat × Ex)) (x0 : Ex) (t : ByteArray) (p : Nat) (y : Ex), foldE x0 (rs ++ [(t, p, y)]) = joinE t p (foldE x0 rs) y
 | [], _, _, _, _ => rfl
 | (t', p', y') :: rs, x0, t, p, y => by
  simp only [List.cons_append, foldE]
  exact foldE_snoc rs _ t p y
theorem All2.snoc {R : Nat → Ex → Prop} {m : Nat} {y : Ex} (k : R m y) : ∀ (ns : List Nat) (xs : List Ex), All2 R ns xs → All2 R (ns ++ [m]) (xs ++ [y])
 | [], [], _ => ⟨k, trivial⟩
 | n :: ns, x :: xs, h => ⟨h.1, All2.snoc k ns xs h.2⟩
 | [], _ :: _, h => h.elim
 | _ :: _, [], h => h.elim
def sgn0 : Tk := ⟨[], 0, false⟩
def sgnT (r : ByteArray × Nat × Ex) : Tk := ⟨lst r.1, r.2.1, false⟩
/-- The parts ps, with the signs between, stand for the expression. -/
def Built (pl : List PV) (ps : List Nat) (sgs : List Tk) (x : Ex) : Prop :=
 ∃ n0 ns x0 rs f, ps = n0 :: ns ∧ Tr pl f n0 x0 ∧ All2 (Tr pl f) ns (rs.map fun r => r.2.2) ∧ sgs = sgn0 :: rs.map sgnT ∧ (∀ r ∈ rs, r.1 = sg 38 ∨ r.1 = sg 45) ∧ x = foldE x0 rs
theorem Built.one {pl : List PV} {f m : Nat} {y : Ex} (h : Tr pl f m y) : Built pl [m] [sgn0] y := ⟨m, [], y, [], f, rfl, h, trivial, rfl, by simp, rfl⟩
theorem Built.snoc {pl t : List PV} {ps : List Nat} {sgs : List Tk} {x : Ex} (h : Built pl ps sgs x) {f m : Nat} {y : Ex} (k : Tr (pl ++ t) f m y) (tt : ByteArray) (p : Nat) (htt : tt = sg 38 ∨ tt = sg 45) : Built (pl ++ t) (ps ++ [m]) (sgs ++ [⟨lst tt, p, false⟩]) (joinE tt p x y) := by
 obtain ⟨n0, ns, x0, rs, g, rfl, h1, h2, rfl, h3, rfl⟩ := h
 refine ⟨n0, ns ++ [m], x0, rs ++ [(tt, p, y)], g + f, rfl, Tr.le _ (by omega) (Tr.more pl t g _ _ h1), ?_, ?_, ?_, ?_⟩
 ·rw [List.map_append]
  exact All2.snoc (Tr.le _ (by omega) k) _ _ (All2.mono (fun n x hx => Tr.le _ (by omega) (Tr.more pl t g _ _ hx)) _ _ h2)
 ·rw [List.map_append]; rfl
 ·intro r hr
  rcases List.mem_append.1 hr with hr | hr
  ·exact h3 r hr
  ·rw [List.mem_singleton] at hr
   subst hr
   exact htt
 ·rw [foldE_snoc]
/-- A chain of several parts in the table. -/
theorem Built.chain {pl : List PV} {ps : List Nat} {sgs : List Tk} {x : Ex} (h : Built pl ps sgs x) (hn : ps.length ≠ 1) (p : Nat) : ∃ f, Tr (pl ++ [⟨4, [], em, em, p, 0, ps, sgs⟩]) f pl.length x := by
 obtain ⟨n0, ns, x0, rs, g, rfl, h1, h2, rfl, h3, rfl⟩ := h
 refine ⟨g + 1, _, List.getElem?_concat_length, .inr (.inr (.inr (.inl ⟨rfl, rfl, n0, ns, x0, rs, rfl, Tr.more pl _ g _ _ h1, All2.mono (Tr.more pl _ g) _ _ h2, rfl, ⟨h3, ?_⟩, rfl⟩)))⟩
 rintro rfl
 cases ns with
 | nil => exact hn rfl
 | cons n ns => exact h2.elim
/-- One part alone. -/
theorem Built.alone {pl : List PV} {m : Nat} {sgs : List Tk} {x : Ex} (h : Built pl [m] sgs x) : ∃ f, Tr pl f m x := by
 obtain ⟨n0, ns, x0, rs, g, e, h1, h2, rfl, _, rfl⟩ := h
 simp only [List.cons.injEq] at e
 obtain ⟨rfl, rfl⟩ := e
 cases rs with
 | nil => exact ⟨g, h1⟩
 | cons r rs => exact h2.elim
end Go.Proofs.YtlbpnlngckgcbaaGreatDoor
