import Derived.Test.YtlbpnlngckgcbaaGreatDoorTok2
import Derived.Deep.RegionHeld3
import Derived.Deep.RegionWith
namespace Go.Proofs.YtlbpnlngckgcbaaGreatDoor
open Go.RowKit Go.PlainAid
set_option linter.unusedSimpArgs false
set_option linter.unusedVariables false

theorem bcell {W w1 : World} (hb : Below W.heap.size W w1) : (∀ b o, b < W.heap.size → w1.cell? ⟨b, o, none⟩ = W.cell? ⟨b, o, none⟩) ∧ (∀ b o, b < W.heap.size → w1.frozen? ⟨b, o, none⟩ = W.frozen? ⟨b, o, none⟩) :=
  ⟨fun b o h => hb.cell (p := ⟨b, o, none⟩) h, fun b o h => hb.frozen (p := ⟨b, o, none⟩) h⟩

/-- Every block that was there, but for block b, is as it was. -/
structure But (b : Nat) (w w' : World) : Prop where
  os : w'.os = w.os
  tape : w'.tape = w.tape
  output : w'.output = w.output
  size : w.heap.size ≤ w'.heap.size
  block : ∀ k, k < w.heap.size → k ≠ b → w'.heap[k]? = w.heap[k]?

theorem But.refl (b : Nat) (w : World) : But b w w := ⟨rfl, rfl, rfl, Nat.le_refl _, fun _ _ _ => rfl⟩
theorem But.trans {b : Nat} {x y z : World} (h : But b x y) (k : But b y z) : But b x z :=
  ⟨k.os.trans h.os, k.tape.trans h.tape, k.output.trans h.output, Nat.le_trans h.size k.size, fun i hi hb => (k.block i (Nat.lt_of_lt_of_le hi h.size) hb).trans (h.block i hi hb)⟩
theorem But.of_below {b : Nat} {x y : World} (h : Below x.heap.size x y) : But b x y := ⟨h.os, h.tape, h.output, h.size, fun k hk _ => h.block k hk⟩
theorem But.below {b B : Nat} {x y : World} (h : But b x y) (hB : B ≤ b) (hx : B ≤ x.heap.size) : Below B x y := ⟨h.os, h.tape, h.output, h.size, fun k hk => h.block k (by omega) (by omega)⟩
theorem But.drew {b : Nat} {x y : World} (h : But b x y) : But b x y.drew := ⟨h.os, h.tape, h.output, h.size, h.block⟩
theorem But.alloc {b : Nat} {x y : World} (h : But b x y) (o : Obj) : But b x (y.alloc o) :=
  h.trans (But.of_below ((Below.refl _ _).alloc (Nat.le_refl _) o))
theorem But.setCell {b : Nat} {x y : World} (h : But b x y) (o : Nat) (u : Value) : But b x (y.setCell ⟨b, o, none⟩ u) :=
  h.trans ⟨rfl, rfl, rfl, by simp [World.setCell], fun k hk hb => Below.heap_setCell _ _ _ _ (by simpa using hb)⟩
theorem But.setNew {b : Nat} {x y : World} (h : But b x y) {a : Addr} (ha : x.heap.size ≤ a.block) (u : Value) : But b x (y.setCell a u) :=
  ⟨h.os, h.tape, h.output, Nat.le_trans h.size (by simp [World.setCell]), fun k hk hb => (Below.heap_setCell _ _ _ _ (by omega)).trans (h.block k hk hb)⟩
theorem But.cell {b : Nat} {x y : World} (h : But b x y) {a : Addr} (ha : a.block < x.heap.size) (hb : a.block ≠ b) : y.cell? a = x.cell? a := World.cell?_of_block (w := x) (h.block a.block ha hb)

/-- The reader lies in block b: the text, the place and the text of the token at hand, how many brackets are open. -/
structure Rd (w : World) (b : Nat) (s : ByteArray) (p : Nat) (t : ByteArray) (d : Nat) : Prop where
  blk : w.heap[b]? = some (.cells #[.string s, .int .i64 p, .string t, .int .i64 d] 140)

theorem Rd.lt {w : World} {b : Nat} {s : ByteArray} {p : Nat} {t : ByteArray} {d : Nat} (h : Rd w b s p t d) : b < w.heap.size := by
  rcases Nat.lt_or_ge b w.heap.size with k | k
  · exact k
  · have := h.blk; rw [Array.getElem?_eq_none k] at this; cases this
theorem Rd.c0 {w : World} {b : Nat} {s : ByteArray} {p : Nat} {t : ByteArray} {d : Nat} (h : Rd w b s p t d) : w.cell? ⟨b, 0, none⟩ = some (.string s) := by simp [World.cell?, h.blk]
theorem Rd.c1 {w : World} {b : Nat} {s : ByteArray} {p : Nat} {t : ByteArray} {d : Nat} (h : Rd w b s p t d) : w.cell? ⟨b, 1, none⟩ = some (.int .i64 p) := by simp [World.cell?, h.blk]
theorem Rd.c2 {w : World} {b : Nat} {s : ByteArray} {p : Nat} {t : ByteArray} {d : Nat} (h : Rd w b s p t d) : w.cell? ⟨b, 2, none⟩ = some (.string t) := by simp [World.cell?, h.blk]
theorem Rd.c3 {w : World} {b : Nat} {s : ByteArray} {p : Nat} {t : ByteArray} {d : Nat} (h : Rd w b s p t d) : w.cell? ⟨b, 3, none⟩ = some (.int .i64 d) := by simp [World.cell?, h.blk]
theorem Rd.fz {w : World} {b : Nat} {s : ByteArray} {p : Nat} {t : ByteArray} {d : Nat} (h : Rd w b s p t d) (o : Nat) : w.frozen? ⟨b, o, none⟩ = false := by simp [World.frozen?, h.blk]
theorem Rd.of_block {w w' : World} {b : Nat} {s : ByteArray} {p : Nat} {t : ByteArray} {d : Nat} (h : Rd w b s p t d) (e : w'.heap[b]? = w.heap[b]?) : Rd w' b s p t d := ⟨e.trans h.blk⟩
theorem Rd.below {w w' : World} {b : Nat} {s : ByteArray} {p : Nat} {t : ByteArray} {d : Nat} (h : Rd w b s p t d) (k : Below w.heap.size w w') : Rd w' b s p t d := h.of_block (k.block b h.lt)
theorem Rd.drew {w : World} {b : Nat} {s : ByteArray} {p : Nat} {t : ByteArray} {d : Nat} (h : Rd w b s p t d) : Rd w.drew b s p t d := ⟨h.blk⟩
theorem Rd.alloc {w : World} {b : Nat} {s : ByteArray} {p : Nat} {t : ByteArray} {d : Nat} (h : Rd w b s p t d) (o : Obj) : Rd (w.alloc o) b s p t d := h.below ((Below.refl _ _).alloc (Nat.le_refl _) o)

theorem heap_setCell_blk {w : World} {b o : Nat} {c : Array Value} {T : TypeId} {f : Nat × Nat} (u : Value) (h : w.heap[b]? = some (.cells c T f)) :
    (w.setCell ⟨b, o, none⟩ u).heap[b]? = some (.cells (c.setIfInBounds o u) T f) := by
  simp [World.setCell, Array.getElem?_modify, h]

theorem Rd.now {w : World} {b : Nat} {s : ByteArray} {p : Nat} {t : ByteArray} {d : Nat} (h : Rd w b s p t d) (p' : Nat) (t' : ByteArray) :
    Rd ((w.setCell ⟨b, 1, none⟩ (.int .i64 p')).setCell ⟨b, 2, none⟩ (.string t')) b s p' t' d := by
  refine ⟨?_⟩
  rw [heap_setCell_blk _ (heap_setCell_blk _ h.blk)]
  rfl

/-- Block g is known whole: plain cells, none frozen. -/
def Blk (w : World) (g : Nat) (cs : Array Value) (T : TypeId) : Prop := w.heap[g]? = some (.cells cs T)
theorem Blk.new (w : World) (cs : Array Value) (T : TypeId) : Blk (w.alloc (.cells cs T)) w.heap.size cs T := by
  show (w.heap.push _)[w.heap.size]? = _
  simp
theorem Blk.lt {w : World} {g : Nat} {cs : Array Value} {T : TypeId} (h : Blk w g cs T) : g < w.heap.size := by
  rcases Nat.lt_or_ge g w.heap.size with k | k
  · exact k
  · unfold Blk at h; rw [Array.getElem?_eq_none k] at h; cases h
theorem Blk.below {w w' : World} {g : Nat} {cs : Array Value} {T : TypeId} (h : Blk w g cs T) (k : Below w.heap.size w w') : Blk w' g cs T := (k.block g h.lt).trans h
theorem Blk.but {w w' : World} {b g : Nat} {cs : Array Value} {T : TypeId} (h : Blk w g cs T) (k : But b w w') (hg : g ≠ b) : Blk w' g cs T := (k.block g h.lt hg).trans h
theorem Blk.alloc {w : World} {g : Nat} {cs : Array Value} {T : TypeId} (h : Blk w g cs T) (o : Obj) : Blk (w.alloc o) g cs T := h.below ((Below.refl _ _).alloc (Nat.le_refl _) o)
theorem Blk.drew {w : World} {g : Nat} {cs : Array Value} {T : TypeId} (h : Blk w g cs T) : Blk w.drew g cs T := h
theorem Blk.other {w : World} {g : Nat} {cs : Array Value} {T : TypeId} (h : Blk w g cs T) {a : Addr} (ha : g ≠ a.block) (u : Value) : Blk (w.setCell a u) g cs T := (Below.heap_setCell _ _ _ _ ha).trans h
theorem Blk.set {w : World} {g : Nat} {cs : Array Value} {T : TypeId} (h : Blk w g cs T) (o : Nat) (u : Value) : Blk (w.setCell ⟨g, o, none⟩ u) g (cs.setIfInBounds o u) T := heap_setCell_blk u h
theorem Blk.cell {w : World} {g : Nat} {cs : Array Value} {T : TypeId} (h : Blk w g cs T) {o : Nat} {v : Value} (hv : cs[o]? = some v) : w.cell? ⟨g, o, none⟩ = some v := by unfold Blk at h; simp [World.cell?, h, hv]
theorem Blk.fz {w : World} {g : Nat} {cs : Array Value} {T : TypeId} (h : Blk w g cs T) (o : Nat) : w.frozen? ⟨g, o, none⟩ = false := by unfold Blk at h; simp [World.frozen?, h]
theorem Rd.blk' {w : World} {b : Nat} {s : ByteArray} {p : Nat} {t : ByteArray} {d : Nat} (h : Rd w b s p t d) : Blk w b #[.string s, .int .i64 p, .string t, .int .i64 d] 140 := h.blk

/-- The token at hand, when the reader has come to the token from k on. -/
def tokP (s : ByteArray) (k : Nat) : Nat := skip (lst s) k
def tokT (s : ByteArray) (k : Nat) : ByteArray := mk (tokText (lst s) (skip (lst s) k))

theorem skip_le (l : List UInt8) (k : Nat) (h : k ≤ l.length) : skip l k ≤ l.length := by
  unfold skip
  have := (List.takeWhile_sublist blankC (l := l.drop k)).length_le
  rw [List.length_drop] at this; omega
theorem tokText_length (l : List UInt8) (p : Nat) (h : p ≤ l.length) : p + (tokText l p).length ≤ l.length := by
  unfold tokText
  have := tokSize_le (l.drop p)
  rw [List.length_take, List.length_drop] at *
  omega
theorem mk_size (l : List UInt8) : (mk l).size = l.length := by simp [mk, ByteArray.size]
theorem tok_fits (s : ByteArray) (k : Nat) (h : k ≤ s.size) : tokP s k + (tokT s k).size ≤ s.size := by
  unfold tokP tokT
  rw [mk_size, ← lst_length]
  rw [← lst_length] at h
  exact tokText_length _ _ (skip_le _ _ h)

set_option maxHeartbeats 400000 in
theorem at_any (n : Int) (w : World) : Calls Tryz.prog 76 #[.int .i64 n] w fun e w' => e = .returned (.int .i64 n) ∧ w' = w := by
  go_enter Tryz.func76, Tryz.ntmps76
  go_wp2
  go_ret
  exact ⟨rfl, rfl⟩

theorem tokenFrom_int (s : ByteArray) (k : Nat) (a : Int) (w : World) (hs : s.size ≤ maxLen) (ha : k ≤ s.size) (hk : a = (k : Int)) :
    Calls Tryz.prog 71 #[.string s, .int .i64 a] w fun e w' => e = .returned (.agg #[.int .i64 (tokP s k), .string (tokT s k)]) ∧ Below w.heap.size w w' := by
  subst hk
  exact tokenFrom_any s k w hs ha

end Go.Proofs.YtlbpnlngckgcbaaGreatDoor
