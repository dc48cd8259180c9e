import Derived.Test.YtlbpnlngckgcbaaGreatDoorM11
namespace Go.Proofs.YtlbpnlngckgcbaaGreatDoor
open Go.RowKit Go.PlainAid
set_option linter.unusedSimpArgs false
set_option linter.unusedVariables false
/-- The document's own reader in block b: it stands at token i, within d brackets; e: the error (0: none), a: its place. -/
structure RS (w : World) (b : Nat) (s : ByteArray) (tv : Value) (i d e a : Nat) (kv rv pv : Value) : Prop where
 blk : Blk w b #[tv, .int .i64 i, .int .i64 d, .int .i64 e, .int .i64 a, kv, rv, pv] 252
 tok : w.ownsRow 0 259 3 tv (toks s).length (tksCells (toks s))
 gd : Gd s i
 fm : (∃ x n c, kv = .slice x n c) ∧ (∃ x n c, rv = .slice x n c) ∧ (∃ x n c, pv = .slice x n c)
 sz : s.size ≤ 500
theorem Blk.eight {w : World} {g : Nat} {x0 x1 x2 x3 x4 x5 x6 x7 : Value} {T : TypeId} (h : Blk w g #[x0, x1, x2, x3, x4, x5, x6, x7] T) : w.cell? ⟨g, 0, none⟩ = some x0 ∧ w.cell? ⟨g, 1, none⟩ = some x1 ∧ w.cell? ⟨g, 2, none⟩ = some x2 ∧ w.cell? ⟨g, 3, none⟩ = some x3 ∧ w.cell? ⟨g, 4, none⟩ = some x4 ∧ w.cell? ⟨g, 5, none⟩ = some x5 ∧ w.cell? ⟨g, 6, none⟩ = some x6 ∧ w.cell? ⟨g, 7, none⟩ = some x7 :=
 ⟨h.cell rfl, h.cell rfl, h.cell rfl, h.cell rfl, h.cell rfl, h.cell rfl, h.cell rfl, h.cell rfl⟩
/-- The token at hand lies in the row. -/
theorem RS.at {w : World} {b : Nat} {s : ByteArray} {tv : Value} {i d e a : Nat} {kv rv pv : Value} (h : RS w b s tv i d e a kv rv pv) :
  ∃ g c, tv = .slice (some ⟨g, 0, none⟩) (toks s).length c ∧ i < (toks s).length ∧ w.cell? ⟨g, i * 3, none⟩ = some (.string (TT s i)) ∧ w.cell? ⟨g, i * 3 + 1, none⟩ = some (.int .i64 (PP s i)) ∧ w.cell? ⟨g, i * 3 + 2, none⟩ = some (.bool (wordT (TT s i))) := by
 have ht := toks_at s i h.gd
 obtain ⟨h0, h1, h2⟩ := tks_at _ _ _ ht
 obtain ⟨g, c, e0, c0⟩ := own_cell h.tok _ _ h0
 obtain ⟨g1, k1, e1, c1⟩ := own_cell h.tok _ _ h1
 obtain ⟨g2, k2, e2, c2⟩ := own_cell h.tok _ _ h2
 rw [e0] at e1 e2
 simp only [Value.slice.injEq, Option.some.injEq, Addr.mk.injEq] at e1 e2
 obtain ⟨⟨rfl, _⟩, _⟩ := e1
 obtain ⟨⟨rfl, _⟩, _⟩ := e2
 refine ⟨g, c, e0, ?_, ?_, c1, c2⟩
 ·exact (List.getElem?_eq_some_iff.1 ht).1
 ·rw [mk_lst] at c0; exact c0
theorem RS.below {w : World} {b : Nat} {s : ByteArray} {tv : Value} {i d e a : Nat} {kv rv pv : Value} {w' : World} (h : RS w b s tv i d e a kv rv pv) (k : Below w.heap.size w w') : RS w' b s tv i d e a kv rv pv := ⟨h.blk.below k, ownsRow_frame h.tok (fun g cs f _ hh => k.block g (lt_of_some hh)), h.gd, h.fm, h.sz⟩
theorem Below.drewN' {w : World} (m : Nat) : Below w.heap.size w (w.drewN m) := below_drewN (Below.refl _ _) m
theorem RS.drewN {w : World} {b : Nat} {s : ByteArray} {tv : Value} {i d e a : Nat} {kv rv pv : Value} (h : RS w b s tv i d e a kv rv pv) (m : Nat) : RS (w.drewN m) b s tv i d e a kv rv pv := h.below (Below.drewN' m)
theorem RS.lt {w : World} {b : Nat} {s : ByteArray} {tv : Value} {i d e a : Nat} {kv rv pv : Value} (h : RS w b s tv i d e a kv rv pv) : b < w.heap.size := h.blk.lt
theorem RS.setI {w : World} {b : Nat} {s : ByteArray} {tv : Value} {i d e a : Nat} {kv rv pv : Value} (h : RS w b s tv i d e a kv rv pv) (j : Nat) (hj : Gd s j) : RS (w.setCell ⟨b, 1, none⟩ (.int .i64 j)) b s tv j d e a kv rv pv := ⟨h.blk.set 1 _, own_set h.tok h.blk (by decide) _ _, hj, h.fm, h.sz⟩
theorem RS.setD {w : World} {b : Nat} {s : ByteArray} {tv : Value} {i d e a : Nat} {kv rv pv : Value} (h : RS w b s tv i d e a kv rv pv) (j : Nat) : RS (w.setCell ⟨b, 2, none⟩ (.int .i64 j)) b s tv i j e a kv rv pv := ⟨h.blk.set 2 _, own_set h.tok h.blk (by decide) _ _, h.gd, h.fm, h.sz⟩
theorem RS.setE {w : World} {b : Nat} {s : ByteArray} {tv : Value} {i d e a : Nat} {kv rv pv : Value} (h : RS w b s tv i d e a kv rv pv) (j : Nat) : RS (w.setCell ⟨b, 3, none⟩ (.int .i64 j)) b s tv i d j a kv rv pv := ⟨h.blk.set 3 _, own_set h.tok h.blk (by decide) _ _, h.gd, h.fm, h.sz⟩
theorem RS.setA {w : World} {b : Nat} {s : ByteArray} {tv : Value} {i d e a : Nat} {kv rv pv : Value} (h : RS w b s tv i d e a kv rv pv) (j : Nat) : RS (w.setCell ⟨b, 4, none⟩ (.int .i64 j)) b s tv i d e j kv rv pv := ⟨h.blk.set 4 _, own_set h.tok h.blk (by decide) _ _, h.gd, h.fm, h.sz⟩
theorem RS.but {w w' : World} {b : Nat} {s : ByteArray} {tv : Value} {i d e a : Nat} {kv rv pv : Value} (h : RS w b s tv i d e a kv rv pv) (k : But b w w') {i' d' e' a' : Nat} (hb : ∃ x, Blk w' b x 252 ∧ x = #[tv, .int .i64 i', .int .i64 d', .int .i64 e', .int .i64 a', kv, rv, pv]) (hg : Gd s i') : RS w' b s tv i' d' e' a' kv rv pv := by
 obtain ⟨x, hb, rfl⟩ := hb
 exact ⟨hb, ownsRow_frame h.tok (fun g cs f _ hh => k.block g (lt_of_some hh) (fun e => by
  subst e
  have := h.blk
  unfold Blk at this
  rw [this] at hh
  simp at hh)), hg, h.fm, h.sz⟩
theorem Gd.succ {s : ByteArray} {i : Nat} (h : Gd s i) (ht : 0 < (TT s i).size) : Gd s (i + 1) := fun j hj => by
 by_cases e : j = i
 ·subst e; exact ht
 ·exact h j (by omega)
theorem Gd.le {s : ByteArray} {i : Nat} (h : Gd s i) : i ≤ s.size := by
 have := (List.getElem?_eq_some_iff.1 (toks_at s i h)).1
 have := toks_len s
 omega
set_option maxHeartbeats 1000000 in
set_option maxRecDepth 100000 in
theorem is_ok (b : Nat) (s : ByteArray) (tv : Value) (i d a : Nat) (kv rv pv : Value) (x : ByteArray) (w : World) (h : RS w b s tv i d 0 a kv rv pv) :
  Calls Tryz.prog 187 #[.pointer (some ⟨b, 0, none⟩), .string x] w fun e w' => e = .returned (.bool (eqs (TT s i) x)) ∧ ∃ m, w' = w.drewN m := by
 rw [show eqs (TT s i) x = ((TT s i).toList == x.toList) by unfold eqs; rw [toList_lst, toList_lst]]
 obtain ⟨g, c, rfl, hi, t0, t1, t2⟩ := h.at
 obtain ⟨r0, r1, r2, r3, r4, _⟩ := h.blk.eight
 have hn := toks_len s
 have hz := h.sz
 clear h
 go_enter Tryz.func187, Tryz.ntmps187
 go_wp2
 go_quiet (fail)
 go_wp2
 go_ret
 exact ⟨rfl, _, rfl⟩
set_option maxHeartbeats 1000000 in
set_option maxRecDepth 100000 in
theorem is_err (b : Nat) (s : ByteArray) (tv : Value) (i d e0 a : Nat) (kv rv pv : Value) (x : ByteArray) (w : World) (h : RS w b s tv i d e0 a kv rv pv) (he : e0 ≠ 0) :
  Calls Tryz.prog 187 #[.pointer (some ⟨b, 0, none⟩), .string x] w fun e w' => e = .returned (.bool false) ∧ ∃ m, w' = w.drewN m := by
 obtain ⟨g, c, rfl, hi, t0, t1, t2⟩ := h.at
 obtain ⟨r0, r1, r2, r3, r4, _⟩ := h.blk.eight
 have he' : ¬ ((e0 : Int) = 0) := by omega
 clear h
 go_enter Tryz.func187, Tryz.ntmps187
 go_wp2
 go_quiet (fail)
 go_wp2
 go_ret
 exact ⟨rfl, _, rfl⟩
set_option maxHeartbeats 1000000 in
set_option maxRecDepth 100000 in
theorem fail_ok (b : Nat) (s : ByteArray) (tv : Value) (i d a : Nat) (kv rv pv : Value) (c0 : Nat) (w : World) (h : RS w b s tv i d 0 a kv rv pv) :
  Calls Tryz.prog 189 #[.pointer (some ⟨b, 0, none⟩), .int .i64 c0] w fun e w' => e = .returned (.tuple #[]) ∧ But b w w' ∧ RS w' b s tv i d c0 (PP s i) kv rv pv := by
 have H := hide h
 obtain ⟨g, c, e0, hi, t0, t1, t2⟩ := h.at
 obtain ⟨r0, r1, r2, r3, r4, _⟩ := h.blk.eight
 have hz := h.blk.fz
 have hn := toks_len s
 have hs := h.sz
 have hgb : ¬ (g = b) := fun e => by
  have := own_ne h.tok h.blk (by decide)
  rw [e0, e] at this
  exact this rfl
 have hbg : ¬ (b = g) := fun e => hgb e.symm
 rw [e0] at r0
 clear h e0
 go_enter Tryz.func189, Tryz.ntmps189
 go_wp2
 go_region
 go_wp2
 go_end0
 exact ⟨rfl, (((But.refl b w).setCell 3 _).setCell 4 _).drew, ((uh H).setE c0 |>.setA (PP s i)).drewN 1⟩
set_option maxHeartbeats 1000000 in
set_option maxRecDepth 100000 in
theorem sign_yes (b : Nat) (s : ByteArray) (tv : Value) (i d a : Nat) (kv rv pv : Value) (x : ByteArray) (w : World) (h : RS w b s tv i d 0 a kv rv pv) (he : eqs (TT s i) x = true) (hx : 0 < (lst x).length) :
  Calls Tryz.prog 188 #[.pointer (some ⟨b, 0, none⟩), .string x] w fun e w' => e = .returned (.tuple #[]) ∧ But b w w' ∧ RS w' b s tv (i + 1) d 0 a kv rv pv := by
 have H := hide h
 obtain ⟨r0, r1, r2, r3, r4, _⟩ := h.blk.eight
 have hz := h.blk.fz
 have hlt := h.lt
 have hg := h.gd.succ (eqs_pos he hx)
 have hle := h.gd.le
 have hs := h.sz
 have C := hide (is_ok b s tv i d a kv rv pv x w h)
 rw [he] at C
 clear h he hx
 go_enter Tryz.func188, Tryz.ntmps188
 go_wp2_with fail
 refine (uh C).mono ?_
 rintro e w' ⟨rfl, m, rfl⟩
 go_wp2
 go_end0
 exact ⟨rfl, (But.of_below (Below.drewN' m)).setCell 1 _, (uh H).drewN m |>.setI (i + 1) hg⟩
set_option maxHeartbeats 1000000 in
set_option maxRecDepth 100000 in
theorem sign_no (b : Nat) (s : ByteArray) (tv : Value) (i d a : Nat) (kv rv pv : Value) (x : ByteArray) (w : World) (h : RS w b s tv i d 0 a kv rv pv) (he : eqs (TT s i) x = false) :
  Calls Tryz.prog 188 #[.pointer (some ⟨b, 0, none⟩), .string x] w fun e w' => e = .returned (.tuple #[]) ∧ But b w w' ∧ RS w' b s tv i d 2 (PP s i) kv rv pv := by
 have H := hide h
 obtain ⟨r0, r1, r2, r3, r4, _⟩ := h.blk.eight
 have hz := h.blk.fz
 have hlt := h.lt
 have C := hide (is_ok b s tv i d a kv rv pv x w h)
 rw [he] at C
 clear h he
 go_enter Tryz.func188, Tryz.ntmps188
 go_wp2_with fail
 refine (uh C).mono ?_
 rintro e w' ⟨rfl, m, rfl⟩
 have C2 := hide (fail_ok b s tv i d a kv rv pv 2 _ ((uh H).drewN m))
 go_wp2_with fail
 refine (uh C2).mono ?_
 rintro e w2 ⟨rfl, b2, k2⟩
 have B2 := hide ((But.of_below (b := b) (Below.drewN' m)).trans b2)
 have K2 := hide k2
 clear b2 k2 C2 C
 go_wp2
 go_end0
 exact ⟨rfl, uh B2, uh K2⟩
set_option maxHeartbeats 1000000 in
set_option maxRecDepth 100000 in
theorem fail_err (b : Nat) (s : ByteArray) (tv : Value) (i d e0 a : Nat) (kv rv pv : Value) (c0 : Int) (w : World) (h : RS w b s tv i d e0 a kv rv pv) (he : e0 ≠ 0) :
  Calls Tryz.prog 189 #[.pointer (some ⟨b, 0, none⟩), .int .i64 c0] w fun e w' => e = .returned (.tuple #[]) ∧ ∃ m, w' = w.drewN m := by
 have H := hide h
 obtain ⟨r0, r1, r2, r3, r4, _⟩ := h.blk.eight
 have hz := h.blk.fz
 have hlt := h.lt
 have he' : ¬ ((e0 : Int) = 0) := by omega
 have he2 : ((e0 : Int) == 0) = false := beq_eq_false_iff_ne.2 he'
 clear h
 go_enter Tryz.func189, Tryz.ntmps189
 go_wp2
 go_end0
 exact ⟨rfl, 0, rfl⟩
set_option maxHeartbeats 1000000 in
set_option maxRecDepth 100000 in
theorem sign_err (b : Nat) (s : ByteArray) (tv : Value) (i d e0 a : Nat) (kv rv pv : Value) (x : ByteArray) (w : World) (h : RS w b s tv i d e0 a kv rv pv) (he : e0 ≠ 0) :
  Calls Tryz.prog 188 #[.pointer (some ⟨b, 0, none⟩), .string x] w fun e w' => e = .returned (.tuple #[]) ∧ Below w.heap.size w w' := by
 have H := hide h
 have C := hide (is_err b s tv i d e0 a kv rv pv x w h he)
 clear h
 go_enter Tryz.func188, Tryz.ntmps188
 go_wp2_with fail
 refine (uh C).mono ?_
 rintro e w' ⟨rfl, m, rfl⟩
 have C2 := hide (fail_err b s tv i d e0 a kv rv pv 2 _ ((uh H).drewN m) he)
 go_wp2_with fail
 refine (uh C2).mono ?_
 rintro e w2 ⟨rfl, m2, rfl⟩
 go_wp2
 go_end0
 exact ⟨rfl, Below.drewN' _⟩
theorem results_cc1 {P : Program} {fn : Func} {p : Tmp} {ty : TypeId} (h : fn.results = #[.cell p ty]) (tmps : Array Value) (w : World) (g : Nat) (cs : Array Value) (t : TypeId) (d : TypeDesc)
  (hp : tmps.getD p undef = .pointer (some ⟨g, 0, none⟩)) (hb : ∃ x, Blk w g x t ∧ x = cs)
  (hu : P.underlying ty = some d) (hd : (match d with | .struct _ | .array _ _ => true | _ => false) = true) (hi : (P.info? ty).map (·.size) = some cs.size) :
  (results fn tmps).run P w = .ok (.agg cs) w := by
 obtain ⟨x, hb, rfl⟩ := hb
 exact results_cell_row h tmps w g t x (0, 0) d hp hb hu hd hi
/-- What 'name' gives back: the token at hand. -/
def tkv (s : ByteArray) (i : Nat) : Value := .agg #[.string (TT s i), .int .i64 (PP s i), .bool (wordT (TT s i))]
theorem isNm_wordT (t : ByteArray) : isNm t = (wordT t && !(t.toList == [116, 121, 112, 101])) := by
 rw [toList_lst]
 unfold isNm wordT
 cases lst t with
 | nil => rfl
 | cons c r => rfl
set_option maxHeartbeats 1000000 in
set_option maxRecDepth 100000 in
theorem rname_ok (b : Nat) (s : ByteArray) (tv : Value) (i d a : Nat) (kv rv pv : Value) (w : World) (h : RS w b s tv i d 0 a kv rv pv) (hn : isNm (TT s i) = true) (hl : (TT s i).size ≤ 8) :
  Calls Tryz.prog 228 #[.pointer (some ⟨b, 0, none⟩), .bool true] w fun e w' => e = .returned (tkv s i) ∧ But b w w' ∧ RS w' b s tv (i + 1) d 0 a kv rv pv := by
 have hg := h.gd.succ (isNm_pos hn)
 rw [isNm_wordT, Bool.and_eq_true] at hn
 obtain ⟨n1, n2⟩ := hn
 have n3 : ((TT s i).toList == [116, 121, 112, 101]) = false := by simpa using n2
 have hl' : ¬ ((8 : Int) < ((TT s i).size : Int)) := by omega
 clear n2 hl
 have H0 := hide h
 have hle := h.gd.le
 have hs := h.sz
 have hlt := h.lt
 have H := hide (h.below ((Below.refl _ _).alloc (Nat.le_refl _) (.cells #[.string ⟨#[]⟩, .int .i64 0, .bool false] 259)))
 have RB := hide (Blk.new w #[.string ⟨#[]⟩, .int .i64 0, .bool false] 259)
 have B1 := hide (But.of_below (b := b) ((Below.refl _ w).alloc (Nat.le_refl _) (.cells #[.string ⟨#[]⟩, .int .i64 0, .bool false] 259)))
 clear h
 go_enter Tryz.func228, Tryz.ntmps228
 go_wp2_with fail
 generalize w.alloc (.cells #[.string ⟨#[]⟩, .int .i64 0, .bool false] 259) = W at *
 obtain ⟨g, c, e0, hi, t0, t1, t2⟩ := (uh H).at
 obtain ⟨r0, r1, r2, r3, r4, _⟩ := (uh H).blk.eight
 obtain ⟨q0, q1, q2⟩ := (uh RB).three
 have HBK := hide (uh H).blk
 have zb := (uh H).blk.fz
 have zq := (uh RB).fz
 have hbw := (uh H).lt
 have hqw := (uh RB).lt
 rw [e0] at r0
 have E0 := hide e0
 clear e0
 have gl := lt_of_cell t0
 have BW := hide (Below.refl W.heap.size W)
 have m0 := World.new_ne W _ r0
 have m1 := World.new_ne W _ r1
 have m2 := World.new_ne W _ t0
 have hne : ¬ (w.heap.size = b) := by omega
 have hne' : ¬ (b = w.heap.size) := by omega
 go_region_held3 (fun w' => w'.cell? ⟨b, 0, none⟩ = some (.slice (some ⟨g, 0, none⟩) (toks s).length c) ∧ w'.cell? ⟨b, 1, none⟩ = some (.int .i64 i) ∧ w'.cell? ⟨g, i * 3, none⟩ = some (.string (TT s i)) ∧ w'.cell? ⟨g, i * 3 + 1, none⟩ = some (.int .i64 (PP s i)) ∧ w'.cell? ⟨g, i * 3 + 2, none⟩ = some (.bool (wordT (TT s i)))) (go_keep) (fail)
 rename_i hh
 clear hh
 go_wp2
 refine bodyPost_ret (v := tkv s i) (results_cc1 Tryz.results228 _ _ w.heap.size _ 259 _ rfl ?hB Tryz.underlying259 rfl (by kernel_rfl)) rfl ⟨rfl, ?but, RS.but (i' := i + 1) (d' := d) (e' := 0) (a' := a) (uh H0) ?but2 ?hb2 hg⟩
 case hB => exact ⟨_, (by repeat (first | with_reducible exact uh RB | with_reducible apply Blk.alloc | with_reducible apply Blk.drew | with_reducible apply Blk.set | (with_reducible apply Blk.other; case ha => exact (by first | omega | (simp; omega) | simp | (simp; done))))), by rw [n1]; rfl⟩
 case but => exact (by repeat (first | with_reducible exact uh B1 | with_reducible refine But.alloc ?_ _ | with_reducible refine But.drew ?_ | with_reducible refine But.setCell ?_ _ _ | (with_reducible refine But.setNew ?_ ?_ _; rotate_left; exact (by first | omega | (simp; omega) | simp | (simp; done)))))
 case but2 => exact (by repeat (first | with_reducible exact uh B1 | with_reducible refine But.alloc ?_ _ | with_reducible refine But.drew ?_ | with_reducible refine But.setCell ?_ _ _ | (with_reducible refine But.setNew ?_ ?_ _; rotate_left; exact (by first | omega | (simp; omega) | simp | (simp; done)))))
 case hb2 => exact ⟨_, (by repeat (first | with_reducible exact uh HBK | with_reducible apply Blk.alloc | with_reducible apply Blk.drew | with_reducible apply Blk.set | (with_reducible apply Blk.other; case ha => exact (by first | omega | (simp; omega) | simp | (simp; done))))), by rfl⟩
set_option maxHeartbeats 1000000 in
set_option maxRecDepth 100000 in
theorem rname_now (b : Nat) (s : ByteArray) (tv : Value) (i d a : Nat) (kv rv pv : Value) (rm : Bool) (w : World) (h : RS w b s tv i d 0 a kv rv pv) (n1 : wordT (TT s i) = false) :
  Calls Tryz.prog 228 #[.pointer (some ⟨b, 0, none⟩), .bool rm] w fun e w' => e = .returned (tkv s i) ∧ But b w w' ∧ RS w' b s tv i d 2 (PP s i) kv rv pv := by
 have HG := hide h.gd
 have H0 := hide h
 have hle := h.gd.le
 have hs := h.sz
 have hlt := h.lt
 have H := hide (h.below ((Below.refl _ _).alloc (Nat.le_refl _) (.cells #[.string ⟨#[]⟩, .int .i64 0, .bool false] 259)))
 have RB := hide (Blk.new w #[.string ⟨#[]⟩, .int .i64 0, .bool false] 259)
 have B1 := hide (But.of_below (b := b) ((Below.refl _ w).alloc (Nat.le_refl _) (.cells #[.string ⟨#[]⟩, .int .i64 0, .bool false] 259)))
 clear h
 go_enter Tryz.func228, Tryz.ntmps228
 go_wp2_with fail
 generalize w.alloc (.cells #[.string ⟨#[]⟩, .int .i64 0, .bool false] 259) = W at *
 obtain ⟨g, c, e0, hi, t0, t1, t2⟩ := (uh H).at
 obtain ⟨r0, r1, r2, r3, r4, _⟩ := (uh H).blk.eight
 obtain ⟨q0, q1, q2⟩ := (uh RB).three
 have HBK := hide (uh H).blk
 have zb := (uh H).blk.fz
 have zq := (uh RB).fz
 have hbw := (uh H).lt
 have hqw := (uh RB).lt
 rw [e0] at r0
 have E0 := hide e0
 clear e0
 have gl := lt_of_cell t0
 have BW := hide (Below.refl W.heap.size W)
 have m0 := World.new_ne W _ r0
 have m1 := World.new_ne W _ r1
 have m2 := World.new_ne W _ t0
 have hne : ¬ (w.heap.size = b) := by omega
 have hne' : ¬ (b = w.heap.size) := by omega
 go_region_held3 (fun w' => w'.cell? ⟨b, 0, none⟩ = some (.slice (some ⟨g, 0, none⟩) (toks s).length c) ∧ w'.cell? ⟨b, 1, none⟩ = some (.int .i64 i) ∧ w'.cell? ⟨g, i * 3, none⟩ = some (.string (TT s i)) ∧ w'.cell? ⟨g, i * 3 + 1, none⟩ = some (.int .i64 (PP s i)) ∧ w'.cell? ⟨g, i * 3 + 2, none⟩ = some (.bool (wordT (TT s i)))) (go_keep) (fail)
 rename_i hh
 clear hh
 go_wp2_with fail
 refine (fail_ok b s tv i d a kv rv pv 2 _ ?rs).mono ?_
 case rs => exact (uh H).below (by repeat (first | with_reducible exact uh BW | with_reducible refine Below.drew ?_ | (with_reducible refine Below.setCell ?_ ?_ _; rotate_left; exact (by first | omega | (simp; omega) | simp | (simp; done))) | (with_reducible refine Below.alloc ?_ ?_ _; rotate_left; exact (by first | omega | (simp; omega) | simp | (simp; done)))))
 rintro e w2 ⟨rfl, b2, k2⟩
 have hne2 : ¬ (W.heap.size = b) := by omega
 have RB2 := hide (Blk.but ((by repeat (first | with_reducible exact uh RB | with_reducible apply Blk.alloc | with_reducible apply Blk.drew | with_reducible apply Blk.set | (with_reducible apply Blk.other; case ha => exact (by first | omega | (simp; omega) | simp | (simp; done)))))) b2 hne)
 have TB2 := hide (Blk.but (Blk.new W #[.string (TT s i), .int .i64 (PP s i), .bool false] 259).drew b2 hne2)
 have B2 := hide ((show But b w _ from (by repeat (first | with_reducible exact uh B1 | with_reducible refine But.alloc ?_ _ | with_reducible refine But.drew ?_ | (with_reducible refine But.setNew ?_ ?_ _; rotate_left; exact (by first | omega | (simp; omega) | simp | (simp; done)))))).trans b2)
 have K2 := hide k2
 obtain ⟨p0, p1, p2⟩ := (uh RB2).three
 obtain ⟨u0, u1, u2⟩ := (uh TB2).three
 have zp := (uh RB2).fz
 have lp := (uh TB2).lt
 have lq := (uh RB2).lt
 clear b2 k2 r0 r1 r2 r3 r4 t0 t1 t2 q0 q1 q2 m0 m1 m2 zb zq
 go_wp2
 refine bodyPost_ret (v := tkv s i) (results_cc1 Tryz.results228 _ _ w.heap.size _ 259 _ rfl ?hB Tryz.underlying259 rfl (by kernel_rfl)) rfl ⟨rfl, ?but, RS.but (i' := i) (d' := d) (e' := 2) (a' := PP s i) (uh H0) ?but2 ?hb2 (uh HG)⟩
 case hB => exact ⟨_, (by repeat (first | with_reducible exact uh RB2 | with_reducible apply Blk.alloc | with_reducible apply Blk.drew | with_reducible apply Blk.set | (with_reducible apply Blk.other; case ha => exact (by first | omega | (simp; omega) | simp | (simp; done))))), by rw [n1]; rfl⟩
 case but => exact (by repeat (first | with_reducible exact uh B2 | with_reducible refine But.alloc ?_ _ | with_reducible refine But.drew ?_ | with_reducible refine But.setCell ?_ _ _ | (with_reducible refine But.setNew ?_ ?_ _; rotate_left; exact (by first | omega | (simp; omega) | simp | (simp; done)))))
 case but2 => exact (by repeat (first | with_reducible exact uh B2 | with_reducible refine But.alloc ?_ _ | with_reducible refine But.drew ?_ | with_reducible refine But.setCell ?_ _ _ | (with_reducible refine But.setNew ?_ ?_ _; rotate_left; exact (by first | omega | (simp; omega) | simp | (simp; done)))))
 case hb2 => exact ⟨_, ((((uh K2).blk).other hne' _).other hne' _).other hne' _, by rfl⟩
set_option maxHeartbeats 1000000 in
set_option maxRecDepth 100000 in
theorem rname_type (b : Nat) (s : ByteArray) (tv : Value) (i d a : Nat) (kv rv pv : Value) (rm : Bool) (w : World) (h : RS w b s tv i d 0 a kv rv pv) (n1 : wordT (TT s i) = true) (n3 : ((TT s i).toList == [116, 121, 112, 101]) = true) :
  Calls Tryz.prog 228 #[.pointer (some ⟨b, 0, none⟩), .bool rm] w fun e w' => e = .returned (tkv s i) ∧ But b w w' ∧ RS w' b s tv i d 2 (PP s i) kv rv pv := by
 have HG := hide h.gd
 have H0 := hide h
 have hle := h.gd.le
 have hs := h.sz
 have hlt := h.lt
 have H := hide (h.below ((Below.refl _ _).alloc (Nat.le_refl _) (.cells #[.string ⟨#[]⟩, .int .i64 0, .bool false] 259)))
 have RB := hide (Blk.new w #[.string ⟨#[]⟩, .int .i64 0, .bool false] 259)
 have B1 := hide (But.of_below (b := b) ((Below.refl _ w).alloc (Nat.le_refl _) (.cells #[.string ⟨#[]⟩, .int .i64 0, .bool false] 259)))
 clear h
 go_enter Tryz.func228, Tryz.ntmps228
 go_wp2_with fail
 generalize w.alloc (.cells #[.string ⟨#[]⟩, .int .i64 0, .bool false] 259) = W at *
 obtain ⟨g, c, e0, hi, t0, t1, t2⟩ := (uh H).at
 obtain ⟨r0, r1, r2, r3, r4, _⟩ := (uh H).blk.eight
 obtain ⟨q0, q1, q2⟩ := (uh RB).three
 have HBK := hide (uh H).blk
 have zb := (uh H).blk.fz
 have zq := (uh RB).fz
 have hbw := (uh H).lt
 have hqw := (uh RB).lt
 rw [e0] at r0
 have E0 := hide e0
 clear e0
 have gl := lt_of_cell t0
 have BW := hide (Below.refl W.heap.size W)
 have m0 := World.new_ne W _ r0
 have m1 := World.new_ne W _ r1
 have m2 := World.new_ne W _ t0
 have hne : ¬ (w.heap.size = b) := by omega
 have hne' : ¬ (b = w.heap.size) := by omega
 go_region_held3 (fun w' => w'.cell? ⟨b, 0, none⟩ = some (.slice (some ⟨g, 0, none⟩) (toks s).length c) ∧ w'.cell? ⟨b, 1, none⟩ = some (.int .i64 i) ∧ w'.cell? ⟨g, i * 3, none⟩ = some (.string (TT s i)) ∧ w'.cell? ⟨g, i * 3 + 1, none⟩ = some (.int .i64 (PP s i)) ∧ w'.cell? ⟨g, i * 3 + 2, none⟩ = some (.bool (wordT (TT s i)))) (go_keep) (fail)
 rename_i hh
 clear hh
 go_wp2_with fail
 refine (fail_ok b s tv i d a kv rv pv 2 _ ?rs).mono ?_
 case rs => exact (uh H).below (by repeat (first | with_reducible exact uh BW | with_reducible refine Below.drew ?_ | (with_reducible refine Below.setCell ?_ ?_ _; rotate_left; exact (by first | omega | (simp; omega) | simp | (simp; done))) | (with_reducible refine Below.alloc ?_ ?_ _; rotate_left; exact (by first | omega | (simp; omega) | simp | (simp; done)))))
 rintro e w2 ⟨rfl, b2, k2⟩
 have hne2 : ¬ (W.heap.size = b) := by omega
 have RB2 := hide (Blk.but ((by repeat (first | with_reducible exact uh RB | with_reducible apply Blk.alloc | with_reducible apply Blk.drew | with_reducible apply Blk.set | (with_reducible apply Blk.other; case ha => exact (by first | omega | (simp; omega) | simp | (simp; done)))))) b2 hne)
 have TB2 := hide (Blk.but (Blk.new W #[.string (TT s i), .int .i64 (PP s i), .bool true] 259).drew b2 hne2)
 have B2 := hide ((show But b w _ from (by repeat (first | with_reducible exact uh B1 | with_reducible refine But.alloc ?_ _ | with_reducible refine But.drew ?_ | (with_reducible refine But.setNew ?_ ?_ _; rotate_left; exact (by first | omega | (simp; omega) | simp | (simp; done)))))).trans b2)
 have K2 := hide k2
 obtain ⟨p0, p1, p2⟩ := (uh RB2).three
 obtain ⟨u0, u1, u2⟩ := (uh TB2).three
 have zp := (uh RB2).fz
 have lp := (uh TB2).lt
 have lq := (uh RB2).lt
 clear b2 k2 r0 r1 r2 r3 r4 t0 t1 t2 q0 q1 q2 m0 m1 m2 zb zq
 go_wp2
 refine bodyPost_ret (v := tkv s i) (results_cc1 Tryz.results228 _ _ w.heap.size _ 259 _ rfl ?hB Tryz.underlying259 rfl (by kernel_rfl)) rfl ⟨rfl, ?but, RS.but (i' := i) (d' := d) (e' := 2) (a' := PP s i) (uh H0) ?but2 ?hb2 (uh HG)⟩
 case hB => exact ⟨_, (by repeat (first | with_reducible exact uh RB2 | with_reducible apply Blk.alloc | with_reducible apply Blk.drew | with_reducible apply Blk.set | (with_reducible apply Blk.other; case ha => exact (by first | omega | (simp; omega) | simp | (simp; done))))), by rw [n1]; rfl⟩
 case but => exact (by repeat (first | with_reducible exact uh B2 | with_reducible refine But.alloc ?_ _ | with_reducible refine But.drew ?_ | with_reducible refine But.setCell ?_ _ _ | (with_reducible refine But.setNew ?_ ?_ _; rotate_left; exact (by first | omega | (simp; omega) | simp | (simp; done)))))
 case but2 => exact (by repeat (first | with_reducible exact uh B2 | with_reducible refine But.alloc ?_ _ | with_reducible refine But.drew ?_ | with_reducible refine But.setCell ?_ _ _ | (with_reducible refine But.setNew ?_ ?_ _; rotate_left; exact (by first | omega | (simp; omega) | simp | (simp; done)))))
 case hb2 => exact ⟨_, ((((uh K2).blk).other hne' _).other hne' _).other hne' _, by rfl⟩
theorem rname_text (b : Nat) (s : ByteArray) (tv : Value) (i d a : Nat) (kv rv pv : Value) (rm : Bool) (w : World) (h : RS w b s tv i d 0 a kv rv pv) (hn : isNm (TT s i) = false) :
  Calls Tryz.prog 228 #[.pointer (some ⟨b, 0, none⟩), .bool rm] w fun e w' => e = .returned (tkv s i) ∧ But b w w' ∧ RS w' b s tv i d 2 (PP s i) kv rv pv := by
 rw [isNm_wordT] at hn
 cases h1 : wordT (TT s i)
 ·exact rname_now b s tv i d a kv rv pv rm w h h1
 ·rw [h1] at hn
  exact rname_type b s tv i d a kv rv pv rm w h h1 (by simpa using hn)
set_option maxHeartbeats 1000000 in
set_option maxRecDepth 100000 in
theorem rname_big (b : Nat) (s : ByteArray) (tv : Value) (i d a : Nat) (kv rv pv : Value) (rm : Bool) (w : World) (h : RS w b s tv i d 0 a kv rv pv) (hn : isNm (TT s i) = true) (hl : 8 < (TT s i).size) :
  Calls Tryz.prog 228 #[.pointer (some ⟨b, 0, none⟩), .bool rm] w fun e w' => e = .returned (tkv s i) ∧ But b w w' ∧ RS w' b s tv i d 3 (PP s i) kv rv pv := by
 have HG := hide h.gd
 rw [isNm_wordT, Bool.and_eq_true] at hn
 obtain ⟨n1, n2⟩ := hn
 have n3 : ((TT s i).toList == [116, 121, 112, 101]) = false := by simpa using n2
 clear n2
 have hl' : (8 : Int) < ((TT s i).size : Int) := by omega
 have hdl : decide ((8 : Int) < ((TT s i).size : Int)) = true := by simpa using hl'
 have H0 := hide h
 have hle := h.gd.le
 have hs := h.sz
 have hlt := h.lt
 have H := hide (h.below ((Below.refl _ _).alloc (Nat.le_refl _) (.cells #[.string ⟨#[]⟩, .int .i64 0, .bool false] 259)))
 have RB := hide (Blk.new w #[.string ⟨#[]⟩, .int .i64 0, .bool false] 259)
 have B1 := hide (But.of_below (b := b) ((Below.refl _ w).alloc (Nat.le_refl _) (.cells #[.string ⟨#[]⟩, .int .i64 0, .bool false] 259)))
 clear h
 go_enter Tryz.func228, Tryz.ntmps228
 go_wp2_with fail
 generalize w.alloc (.cells #[.string ⟨#[]⟩, .int .i64 0, .bool false] 259) = W at *
 obtain ⟨g, c, e0, hi, t0, t1, t2⟩ := (uh H).at
 obtain ⟨r0, r1, r2, r3, r4, _⟩ := (uh H).blk.eight
 obtain ⟨q0, q1, q2⟩ := (uh RB).three
 have HBK := hide (uh H).blk
 have zb := (uh H).blk.fz
 have zq := (uh RB).fz
 have hbw := (uh H).lt
 have hqw := (uh RB).lt
 rw [e0] at r0
 have E0 := hide e0
 clear e0
 have gl := lt_of_cell t0
 have BW := hide (Below.refl W.heap.size W)
 have m0 := World.new_ne W _ r0
 have m1 := World.new_ne W _ r1
 have m2 := World.new_ne W _ t0
 have hne : ¬ (w.heap.size = b) := by omega
 have hne' : ¬ (b = w.heap.size) := by omega
 go_region_held3 (fun w' => w'.cell? ⟨b, 0, none⟩ = some (.slice (some ⟨g, 0, none⟩) (toks s).length c) ∧ w'.cell? ⟨b, 1, none⟩ = some (.int .i64 i) ∧ w'.cell? ⟨g, i * 3, none⟩ = some (.string (TT s i)) ∧ w'.cell? ⟨g, i * 3 + 1, none⟩ = some (.int .i64 (PP s i)) ∧ w'.cell? ⟨g, i * 3 + 2, none⟩ = some (.bool (wordT (TT s i)))) (go_keep) (fail)
 rename_i hh
 clear hh
 go_wp2_with fail
 refine (fail_ok b s tv i d a kv rv pv 3 _ ?rs).mono ?_
 case rs => exact (uh H).below (by repeat (first | with_reducible exact uh BW | with_reducible refine Below.drew ?_ | (with_reducible refine Below.setCell ?_ ?_ _; rotate_left; exact (by first | omega | (simp; omega) | simp | (simp; done))) | (with_reducible refine Below.alloc ?_ ?_ _; rotate_left; exact (by first | omega | (simp; omega) | simp | (simp; done)))))
 rintro e w2 ⟨rfl, b2, k2⟩
 have hne2 : ¬ (W.heap.size = b) := by omega
 have RB2 := hide (Blk.but ((by repeat (first | with_reducible exact uh RB | with_reducible apply Blk.alloc | with_reducible apply Blk.drew | with_reducible apply Blk.set | (with_reducible apply Blk.other; case ha => exact (by first | omega | (simp; omega) | simp | (simp; done)))))) b2 hne)
 have TB2 := hide (Blk.but (Blk.new W #[.string (TT s i), .int .i64 (PP s i), .bool true] 259).drew b2 hne2)
 have B2 := hide ((show But b w _ from (by repeat (first | with_reducible exact uh B1 | with_reducible refine But.alloc ?_ _ | with_reducible refine But.drew ?_ | (with_reducible refine But.setNew ?_ ?_ _; rotate_left; exact (by first | omega | (simp; omega) | simp | (simp; done)))))).trans b2)
 have K2 := hide k2
 obtain ⟨p0, p1, p2⟩ := (uh RB2).three
 obtain ⟨u0, u1, u2⟩ := (uh TB2).three
 have zp := (uh RB2).fz
 have lp := (uh TB2).lt
 have lq := (uh RB2).lt
 clear b2 k2 r0 r1 r2 r3 r4 t0 t1 t2 q0 q1 q2 m0 m1 m2 zb zq
 go_wp2
 refine bodyPost_ret (v := tkv s i) (results_cc1 Tryz.results228 _ _ w.heap.size _ 259 _ rfl ?hB Tryz.underlying259 rfl (by kernel_rfl)) rfl ⟨rfl, ?but, RS.but (i' := i) (d' := d) (e' := 3) (a' := PP s i) (uh H0) ?but2 ?hb2 (uh HG)⟩
 case hB => exact ⟨_, (by repeat (first | with_reducible exact uh RB2 | with_reducible apply Blk.alloc | with_reducible apply Blk.drew | with_reducible apply Blk.set | (with_reducible apply Blk.other; case ha => exact (by first | omega | (simp; omega) | simp | (simp; done))))), by rw [n1]; rfl⟩
 case but => exact (by repeat (first | with_reducible exact uh B2 | with_reducible refine But.alloc ?_ _ | with_reducible refine But.drew ?_ | with_reducible refine But.setCell ?_ _ _ | (with_reducible refine But.setNew ?_ ?_ _; rotate_left; exact (by first | omega | (simp; omega) | simp | (simp; done)))))
 case but2 => exact (by repeat (first | with_reducible exact uh B2 | with_reducible refine But.alloc ?_ _ | with_reducible refine But.drew ?_ | with_reducible refine But.setCell ?_ _ _ | (with_reducible refine But.setNew ?_ ?_ _; rotate_left; exact (by first | omega | (simp; omega) | simp | (simp; done)))))
 case hb2 => exact ⟨_, ((((uh K2).blk).other hne' _).other hne' _).other hne' _, by rfl⟩
set_option maxHeartbeats 1000000 in
set_option maxRecDepth 100000 in
theorem rname_full (b : Nat) (s : ByteArray) (tv : Value) (i d a : Nat) (kv rv pv : Value) (rm : Bool) (w : World) (h : RS w b s tv i d 0 a kv rv pv) (hn : isNm (TT s i) = true) (hl : (TT s i).size ≤ 8) (hr : rm = false) :
  Calls Tryz.prog 228 #[.pointer (some ⟨b, 0, none⟩), .bool rm] w fun e w' => e = .returned (tkv s i) ∧ But b w w' ∧ RS w' b s tv i d 3 (PP s i) kv rv pv := by
 have HG := hide h.gd
 rw [isNm_wordT, Bool.and_eq_true] at hn
 obtain ⟨n1, n2⟩ := hn
 have n3 : ((TT s i).toList == [116, 121, 112, 101]) = false := by simpa using n2
 clear n2
 have hl' : ¬ ((8 : Int) < ((TT s i).size : Int)) := by omega
 subst hr
 have H0 := hide h
 have hle := h.gd.le
 have hs := h.sz
 have hlt := h.lt
 have H := hide (h.below ((Below.refl _ _).alloc (Nat.le_refl _) (.cells #[.string ⟨#[]⟩, .int .i64 0, .bool false] 259)))
 have RB := hide (Blk.new w #[.string ⟨#[]⟩, .int .i64 0, .bool false] 259)
 have B1 := hide (But.of_below (b := b) ((Below.refl _ w).alloc (Nat.le_refl _) (.cells #[.string ⟨#[]⟩, .int .i64 0, .bool false] 259)))
 clear h
 go_enter Tryz.func228, Tryz.ntmps228
 go_wp2_with fail
 generalize w.alloc (.cells #[.string ⟨#[]⟩, .int .i64 0, .bool false] 259) = W at *
 obtain ⟨g, c, e0, hi, t0, t1, t2⟩ := (uh H).at
 obtain ⟨r0, r1, r2, r3, r4, _⟩ := (uh H).blk.eight
 obtain ⟨q0, q1, q2⟩ := (uh RB).three
 have HBK := hide (uh H).blk
 have zb := (uh H).blk.fz
 have zq := (uh RB).fz
 have hbw := (uh H).lt
 have hqw := (uh RB).lt
 rw [e0] at r0
 have E0 := hide e0
 clear e0
 have gl := lt_of_cell t0
 have BW := hide (Below.refl W.heap.size W)
 have m0 := World.new_ne W _ r0
 have m1 := World.new_ne W _ r1
 have m2 := World.new_ne W _ t0
 have hne : ¬ (w.heap.size = b) := by omega
 have hne' : ¬ (b = w.heap.size) := by omega
 go_region_held3 (fun w' => w'.cell? ⟨b, 0, none⟩ = some (.slice (some ⟨g, 0, none⟩) (toks s).length c) ∧ w'.cell? ⟨b, 1, none⟩ = some (.int .i64 i) ∧ w'.cell? ⟨g, i * 3, none⟩ = some (.string (TT s i)) ∧ w'.cell? ⟨g, i * 3 + 1, none⟩ = some (.int .i64 (PP s i)) ∧ w'.cell? ⟨g, i * 3 + 2, none⟩ = some (.bool (wordT (TT s i)))) (go_keep) (fail)
 rename_i hh
 clear hh
 go_wp2_with fail
 refine (fail_ok b s tv i d a kv rv pv 3 _ ?rs).mono ?_
 case rs => exact (uh H).below (by repeat (first | with_reducible exact uh BW | with_reducible refine Below.drew ?_ | (with_reducible refine Below.setCell ?_ ?_ _; rotate_left; exact (by first | omega | (simp; omega) | simp | (simp; done))) | (with_reducible refine Below.alloc ?_ ?_ _; rotate_left; exact (by first | omega | (simp; omega) | simp | (simp; done)))))
 rintro e w2 ⟨rfl, b2, k2⟩
 have hne2 : ¬ (W.heap.size = b) := by omega
 have RB2 := hide (Blk.but ((by repeat (first | with_reducible exact uh RB | with_reducible apply Blk.alloc | with_reducible apply Blk.drew | with_reducible apply Blk.set | (with_reducible apply Blk.other; case ha => exact (by first | omega | (simp; omega) | simp | (simp; done)))))) b2 hne)
 have TB2 := hide (Blk.but (Blk.new W #[.string (TT s i), .int .i64 (PP s i), .bool true] 259).drew b2 hne2)
 have B2 := hide ((show But b w _ from (by repeat (first | with_reducible exact uh B1 | with_reducible refine But.alloc ?_ _ | with_reducible refine But.drew ?_ | (with_reducible refine But.setNew ?_ ?_ _; rotate_left; exact (by first | omega | (simp; omega) | simp | (simp; done)))))).trans b2)
 have K2 := hide k2
 obtain ⟨p0, p1, p2⟩ := (uh RB2).three
 obtain ⟨u0, u1, u2⟩ := (uh TB2).three
 have zp := (uh RB2).fz
 have lp := (uh TB2).lt
 have lq := (uh RB2).lt
 clear b2 k2 r0 r1 r2 r3 r4 t0 t1 t2 q0 q1 q2 m0 m1 m2 zb zq
 go_wp2
 refine bodyPost_ret (v := tkv s i) (results_cc1 Tryz.results228 _ _ w.heap.size _ 259 _ rfl ?hB Tryz.underlying259 rfl (by kernel_rfl)) rfl ⟨rfl, ?but, RS.but (i' := i) (d' := d) (e' := 3) (a' := PP s i) (uh H0) ?but2 ?hb2 (uh HG)⟩
 case hB => exact ⟨_, (by repeat (first | with_reducible exact uh RB2 | with_reducible apply Blk.alloc | with_reducible apply Blk.drew | with_reducible apply Blk.set | (with_reducible apply Blk.other; case ha => exact (by first | omega | (simp; omega) | simp | (simp; done))))), by rw [n1]; rfl⟩
 case but => exact (by repeat (first | with_reducible exact uh B2 | with_reducible refine But.alloc ?_ _ | with_reducible refine But.drew ?_ | with_reducible refine But.setCell ?_ _ _ | (with_reducible refine But.setNew ?_ ?_ _; rotate_left; exact (by first | omega | (simp; omega) | simp | (simp; done)))))
 case but2 => exact (by repeat (first | with_reducible exact uh B2 | with_reducible refine But.alloc ?_ _ | with_reducible refine But.drew ?_ | with_reducible refine But.setCell ?_ _ _ | (with_reducible refine But.setNew ?_ ?_ _; rotate_left; exact (by first | omega | (simp; omega) | simp | (simp; done)))))
 case hb2 => exact ⟨_, ((((uh K2).blk).other hne' _).other hne' _).other hne' _, by rfl⟩
end Go.Proofs.YtlbpnlngckgcbaaGreatDoor
