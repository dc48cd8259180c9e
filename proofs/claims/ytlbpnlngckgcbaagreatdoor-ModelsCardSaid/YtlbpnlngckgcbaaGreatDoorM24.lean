import Derived.Test.YtlbpnlngckgcbaaGreatDoorM19
namespace Go.Proofs.YtlbpnlngckgcbaaGreatDoor
open Go.RowKit Go.PlainAid
set_option linter.unusedSimpArgs false
set_option linter.unusedVariables false
/-! A type, from its name on. -/
def RelB (pl : List PV) (tn : ByteArray) (x : RV) (r : Rl) : Prop := x.kd = tn ∧ x.nm = r.name ∧ x.pl = r.place ∧ ∃ f, Tr pl f x.ex r.body
def RelsB (pl : List PV) (tn : ByteArray) : List RV → List Rl → Prop
 | [], [] => True
 | x :: xs, r :: rs => RelB pl tn x r ∧ RelsB pl tn xs rs
 | _, _ => False
theorem RelB.more {pl : List PV} {tn : ByteArray} {x : RV} {r : Rl} (h : RelB pl tn x r) (t : List PV) : RelB (pl ++ t) tn x r := ⟨h.1, h.2.1, h.2.2.1, by obtain ⟨f, hf⟩ := h.2.2.2; exact ⟨f, Tr.more pl t f _ _ hf⟩⟩
theorem RelsB.more {pl : List PV} {tn : ByteArray} (t : List PV) : ∀ (xs : List RV) (rs : List Rl), RelsB pl tn xs rs → RelsB (pl ++ t) tn xs rs
 | [], [], _ => trivial
 | x :: xs, r :: rs, h => ⟨h.1.more t, RelsB.more t xs rs h.2⟩
 | [], _ :: _, h => h.elim
 | _ :: _, [], h => h.elim
theorem RelsB.snoc {pl : List PV} {tn : ByteArray} {y : RV} {q : Rl} (k : RelB pl tn y q) : ∀ (xs : List RV) (rs : List Rl), RelsB pl tn xs rs → RelsB pl tn (xs ++ [y]) (rs ++ [q])
 | [], [], _ => ⟨k, trivial⟩
 | x :: xs, r :: rs, h => ⟨h.1, RelsB.snoc k xs rs h.2⟩
 | [], _ :: _, h => h.elim
 | _ :: _, [], h => h.elim
def kindR (T : Nat → ByteArray) (P : Nat → Nat) (i : Nat) : Res Ty := match nameThenR T (sg 123) i with
 | .error e => .error e
 | .ok (_, j) => match relsL T P 512 [] j with
  | .error e => .error e
  | .ok (rs, m) => .ok (⟨T i, P i, rs⟩, m)
theorem typeR_kind (T : Nat → ByteArray) (P : Nat → Nat) (i : Nat) : typeR T P i = if eqs (T i) sType then kindR T P (i + 1) else .error (2, i) := rfl
def wrapT (n : ByteArray) (p : Nat) (r : Res (List Rl)) : Res Ty := match r with
 | .error e => .error e
 | .ok (rs, m) => .ok (⟨n, p, rs⟩, m)
/-- A name and a sign, as two steps and as one. -/
theorem name_sign (s x : ByteArray) (rm : Bool) (i a i1 e1 a1 i2 e2 a2 : Nat) (h1 : (i1, e1, a1) = nmS s rm i a) (h2 : (i2, e2, a2) = sgS s x i1 e1 a1) :
  (e2 = 0 ∧ a2 = a ∧ i2 = i + 2 ∧ isNm (TT s i) = true ∧ rm = true ∧ nameThenR (TT s) x i = .ok ((), i2)) ∨ (e2 ≠ 0 ∧ ((rm = true → ∃ jj, a2 = PP s jj ∧ nameThenR (TT s) x i = .error (e2, jj)) ∧ (isNm (TT s i) = false → ∃ jj, a2 = PP s jj ∧ nameThenR (TT s) x i = .error (e2, jj)) ∧ (isNm (TT s i) = true → rm = false → a2 = PP s i ∧ e2 = 3))) := by
 unfold nmS at h1
 unfold nameThenR nameR
 cases hn : isNm (TT s i)
 ·simp only [hn, Bool.false_eq_true, if_false, Prod.mk.injEq] at h1
  obtain ⟨rfl, rfl, rfl⟩ := h1
  simp only [sgS, Nat.reduceEqDiff, if_false, Prod.mk.injEq] at h2
  obtain ⟨rfl, rfl, rfl⟩ := h2
  exact .inr ⟨by omega, fun _ => ⟨_, rfl, by simp⟩, fun _ => ⟨_, rfl, by simp⟩, (fun h => by cases h)⟩
 ·simp only [hn, if_true] at h1
  by_cases hl : (TT s i).size ≤ 8
  ·cases hr : rm
   ·simp only [hl, hr, Bool.false_eq_true, and_false, if_false, Prod.mk.injEq] at h1
    obtain ⟨rfl, rfl, rfl⟩ := h1
    simp only [sgS, Nat.reduceEqDiff, if_false, Prod.mk.injEq] at h2
    obtain ⟨rfl, rfl, rfl⟩ := h2
    exact .inr ⟨by omega, (fun h => by cases h), (fun h => by cases h), fun _ _ => ⟨rfl, rfl⟩⟩
   ·simp only [hl, hr, and_self, if_true, Prod.mk.injEq] at h1
    obtain ⟨rfl, rfl, rfl⟩ := h1
    have hl' : ¬ (8 < (TT s i).size) := by omega
    simp only [sgS, if_true] at h2
    cases he : eqs (TT s (i + 1)) x
    ·simp only [he, Bool.false_eq_true, if_false, Prod.mk.injEq] at h2
     obtain ⟨rfl, rfl, rfl⟩ := h2
     exact .inr ⟨by omega, fun _ => ⟨_, rfl, by simp [hl', he]⟩, (fun h => by cases h), (fun _ h => by cases h)⟩
    ·simp only [he, if_true, Prod.mk.injEq] at h2
     obtain ⟨rfl, rfl, rfl⟩ := h2
     exact .inl ⟨rfl, rfl, rfl, rfl, rfl, by simp [hl', he]⟩
  ·have hl' : 8 < (TT s i).size := by omega
   simp only [hl, false_and, if_false, Prod.mk.injEq] at h1
   obtain ⟨rfl, rfl, rfl⟩ := h1
   simp only [sgS, Nat.reduceEqDiff, if_false, Prod.mk.injEq] at h2
   obtain ⟨rfl, rfl, rfl⟩ := h2
   exact .inr ⟨by omega, fun _ => ⟨_, rfl, by simp [hl']⟩, (fun h => by cases h), fun _ _ => ⟨rfl, rfl⟩⟩
theorem kind_start (s : ByteArray) (i a i1 e1 a1 i2 e2 a2 : Nat) (h1 : (i1, e1, a1) = nmS s true i a) (h2 : (i2, e2, a2) = sgS s (sg 123) i1 e1 a1) :
  (e2 = 0 ∧ a2 = a ∧ i2 = i + 2 ∧ wrapT (TT s i) (PP s i) (relsL (TT s) (PP s) 512 [] i2) = kindR (TT s) (PP s) i) ∨ (e2 ≠ 0 ∧ ∃ jj, a2 = PP s jj ∧ kindR (TT s) (PP s) i = .error (e2, jj)) := by
 unfold kindR
 rcases name_sign s (sg 123) true i a i1 e1 a1 i2 e2 a2 h1 h2 with ⟨h3, h4, h5, _, _, h6⟩ | ⟨h3, h4, _⟩
 ·refine .inl ⟨h3, h4, h5, ?_⟩
  rw [h6]
  rfl
 ·obtain ⟨jj, h5, h6⟩ := h4 rfl
  refine .inr ⟨h3, jj, h5, ?_⟩
  rw [h6]
theorem rel_round (s : ByteArray) (k n : Nat) (acc : List Rl) (j a i1 e1 a1 i2 e2 a2 : Nat) (hn : n = acc.length) (hn6 : n ≤ 6) (h0 : eqs (TT s j) (sg 125) = false) (h1 : (i1, e1, a1) = nmS s (decide ((n : Int) < 6)) j a) (h2 : (i2, e2, a2) = sgS s (sg 58) i1 e1 a1) :
  (e2 = 0 ∧ a2 = a ∧ i2 = j + 2 ∧ n < 6 ∧ relsL (TT s) (PP s) (k + 1) acc j = (match exprR (TT s) (PP s) 4 i2 with
   | .error e => .error e
   | .ok (x, m) => if eqs (TT s m) (sg 59) then relsL (TT s) (PP s) k (acc ++ [⟨TT s j, PP s j, x⟩]) (m + 1) else .error (2, m))) ∨ (e2 ≠ 0 ∧ ∃ jj, a2 = PP s jj ∧ relsL (TT s) (PP s) (k + 1) acc j = .error (e2, jj)) := by
 rcases name_sign s (sg 58) _ j a i1 e1 a1 i2 e2 a2 h1 h2 with ⟨h3, h4, h5, h6, h7, h8⟩ | ⟨h3, h4, h5, h6⟩
 ·have hlt : n < 6 := by have := of_decide_eq_true h7; omega
  have hne : ¬ (acc.length = 6) := by omega
  refine .inl ⟨h3, h4, h5, hlt, ?_⟩
  have hb : (isNm (TT s j) && acc.length == 6) = false := by simp [hne]
  rw [relsL, h0]
  simp only [hb, Bool.false_eq_true, if_false]
  unfold relR
  rw [h8]
  simp only
  cases exprR (TT s) (PP s) 4 i2 with
  | error e => rfl
  | ok y =>
   obtain ⟨x, m⟩ := y
   simp only
   cases eqs (TT s m) (sg 59) <;> rfl
 ·refine .inr ⟨h3, ?_⟩
  rw [relsL, h0]
  simp only [Bool.false_eq_true, if_false]
  by_cases hlt : n < 6
  ·obtain ⟨jj, h7, h8⟩ := h4 (by simp; omega)
   have hne : ¬ (acc.length = 6) := by omega
   have hb : (isNm (TT s j) && acc.length == 6) = false := by simp [hne]
   refine ⟨jj, h7, ?_⟩
   simp only [hb, Bool.false_eq_true, if_false]
   unfold relR
   rw [h8]
  ·have he : acc.length = 6 := by omega
   cases hm : isNm (TT s j)
   ·obtain ⟨jj, h7, h8⟩ := h5 hm
    refine ⟨jj, h7, ?_⟩
    simp only [Bool.false_and, Bool.false_eq_true, if_false]
    unfold relR
    rw [h8]
   ·obtain ⟨h7, h8⟩ := h6 hm (by simp; omega)
    refine ⟨j, h7, ?_⟩
    simp [he, h8]
theorem via {Goal : Prop} {P : Nat → Nat → World → Prop} {A : Nat → Nat → World → Act} {Wf : Nat → Nat → World → World} {K : Act → World → Prop} (main : (∀ g c w, P g c w → K (A g c w) (Wf g c w)) → Goal) (key : ∀ g c w, P g c w → K (A g c w) (Wf g c w)) : Goal := main key
/-- What 'kind' leaves. -/
def KPost (base b : Nat) (s : ByteArray) (tv : Value) (i a : Nat) (kl : List (ByteArray × Nat)) (rl : List RV) (pl : List PV) (w : World) (R : Res Ty) (e : Ending) (w' : World) : Prop :=
 e = .returned (.tuple #[]) ∧ Below base w w' ∧ ∃ kv rv pv kl' rl' pl' l' j e' a', RM base w' b s tv j 0 e' a' kv rv pv kl' rl' pl' l' ∧ (match R with
  | .ok (t, m) => e' = 0 ∧ a' = a ∧ m = j ∧ i < j ∧ pl'.length ≤ j ∧ rl'.length ≤ j ∧ kl' = kl ++ [(t.name, t.place)] ∧ ∃ rn tt, rl' = rl ++ rn ∧ pl' = pl ++ tt ∧ RelsB pl' t.name rn t.rels
  | .error (c, jj) => c ≠ 0 ∧ e' = c ∧ a' = PP s jj)
/-- Where the loop of 'kind' stands. -/
def KdC (s : ByteArray) (i a : Nat) (rl : List RV) (pl : List PV) (R : Res Ty) (k n j e aa : Nat) (rl' : List RV) (pl' : List PV) : Prop :=
 (e = 0 ∧ aa = a ∧ i < j ∧ pl'.length ≤ j ∧ rl'.length ≤ j ∧ 512 ≤ k + j ∧ n ≤ 6 ∧ ∃ acc rn tt, n = acc.length ∧ rl' = rl ++ rn ∧ pl' = pl ++ tt ∧ RelsB pl' (TT s i) rn acc ∧ wrapT (TT s i) (PP s i) (relsL (TT s) (PP s) k acc j) = R) ∨
 (e ≠ 0 ∧ ∃ jj, aa = PP s jj ∧ R = .error (e, jj))
/-- How an expression leaves the state. -/
def ExS (s : ByteArray) (a i2 : Nat) (pl t : List PV) (m j3 e3 a3 : Nat) : Prop := match exprR (TT s) (PP s) 4 i2 with
 | .ok (x, jx) => j3 = jx ∧ e3 = 0 ∧ a3 = a ∧ i2 < jx ∧ (pl ++ t).length + i2 ≤ pl.length + jx ∧ ∃ f, Tr (pl ++ t) f m x
 | .error (c, jj) => c ≠ 0 ∧ e3 = c ∧ a3 = PP s jj
theorem kd_next (s : ByteArray) (i a : Nat) (rl : List RV) (pl : List PV) (R : Res Ty) (fu n j : Nat) (acc : List Rl) (rn : List RV) (tt : List PV) (rl' : List RV) (pl' : List PV) (i2 j3 e3 a3 i4 e4 a4 m : Nat) (t : List PV) (hij : i < j) (hpl : pl'.length ≤ j) (hrl : rl'.length ≤ j) (hkj : 512 ≤ fu + 1 + j) (hn6 : n < 6) (hi2 : i2 = j + 2) (hna : n = acc.length) (hrn : rl' = rl ++ rn) (htt : pl' = pl ++ tt) (hrb : RelsB pl' (TT s i) rn acc)
  (hres : wrapT (TT s i) (PP s i) (relsL (TT s) (PP s) (fu + 1) acc j) = R) (hrr : relsL (TT s) (PP s) (fu + 1) acc j = (match exprR (TT s) (PP s) 4 i2 with
   | .error e => .error e
   | .ok (x, m) => if eqs (TT s m) (sg 59) then relsL (TT s) (PP s) fu (acc ++ [⟨TT s j, PP s j, x⟩]) (m + 1) else .error (2, m)))
  (hex : ExS s a i2 pl' t m j3 e3 a3) (hs4 : (i4, e4, a4) = sgS s (sg 59) j3 e3 a3) : KdC s i a rl pl R fu (n + 1) i4 e4 a4 (rl' ++ [⟨TT s i, TT s j, PP s j, m⟩]) (pl' ++ t) := by
 unfold ExS at hex
 rw [hrr] at hres
 cases hx : exprR (TT s) (PP s) 4 i2 with
 | error er =>
  obtain ⟨c, jj⟩ := er
  rw [hx] at hex hres
  obtain ⟨hc, rfl, rfl⟩ := hex
  simp only [sgS, hc, if_false, Prod.mk.injEq] at hs4
  obtain ⟨rfl, rfl, rfl⟩ := hs4
  exact .inr ⟨hc, jj, rfl, by rw [← hres]; rfl⟩
 | ok y =>
  obtain ⟨x, jx⟩ := y
  rw [hx] at hex hres
  obtain ⟨rfl, rfl, rfl, hlt, hle, f, htr⟩ := hex
  simp only [sgS, if_true] at hs4
  simp only at hres
  cases he : eqs (TT s j3) (sg 59)
  ·simp only [he, Bool.false_eq_true, if_false, Prod.mk.injEq] at hs4 hres
   obtain ⟨rfl, rfl, rfl⟩ := hs4
   exact .inr ⟨by omega, _, rfl, by rw [← hres]; rfl⟩
  ·simp only [he, if_true, Prod.mk.injEq] at hs4 hres
   obtain ⟨rfl, rfl, rfl⟩ := hs4
   refine .inl ⟨rfl, rfl, by omega, by omega, by simp; omega, by omega, by omega, acc ++ [⟨TT s j, PP s j, x⟩], rn ++ [⟨TT s i, TT s j, PP s j, m⟩], tt ++ t, by simp; omega, by rw [hrn]; simp, by rw [htt]; simp, ?_, hres⟩
   exact RelsB.snoc (tn := TT s i) ⟨rfl, rfl, rfl, f, htr⟩ _ _ (RelsB.more t _ _ hrb)
set_option maxHeartbeats 4000000 in
set_option maxRecDepth 100000 in
theorem kind_any (base b : Nat) (s : ByteArray) (tv : Value) (i a : Nat) (kv rv pv : Value) (kl : List (ByteArray × Nat)) (rl : List RV) (pl : List PV) (l : List PX) (w : World) (h : RM base w b s tv i 0 0 a kv rv pv kl rl pl l) (hbb : base ≤ b) (hbw : base ≤ w.heap.size) (hl : pl.length ≤ i) (hk : kl.length ≤ 1000) (hr : rl.length ≤ i) :
  Calls Tryz.prog 190 #[.pointer (some ⟨b, 0, none⟩)] w (KPost base b s tv i a kl rl pl w (kindR (TT s) (PP s) i)) := by
 obtain ⟨ka, kc, rfl⟩ := own_form h.kt
 obtain ⟨iK, hi1, hy0, hy1, hy2⟩ := info_parts Tryz.infoKd
 have KI := hide hi1
 have KZ0 := hide hy0
 have KZ1 := hide hy1
 have KZ2 := hide hy2
 clear hi1 hy0 hy1 hy2
 obtain ⟨iR, hi1, hy0, hy1, hy2⟩ := info_parts Tryz.infoRl
 have LI := hide hi1
 have LZ0 := hide hy0
 have LZ1 := hide hy1
 have LZ2 := hide hy2
 clear hi1 hy0 hy1 hy2
 generalize hR : kindR (TT s) (PP s) i = R
 have HR := hide hR
 have H0 := hide h
 have hlt := h.rs.lt
 have C := hide (rname_any b s tv i 0 a _ rv pv true w h.rs)
 clear h hR
 go_enter Tryz.func190, Tryz.ntmps190
 go_wp2_with fail
 refine (uh C).mono ?_
 rintro e w1 ⟨rfl, hb1, i1, e1, a1, hs1, rs1⟩
 have H1 := hide ((uh H0).but hb1 hbb hbw rs1)
 have hw1 := hb1.size
 have B1 := hide (hb1.below hbb hbw)
 have HS1 := hide hs1
 clear hb1 rs1 hs1 C
 unfold tkv
 have b2 := (Below.refl _ w1).alloc (Nat.le_refl _) (.cells #[.string (TT s i), .int .i64 (PP s i), .bool (wordT (TT s i))] 259)
 have hbw1 : base ≤ w1.heap.size := Nat.le_trans hbw (uh B1).size
 have H2 := hide ((uh H1).below b2 hbb hbw1)
 have TB := hide (Blk.new w1 #[.string (TT s i), .int .i64 (PP s i), .bool (wordT (TT s i))] 259)
 have B2 := hide ((uh B1).trans (b2.mono hbw1))
 clear b2
 go_wp2_with fail
 have ltb := (uh TB).lt
 generalize htb : w1.heap.size = tb at *
 generalize w1.alloc (.cells #[.string (TT s i), .int .i64 (PP s i), .bool (wordT (TT s i))] 259) = W at *
 have hbwW : base ≤ W.heap.size := by omega
 obtain ⟨r0, r1, r2, r3, r4, r5, r6, r7⟩ := (uh H2).rs.blk.eight
 obtain ⟨x0, x1, x2⟩ := (uh TB).three
 have hbk := (uh H2).rs.blk
 have hz := hbk.fz
 have m5 := World.new_ne W _ r5
 have m0 := World.new_ne W _ x0
 have m1 := World.new_ne W _ x1
 have c5 : (W.alloc (.cells #[.string (TT s i), .int .i64 (PP s i)] 170)).cell? ⟨b, 5, none⟩ = some (.slice ka kl.length kc) := (hbk.alloc _).cell rfl
 have hne : ¬ (b = W.heap.size) := by have := hbk.lt; omega
 have HBK := hide hbk
 have HO := hide (uh H2).kt
 clear hbk
 have HONE := hide (show ∀ u ∈ kC (TT s i, PP s i), u.oneCell' = true from by
  intro u hu
  simp only [kC, List.mem_cons, List.not_mem_nil, or_false] at hu
  rcases hu with rfl | rfl <;> rfl)
 have H63 := hide (show kl.length + 1 ≤ maxLen from by unfold maxLen; omega)
 have HBY := hide (show (kl.length + 1) * 24 ≤ 140737488355328 from by omega)
 have HS := hide (show base ≤ (W.alloc (.cells #[.string (TT s i), .int .i64 (PP s i)] 170)).drew.heap.size from by
  have := ((Below.refl _ W).alloc (Nat.le_refl _) (.cells #[.string (TT s i), .int .i64 (PP s i)] 170)).drew.size
  omega)
 have HH := hide (show (W.alloc (.cells #[.string (TT s i), .int .i64 (PP s i)] 170)).drew.heap.size = W.heap.size + 1 from by simp)
 rename_i K hK
 apply via (K := K) (P := fun g5 cap5 w5 => (W.alloc (.cells #[.string (TT s i), .int .i64 (PP s i)] 170)).drew.grownBy w5 (Value.slice ka kl.length kc).ownBlock ∧ w5.ownsRow base 170 2 (.slice (some ⟨g5, 0, none⟩) (kl.length + 1) cap5) (kl.length + 1) (kl.flatMap kC ++ kC (TT s i, PP s i)))
 case main =>
  intro key
  have KEY := hide key
  clear key
  go_region_law (refine step_append_lies _ rfl (.tmp 14) (.tmp 20) 164 rfl base 170 iK _ 2 24 Tryz.underlying164 (uh KI) (uh KZ0) (uh KZ1) (uh KZ2) rfl (by decide) (.slice ka kl.length kc) kl.length (kl.flatMap kC) (by simp [Act.eval, Act.put]) (own_drew ((uh HO).alloc _)) ⟨W.heap.size, 0, none⟩ 1 1 (kC (TT s i, PP s i)) (by simp [Act.eval, Act.put]) rfl (World.news_of_block (B := W.heap.size) (cs := #[.string (TT s i), .int .i64 (PP s i)]) (t := 170) (fr := (0, 0)) (Blk.new W _ _).drew) (uh HONE) (by decide) (uh H63) (uh HBY) (uh HS) (W.heap.size + 1) (uh HH) ?_; intro g5 cap5 w5 hown5 hgrow5 hat5 hgl5; have O4' := own_drew ((uh HO).alloc (.cells #[.string (TT s i), .int .i64 (PP s i)] 170)); have K4' := ((uh HBK).alloc (.cells #[.string (TT s i), .int .i64 (PP s i)] 170)).drew; have K5 : Blk w5 b _ 252 := (hgrow5.block b K4'.lt (own_ne O4' K4' (by decide))).trans K4'; obtain ⟨q0, q1, q2, q3, q4, q5, q6, q7⟩ := K5.eight; have zq := K5.fz; have G5 := hide hgrow5; have O5 := hide hown5; have lq := K5.lt; clear O4' K4' K5 hgrow5 hown5 hat5)
  all_goals exact uh KEY g5 cap5 w5 ⟨uh G5, uh O5⟩
 case key =>
  rintro g5 cap5 w5 ⟨G5, O5⟩
  obtain ⟨rm3, b3, nx3⟩ := (uh H2).kinds hbb hbwW (((Below.refl _ W).alloc (Nat.le_refl _) (.cells #[.string (TT s i), .int .i64 (PP s i)] 170)).drew) G5 O5
  have tb3 := nx3.blk (uh TB) (by decide) (by decide)
  have hwW := (uh B2).size
  have B3 := hide ((uh B2).trans b3)
  have htbb : tb ≠ b := by omega
  clear G5 O5 nx3 b3 HONE H63 HBY HS HH HO HBK c5 m0 m1 m5 hz r0 r1 r2 r3 r4 r5 r6 r7 x0 x1 x2 H2 KI KZ0 KZ1 KZ2 H1 B1 TB hne
  refine hK _ _ ?_
  clear hK K
  generalize w5.setCell ⟨b, 5, none⟩ (.slice (some ⟨g5, 0, none⟩) (kl.length + 1) cap5) = W3 at *
  have hbw3 : base ≤ W3.heap.size := Nat.le_trans hbw (uh B3).size
  have C := hide (rsign_any b s tv i1 0 e1 a1 _ rv pv (sg 123) W3 rm3.rs (by decide))
  have H3 := hide rm3
  have TB3 := hide tb3
  clear rm3 tb3
  go_wp2_with fail
  refine (uh C).mono ?_
  rintro e w4 ⟨rfl, hb4, i2, e2, a2, hs2, rs2⟩
  have H4 := hide ((uh H3).but hb4 hbb hbw3 rs2)
  have TB4 := hide ((uh TB3).but hb4 htbb)
  have B4 := hide ((uh B3).trans (hb4.below hbb hbw3))
  have KC := hide (show KdC s i a rl pl R 512 0 i2 e2 a2 rl pl from by
   rcases kind_start s i a i1 e1 a1 i2 e2 a2 (uh HS1) hs2 with ⟨h1, h2, h3, h4⟩ | ⟨h1, jj, h2, h3⟩
   ·exact .inl ⟨h1, h2, by omega, by omega, by omega, by omega, by omega, [], [], [], rfl, by simp, by simp, trivial, by rw [h4]; exact uh HR⟩
   ·exact .inr ⟨h1, jj, h2, by rw [← h3]; exact (uh HR).symm⟩)
  clear hb4 rs2 hs2 C H3 TB3 B3
  go_wp2_with fail
  go_loopg [3] 512 (fun k vn wr => ∃ (n j e aa : Nat) (rv' pv' : Value) (rl' : List RV) (pl' : List PV) (l' : List PX), vn = .int .i64 n ∧ RM base wr b s tv j 0 e aa (.slice (some ⟨g5, 0, none⟩) (kl.length + 1) cap5) rv' pv' (kl ++ [(TT s i, PP s i)]) rl' pl' l' ∧ Blk wr tb #[.string (TT s i), .int .i64 (PP s i), .bool (wordT (TT s i))] 259 ∧ Below base w wr ∧ n + k ≤ 512 ∧ Hid (KdC s i a rl pl R k n j e aa rl' pl'))
  case atStart => exact ⟨0, i2, e2, a2, rv, pv, rl, pl, l, rfl, uh H4, uh TB4, uh B4, by omega, KC⟩
  case round =>
   clear H4 TB4 B4 KC
   obtain ⟨n, j, e, aa, rv', pv', rl', pl', l', rfl, hI, hT, hB, hnk, HC⟩ := hrel
   have hbwr : base ≤ wr.heap.size := Nat.le_trans hbw hB.size
   have HI := hide hI
   have HB := hide hB
   have HT := hide hT
   rcases uh HC with ⟨rfl, rfl, hij, hpl, hrl, hkj, hn6, acc, rn, tt, hna, hrn, htt, hrb, hres⟩ | ⟨he, jj, haa, hres⟩
   ·have hle := hI.rs.gd.le
    have hsz := hI.rs.sz
    obtain ⟨fu, rfl⟩ : ∃ f, gk = f + 1 := ⟨gk - 1, by omega⟩
    obtain ⟨r0, r1, r2, r3, r4, r5, r6, r7⟩ := hI.rs.blk.eight
    have HNA := hide hna
    have HRB := hide hrb
    have HRES := hide hres
    clear hna
    have HRN := hide hrn
    have HTT := hide htt
    cases h125 : eqs (TT s j) (sg 125)
    ·have C := hide (is_okB b s tv j 0 aa _ rv' pv' (sg 125) wr hI.rs false h125)
     obtain ⟨ra, rc, rfl⟩ := own_form hI.rt
     have hfm := hI.rs.fm.2.2
     clear hI hT hB HC hrb hres hrn htt
     go_wp2_with fail
     refine (uh C).mono ?_
     rintro e' w6 ⟨rfl, hb6⟩
     have H6 := hide ((uh HI).below hb6 hbb hbwr)
     have B6 := hide ((uh HB).trans (hb6.mono hbwr))
     have T6 := hide ((uh HT).below hb6)
     have hbw6 : base ≤ w6.heap.size := Nat.le_trans hbw (uh B6).size
     have C2 := hide (rname_any b s tv j 0 aa _ _ pv' (decide ((n : Int) < 6)) w6 (uh H6).rs)
     clear hb6 C r0 r1 r2 r3 r4 r5 r6 r7 HI HB HT
     go_wp2_with fail
     refine (uh C2).mono ?_
     rintro e' w7 ⟨rfl, hb7, i1', e1', a1', hs1', rs7⟩
     have H7 := hide ((uh H6).but hb7 hbb hbw6 rs7)
     have T7 := hide ((uh T6).but hb7 htbb)
     have B7 := hide ((uh B6).trans (hb7.below hbb hbw6))
     have hbw7 : base ≤ w7.heap.size := Nat.le_trans hbw (uh B7).size
     have HS7 := hide hs1'
     clear hb7 rs7 hs1' C2 H6 T6 B6
     unfold tkv
     have b8 := (Below.refl _ w7).alloc (Nat.le_refl _) (.cells #[.string (TT s j), .int .i64 (PP s j), .bool (wordT (TT s j))] 259)
     have H8 := hide ((uh H7).below b8 hbb hbw7)
     have T8 := hide ((uh T7).below b8)
     have X8 := hide (Blk.new w7 #[.string (TT s j), .int .i64 (PP s j), .bool (wordT (TT s j))] 259)
     have B8 := hide ((uh B7).trans (b8.mono hbw7))
     have hxb : w7.heap.size ≠ b := by have := (uh H7).rs.lt; omega
     have htx : tb ≠ w7.heap.size := by have := (uh T7).lt; omega
     have hbw8 : base ≤ (w7.alloc (.cells #[.string (TT s j), .int .i64 (PP s j), .bool (wordT (TT s j))] 259)).heap.size := Nat.le_trans hbw (uh B8).size
     have C3 := hide (rsign_any b s tv i1' 0 e1' a1' _ _ pv' (sg 58) _ (uh H8).rs (by decide))
     clear b8 H7 T7 B7
     go_wp2_with fail
     refine (uh C3).mono ?_
     rintro e' w9 ⟨rfl, hb9, i2', e2', a2', hs2', rs9⟩
     have H9 := hide ((uh H8).but hb9 hbb hbw8 rs9)
     have T9 := hide ((uh T8).but hb9 htbb)
     have X9 := hide ((uh X8).but hb9 hxb)
     have B9 := hide ((uh B8).trans (hb9.below hbb hbw8))
     have hbw9 : base ≤ w9.heap.size := Nat.le_trans hbw (uh B9).size
     obtain ⟨r0, r1, r2, r3, r4, r5, r6, r7⟩ := (uh H9).rs.blk.eight
     have RR := rel_round s fu n acc j aa i1' e1' a1' i2' e2' a2' (uh HNA) hn6 h125 (uh HS7) hs2'
     clear hb9 rs9 hs2' C3 H8 T8 X8 B8 HS7
     rcases RR with ⟨rfl, rfl, hi2, hn6', hrr⟩ | ⟨he2, jj, haa, hrr⟩
     ·have HRR := hide hrr
      have C4 := hide (rexpr_inner s 4 0 rfl base b tv i2' a2' _ _ pv' pl' l' w9 (uh H9).rs (uh H9).pt hbb hbw9 (by omega))
      clear hrr
      go_wp2_with fail
      refine (uh C4).mono ?_
      rintro e' w10 ⟨m, rfl, pv1, pl1, l1, t, tl, fr, pt, rfl, rfl, hfs, hres⟩
      obtain ⟨j3, e3, a3, rs10, hex⟩ : ∃ j3 e3 a3, RS w10 b s tv j3 0 e3 a3 (.slice (some ⟨g5, 0, none⟩) (kl.length + 1) cap5) (.slice ra rl'.length rc) pv1 ∧ ExS s a2' i2' pl' t m j3 e3 a3 := by
       unfold ExS
       cases hx : exprR (TT s) (PP s) 4 i2' with
       | error er =>
        obtain ⟨c, jj⟩ := er
        rw [hx] at hres
        obtain ⟨hc, j', hj', rs', _⟩ := hres
        exact ⟨j', c, PP s jj, rs', hc, rfl, rfl⟩
       | ok y =>
        obtain ⟨x, jx⟩ := y
        rw [hx] at hres
        obtain ⟨rs', h1, h2, h3⟩ := hres
        exact ⟨jx, 0, a2', rs', rfl, rfl, rfl, h1, h2, h3⟩
      have H10 := hide ((uh H9).fr fr pt rs10)
      have T10 := hide (fr.blk (uh T9) htbb (own_part (uh H9).pt.row (uh T9) (by decide)))
      have X10 := hide (fr.blk (uh X9) hxb (own_part (uh H9).pt.row (uh X9) (by decide)))
      have B10 := hide ((uh B9).trans fr.below)
      have HEX := hide hex
      clear fr pt rs10 hfs hres hex C4 H9 T9 X9 B9 r0 r1 r2 r3 r4 r5 r6 r7
      go_wp2_with fail
      generalize hxbe : w7.heap.size = xb at *
      have hbw10 : base ≤ w10.heap.size := Nat.le_trans hbw (uh B10).size
      have rl10 := (uh H10).rs.lt
      obtain ⟨r0, r1, r2, r3, r4, r5, r6, r7⟩ := (uh H10).rs.blk.eight
      obtain ⟨x0, x1, x2⟩ := (uh T10).three
      obtain ⟨y0, y1, y2⟩ := (uh X10).three
      have hbk := (uh H10).rs.blk
      have hz := hbk.fz
      have m6 := World.new_ne w10 _ r6
      have m0 := World.new_ne w10 _ x0
      have m1 := World.new_ne w10 _ y0
      have c6 : (w10.alloc (.cells #[.string (TT s i), .string (TT s j), .int .i64 (PP s j), .int .i64 m] 172)).cell? ⟨b, 6, none⟩ = some (.slice ra rl'.length rc) := (hbk.alloc _).cell rfl
      have hne : ¬ (b = w10.heap.size) := by omega
      have HBK := hide hbk
      have HO := hide (uh H10).rt
      clear hbk
      have HONE := hide (show ∀ u ∈ rC ⟨TT s i, TT s j, PP s j, m⟩, u.oneCell' = true from by
       intro u hu
       simp only [rC, List.mem_cons, List.not_mem_nil, or_false] at hu
       rcases hu with rfl | rfl | rfl | rfl <;> rfl)
      have H63 := hide (show rl'.length + 1 ≤ maxLen from by unfold maxLen; omega)
      have HBY := hide (show (rl'.length + 1) * 48 ≤ 140737488355328 from by omega)
      have HS := hide (show base ≤ (w10.alloc (.cells #[.string (TT s i), .string (TT s j), .int .i64 (PP s j), .int .i64 m] 172)).drew.heap.size from by
       have := ((Below.refl _ w10).alloc (Nat.le_refl _) (.cells #[.string (TT s i), .string (TT s j), .int .i64 (PP s j), .int .i64 m] 172)).drew.size
       omega)
      have HH := hide (show (w10.alloc (.cells #[.string (TT s i), .string (TT s j), .int .i64 (PP s j), .int .i64 m] 172)).drew.heap.size = w10.heap.size + 1 from by simp)
      rename_i K hK
      apply via (K := K) (P := fun g6 cap6 w11 => (w10.alloc (.cells #[.string (TT s i), .string (TT s j), .int .i64 (PP s j), .int .i64 m] 172)).drew.grownBy w11 (Value.slice ra rl'.length rc).ownBlock ∧ w11.ownsRow base 172 4 (.slice (some ⟨g6, 0, none⟩) (rl'.length + 1) cap6) (rl'.length + 1) (rl'.flatMap rC ++ rC ⟨TT s i, TT s j, PP s j, m⟩))
      case main =>
       intro key
       have KEY := hide key
       clear key
       go_region_law (refine step_append_lies _ rfl (.tmp 60) (.tmp 69) 165 rfl base 172 iR _ 4 48 Tryz.underlying165 (uh LI) (uh LZ0) (uh LZ1) (uh LZ2) rfl (by decide) (.slice ra rl'.length rc) rl'.length (rl'.flatMap rC) (by simp [Act.eval, Act.put]) (own_drew ((uh HO).alloc _)) ⟨w10.heap.size, 0, none⟩ 1 1 (rC ⟨TT s i, TT s j, PP s j, m⟩) (by simp [Act.eval, Act.put]) rfl (World.news_of_block (B := w10.heap.size) (cs := #[.string (TT s i), .string (TT s j), .int .i64 (PP s j), .int .i64 m]) (t := 172) (fr := (0, 0)) (Blk.new w10 _ _).drew) (uh HONE) (by decide) (uh H63) (uh HBY) (uh HS) (w10.heap.size + 1) (uh HH) ?_; intro g6 cap6 w11 hown6 hgrow6 hat6 hgl6; have O4' := own_drew ((uh HO).alloc (.cells #[.string (TT s i), .string (TT s j), .int .i64 (PP s j), .int .i64 m] 172)); have K4' := ((uh HBK).alloc (.cells #[.string (TT s i), .string (TT s j), .int .i64 (PP s j), .int .i64 m] 172)).drew; have K5 : Blk w11 b _ 252 := (hgrow6.block b K4'.lt (own_ne O4' K4' (by decide))).trans K4'; obtain ⟨q0, q1, q2, q3, q4, q5, q6, q7⟩ := K5.eight; have zq := K5.fz; have G6 := hide hgrow6; have O6 := hide hown6; have lq := K5.lt; clear O4' K4' K5 hgrow6 hown6 hat6)
       all_goals exact uh KEY g6 cap6 w11 ⟨uh G6, uh O6⟩
      case key =>
       rintro g6 cap6 w11 ⟨G6, O6⟩
       obtain ⟨rm11, b11, nx11⟩ := (uh H10).rels hbb hbw10 (((Below.refl _ w10).alloc (Nat.le_refl _) (.cells #[.string (TT s i), .string (TT s j), .int .i64 (PP s j), .int .i64 m] 172)).drew) G6 O6
       have T11 := hide (nx11.blk (uh T10) (by decide) (by decide))
       have B11 := hide ((uh B10).trans b11)
       clear G6 O6 nx11 b11 HONE H63 HBY HS HH HO HBK c6 m0 m1 m6 hz r0 r1 r2 r3 r4 r5 r6 r7 x0 x1 x2 y0 y1 y2 H10 T10 X10 B10 hne
       refine hK _ _ ?_
       clear hK K
       generalize w11.setCell ⟨b, 6, none⟩ (.slice (some ⟨g6, 0, none⟩) (rl'.length + 1) cap6) = W11 at *
       have hbw11 : base ≤ W11.heap.size := Nat.le_trans hbw (uh B11).size
       have C5 := hide (rsign_any b s tv j3 0 e3 a3 _ _ pv1 (sg 59) W11 rm11.rs (by decide))
       have H11 := hide rm11
       clear rm11
       go_wp2_with fail
       refine (uh C5).mono ?_
       rintro e' w12 ⟨rfl, hb12, i4, e4, a4, hs4, rs12⟩
       have H12 := hide ((uh H11).but hb12 hbb hbw11 rs12)
       have T12 := hide ((uh T11).but hb12 htbb)
       have B12 := hide ((uh B11).trans (hb12.below hbb hbw11))
       have KC := hide (kd_next s i a2' rl pl R fu n j acc rn tt rl' pl' i2' j3 e3 a3 i4 e4 a4 m t hij hpl hrl hkj hn6' hi2 (uh HNA) (uh HRN) (uh HTT) (uh HRB) (uh HRES) (uh HRR) (uh HEX) hs4)
       clear hb12 rs12 hs4 C5 H11 T11 B11
       go_wp2
       go_roundg fu
       case measure => omega
       case rel => exact ⟨n + 1, i4, e4, a4, _, pv1, rl' ++ [⟨TT s i, TT s j, PP s j, m⟩], pl' ++ t, l' ++ tl, by go_num, by simpa using uh H12, uh T12, uh B12, by omega, KC⟩
     ·have he' : ¬ ((e2' : Int) = 0) := by omega
      have he2' : ((e2' : Int) == 0) = false := beq_eq_false_iff_ne.2 he'
      have C5 := hide (rsign_any b s tv i2' 0 e2' a2' _ _ pv' (sg 59) w9 (uh H9).rs (by decide))
      go_wp2_with fail
      refine (uh C5).mono ?_
      rintro e' w12 ⟨rfl, hb12, i4, e4, a4, hs4, rs12⟩
      simp only [sgS, he2, if_false, Prod.mk.injEq] at hs4
      obtain ⟨rfl, rfl, rfl⟩ := hs4
      have H12 := hide ((uh H9).but hb12 hbb hbw9 rs12)
      have T12 := hide ((uh T9).but hb12 htbb)
      have B12 := hide ((uh B9).trans (hb12.below hbb hbw9))
      have KC := hide (show KdC s i aa rl pl R fu (n + 1) i4 e4 a4 rl' pl' from .inr ⟨he2, jj, haa, by rw [← uh HRES, hrr]; rfl⟩)
      clear hb12 rs12 C5 H9 T9 X9 B9 r0 r1 r2 r3 r4 r5 r6 r7
      go_wp2
      go_roundg fu
      case measure => omega
      case rel => exact ⟨n + 1, i4, e4, a4, _, pv', rl', pl', l', by go_num, uh H12, uh T12, uh B12, by omega, KC⟩
    ·have C := hide (is_okB b s tv j 0 aa _ rv' pv' (sg 125) wr hI.rs true h125)
     have hj := hI.rs.gd.succ (eqs_pos h125 (by decide))
     clear hI hT hB HC hrb hres hrn htt
     go_wp2_with fail
     refine (uh C).mono ?_
     rintro e' w6 ⟨rfl, hb6⟩
     have H6 := hide ((uh HI).below hb6 hbb hbwr)
     have B6 := hide ((uh HB).trans (hb6.mono hbwr))
     obtain ⟨q0, q1, q2, q3, q4, q5, q6, q7⟩ := (uh H6).rs.blk.eight
     have zq := (uh H6).rs.blk.fz
     have hbw6 : base ≤ w6.heap.size := Nat.le_trans hbw (uh B6).size
     have H7 := hide ((uh H6).but ((But.refl b w6).setCell 1 (.int .i64 ((j : Int) + 1))) hbb hbw6 ((uh H6).rs.setI (j + 1) hj))
     have B7 := hide ((uh B6).setCell (p := ⟨b, 1, none⟩) hbb (.int .i64 ((j : Int) + 1)))
     clear hb6 C r0 r1 r2 r3 r4 r5 r6 r7
     go_wp2
     refine bodyPost_ret (results_none rfl _ _ _) rfl ⟨rfl, uh B7, _, rv', pv', _, rl', pl', l', j + 1, 0, aa, uh H7, ?_⟩
     rw [← uh HRES, relsL, h125]
     exact ⟨rfl, rfl, rfl, by omega, by omega, by omega, rfl, rn, tt, uh HRN, uh HTT, uh HRB⟩
   ·have he' : ¬ ((e : Int) = 0) := by omega
    have he2 : ((e : Int) == 0) = false := beq_eq_false_iff_ne.2 he'
    obtain ⟨r0, r1, r2, r3, r4, r5, r6, r7⟩ := hI.rs.blk.eight
    clear hI hT hB HC
    go_wp2
    go_end0
    refine ⟨rfl, uh HB, _, rv', pv', _, rl', pl', l', j, e, aa, uh HI, ?_⟩
    rw [hres]
    exact ⟨he, rfl, haa⟩
/-! The document's reader: types, till the end. -/
def flatT (ts : List Ty) : List (ByteArray × Rl) := ts.flatMap fun t => t.rels.map fun r => (t.name, r)
def FlatB (pl : List PV) : List RV → List (ByteArray × Rl) → Prop
 | [], [] => True
 | x :: xs, p :: ps => RelB pl p.1 x p.2 ∧ FlatB pl xs ps
 | _, _ => False
theorem FlatB.more {pl : List PV} (t : List PV) : ∀ (xs : List RV) (ps : List (ByteArray × Rl)), FlatB pl xs ps → FlatB (pl ++ t) xs ps
 | [], [], _ => trivial
 | x :: xs, r :: rs, h => ⟨h.1.more t, FlatB.more t xs rs h.2⟩
 | [], _ :: _, h => h.elim
 | _ :: _, [], h => h.elim
theorem FlatB.app {pl : List PV} {c : List RV} {cs : List (ByteArray × Rl)} (k : FlatB pl c cs) : ∀ (xs : List RV) (ps : List (ByteArray × Rl)), FlatB pl xs ps → FlatB pl (xs ++ c) (ps ++ cs)
 | [], [], _ => k
 | x :: xs, r :: rs, h => ⟨h.1, FlatB.app k xs rs h.2⟩
 | [], _ :: _, h => h.elim
 | _ :: _, [], h => h.elim
theorem FlatB.of {pl : List PV} {tn : ByteArray} : ∀ (xs : List RV) (rs : List Rl), RelsB pl tn xs rs → FlatB pl xs (rs.map fun r => (tn, r))
 | [], [], _ => trivial
 | x :: xs, r :: rs, h => ⟨h.1, FlatB.of xs rs h.2⟩
 | [], _ :: _, h => h.elim
 | _ :: _, [], h => h.elim
/-- The tables stand for the types. -/
def ModB (pl : List PV) (kl : List (ByteArray × Nat)) (rl : List RV) (ts : List Ty) : Prop := kl = ts.map (fun t => (t.name, t.place)) ∧ FlatB pl rl (flatT ts)
theorem ModB.snoc {pl : List PV} {kl : List (ByteArray × Nat)} {rl : List RV} {ts : List Ty} (h : ModB pl kl rl ts) {tt : List PV} {rn : List RV} {t : Ty} (k : RelsB (pl ++ tt) t.name rn t.rels) : ModB (pl ++ tt) (kl ++ [(t.name, t.place)]) (rl ++ rn) (ts ++ [t]) := by
 refine ⟨by rw [h.1]; simp, ?_⟩
 have e : flatT (ts ++ [t]) = flatT ts ++ t.rels.map fun r => (t.name, r) := by simp [flatT]
 rw [e]
 exact FlatB.app (FlatB.of _ _ k) _ _ (FlatB.more tt _ _ h.2)
/-- Where the loop of 'model' stands. -/
def MdC (s : ByteArray) (R : Res (List Ty)) (k j e aa : Nat) (kl : List (ByteArray × Nat)) (rl : List RV) (pl : List PV) : Prop :=
 (e = 0 ∧ pl.length ≤ j ∧ rl.length ≤ j ∧ 512 ≤ k + j ∧ kl.length ≤ 5 ∧ ∃ ts, ModB pl kl rl ts ∧ modelL (TT s) (PP s) k ts j = R) ∨
 (e ≠ 0 ∧ ∃ jj, aa = PP s jj ∧ R = .error (e, jj))
/-- What 'model' leaves. -/
def MPost (base b : Nat) (s : ByteArray) (tv : Value) (w : World) (R : Res (List Ty)) (e : Ending) (w' : World) : Prop :=
 e = .returned (.tuple #[]) ∧ Below base w w' ∧ ∃ kv rv pv kl rl pl l j e' a', RM base w' b s tv j 0 e' a' kv rv pv kl rl pl l ∧ (match R with
  | .ok (ts, m) => e' = 0 ∧ m = j ∧ kl.length ≤ 5 ∧ rl.length ≤ 500 ∧ pl.length ≤ 500 ∧ ModB pl kl rl ts
  | .error (c, jj) => c ≠ 0 ∧ e' = c ∧ a' = PP s jj)
set_option maxHeartbeats 4000000 in
set_option maxRecDepth 100000 in
theorem rmodel_any (base b : Nat) (s : ByteArray) (tv : Value) (kv rv pv : Value) (l : List PX) (w : World) (h : RM base w b s tv 0 0 0 0 kv rv pv [] [] [] l) (hbb : base ≤ b) (hbw : base ≤ w.heap.size) :
  Calls Tryz.prog 127 #[.pointer (some ⟨b, 0, none⟩)] w (MPost base b s tv w (modelR (TT s) (PP s))) := by
 generalize hR : modelR (TT s) (PP s) = R
 have HC0 := hide (show MdC s R 512 0 0 0 [] [] [] from .inl ⟨rfl, by simp, by simp, by omega, by simp, [], ⟨rfl, trivial⟩, hR⟩)
 have H0 := hide h
 have B0 := hide (Below.refl base w)
 clear h hR
 go_enter Tryz.func127, Tryz.ntmps127
 go_wp2_with fail
 go_loopg [2] 512 (fun k u2 wr => ∃ (j e aa : Nat) (kv rv pv : Value) (kl : List (ByteArray × Nat)) (rl : List RV) (pl : List PV) (l : List PX), RM base wr b s tv j 0 e aa kv rv pv kl rl pl l ∧ Below base w wr ∧ Hid (MdC s R k j e aa kl rl pl))
 case atStart => exact ⟨0, 0, 0, kv, rv, pv, [], [], [], l, uh H0, uh B0, HC0⟩
 case round =>
  clear H0 B0 HC0
  obtain ⟨j, e, aa, kv, rv, pv, kl, rl, pl, l, hI, hB, HC⟩ := hrel
  have hbwr : base ≤ wr.heap.size := Nat.le_trans hbw hB.size
  have HI := hide hI
  have HB := hide hB
  rcases uh HC with ⟨rfl, hpl, hrl, hkj, hk5, ts, hmb, hres⟩ | ⟨he, jj, haa, hres⟩
  ·have hle := hI.rs.gd.le
   have hsz := hI.rs.sz
   obtain ⟨fu, rfl⟩ : ∃ f, gk = f + 1 := ⟨gk - 1, by omega⟩
   obtain ⟨r0, r1, r2, r3, r4, r5, r6, r7⟩ := hI.rs.blk.eight
   have HRES := hide hres
   have HMB := hide hmb
   cases hem : eqs (TT s j) em
   ·have C := hide (is_okB b s tv j 0 aa kv rv pv em wr hI.rs false hem)
    obtain ⟨ka, kc, rfl⟩ := own_form hI.kt
    clear hI hB HC hmb hres
    go_wp2_with fail
    refine (uh C).mono ?_
    rintro e' w6 ⟨rfl, hb6⟩
    have H6 := hide ((uh HI).below hb6 hbb hbwr)
    have B6 := hide ((uh HB).trans (hb6.mono hbwr))
    have hbw6 : base ≤ w6.heap.size := Nat.le_trans hbw (uh B6).size
    have C2 := hide (rsign_any b s tv j 0 0 aa _ rv pv sType w6 (uh H6).rs (by decide))
    obtain ⟨q0, q1, q2, q3, q4, q5, q6, q7⟩ := (uh H6).rs.blk.eight
    clear hb6 C HI HB r0 r1 r2 r3 r4 r5 r6 r7
    go_wp2_with fail
    refine (uh C2).mono ?_
    rintro e' w7 ⟨rfl, hb7, i1, e1, a1, hs1, rs7⟩
    have H7 := hide ((uh H6).but hb7 hbb hbw6 rs7)
    have B7 := hide ((uh B6).trans (hb7.below hbb hbw6))
    have hbw7 : base ≤ w7.heap.size := Nat.le_trans hbw (uh B7).size
    obtain ⟨r0, r1, r2, r3, r4, r5, r6, r7⟩ := (uh H7).rs.blk.eight
    clear hb7 rs7 C2 H6 B6 q0 q1 q2 q3 q4 q5 q6 q7
    simp only [sgS, if_true] at hs1
    cases hty : eqs (TT s j) sType
    ·simp only [hty, Bool.false_eq_true, if_false, Prod.mk.injEq] at hs1
     obtain ⟨rfl, rfl, rfl⟩ := hs1
     have KC := hide (show MdC s R fu i1 2 (PP s i1) kl rl pl from .inr ⟨by omega, i1, rfl, by
      rw [← uh HRES, modelL, hem]
      simp [hty, typeR_kind]⟩)
     clear HRES HMB
     go_wp2
     go_roundg fu
     case measure => omega
     case rel => exact ⟨i1, 2, _, _, rv, pv, kl, rl, pl, l, uh H7, uh B7, KC⟩
    ·simp only [hty, if_true, Prod.mk.injEq] at hs1
     obtain ⟨rfl, rfl, rfl⟩ := hs1
     by_cases h5 : kl.length = 5
     ·have hkn : ((kl.length : Int) == 5) = true := by rw [beq_iff_eq]; omega
      have hj := (uh H7).rs.gd
      have hjj : Gd s j := fun q hq => hj q (by omega)
      have zq := (uh H7).rs.blk.fz
      have H8 := hide ((uh H7).but ((But.refl b w7).setCell 1 (.int .i64 (j : Int))) hbb hbw7 ((uh H7).rs.setI j hjj))
      have B8 := hide ((uh B7).setCell (p := ⟨b, 1, none⟩) hbb (.int .i64 (j : Int)))
      have hbw8 : base ≤ (w7.setCell ⟨b, 1, none⟩ (.int .i64 (j : Int))).heap.size := Nat.le_trans hbw (uh B8).size
      have C3 := hide (fail_ok b s tv j 0 a1 _ rv pv 3 _ (uh H8).rs)
      have KC := hide (show MdC s R fu j 3 (PP s j) kl rl pl from .inr ⟨by omega, j, rfl, by
       have hl : ts.length = 5 := by have := congrArg List.length (uh HMB).1; rw [List.length_map] at this; omega
       rw [← uh HRES, modelL, hem]
       simp [hty, hl]⟩)
      clear HRES HMB hj hjj
      go_wp2_with fail
      refine (uh C3).mono ?_
      rintro e' w9 ⟨rfl, hb9, rs9⟩
      have H9 := hide ((uh H8).but hb9 hbb hbw8 rs9)
      have B9 := hide ((uh B8).trans (hb9.below hbb hbw8))
      obtain ⟨q0, q1, q2, q3, q4, q5, q6, q7⟩ := (uh H9).rs.blk.eight
      clear hb9 rs9 C3 H8 B8 H7 B7 r0 r1 r2 r3 r4 r5 r6 r7 zq
      go_wp2
      go_roundg fu
      case measure => omega
      case rel => exact ⟨j, 3, _, _, rv, pv, kl, rl, pl, l, uh H9, uh B9, KC⟩
     ·have hkn : ((kl.length : Int) == 5) = false := by rw [beq_eq_false_iff_ne]; omega
      have C3 := hide (kind_any base b s tv (j + 1) a1 _ rv pv kl rl pl l w7 (uh H7) hbb hbw7 (by omega) (by omega) (by omega))
      go_wp2_with fail
      refine (uh C3).mono ?_
      rintro e' w9 ⟨rfl, hb9, kv9, rv9, pv9, kl9, rl9, pl9, l9, j9, e9, a9, rm9, hres9⟩
      have H9 := hide rm9
      have B9 := hide ((uh B7).trans hb9)
      have KC := hide (show MdC s R fu j9 e9 a9 kl9 rl9 pl9 from by
       have hl : ts.length ≠ 5 := by have := congrArg List.length (uh HMB).1; rw [List.length_map] at this; omega
       have hm : modelL (TT s) (PP s) (fu + 1) ts j = (match kindR (TT s) (PP s) (j + 1) with
        | .error e => .error e
        | .ok (t, j) => modelL (TT s) (PP s) fu (ts ++ [t]) j) := by
        rw [modelL, hem, typeR_kind, hty]
        simp only [Bool.false_eq_true, if_false, Bool.true_and, beq_eq_false_iff_ne.2 hl, if_true]
        cases kindR (TT s) (PP s) (j + 1) <;> rfl
       have hr := uh HRES
       rw [hm] at hr
       cases hk : kindR (TT s) (PP s) (j + 1) with
       | error er =>
        obtain ⟨c, jj⟩ := er
        rw [hk] at hres9 hr
        obtain ⟨hc, rfl, rfl⟩ := hres9
        exact .inr ⟨hc, jj, rfl, hr.symm⟩
       | ok y =>
        obtain ⟨t, m⟩ := y
        rw [hk] at hres9 hr
        obtain ⟨rfl, rfl, rfl, h1, h2, h3, rfl, rn, tt, rfl, rfl, h4⟩ := hres9
        exact .inl ⟨rfl, h2, h3, by omega, by simp; omega, ts ++ [t], (uh HMB).snoc h4, hr⟩)
      clear hb9 rm9 hres9 C3 H7 B7 HRES HMB r0 r1 r2 r3 r4 r5 r6 r7
      go_wp2
      go_roundg fu
      case measure => omega
      case rel => exact ⟨j9, e9, a9, kv9, rv9, pv9, kl9, rl9, pl9, l9, uh H9, uh B9, KC⟩
   ·have C := hide (is_okB b s tv j 0 aa kv rv pv em wr hI.rs true hem)
    clear hI hB HC hmb hres
    go_wp2_with fail
    refine (uh C).mono ?_
    rintro e' w6 ⟨rfl, hb6⟩
    have H6 := hide ((uh HI).below hb6 hbb hbwr)
    have B6 := hide ((uh HB).trans (hb6.mono hbwr))
    clear hb6 C r0 r1 r2 r3 r4 r5 r6 r7
    go_wp2
    refine bodyPost_ret (results_none rfl _ _ _) rfl ⟨rfl, uh B6, _, rv, pv, _, rl, pl, l, j, 0, aa, uh H6, ?_⟩
    rw [← uh HRES, modelL, hem]
    exact ⟨rfl, rfl, hk5, by omega, by omega, uh HMB⟩
  ·have he' : ¬ ((e : Int) = 0) := by omega
   have he2 : ((e : Int) == 0) = false := beq_eq_false_iff_ne.2 he'
   obtain ⟨r0, r1, r2, r3, r4, r5, r6, r7⟩ := hI.rs.blk.eight
   clear hI hB HC
   go_wp2
   go_end0
   refine ⟨rfl, uh HB, kv, rv, pv, _, rl, pl, l, j, e, aa, uh HI, ?_⟩
   rw [hres]
   exact ⟨he, rfl, haa⟩
end Go.Proofs.YtlbpnlngckgcbaaGreatDoor
