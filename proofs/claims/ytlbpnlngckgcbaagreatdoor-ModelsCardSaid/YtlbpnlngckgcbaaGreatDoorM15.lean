import Derived.Test.YtlbpnlngckgcbaaGreatDoorM14
namespace Go.Proofs.YtlbpnlngckgcbaaGreatDoor
open Go.RowKit Go.PlainAid
set_option linter.unusedSimpArgs false
set_option linter.unusedVariables false
def All2 (R : Nat → Ex → Prop) : List Nat → List Ex → Prop
 | [], [] => True
 | n :: ns, x :: xs => R n x ∧ All2 R ns xs
 | _, _ => False
/-- The binary expression of parts x, xs with the signs (texts, places) between. -/
def foldE (x : Ex) : List (ByteArray × Nat × Ex) → Ex
 | [] => x
 | (t, p, y) :: r => foldE (joinE t p x y) r
/-- Part number n of the table stands for the expression. -/
def Tr (pl : List PV) : Nat → Nat → Ex → Prop
 | 0, _, _ => False
 | f + 1, n, x => ∃ p, pl[n]? = some p ∧ (
   (p.kind = 1 ∧ (p.ps = [] ∧ p.sg = []) ∧ x = ⟨⟨0, p.pa, em, 0, em, 0, p.gs⟩, none, none⟩) ∨
   (p.kind = 2 ∧ p.gs = [] ∧ (p.ps = [] ∧ p.sg = []) ∧ x = ⟨⟨1, p.pa, p.nr, p.pa, em, 0, []⟩, none, none⟩) ∨
   (p.kind = 3 ∧ p.gs = [] ∧ (p.ps = [] ∧ p.sg = []) ∧ x = ⟨⟨2, p.pa, p.nb, p.pa, p.nr, p.pr, []⟩, none, none⟩) ∨
   (p.kind = 4 ∧ p.gs = [] ∧ ∃ n0 ns x0 rs, p.ps = n0 :: ns ∧ Tr pl f n0 x0 ∧ All2 (Tr pl f) ns (rs.map fun r => r.2.2) ∧ p.sg = ⟨[], 0, false⟩ :: rs.map (fun r => ⟨lst r.1, r.2.1, false⟩) ∧ ((∀ r ∈ rs, r.1 = sg 38 ∨ r.1 = sg 45) ∧ rs ≠ []) ∧ x = foldE x0 rs) ∨
   (p.kind = 5 ∧ p.gs = [] ∧ p.sg = [] ∧ ∃ n0 ns x0 rs, p.ps = n0 :: ns ∧ Tr pl f n0 x0 ∧ All2 (Tr pl f) ns (rs.map fun r => r.2.2) ∧ (∀ r ∈ rs, r.1 = sg 124) ∧ rs ≠ [] ∧ x = foldE x0 rs))
theorem All2.mono {R S : Nat → Ex → Prop} (h : ∀ n x, R n x → S n x) : ∀ (ns : List Nat) (xs : List Ex), All2 R ns xs → All2 S ns xs
 | [], [], _ => trivial
 | n :: ns, x :: xs, k => ⟨h n x k.1, All2.mono h ns xs k.2⟩
 | [], _ :: _, k => k.elim
 | _ :: _, [], k => k.elim
theorem Tr.more (pl t : List PV) : ∀ (f n : Nat) (x : Ex), Tr pl f n x → Tr (pl ++ t) f n x
 | 0, _, _, h => h.elim
 | f + 1, n, x, ⟨p, hp, h⟩ => by
  refine ⟨p, ?_, ?_⟩
  ·rw [List.getElem?_append_left (List.getElem?_eq_some_iff.1 hp).1]; exact hp
  ·rcases h with h | h | h | ⟨h1, h2, n0, ns, x0, rs, h3, h4, h5, h6, h7, h8⟩ | ⟨h1, h2, h2', n0, ns, x0, rs, h3, h4, h5, h6, h7, h8⟩
   ·exact .inl h
   ·exact .inr (.inl h)
   ·exact .inr (.inr (.inl h))
   ·exact .inr (.inr (.inr (.inl ⟨h1, h2, n0, ns, x0, rs, h3, Tr.more pl t f _ _ h4, All2.mono (Tr.more pl t f) _ _ h5, h6, h7, h8⟩)))
   ·exact .inr (.inr (.inr (.inr ⟨h1, h2, h2', n0, ns, x0, rs, h3, Tr.more pl t f _ _ h4, All2.mono (Tr.more pl t f) _ _ h5, h6, h7, h8⟩)))
theorem Tr.up (pl : List PV) : ∀ (f n : Nat) (x : Ex), Tr pl f n x → Tr pl (f + 1) n x
 | 0, _, _, h => h.elim
 | f + 1, n, x, ⟨p, hp, h⟩ => by
  refine ⟨p, hp, ?_⟩
  rcases h with h | h | h | ⟨h1, h2, n0, ns, x0, rs, h3, h4, h5, h6, h7, h8⟩ | ⟨h1, h2, h2', n0, ns, x0, rs, h3, h4, h5, h6, h7, h8⟩
  ·exact .inl h
  ·exact .inr (.inl h)
  ·exact .inr (.inr (.inl h))
  ·exact .inr (.inr (.inr (.inl ⟨h1, h2, n0, ns, x0, rs, h3, Tr.up pl f _ _ h4, All2.mono (Tr.up pl f) _ _ h5, h6, h7, h8⟩)))
  ·exact .inr (.inr (.inr (.inr ⟨h1, h2, h2', n0, ns, x0, rs, h3, Tr.up pl f _ _ h4, All2.mono (Tr.up pl f) _ _ h5, h6, h7, h8⟩)))
theorem Tr.le (pl : List PV) {f g : Nat} (h : f ≤ g) {n : Nat} {x : Ex} (k : Tr pl f n x) : Tr pl g n x := by
 obtain ⟨m, rfl⟩ := Nat.exists_eq_add_of_le h
 clear h
 induction m with
 | zero => exact k
 | succ m ih => exact Tr.up pl _ _ _ ih
/-- What a call that reads a part of an expression leaves. -/
def RPost (base b : Nat) (s : ByteArray) (tv : Value) (i d a : Nat) (kv rv pv : Value) (pl : List PV) (l : List PX) (w : World) (ex : Nat) (R : Res Ex) (e : Ending) (w' : World) : Prop :=
 ∃ m : Nat, e = .returned (.int .i64 m) ∧ ∃ pv' pl' l' t tl, Fr base b w w' pv pv' ∧ PT base w' pv' pl' l' ∧ pl' = pl ++ t ∧ l' = l ++ tl ∧ (∀ x ∈ tl, Fresh w.heap.size x) ∧ match R with
  | .ok (x, j) => RS w' b s tv j d 0 a kv rv pv' ∧ i < j ∧ pl'.length + i ≤ pl.length + j ∧ ∃ f, Tr pl' f m x
  | .error (c, jj) => c ≠ 0 ∧ ∃ j', i ≤ j' ∧ RS w' b s tv j' d c (PP s jj) kv rv pv' ∧ pl'.length + i ≤ pl.length + j' + ex
/-- The inner expression's contract, as far as a unit wants it. -/
def InnerOK (s : ByteArray) (inner : Nat → Res Ex) (d ex : Nat) : Prop := ∀ (base b : Nat) (tv : Value) (i a : Nat) (kv rv pv : Value) (pl : List PV) (l : List PX) (w : World), RS w b s tv i d 0 a kv rv pv → PT base w pv pl l → base ≤ b → base ≤ w.heap.size → pl.length ≤ i →
 Calls Tryz.prog 229 #[.pointer (some ⟨b, 0, none⟩)] w (RPost base b s tv i d a kv rv pv pl l w ex (inner i))
set_option maxHeartbeats 1000000 in
set_option maxRecDepth 100000 in
theorem unit_list (base b : Nat) (s : ByteArray) (tv : Value) (i d a : Nat) (kv rv pv : Value) (pl : List PV) (l : List PX) (w : World) (h : RS w b s tv i d 0 a kv rv pv) (ht : PT base w pv pl l) (hbb : base ≤ b) (hbw : base ≤ w.heap.size) (hl : pl.length ≤ i) (ex : Nat) (he : eqs (TT s i) (sg 91) = true) : Calls Tryz.prog 266 #[.pointer (some ⟨b, 0, none⟩)] w (RPost base b s tv i d a kv rv pv pl l w (ex + 1) (listR (TT s) (PP s) i)) := by
 have hle := h.gd.le
 have hsz := h.sz
 have H := hide h
 have HT := hide ht
 have C := hide (is_okB b s tv i d a kv rv pv (sg 91) w h true he)
 clear h ht
 go_enter Tryz.func266, Tryz.ntmps266
 go_wp2_with fail
 refine (uh C).mono ?_
 rintro e w1 ⟨rfl, hb1⟩
 have hsz1 := hb1.size
 have FB := hide (Fr.of_below (base := base) (b := b) (pv := pv) hb1 hbw)
 have H1 := hide ((uh H).below hb1)
 have T1 := hide ((uh HT).but (But.of_below (b := b) hb1) (uh H).blk hbb hbw)
 have C2 := hide (rlist_any base b s tv i d a kv rv pv pl l w1 (uh H1) (uh T1) hbb (Nat.le_trans hbw hb1.size) (by omega) he)
 clear hb1 C
 go_wp2_with fail
 refine (uh C2).mono ?_
 rintro e w2 ⟨rfl, pv', p, x, fr, pt, hfr, hr⟩
 have HFR := hide (hfr.mono hsz1)
 have F2 := hide ((uh FB).trans fr)
 have P2 := hide pt
 have R2 := hide hr
 clear fr pt hr hfr C2
 go_wp2
 go_ret
 refine ⟨pl.length, rfl, pv', _, _, [p], [x], uh F2, uh P2, rfl, rfl, fun y hy => by rw [List.mem_singleton] at hy; subst hy; exact uh HFR, ?_⟩
 have hr := uh R2
 unfold listR
 cases hq : listL (TT s) (PP s) 512 [] i with
 | error e =>
  obtain ⟨c, jj⟩ := e
  rw [hq] at hr
  obtain ⟨hc, j', hj, rs⟩ := hr
  exact ⟨hc, j', hj, rs, by simp; omega⟩
 | ok y =>
  obtain ⟨gs, j⟩ := y
  rw [hq] at hr
  obtain ⟨rs, rfl, hj⟩ := hr
  exact ⟨rs, hj, by simp; omega, 1, _, List.getElem?_concat_length, .inl ⟨rfl, ⟨rfl, rfl⟩, rfl⟩⟩
set_option maxHeartbeats 1000000 in
set_option maxRecDepth 100000 in
theorem unit_full (base b : Nat) (s : ByteArray) (tv : Value) (i d a : Nat) (kv rv pv : Value) (pl : List PV) (l : List PX) (w : World) (h : RS w b s tv i d 0 a kv rv pv) (ht : PT base w pv pl l) (hbb : base ≤ b) (hbw : base ≤ w.heap.size) (hl : pl.length ≤ i) (ex : Nat) (h1 : eqs (TT s i) (sg 91) = false) (he : eqs (TT s i) (sg 40) = true) (hd : d = 4) : Calls Tryz.prog 266 #[.pointer (some ⟨b, 0, none⟩)] w (RPost base b s tv i d a kv rv pv pl l w (ex + 1) (.error (3, i))) := by
 have H := hide h
 have HT := hide ht
 have C := hide (is_okB b s tv i d a kv rv pv (sg 91) w h false h1)
 have hlt := h.lt
 clear h ht
 go_enter Tryz.func266, Tryz.ntmps266
 go_wp2_with fail
 refine (uh C).mono ?_
 rintro e w1 ⟨rfl, hb1⟩
 have H1 := hide ((uh H).below hb1)
 have B1 := hide (But.of_below (b := b) hb1)
 clear hb1 C
 go_wp2_with fail
 refine (is_okB b s tv i d a kv rv pv (sg 40) w1 (uh H1) true he).mono ?_
 rintro e w2 ⟨rfl, hb2⟩
 have H2 := hide ((uh H1).below hb2)
 have B2 := hide ((uh B1).trans (But.of_below (b := b) hb2))
 obtain ⟨r0, r1, r2, r3, r4, _⟩ := (uh H2).blk.eight
 clear hb2 H1 B1
 subst hd
 go_wp2_with fail
 refine (fail_ok b s tv i 4 a kv rv pv 3 w2 (uh H2)).mono ?_
 rintro e w3 ⟨rfl, b3, k3⟩
 have B3 := hide ((uh B2).trans b3)
 have K3 := hide k3
 clear b3 k3 r0 r1 r2 r3 r4
 go_wp2
 go_ret
 exact ⟨0, rfl, pv, pl, l, [], [], Fr.of_but (uh B3) hbb hbw, (uh HT).but (uh B3) (uh H).blk hbb hbw, by simp, by simp, by simp, by decide, i, Nat.le_refl _, uh K3, by omega⟩
/-- What stands in brackets, and the bracket behind it. -/
def brkR (T : Nat → ByteArray) (r : Res Ex) : Res Ex := match r with
 | .error e => .error e
 | .ok (x, j) => if eqs (T j) (sg 41) then .ok (x, j + 1) else .error (2, j)
set_option maxHeartbeats 2000000 in
set_option maxRecDepth 100000 in
theorem unit_in (base b : Nat) (s : ByteArray) (tv : Value) (i d a : Nat) (kv rv pv : Value) (pl : List PV) (l : List PX) (w : World) (h : RS w b s tv i d 0 a kv rv pv) (ht : PT base w pv pl l) (hbb : base ≤ b) (hbw : base ≤ w.heap.size) (hl : pl.length ≤ i) (inner : Nat → Res Ex) (ex : Nat) (IH : InnerOK s inner (d + 1) ex) (h1 : eqs (TT s i) (sg 91) = false) (he : eqs (TT s i) (sg 40) = true) (hd : d < 4) : Calls Tryz.prog 266 #[.pointer (some ⟨b, 0, none⟩)] w (RPost base b s tv i d a kv rv pv pl l w (ex + 1) (brkR (TT s) (inner (i + 1)))) := by
 have H := hide h
 have HT := hide ht
 have HG := hide (h.gd.succ (eqs_pos he (by decide)))
 have C := hide (is_okB b s tv i d a kv rv pv (sg 91) w h false h1)
 have hlt := h.lt
 have hle := h.gd.le
 have hsz := h.sz
 have hd' : ¬ ((d : Int) = 4) := by omega
 have hd2 : ((d : Int) == 4) = false := beq_eq_false_iff_ne.2 hd'
 clear h ht
 go_enter Tryz.func266, Tryz.ntmps266
 go_wp2_with fail
 refine (uh C).mono ?_
 rintro e w1 ⟨rfl, hb1⟩
 have H1 := hide ((uh H).below hb1)
 have B1 := hide (But.of_below (b := b) hb1)
 clear hb1 C
 go_wp2_with fail
 refine (is_okB b s tv i d a kv rv pv (sg 40) w1 (uh H1) true he).mono ?_
 rintro e w2 ⟨rfl, hb2⟩
 have H2 := hide ((uh H1).below hb2)
 have B2 := hide ((uh B1).trans (But.of_below (b := b) hb2))
 obtain ⟨r0, r1, r2, r3, r4, _⟩ := (uh H2).blk.eight
 have zr := (uh H2).blk.fz
 clear hb2 H1 B1
 go_wp2_with fail
 have H3 := hide (show RS ((w2.setCell ⟨b, 1, none⟩ (.int .i64 ((i : Int) + 1))).setCell ⟨b, 2, none⟩ (.int .i64 ((d : Int) + 1))) b s tv (i + 1) (d + 1) 0 a kv rv pv from ((uh H2).setI (i + 1) (uh HG)).setD (d + 1))
 have B3 := hide (show But b w ((w2.setCell ⟨b, 1, none⟩ (.int .i64 ((i : Int) + 1))).setCell ⟨b, 2, none⟩ (.int .i64 ((d : Int) + 1))) from ((uh B2).setCell 1 _).setCell 2 _)
 clear r0 r1 r2 r3 r4 zr H2 B2
 generalize (w2.setCell ⟨b, 1, none⟩ (.int .i64 ((i : Int) + 1))).setCell ⟨b, 2, none⟩ (.int .i64 ((d : Int) + 1)) = W3 at *
 have hw3 : base ≤ W3.heap.size := Nat.le_trans hbw (uh B3).size
 have C3 := hide (IH base b tv (i + 1) a kv rv pv pl l W3 (uh H3) ((uh HT).but (uh B3) (uh H).blk hbb hbw) hbb hw3 (by omega))
 refine (uh C3).mono ?_
 rintro e w4 ⟨m, rfl, pv', pl', l', t, tl, fr, pt, rfl, rfl, hfr, hr⟩
 have HFR := hide (fun x hx => (hfr x hx).mono (uh B3).size)
 have F4 := hide ((Fr.of_but (uh B3) hbb hbw).trans fr)
 have P4 := hide pt
 have hw4 : base ≤ w4.heap.size := Nat.le_trans hw3 fr.below.size
 clear fr pt hfr C3
 cases hin : inner (i + 1) with
 | error e =>
  obtain ⟨c, jj⟩ := e
  rw [hin] at hr
  obtain ⟨hc, j', hj, rs, hn⟩ := hr
  have E := hide (show brkR (TT s) (inner (i + 1)) = .error (c, jj) by rw [hin]; rfl)
  have R4 := hide rs
  obtain ⟨r0, r1, r2, r3, r4, _⟩ := rs.blk.eight
  have zr := rs.blk.fz
  have C5 := hide (sign_err b s tv j' d c (PP s jj) kv rv pv' (sg 41) _ (rs.setD d) hc)
  clear rs hin
  go_wp2_with fail
  refine (uh C5).mono ?_
  rintro e w5 ⟨rfl, hb5⟩
  have K5 := hide (((uh R4).setD d).below hb5)
  have B5 := hide (((But.refl b w4).setCell 2 (.int .i64 (d : Nat))).trans (But.of_below hb5))
  clear hb5 C5 r0 r1 r2 r3 r4 zr
  go_wp2
  go_ret
  rw [uh E]
  exact ⟨m, rfl, pv', _, _, t, tl, (uh F4).trans (Fr.of_but (uh B5) hbb hw4), (uh P4).but (uh B5) (uh R4).blk hbb hw4, rfl, rfl, uh HFR, hc, j', by omega, uh K5, by omega⟩
 | ok y =>
  obtain ⟨x, j⟩ := y
  rw [hin] at hr
  obtain ⟨rs, hj, hn, f, htr⟩ := hr
  have R4 := hide rs
  have TR := hide htr
  obtain ⟨r0, r1, r2, r3, r4, _⟩ := rs.blk.eight
  have zr := rs.blk.fz
  cases h41 : eqs (TT s j) (sg 41)
  ·have E := hide (show brkR (TT s) (inner (i + 1)) = .error (2, j) by rw [hin]; simp [brkR, h41])
   have C5 := hide (sign_no b s tv j d a kv rv pv' (sg 41) _ (rs.setD d) h41)
   clear rs hin htr
   go_wp2_with fail
   refine (uh C5).mono ?_
   rintro e w5 ⟨rfl, b5, k5⟩
   have K5 := hide k5
   have B5 := hide (((But.refl b w4).setCell 2 (.int .i64 (d : Nat))).trans b5)
   clear b5 k5 C5 r0 r1 r2 r3 r4 zr
   go_wp2
   go_ret
   rw [uh E]
   exact ⟨m, rfl, pv', _, _, t, tl, (uh F4).trans (Fr.of_but (uh B5) hbb hw4), (uh P4).but (uh B5) (uh R4).blk hbb hw4, rfl, rfl, uh HFR, by decide, j, by omega, uh K5, by omega⟩
  ·have E := hide (show brkR (TT s) (inner (i + 1)) = .ok (x, j + 1) by rw [hin]; simp [brkR, h41])
   have C5 := hide (sign_yes b s tv j d a kv rv pv' (sg 41) _ (rs.setD d) h41 (by decide))
   clear rs hin htr
   go_wp2_with fail
   refine (uh C5).mono ?_
   rintro e w5 ⟨rfl, b5, k5⟩
   have K5 := hide k5
   have B5 := hide (((But.refl b w4).setCell 2 (.int .i64 (d : Nat))).trans b5)
   clear b5 k5 C5 r0 r1 r2 r3 r4 zr
   go_wp2
   go_ret
   rw [uh E]
   exact ⟨m, rfl, pv', _, _, t, tl, (uh F4).trans (Fr.of_but (uh B5) hbb hw4), (uh P4).but (uh B5) (uh R4).blk hbb hw4, rfl, rfl, uh HFR, uh K5, by omega, by omega, f, uh TR⟩
end Go.Proofs.YtlbpnlngckgcbaaGreatDoor
