import Derived.Test.YtlbpnlngckgcbaaGreatDoorStep
import Derived.Test.YtlbpnlngckgcbaaGreatDoorAt
namespace Go.Proofs.YtlbpnlngckgcbaaGreatDoor
open Go.RowKit Go.PlainAid
set_option linter.unusedSimpArgs false
set_option linter.unusedVariables false

def isNm (t : ByteArray) : Bool := match lst t with
  | [] => false
  | c :: r => letter c.toNat && !(c :: r == [116, 121, 112, 101])
def next (s : ByteArray) (k : Nat) : Nat := tokP s k + (tokT s k).size
def errv (c : Nat) : Value := .iface 134 (.int .i64 c)

/-- The reader in block b has come to the token from k on. -/
structure Pos (w : World) (b : Nat) (s : ByteArray) (k d : Nat) : Prop where
  rd : Rd w b s (tokP s k) (tokT s k) d
  le : k ≤ s.size
theorem Pos.of_rd {w : World} {b : Nat} {s : ByteArray} {k d : Nat} (h : Rd w b s (tokP s (next s k)) (tokT s (next s k)) d) (hk : k ≤ s.size) : Pos w b s (next s k) d := ⟨h, tok_fits s k hk⟩
theorem Pos.below {w w' : World} {b : Nat} {s : ByteArray} {k d : Nat} (h : Pos w b s k d) (hb : Below w.heap.size w w') : Pos w' b s k d := ⟨h.rd.below hb, h.le⟩
theorem Pos.alloc {w : World} {b : Nat} {s : ByteArray} {k d : Nat} (h : Pos w b s k d) (o : Obj) : Pos (w.alloc o) b s k d := ⟨h.rd.alloc o, h.le⟩
theorem Pos.drew {w : World} {b : Nat} {s : ByteArray} {k d : Nat} (h : Pos w b s k d) : Pos w.drew b s k d := ⟨h.rd.drew, h.le⟩
theorem Pos.setNew {w : World} {b : Nat} {s : ByteArray} {k d : Nat} (h : Pos w b s k d) {a : Addr} (ha : a.block ≠ b) (u : Value) : Pos (w.setCell a u) b s k d :=
  ⟨h.rd.of_block (Below.heap_setCell _ _ _ _ (Ne.symm ha)), h.le⟩

theorem step_pos (b : Nat) (s : ByteArray) (k d : Nat) (w : World) (hs : s.size ≤ maxLen) (h : Pos w b s k d) :
    Calls Tryz.prog 220 #[.pointer (some ⟨b, 0, none⟩)] w fun e w' => e = .returned (.tuple #[]) ∧ Pos w' b s (next s k) d ∧ But b w w' := by
  refine (step_any b s _ _ d w hs h.rd (tok_fits s k h.le)).mono ?_
  rintro e w' ⟨rfl, h1, h2⟩
  exact ⟨rfl, Pos.of_rd h1 h.le, h2⟩

theorem isNm_w (t : ByteArray) : isNm t = (decide ((0 : Int) < (wSize (lst t) : Nat)) && !(t.toList == [116, 121, 112, 101])) := by
  rw [toList_lst]
  unfold isNm
  cases lst t with
  | nil => rfl
  | cons c r =>
    simp only [wSize]
    by_cases hc : letter c.toNat = true
    rotate_left
    · simp [hc]
    · simp only [hc, if_true]
      rw [show decide ((0 : Int) < ((1 + (r.takeWhile wordC).length : Nat) : Int)) = true from decide_eq_true (by omega)]
theorem tokT_max (s : ByteArray) (k : Nat) (hs : s.size ≤ maxLen) (hk : k ≤ s.size) : (tokT s k).size ≤ maxLen := by
  have := tok_fits s k hk
  unfold maxLen at *
  omega

set_option maxHeartbeats 400000 in
theorem isName_any (p : Int) (t : ByteArray) (w : World) (ht : t.size ≤ maxLen) :
    Calls Tryz.prog 171 #[.agg #[.int .i64 p, .string t]] w fun e w' => e = .returned (.bool (isNm t)) ∧ Below w.heap.size w w' := by
  have HT := hide ht
  clear ht
  have Hfin := hide (isNm_w t)
  generalize hn : wSize (lst t) = n at Hfin
  have Hn := hide hn
  clear hn
  by_cases h0 : (0 : Int) < (n : Int)
  · rw [decide_eq_true h0] at Hfin
    cases ht : (t.toList == [116, 121, 112, 101])
    all_goals
      rw [ht] at Hfin
      go_enter Tryz.func171, Tryz.ntmps171
      go_wp2_with (go_at_call 144; refine (size_any _ _ (unhide HT)).mono ?_; rintro e w' ⟨rfl, rfl⟩; rw [unhide Hn])
      go_ret
      exact ⟨by rw [unhide Hfin]; rfl, (Below.refl _ _).alloc (Nat.le_refl _) _⟩
  · rw [decide_eq_false h0] at Hfin
    go_enter Tryz.func171, Tryz.ntmps171
    go_wp2_with (go_at_call 144; refine (size_any _ _ (unhide HT)).mono ?_; rintro e w' ⟨rfl, rfl⟩; rw [unhide Hn])
    go_ret
    exact ⟨by rw [unhide Hfin]; rfl, (Below.refl _ _).alloc (Nat.le_refl _) _⟩

theorem at1 (b : Nat) (s : ByteArray) (k d g cap : Nat) (x : ByteArray) (w : World) (h : Pos w b s k d) (hc : w.cell? ⟨g, 0, none⟩ = some (.string x)) :
    Calls Tryz.prog 113 #[.pointer (some ⟨b, 0, none⟩), .slice (some ⟨g, 0, none⟩) 1 cap] w fun e w' => e = .returned (.bool (eqs (tokT s k) x)) ∧ w' = w :=
  (rat_any b s _ _ d g cap [x] w h.rd (by simp [maxLen]) (fun i hi => by
    have e : i = 0 := by simp at hi; exact hi
    subst e; exact hc)).mono fun e w' ⟨h1, h2⟩ => ⟨by rw [h1]; simp [anyEq], h2⟩
theorem at2 (b : Nat) (s : ByteArray) (k d g cap : Nat) (x y : ByteArray) (w : World) (h : Pos w b s k d) (hc : w.cell? ⟨g, 0, none⟩ = some (.string x)) (hc' : w.cell? ⟨g, 1, none⟩ = some (.string y)) :
    Calls Tryz.prog 113 #[.pointer (some ⟨b, 0, none⟩), .slice (some ⟨g, 0, none⟩) 2 cap] w fun e w' => e = .returned (.bool (eqs (tokT s k) x || eqs (tokT s k) y)) ∧ w' = w :=
  (rat_any b s _ _ d g cap [x, y] w h.rd (by simp [maxLen]) (fun i hi => by
    match i, hi with
    | 0, _ => exact hc
    | 1, _ => exact hc'
    | n + 2, hi => simp at hi; omega)).mono fun e w' ⟨h1, h2⟩ => ⟨by rw [h1]; simp [anyEq], h2⟩

set_option maxHeartbeats 400000 in
theorem take_yes (b : Nat) (s : ByteArray) (k d : Nat) (x : ByteArray) (w : World) (hs : s.size ≤ maxLen) (h : Pos w b s k d) (he : eqs (tokT s k) x = true) :
    Calls Tryz.prog 169 #[.pointer (some ⟨b, 0, none⟩), .string x] w fun e w' => e = .returned .nilIface ∧ Pos w' b s (next s k) d ∧ But b w w' := by
  have H := hide h
  have Hs := hide hs
  clear h hs
  go_enter Tryz.func169, Tryz.ntmps169
  go_wp2_with fail
  refine (at1 b s k d _ _ x _ ((unhide H).alloc _) (by simp)).mono ?_
  rintro e w' ⟨rfl, rfl⟩
  rw [he]
  go_wp2_with fail
  refine (step_pos b s k d _ (unhide Hs) ((unhide H).alloc _)).mono ?_
  rintro e w' ⟨rfl, h1, h2⟩
  have H1 := hide h1
  have H2 := hide (((But.refl b w).alloc _).trans h2)
  clear h1 h2
  go_wp2
  go_ret
  exact ⟨rfl, unhide H1, unhide H2⟩

set_option maxHeartbeats 400000 in
theorem take_no (b : Nat) (s : ByteArray) (k d : Nat) (x : ByteArray) (w : World) (h : Pos w b s k d) (he : eqs (tokT s k) x = false) :
    Calls Tryz.prog 169 #[.pointer (some ⟨b, 0, none⟩), .string x] w fun e w' => e = .returned (errv 2) ∧ Pos w' b s k d ∧ Below w.heap.size w w' := by
  have H := hide h
  clear h
  go_enter Tryz.func169, Tryz.ntmps169
  go_wp2_with fail
  refine (at1 b s k d _ _ x _ ((unhide H).alloc _) (by simp)).mono ?_
  rintro e w' ⟨rfl, rfl⟩
  rw [he]
  go_wp2
  go_ret
  exact ⟨rfl, (unhide H).alloc _, (Below.refl _ _).alloc (Nat.le_refl _) _⟩

/-- The name at hand. -/
def nmv (s : ByteArray) (k : Nat) : Value := .agg #[.int .i64 (tokP s k), .string (tokT s k)]
def nm0 : Value := .agg #[.int .i64 0, .string ⟨#[]⟩]

set_option maxHeartbeats 400000 in
theorem name_text (b : Nat) (s : ByteArray) (k d : Nat) (w : World) (hs : s.size ≤ maxLen) (h : Pos w b s k d) (he : isNm (tokT s k) = false) :
    Calls Tryz.prog 221 #[.pointer (some ⟨b, 0, none⟩)] w fun e w' => e = .returned (.tuple #[nm0, errv 2]) ∧ Pos w' b s k d ∧ Below w.heap.size w w' := by
  have H := hide h
  have HT := hide (tokT_max s k hs h.le)
  have h1 := h.rd.c1
  have h2 := h.rd.c2
  have hlt := h.rd.lt
  clear h hs
  go_enter Tryz.func221, Tryz.ntmps221
  go_wp2_with (go_at_call 171; refine (isName_any _ _ _ (unhide HT)).mono ?_; rintro e w' ⟨rfl, hb⟩; rw [he]; obtain ⟨hcb, hfb⟩ := bcell hb)
  have hB : Below w.heap.size w w' := ((Below.refl _ _).alloc (Nat.le_refl _) _).trans (hb.mono (by simp))
  exact bodyPost_ret (v := .tuple #[nm0, errv 2]) (by simp [results, Tryz.results221, go_sem, nm0, errv, hcb]) rfl ⟨rfl, (((unhide H).below hB).setNew (by simp; omega) _).setNew (by simp; omega) _, (hB.setCell (by simp) _).setCell (by simp) _⟩

set_option maxHeartbeats 400000 in
theorem name_size (b : Nat) (s : ByteArray) (k d : Nat) (w : World) (hs : s.size ≤ maxLen) (h : Pos w b s k d) (he : isNm (tokT s k) = true) (hl : 8 < (tokT s k).size) :
    Calls Tryz.prog 221 #[.pointer (some ⟨b, 0, none⟩)] w fun e w' => e = .returned (.tuple #[nm0, errv 3]) ∧ Pos w' b s k d ∧ Below w.heap.size w w' := by
  have H := hide h
  have HT := hide (tokT_max s k hs h.le)
  have h1 := h.rd.c1
  have h2 := h.rd.c2
  have hlt := h.rd.lt
  have hl' : (8 : Int) < ((tokT s k).size : Int) := by omega
  have hdl : decide ((8 : Int) < ((tokT s k).size : Int)) = true := by simpa using hl'
  clear h hs
  go_enter Tryz.func221, Tryz.ntmps221
  go_wp2_with (go_at_call 171; refine (isName_any _ _ _ (unhide HT)).mono ?_; rintro e w' ⟨rfl, hb⟩; rw [he]; obtain ⟨hcb, hfb⟩ := bcell hb)
  have hB : Below w.heap.size w w' := ((Below.refl _ _).alloc (Nat.le_refl _) _).trans (hb.mono (by simp))
  exact bodyPost_ret (v := .tuple #[nm0, errv 3]) (by simp [results, Tryz.results221, go_sem, nm0, errv, hcb]) rfl ⟨rfl, (((unhide H).below hB).setNew (by simp; omega) _).setNew (by simp; omega) _, (hB.setCell (by simp) _).setCell (by simp) _⟩

set_option maxHeartbeats 1000000 in
set_option maxRecDepth 100000 in
theorem name_ok (b : Nat) (s : ByteArray) (k d : Nat) (w : World) (hs : s.size ≤ maxLen) (h : Pos w b s k d) (he : isNm (tokT s k) = true) (hl : (tokT s k).size ≤ 8) :
    Calls Tryz.prog 221 #[.pointer (some ⟨b, 0, none⟩)] w fun e w' => e = .returned (.tuple #[nmv s k, .nilIface]) ∧ Pos w' b s (next s k) d ∧ But b w w' := by
  have H := hide h
  have HT := hide (tokT_max s k hs h.le)
  have Hs := hide hs
  clear hs
  have h1 := h.rd.c1
  have h2 := h.rd.c2
  have hlt := h.rd.lt
  have hl' : ((tokT s k).size : Int) ≤ (8 : Int) := by omega
  clear h
  go_enter Tryz.func221, Tryz.ntmps221
  go_wp2_with (go_at_call 171; refine (isName_any _ _ _ (unhide HT)).mono ?_; rintro e w' ⟨rfl, hb⟩; rw [he]; obtain ⟨hcb, hfb⟩ := bcell hb)
  have hB : Below w.heap.size w w' := ((Below.refl _ _).alloc (Nat.le_refl _) _).trans (hb.mono (by simp))
  have hsz : w.heap.size < w'.heap.size := by have := hb.size; simp at this; omega
  have k1 : w'.cell? ⟨b, 1, none⟩ = some (.int .i64 (tokP s k)) := (hB.cell hlt).trans h1
  have k2 : w'.cell? ⟨b, 2, none⟩ = some (.string (tokT s k)) := (hB.cell hlt).trans h2
  have HB := hide hB
  have P1 := hide ((unhide H).below hB)
  have R1 := hide ((Blk.new w #[.int .i64 0, .string ⟨#[]⟩] 107).below hb)
  clear hcb hfb hb hB h1 h2
  have n1 := World.new_ne w' _ k1
  have n2 := World.new_ne w' _ k2
  go_region_held3 (fun w' => w'.cell? ⟨b, 1, none⟩ = some (.int .i64 (tokP s k)) ∧ w'.cell? ⟨b, 2, none⟩ = some (.string (tokT s k))) (go_keep) (fail)
  rename_i hh
  clear hh
  go_wp2_with fail
  refine (step_pos b s k d _ (unhide Hs) ((unhide P1).alloc _).drew).mono ?_
  rintro e w2 ⟨rfl, p2, b2⟩
  have P2 := hide p2
  have B2 := hide ((But.of_below (b := b) (unhide HB)).trans (((But.refl b w').alloc _).drew.trans b2))
  have N2 := (Blk.new w' #[.int .i64 (tokP s k), .string (tokT s k)] 107).drew.but b2 (by omega)
  have R2 := ((unhide R1).alloc _).drew.but b2 (by omega)
  have q0 := N2.cell (o := 0) rfl
  have q1 := N2.cell (o := 1) rfl
  have r0 := R2.cell (o := 0) rfl
  have r1 := R2.cell (o := 1) rfl
  have z1 := R2.fz
  clear p2 b2 k1 k2 n1 n2 N2 R2
  go_wp2
  exact bodyPost_ret (v := .tuple #[nmv s k, .nilIface]) (by simp [results, Tryz.results221, go_sem, nmv, r0, r1]) rfl ⟨rfl, ((unhide P2).setNew (by simp; omega) _).setNew (by simp; omega) _, ((unhide B2).setNew (by simp) _).setNew (by simp) _⟩
end Go.Proofs.YtlbpnlngckgcbaaGreatDoor
