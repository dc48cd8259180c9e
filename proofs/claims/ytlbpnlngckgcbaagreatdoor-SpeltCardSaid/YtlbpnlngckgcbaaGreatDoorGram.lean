import Derived.Test.YtlbpnlngckgcbaaGreatDoorSpec
import Derived.Laws.ResultCell
import Derived.Laws.Rows
namespace Go.Proofs.YtlbpnlngckgcbaaGreatDoor
open Go.RowKit Go.PlainAid
set_option linter.unusedSimpArgs false
set_option linter.unusedVariables false

def IsNm (v : Value) : Prop := ∃ (p : Nat) (t : ByteArray), v = .agg #[.int .i64 p, .string t]

theorem Blk.two {w : World} {g : Nat} {x y : Value} {T : TypeId} (h : Blk w g #[x, y] T) : w.cell? ⟨g, 0, none⟩ = some x ∧ w.cell? ⟨g, 1, none⟩ = some y := ⟨h.cell rfl, h.cell rfl⟩
theorem Blk.three {w : World} {g : Nat} {x y z : Value} {T : TypeId} (h : Blk w g #[x, y, z] T) : w.cell? ⟨g, 0, none⟩ = some x ∧ w.cell? ⟨g, 1, none⟩ = some y ∧ w.cell? ⟨g, 2, none⟩ = some z := ⟨h.cell rfl, h.cell rfl, h.cell rfl⟩
theorem Blk.five {w : World} {g : Nat} {x y z u v : Value} {T : TypeId} (h : Blk w g #[x, y, z, u, v] T) : w.cell? ⟨g, 0, none⟩ = some x ∧ w.cell? ⟨g, 1, none⟩ = some y ∧ w.cell? ⟨g, 2, none⟩ = some z ∧ w.cell? ⟨g, 3, none⟩ = some u ∧ w.cell? ⟨g, 4, none⟩ = some v := ⟨h.cell rfl, h.cell rfl, h.cell rfl, h.cell rfl, h.cell rfl⟩

theorem res_ct {P : Program} {fn : Func} {p u : Tmp} {ty : TypeId} (h : fn.results = #[.cell p ty, .tmp u]) (tmps : Array Value) (w : World) (g : Nat) (cs : Array Value) (t : TypeId) (e : Value) (d : TypeDesc)
    (hp : tmps.getD p undef = .pointer (some ⟨g, 0, none⟩)) (hq : tmps.getD u undef = e) (hb : Blk w g cs t)
    (hu : P.underlying ty = some d) (hd : (match d with | .struct _ | .array _ _ => true | _ => false) = true) (hi : (P.info? ty).map (·.size) = some cs.size) :
    (results fn tmps).run P w = .ok (.tuple #[.agg cs, e]) w := by
  rw [results_cell_tmp h, hp, hq]
  simp [asAddr, run_loadVar_row w g t ty cs (0, 0) d hb hu hd hi]

theorem takes_yes (b : Nat) (s : ByteArray) (i d : Nat) (x : ByteArray) (w : World) (hs : s.size ≤ maxLen) (h : At w b s i d) (he : eqs (TT s i) x = true) (hx : 0 < (lst x).length) :
    Calls Tryz.prog 169 #[.pointer (some ⟨b, 0, none⟩), .string x] w fun e w' => e = .returned .nilIface ∧ At w' b s (i + 1) d ∧ But b w w' := by
  refine (take_yes b s (K s i) d x w hs h.pos he).mono ?_
  rintro e w' ⟨rfl, h1, h2⟩
  exact ⟨rfl, At.next h1 h.good (eqs_pos he hx), h2⟩
theorem takes_no (b : Nat) (s : ByteArray) (i d : Nat) (x : ByteArray) (w : World) (h : At w b s i d) (he : eqs (TT s i) x = false) :
    Calls Tryz.prog 169 #[.pointer (some ⟨b, 0, none⟩), .string x] w fun e w' => e = .returned (errv 2) ∧ At w' b s i d ∧ But b w w' := by
  refine (take_no b s (K s i) d x w h.pos he).mono ?_
  rintro e w' ⟨rfl, h1, h2⟩
  exact ⟨rfl, ⟨h1, h.good⟩, But.of_below h2⟩
theorem steps (b : Nat) (s : ByteArray) (i d : Nat) (w : World) (hs : s.size ≤ maxLen) (h : At w b s i d) (ht : 0 < (TT s i).size) :
    Calls Tryz.prog 220 #[.pointer (some ⟨b, 0, none⟩)] w fun e w' => e = .returned (.tuple #[]) ∧ At w' b s (i + 1) d ∧ But b w w' := by
  refine (step_pos b s (K s i) d w hs h.pos).mono ?_
  rintro e w' ⟨rfl, h1, h2⟩
  exact ⟨rfl, At.next h1 h.good ht, h2⟩
theorem ats (b : Nat) (s : ByteArray) (i d g cap : Nat) (x : ByteArray) (w : World) (h : At w b s i d) (hc : w.cell? ⟨g, 0, none⟩ = some (.string x)) :
    Calls Tryz.prog 113 #[.pointer (some ⟨b, 0, none⟩), .slice (some ⟨g, 0, none⟩) 1 cap] w fun e w' => e = .returned (.bool (eqs (TT s i) x)) ∧ w' = w :=
  at1 b s (K s i) d g cap x w h.pos hc

set_option maxHeartbeats 1000000 in
set_option maxRecDepth 100000 in
theorem nameThen_bad (b : Nat) (s : ByteArray) (i d : Nat) (x : ByteArray) (w : World) (hs : s.size ≤ maxLen) (h : At w b s i d) (c j : Nat) (hr : nameR (TT s) i = .error (c, j)) :
    Calls Tryz.prog 170 #[.pointer (some ⟨b, 0, none⟩), .string x] w (Post b s d w (.error (c, j) : Res Unit) (fun _ _ v => v = nmv s (K s i)) IsNm) := by
  have hlt := h.lt
  have C := hide (name_post b s i d (w.alloc (.cells #[.int .i64 0, .string ⟨#[]⟩] 107)) hs (h.alloc _))
  rw [hr] at C
  clear hr
  go_enter Tryz.func170, Tryz.ntmps170
  go_wp2_with fail
  refine (unhide C).mono ?_
  rintro e w1 ⟨b1, v, d', rfl, rfl, a1⟩
  have A1 := hide a1
  have B1 := hide (((But.refl b w).alloc _).trans b1)
  have R := (Blk.new w #[.int .i64 0, .string ⟨#[]⟩] 107).but b1 (by omega)
  obtain ⟨r0, r1⟩ := R.two
  have z := R.fz
  have hsz := R.lt
  have HR := hide R
  clear a1 b1 C h hs R
  unfold errv nm0
  go_wp2
  exact bodyPost_ret (v := .tuple #[nm0, errv c]) (res_ct Tryz.results170 _ _ w.heap.size #[.int .i64 0, .string ⟨#[]⟩] 107 _ _ rfl rfl ((((unhide HR).set 0 _).set 1 _).alloc _) Tryz.underlying107 rfl (by kernel_rfl)) rfl
    ⟨(((unhide B1).setNew (by simp) _).setNew (by simp) _).alloc _, nm0, d', rfl, ⟨0, _, rfl⟩, (((unhide A1).setNew (by simp; omega) _).setNew (by simp; omega) _).alloc _⟩

set_option maxHeartbeats 1000000 in
set_option maxRecDepth 100000 in
theorem nameThen_yes (b : Nat) (s : ByteArray) (i d : Nat) (x : ByteArray) (w : World) (hs : s.size ≤ maxLen) (h : At w b s i d) (j : Nat) (hr : nameR (TT s) i = .ok ((), j)) (he : eqs (TT s j) x = true) (hx : 0 < (lst x).length) :
    Calls Tryz.prog 170 #[.pointer (some ⟨b, 0, none⟩), .string x] w (Post b s d w (.ok ((), j + 1) : Res Unit) (fun _ _ v => v = nmv s (K s i)) IsNm) := by
  have hlt := h.lt
  have Hs := hide hs
  have He := hide he
  have C := hide (name_post b s i d (w.alloc (.cells #[.int .i64 0, .string ⟨#[]⟩] 107)) hs (h.alloc _))
  rw [hr] at C
  clear hr he
  go_enter Tryz.func170, Tryz.ntmps170
  go_wp2_with fail
  refine (unhide C).mono ?_
  rintro e w1 ⟨b1, v, rfl, rfl, a1⟩
  have A1 := hide a1
  have B1 := hide (((But.refl b w).alloc _).trans b1)
  have R := (Blk.new w #[.int .i64 0, .string ⟨#[]⟩] 107).but b1 (by omega)
  have HR := hide R
  obtain ⟨r0, r1⟩ := R.two
  have z := R.fz
  have hsz := R.lt
  have hne : ¬ (w1.heap.size = w.heap.size) := by omega
  have hne' : ¬ (w.heap.size = w1.heap.size) := by omega
  clear a1 b1 C h hs R
  unfold nmv
  go_wp2
  go_region_held3 (fun w' => w'.cell? ⟨w1.heap.size, 0, none⟩ = some (.int .i64 (tokP s (K s i))) ∧ w'.cell? ⟨w1.heap.size, 1, none⟩ = some (.string (tokT s (K s i))))
    (go_keep) ((go_at_call 169; refine (takes_yes b s j d x _ (unhide Hs) ?_ (unhide He) hx).mono ?_; (exact ((unhide A1).alloc _).drew); rintro e w2 ⟨rfl, a2, b2⟩; have N2 := (Blk.new w1 #[.int .i64 (tokP s (K s i)), .string (tokT s (K s i))] 107).drew.but b2 (by omega); obtain ⟨n0, n1⟩ := N2.two; have R2 := ((unhide HR).alloc (.cells #[.int .i64 (tokP s (K s i)), .string (tokT s (K s i))] 107)).drew.but b2 (by omega); obtain ⟨r0', r1'⟩ := R2.two; have z' := R2.fz; have HR2 := hide R2; have A2 := hide a2; have B2 := hide b2; clear N2 R2 a2 b2))
  go_wp2
  exact bodyPost_ret (v := .tuple #[nmv s (K s i), .nilIface]) (res_ct Tryz.results170 _ _ w.heap.size #[.int .i64 (tokP s (K s i)), .string (tokT s (K s i))] 107 _ _ rfl rfl (((unhide HR2).set 0 _).set 1 _) Tryz.underlying107 rfl (by kernel_rfl)) rfl
    ⟨((((unhide B1).alloc _).drew.trans (unhide B2)).setNew (by simp) _).setNew (by simp) _, _, rfl, rfl, ((unhide A2).setNew (by simp; omega) _).setNew (by simp; omega) _⟩

set_option maxHeartbeats 1000000 in
set_option maxRecDepth 100000 in
theorem nameThen_no (b : Nat) (s : ByteArray) (i d : Nat) (x : ByteArray) (w : World) (hs : s.size ≤ maxLen) (h : At w b s i d) (j : Nat) (hr : nameR (TT s) i = .ok ((), j)) (he : eqs (TT s j) x = false) :
    Calls Tryz.prog 170 #[.pointer (some ⟨b, 0, none⟩), .string x] w (Post b s d w (.error (2, j) : Res Unit) (fun _ _ v => v = nmv s (K s i)) IsNm) := by
  have hlt := h.lt
  have Hs := hide hs
  have He := hide he
  have C := hide (name_post b s i d (w.alloc (.cells #[.int .i64 0, .string ⟨#[]⟩] 107)) hs (h.alloc _))
  rw [hr] at C
  clear hr he
  go_enter Tryz.func170, Tryz.ntmps170
  go_wp2_with fail
  refine (unhide C).mono ?_
  rintro e w1 ⟨b1, v, rfl, rfl, a1⟩
  have A1 := hide a1
  have B1 := hide (((But.refl b w).alloc _).trans b1)
  have R := (Blk.new w #[.int .i64 0, .string ⟨#[]⟩] 107).but b1 (by omega)
  have HR := hide R
  obtain ⟨r0, r1⟩ := R.two
  have z := R.fz
  have hsz := R.lt
  have hne : ¬ (w1.heap.size = w.heap.size) := by omega
  have hne' : ¬ (w.heap.size = w1.heap.size) := by omega
  clear a1 b1 C h hs R
  unfold nmv
  go_wp2
  go_region_held3 (fun w' => w'.cell? ⟨w1.heap.size, 0, none⟩ = some (.int .i64 (tokP s (K s i))) ∧ w'.cell? ⟨w1.heap.size, 1, none⟩ = some (.string (tokT s (K s i))))
    (go_keep) ((go_at_call 169; refine (takes_no b s j d x _ ?_ (unhide He)).mono ?_; (exact ((unhide A1).alloc _).drew); rintro e w2 ⟨rfl, a2, b2⟩; have N2 := (Blk.new w1 #[.int .i64 (tokP s (K s i)), .string (tokT s (K s i))] 107).drew.but b2 (by omega); obtain ⟨n0, n1⟩ := N2.two; have R2 := ((unhide HR).alloc (.cells #[.int .i64 (tokP s (K s i)), .string (tokT s (K s i))] 107)).drew.but b2 (by omega); obtain ⟨r0', r1'⟩ := R2.two; have z' := R2.fz; have HR2 := hide R2; have A2 := hide a2; have B2 := hide b2; clear N2 R2 a2 b2))
  go_wp2
  exact bodyPost_ret (v := .tuple #[nmv s (K s i), errv 2]) (res_ct Tryz.results170 _ _ w.heap.size #[.int .i64 (tokP s (K s i)), .string (tokT s (K s i))] 107 _ _ rfl rfl (((unhide HR2).set 0 _).set 1 _) Tryz.underlying107 rfl (by kernel_rfl)) rfl
    ⟨((((unhide B1).alloc _).drew.trans (unhide B2)).setNew (by simp) _).setNew (by simp) _, _, d, rfl, ⟨_, _, rfl⟩, ((unhide A2).setNew (by simp; omega) _).setNew (by simp; omega) _⟩

theorem nameThen_post (b : Nat) (s : ByteArray) (i d : Nat) (x : ByteArray) (w : World) (hs : s.size ≤ maxLen) (h : At w b s i d) (hx : 0 < (lst x).length) :
    Calls Tryz.prog 170 #[.pointer (some ⟨b, 0, none⟩), .string x] w (Post b s d w (nameThenR (TT s) x i) (fun _ _ v => v = nmv s (K s i)) IsNm) := by
  unfold nameThenR
  cases hr : nameR (TT s) i with
  | error e => exact nameThen_bad b s i d x w hs h e.1 e.2 hr
  | ok y =>
    obtain ⟨⟨⟩, j⟩ := y
    cases he : eqs (TT s j) x
    · simp only [he]
      exact nameThen_no b s i d x w hs h j hr he
    · simp only [he]
      exact nameThen_yes b s i d x w hs h j hr he hx
end Go.Proofs.YtlbpnlngckgcbaaGreatDoor
