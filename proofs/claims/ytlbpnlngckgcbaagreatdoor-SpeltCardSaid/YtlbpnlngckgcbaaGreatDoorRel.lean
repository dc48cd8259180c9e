import Derived.Test.YtlbpnlngckgcbaaGreatDoorExpr
namespace Go.Proofs.YtlbpnlngckgcbaaGreatDoor
open Go.RowKit Go.PlainAid
set_option linter.unusedSimpArgs false
set_option linter.unusedVariables false

theorem RepEx.set {b : Nat} {w : World} {e : Ex} {v : Value} {g : Nat} {cs : Array Value} {T : TypeId} (h : RepEx b w e v) (hb : Blk w g cs T) (ht : T ≠ 207) (o : Nat) (u : Value) : RepEx b (w.setCell ⟨g, o, none⟩ u) e v :=
  RepEx.frame (fun g' cs' f hg hh => Below.heap_setCell _ _ _ _ (fun (e' : g' = g) => by
    subst e'
    unfold Blk at hb
    rw [hb] at hh
    simp at hh
    exact ht hh.2.1)) e v h
def RepRl (b : Nat) (w : World) (r : Rl) (v : Value) : Prop := ∃ bv, v = .agg #[.int .i64 r.place, .string r.name, bv] ∧ RepEx b w r.body bv
def IsRl (v : Value) : Prop := ∃ (p : Nat) (t : ByteArray) (bv : Value), v = .agg #[.int .i64 p, .string t, bv] ∧ IsI bv

set_option maxHeartbeats 1000000 in
set_option maxRecDepth 100000 in
theorem rel_bad (b : Nat) (s : ByteArray) (i d : Nat) (w : World) (hs : s.size ≤ 500) (h : At w b s i d) (c j : Nat) (Hr : Hid (nameThenR (TT s) (sg 58) i = .error (c, j))) :
    Calls Tryz.prog 172 #[.pointer (some ⟨b, 0, none⟩)] w (Post b s d w (.error (c, j) : Res Rl) (RepRl b) IsRl) := by
  have hlt := h.lt
  have Hs : Hid (s.size ≤ maxLen) := hide (by unfold maxLen; omega)
  have C := hide (nameThen_post b s i d (sg 58) _ (unhide Hs) ((h.alloc (.cells #[.int .i64 0, .string ⟨#[]⟩, .nilIface] 159)).alloc (.cells #[.int .i64 0, .string ⟨#[]⟩, .nilIface] 159)) (by decide))
  rw [unhide Hr] at C
  clear h
  go_enter Tryz.func172, Tryz.ntmps172
  go_wp2_with fail
  refine (unhide C).mono ?_
  rintro e w1 ⟨b1, v, d1, rfl, ⟨p, t, rfl⟩, a1⟩
  have B1 := hide (((But.refl b w).alloc _).alloc _ |>.trans b1)
  have R := ((Blk.new w #[.int .i64 0, .string ⟨#[]⟩, .nilIface] 159).alloc (.cells #[.int .i64 0, .string ⟨#[]⟩, .nilIface] 159)).but b1 (by omega)
  have G := (Blk.new' (w.alloc (.cells #[.int .i64 0, .string ⟨#[]⟩, .nilIface] 159)) #[.int .i64 0, .string ⟨#[]⟩, .nilIface] 159 (w.heap.size + 1) (by simp)).but b1 (by omega)
  have HR := hide R
  have HG := hide G
  obtain ⟨r0, r1, r2⟩ := R.three
  obtain ⟨g0, g1, g2⟩ := G.three
  have zr := R.fz
  have zg := G.fz
  have hsz := G.lt
  have hsz' : w.heap.size < w1.heap.size := by omega
  have A1 := hide a1
  clear a1 b1 R G C
  unfold errv
  go_wp2
  refine bodyPost_ret (v := .tuple #[.agg #[.int .i64 p, .string t, .nilIface], errv c]) (res_cc Tryz.results172 _ _ w.heap.size _ 159 _ _ rfl rfl ?hB Tryz.underlying159 rfl (by kernel_rfl)) rfl ?post
  case hB => exact ⟨_, (by repeat (first | with_reducible exact unhide HR | with_reducible apply Blk.alloc | with_reducible apply Blk.drew | with_reducible apply Blk.set | (with_reducible apply Blk.other; case ha => exact (by first | omega | (simp; omega) | simp | (simp; done))))), by rfl⟩
  case post => exact ⟨(by repeat (first | with_reducible exact unhide B1 | with_reducible refine But.alloc ?_ _ | with_reducible refine But.drew ?_ | (with_reducible refine But.setNew ?_ ?_ _; rotate_left; exact (by first | omega | (simp; omega) | simp | (simp; done))))), _, d1, rfl, ⟨p, t, _, rfl, .inl rfl⟩, (by repeat (first | with_reducible exact unhide A1 | with_reducible refine At.alloc ?_ _ | with_reducible refine At.drew ?_ | (with_reducible refine At.setNew ?_ ?_ _; rotate_left; exact (by first | omega | (simp; omega) | simp | (simp; done)))))⟩

set_option maxHeartbeats 1000000 in
set_option maxRecDepth 100000 in
theorem rel_xbad (b : Nat) (s : ByteArray) (i d : Nat) (w : World) (hs : s.size ≤ 500) (h : At w b s i d) (hd : d + 4 = 4) (c j m : Nat) (Hr : Hid (nameThenR (TT s) (sg 58) i = .ok ((), j))) (Hx : Hid (exprR (TT s) (PP s) 4 j = .error (c, m))) :
    Calls Tryz.prog 172 #[.pointer (some ⟨b, 0, none⟩)] w (Post b s d w (.error (c, m) : Res Rl) (RepRl b) IsRl) := by
  have hlt := h.lt
  have Hs : Hid (s.size ≤ maxLen) := hide (by unfold maxLen; omega)
  have C := hide (nameThen_post b s i d (sg 58) _ (unhide Hs) ((h.alloc (.cells #[.int .i64 0, .string ⟨#[]⟩, .nilIface] 159)).alloc (.cells #[.int .i64 0, .string ⟨#[]⟩, .nilIface] 159)) (by decide))
  rw [unhide Hr] at C
  clear h
  go_enter Tryz.func172, Tryz.ntmps172
  go_wp2_with fail
  refine (unhide C).mono ?_
  rintro e w1 ⟨b1, v, rfl, rfl, a1⟩
  have B1 := hide (((But.refl b w).alloc _).alloc _ |>.trans b1)
  have R := ((Blk.new w #[.int .i64 0, .string ⟨#[]⟩, .nilIface] 159).alloc (.cells #[.int .i64 0, .string ⟨#[]⟩, .nilIface] 159)).but b1 (by omega)
  have G := (Blk.new' (w.alloc (.cells #[.int .i64 0, .string ⟨#[]⟩, .nilIface] 159)) #[.int .i64 0, .string ⟨#[]⟩, .nilIface] 159 (w.heap.size + 1) (by simp)).but b1 (by omega)
  have HR := hide R
  have HG := hide G
  obtain ⟨r0, r1, r2⟩ := R.three
  obtain ⟨g0, g1, g2⟩ := G.three
  have zr := R.fz
  have zg := G.fz
  have hsz := G.lt
  have hsz' : w.heap.size < w1.heap.size := by omega
  have A1 := hide a1
  clear a1 b1 R G C
  unfold nmv
  go_wp2_with fail
  have C := hide (expr_post b s hs 4 j d _ hd (show At ((w1.setCell ⟨w.heap.size + 1, 0, none⟩ (.int .i64 (tokP s (K s i)))).setCell ⟨w.heap.size + 1, 1, none⟩ (.string (tokT s (K s i)))) b s j d from (by repeat (first | with_reducible exact unhide A1 | with_reducible refine At.alloc ?_ _ | with_reducible refine At.drew ?_ | (with_reducible refine At.setNew ?_ ?_ _; rotate_left; exact (by first | omega | (simp; omega) | simp | (simp; done)))))))
  rw [unhide Hx] at C
  refine (unhide C).mono ?_
  rintro e w2 ⟨b2, v2, d2, rfl, hv2, a2⟩
  have B2 := hide (But.trans (x := w) (by repeat (first | with_reducible exact unhide B1 | with_reducible refine But.alloc ?_ _ | with_reducible refine But.drew ?_ | (with_reducible refine But.setNew ?_ ?_ _; rotate_left; exact (by first | omega | (simp; omega) | simp | (simp; done))))) b2)
  have R2' := Blk.but (g := w.heap.size) (T := 159) (by repeat (first | with_reducible exact unhide HR | with_reducible apply Blk.alloc | with_reducible apply Blk.drew | with_reducible apply Blk.set | (with_reducible apply Blk.other; case ha => exact (by first | omega | (simp; omega) | simp | (simp; done))))) b2 (by omega)
  have R2 : Blk w2 w.heap.size #[.int .i64 0, .string ⟨#[]⟩, .nilIface] 159 := R2'
  have G2' := Blk.but (g := w.heap.size + 1) (T := 159) (by repeat (first | with_reducible exact unhide HG | with_reducible apply Blk.alloc | with_reducible apply Blk.drew | with_reducible apply Blk.set | (with_reducible apply Blk.other; case ha => exact (by first | omega | (simp; omega) | simp | (simp; done))))) b2 (by omega)
  have G2 : Blk w2 (w.heap.size + 1) #[.int .i64 (tokP s (K s i)), .string (tokT s (K s i)), .nilIface] 159 := G2'
  have HR2 := hide R2
  have HG2 := hide G2
  obtain ⟨p0, p1, p2⟩ := R2.three
  obtain ⟨q0, q1, q2⟩ := G2.three
  have zp := R2.fz
  have zq := G2.fz
  have tz := G2.lt
  have tz' : w.heap.size < w2.heap.size := by omega
  have A2 := hide a2
  clear a2 b2 R2 G2 R2' G2' r0 r1 r2 g0 g1 g2 zr zg hsz hsz'
  unfold errv
  rcases hv2 with rfl | ⟨tx, vx, rfl⟩
  · go_wp2
    refine bodyPost_ret (v := .tuple #[.agg #[.int .i64 (tokP s (K s i)), .string (tokT s (K s i)), .nilIface], errv c]) (res_cc Tryz.results172 _ _ w.heap.size _ 159 _ _ rfl rfl ?hB Tryz.underlying159 rfl (by kernel_rfl)) rfl ?post
    case hB => exact ⟨_, (by repeat (first | with_reducible exact unhide HR2 | with_reducible apply Blk.alloc | with_reducible apply Blk.drew | with_reducible apply Blk.set | (with_reducible apply Blk.other; case ha => exact (by first | omega | (simp; omega) | simp | (simp; done))))), by rfl⟩
    case post => exact ⟨(by repeat (first | with_reducible exact unhide B2 | with_reducible refine But.alloc ?_ _ | with_reducible refine But.drew ?_ | (with_reducible refine But.setNew ?_ ?_ _; rotate_left; exact (by first | omega | (simp; omega) | simp | (simp; done))))), _, d2, rfl, ⟨_, _, _, rfl, .inl rfl⟩, (by repeat (first | with_reducible exact unhide A2 | with_reducible refine At.alloc ?_ _ | with_reducible refine At.drew ?_ | (with_reducible refine At.setNew ?_ ?_ _; rotate_left; exact (by first | omega | (simp; omega) | simp | (simp; done)))))⟩
  · go_wp2
    refine bodyPost_ret (v := .tuple #[.agg #[.int .i64 (tokP s (K s i)), .string (tokT s (K s i)), .iface tx vx], errv c]) (res_cc Tryz.results172 _ _ w.heap.size _ 159 _ _ rfl rfl ?hB Tryz.underlying159 rfl (by kernel_rfl)) rfl ?post
    case hB => exact ⟨_, (by repeat (first | with_reducible exact unhide HR2 | with_reducible apply Blk.alloc | with_reducible apply Blk.drew | with_reducible apply Blk.set | (with_reducible apply Blk.other; case ha => exact (by first | omega | (simp; omega) | simp | (simp; done))))), by rfl⟩
    case post => exact ⟨(by repeat (first | with_reducible exact unhide B2 | with_reducible refine But.alloc ?_ _ | with_reducible refine But.drew ?_ | (with_reducible refine But.setNew ?_ ?_ _; rotate_left; exact (by first | omega | (simp; omega) | simp | (simp; done))))), _, d2, rfl, ⟨_, _, _, rfl, .inr ⟨_, _, rfl⟩⟩, (by repeat (first | with_reducible exact unhide A2 | with_reducible refine At.alloc ?_ _ | with_reducible refine At.drew ?_ | (with_reducible refine At.setNew ?_ ?_ _; rotate_left; exact (by first | omega | (simp; omega) | simp | (simp; done)))))⟩

set_option maxHeartbeats 1000000 in
set_option maxRecDepth 100000 in
theorem rel_yes (b : Nat) (s : ByteArray) (i d : Nat) (w : World) (hs : s.size ≤ 500) (h : At w b s i d) (hd : d + 4 = 4) (x : Ex) (j m : Nat) (Hr : Hid (nameThenR (TT s) (sg 58) i = .ok ((), j))) (Hx : Hid (exprR (TT s) (PP s) 4 j = .ok (x, m))) (He : Hid (eqs (TT s m) (sg 59) = true)) :
    Calls Tryz.prog 172 #[.pointer (some ⟨b, 0, none⟩)] w (Post b s d w (.ok (⟨TT s i, PP s i, x⟩, m + 1) : Res Rl) (RepRl b) IsRl) := by
  have hlt := h.lt
  have Hs : Hid (s.size ≤ maxLen) := hide (by unfold maxLen; omega)
  have C := hide (nameThen_post b s i d (sg 58) _ (unhide Hs) ((h.alloc (.cells #[.int .i64 0, .string ⟨#[]⟩, .nilIface] 159)).alloc (.cells #[.int .i64 0, .string ⟨#[]⟩, .nilIface] 159)) (by decide))
  rw [unhide Hr] at C
  clear h
  go_enter Tryz.func172, Tryz.ntmps172
  go_wp2_with fail
  refine (unhide C).mono ?_
  rintro e w1 ⟨b1, v, rfl, rfl, a1⟩
  have B1 := hide (((But.refl b w).alloc _).alloc _ |>.trans b1)
  have R := ((Blk.new w #[.int .i64 0, .string ⟨#[]⟩, .nilIface] 159).alloc (.cells #[.int .i64 0, .string ⟨#[]⟩, .nilIface] 159)).but b1 (by omega)
  have G := (Blk.new' (w.alloc (.cells #[.int .i64 0, .string ⟨#[]⟩, .nilIface] 159)) #[.int .i64 0, .string ⟨#[]⟩, .nilIface] 159 (w.heap.size + 1) (by simp)).but b1 (by omega)
  have HR := hide R
  have HG := hide G
  obtain ⟨r0, r1, r2⟩ := R.three
  obtain ⟨g0, g1, g2⟩ := G.three
  have zr := R.fz
  have zg := G.fz
  have hsz := G.lt
  have hsz' : w.heap.size < w1.heap.size := by omega
  have A1 := hide a1
  clear a1 b1 R G C
  unfold nmv
  go_wp2_with fail
  have C := hide (expr_post b s hs 4 j d _ hd (show At ((w1.setCell ⟨w.heap.size + 1, 0, none⟩ (.int .i64 (tokP s (K s i)))).setCell ⟨w.heap.size + 1, 1, none⟩ (.string (tokT s (K s i)))) b s j d from (by repeat (first | with_reducible exact unhide A1 | with_reducible refine At.alloc ?_ _ | with_reducible refine At.drew ?_ | (with_reducible refine At.setNew ?_ ?_ _; rotate_left; exact (by first | omega | (simp; omega) | simp | (simp; done)))))))
  rw [unhide Hx] at C
  refine (unhide C).mono ?_
  rintro e w2 ⟨b2, v2, rfl, hv2, a2⟩
  have B2 := hide (But.trans (x := w) (by repeat (first | with_reducible exact unhide B1 | with_reducible refine But.alloc ?_ _ | with_reducible refine But.drew ?_ | (with_reducible refine But.setNew ?_ ?_ _; rotate_left; exact (by first | omega | (simp; omega) | simp | (simp; done))))) b2)
  have R2' := Blk.but (g := w.heap.size) (T := 159) (by repeat (first | with_reducible exact unhide HR | with_reducible apply Blk.alloc | with_reducible apply Blk.drew | with_reducible apply Blk.set | (with_reducible apply Blk.other; case ha => exact (by first | omega | (simp; omega) | simp | (simp; done))))) b2 (by omega)
  have R2 : Blk w2 w.heap.size #[.int .i64 0, .string ⟨#[]⟩, .nilIface] 159 := R2'
  have G2' := Blk.but (g := w.heap.size + 1) (T := 159) (by repeat (first | with_reducible exact unhide HG | with_reducible apply Blk.alloc | with_reducible apply Blk.drew | with_reducible apply Blk.set | (with_reducible apply Blk.other; case ha => exact (by first | omega | (simp; omega) | simp | (simp; done))))) b2 (by omega)
  have G2 : Blk w2 (w.heap.size + 1) #[.int .i64 (tokP s (K s i)), .string (tokT s (K s i)), .nilIface] 159 := G2'
  have HR2 := hide R2
  have HG2 := hide G2
  obtain ⟨p0, p1, p2⟩ := R2.three
  obtain ⟨q0, q1, q2⟩ := G2.three
  have zp := R2.fz
  have zq := G2.fz
  have tz := G2.lt
  have tz' : w.heap.size < w2.heap.size := by omega
  have A2 := hide a2
  clear a2 b2 R2 G2 R2' G2' r0 r1 r2 g0 g1 g2 zr zg hsz hsz'
  obtain ⟨tx, vx, rfl⟩ := hv2.isI
  have V2 := hide hv2
  clear hv2
  have hne : ¬ (w.heap.size + 1 = w.heap.size) := by omega
  go_wp2_with fail
  have A2' := hide (show At (w2.setCell ⟨w.heap.size + 1, 2, none⟩ (.iface tx vx)) b s m d from (by repeat (first | with_reducible exact unhide A2 | with_reducible refine At.alloc ?_ _ | with_reducible refine At.drew ?_ | (with_reducible refine At.setNew ?_ ?_ _; rotate_left; exact (by first | omega | (simp; omega) | simp | (simp; done))))))
  have B2' := hide (show But b w (w2.setCell ⟨w.heap.size + 1, 2, none⟩ (.iface tx vx)) from (by repeat (first | with_reducible exact unhide B2 | with_reducible refine But.alloc ?_ _ | with_reducible refine But.drew ?_ | (with_reducible refine But.setNew ?_ ?_ _; rotate_left; exact (by first | omega | (simp; omega) | simp | (simp; done))))))
  have V2' := hide (RepEx.set (unhide V2) (unhide HG2) (by decide) 2 (.iface tx vx))
  have G3 : Blk (w2.setCell ⟨w.heap.size + 1, 2, none⟩ (.iface tx vx)) (w.heap.size + 1) #[.int .i64 (tokP s (K s i)), .string (tokT s (K s i)), .iface tx vx] 159 := (unhide HG2).set 2 _
  have R3 : Blk (w2.setCell ⟨w.heap.size + 1, 2, none⟩ (.iface tx vx)) w.heap.size #[.int .i64 0, .string ⟨#[]⟩, .nilIface] 159 := (unhide HR2).other (by simp) _
  generalize w2.setCell ⟨w.heap.size + 1, 2, none⟩ (.iface tx vx) = W at *
  clear p0 p1 p2 q0 q1 q2 zp zq A2 B2 V2 HG2 HR2
  have HG3 := hide G3
  have HR3 := hide R3
  obtain ⟨q0, q1, q2⟩ := G3.three
  have zq := G3.fz
  have hW := G3.lt
  have hW' := R3.lt
  clear G3 R3
  go_region_held3 (fun w' => w'.cell? ⟨w.heap.size + 1, 0, none⟩ = some (.int .i64 (tokP s (K s i))) ∧ w'.cell? ⟨w.heap.size + 1, 1, none⟩ = some (.string (tokT s (K s i))) ∧ w'.cell? ⟨w.heap.size + 1, 2, none⟩ = some (.iface tx vx)) (go_keep)
    ((go_at_call 169; refine (takes_yes b s m d (sg 59) _ (unhide Hs) ?_ (unhide He) (by decide)).mono ?_; (exact (unhide A2').drew); rintro e w3 ⟨rfl, a3, b3⟩; have G4 := (unhide HG3).drew.but b3 (by omega); obtain ⟨n0, n1, n2⟩ := G4.three; have R4 := (unhide HR3).drew.but b3 (by omega); obtain ⟨k0, k1, k2⟩ := R4.three; have zk := Blk.fz R4; have HR4 := hide R4; have A4 := hide a3; have V4 := hide (RepEx.but (unhide V2') (But.trans ((But.refl b W).drew) b3)); have B4 := hide (But.trans (unhide B2').drew b3); clear G4 R4 a3 b3))
  go_wp2
  refine bodyPost_ret (v := .tuple #[.agg #[.int .i64 (tokP s (K s i)), .string (tokT s (K s i)), .iface tx vx], .nilIface]) (res_cc Tryz.results172 _ _ w.heap.size _ 159 _ _ rfl rfl ?hB Tryz.underlying159 rfl (by kernel_rfl)) rfl ?post
  case hB => exact ⟨_, (by repeat (first | with_reducible exact unhide HR4 | with_reducible apply Blk.alloc | with_reducible apply Blk.drew | with_reducible apply Blk.set | (with_reducible apply Blk.other; case ha => exact (by first | omega | (simp; omega) | simp | (simp; done))))), by rfl⟩
  case post => exact ⟨(by repeat (first | with_reducible exact unhide B4 | with_reducible refine But.alloc ?_ _ | with_reducible refine But.drew ?_ | (with_reducible refine But.setNew ?_ ?_ _; rotate_left; exact (by first | omega | (simp; omega) | simp | (simp; done))))), _, rfl, ⟨_, rfl, RepEx.set (RepEx.set (RepEx.set (unhide V4) (unhide HR4) (by decide) 0 _) ((unhide HR4).set 0 _) (by decide) 1 _) (((unhide HR4).set 0 _).set 1 _) (by decide) 2 _⟩, (by repeat (first | with_reducible exact unhide A4 | with_reducible refine At.alloc ?_ _ | with_reducible refine At.drew ?_ | (with_reducible refine At.setNew ?_ ?_ _; rotate_left; exact (by first | omega | (simp; omega) | simp | (simp; done)))))⟩

set_option maxHeartbeats 1000000 in
set_option maxRecDepth 100000 in
theorem rel_no (b : Nat) (s : ByteArray) (i d : Nat) (w : World) (hs : s.size ≤ 500) (h : At w b s i d) (hd : d + 4 = 4) (x : Ex) (j m : Nat) (Hr : Hid (nameThenR (TT s) (sg 58) i = .ok ((), j))) (Hx : Hid (exprR (TT s) (PP s) 4 j = .ok (x, m))) (He : Hid (eqs (TT s m) (sg 59) = false)) :
    Calls Tryz.prog 172 #[.pointer (some ⟨b, 0, none⟩)] w (Post b s d w (.error (2, m) : Res Rl) (RepRl b) IsRl) := by
  have hlt := h.lt
  have Hs : Hid (s.size ≤ maxLen) := hide (by unfold maxLen; omega)
  have C := hide (nameThen_post b s i d (sg 58) _ (unhide Hs) ((h.alloc (.cells #[.int .i64 0, .string ⟨#[]⟩, .nilIface] 159)).alloc (.cells #[.int .i64 0, .string ⟨#[]⟩, .nilIface] 159)) (by decide))
  rw [unhide Hr] at C
  clear h
  go_enter Tryz.func172, Tryz.ntmps172
  go_wp2_with fail
  refine (unhide C).mono ?_
  rintro e w1 ⟨b1, v, rfl, rfl, a1⟩
  have B1 := hide (((But.refl b w).alloc _).alloc _ |>.trans b1)
  have R := ((Blk.new w #[.int .i64 0, .string ⟨#[]⟩, .nilIface] 159).alloc (.cells #[.int .i64 0, .string ⟨#[]⟩, .nilIface] 159)).but b1 (by omega)
  have G := (Blk.new' (w.alloc (.cells #[.int .i64 0, .string ⟨#[]⟩, .nilIface] 159)) #[.int .i64 0, .string ⟨#[]⟩, .nilIface] 159 (w.heap.size + 1) (by simp)).but b1 (by omega)
  have HR := hide R
  have HG := hide G
  obtain ⟨r0, r1, r2⟩ := R.three
  obtain ⟨g0, g1, g2⟩ := G.three
  have zr := R.fz
  have zg := G.fz
  have hsz := G.lt
  have hsz' : w.heap.size < w1.heap.size := by omega
  have A1 := hide a1
  clear a1 b1 R G C
  unfold nmv
  go_wp2_with fail
  have C := hide (expr_post b s hs 4 j d _ hd (show At ((w1.setCell ⟨w.heap.size + 1, 0, none⟩ (.int .i64 (tokP s (K s i)))).setCell ⟨w.heap.size + 1, 1, none⟩ (.string (tokT s (K s i)))) b s j d from (by repeat (first | with_reducible exact unhide A1 | with_reducible refine At.alloc ?_ _ | with_reducible refine At.drew ?_ | (with_reducible refine At.setNew ?_ ?_ _; rotate_left; exact (by first | omega | (simp; omega) | simp | (simp; done)))))))
  rw [unhide Hx] at C
  refine (unhide C).mono ?_
  rintro e w2 ⟨b2, v2, rfl, hv2, a2⟩
  have B2 := hide (But.trans (x := w) (by repeat (first | with_reducible exact unhide B1 | with_reducible refine But.alloc ?_ _ | with_reducible refine But.drew ?_ | (with_reducible refine But.setNew ?_ ?_ _; rotate_left; exact (by first | omega | (simp; omega) | simp | (simp; done))))) b2)
  have R2' := Blk.but (g := w.heap.size) (T := 159) (by repeat (first | with_reducible exact unhide HR | with_reducible apply Blk.alloc | with_reducible apply Blk.drew | with_reducible apply Blk.set | (with_reducible apply Blk.other; case ha => exact (by first | omega | (simp; omega) | simp | (simp; done))))) b2 (by omega)
  have R2 : Blk w2 w.heap.size #[.int .i64 0, .string ⟨#[]⟩, .nilIface] 159 := R2'
  have G2' := Blk.but (g := w.heap.size + 1) (T := 159) (by repeat (first | with_reducible exact unhide HG | with_reducible apply Blk.alloc | with_reducible apply Blk.drew | with_reducible apply Blk.set | (with_reducible apply Blk.other; case ha => exact (by first | omega | (simp; omega) | simp | (simp; done))))) b2 (by omega)
  have G2 : Blk w2 (w.heap.size + 1) #[.int .i64 (tokP s (K s i)), .string (tokT s (K s i)), .nilIface] 159 := G2'
  have HR2 := hide R2
  have HG2 := hide G2
  obtain ⟨p0, p1, p2⟩ := R2.three
  obtain ⟨q0, q1, q2⟩ := G2.three
  have zp := R2.fz
  have zq := G2.fz
  have tz := G2.lt
  have tz' : w.heap.size < w2.heap.size := by omega
  have A2 := hide a2
  clear a2 b2 R2 G2 R2' G2' r0 r1 r2 g0 g1 g2 zr zg hsz hsz'
  obtain ⟨tx, vx, rfl⟩ := hv2.isI
  have V2 := hide hv2
  clear hv2
  have hne : ¬ (w.heap.size + 1 = w.heap.size) := by omega
  go_wp2_with fail
  have A2' := hide (show At (w2.setCell ⟨w.heap.size + 1, 2, none⟩ (.iface tx vx)) b s m d from (by repeat (first | with_reducible exact unhide A2 | with_reducible refine At.alloc ?_ _ | with_reducible refine At.drew ?_ | (with_reducible refine At.setNew ?_ ?_ _; rotate_left; exact (by first | omega | (simp; omega) | simp | (simp; done))))))
  have B2' := hide (show But b w (w2.setCell ⟨w.heap.size + 1, 2, none⟩ (.iface tx vx)) from (by repeat (first | with_reducible exact unhide B2 | with_reducible refine But.alloc ?_ _ | with_reducible refine But.drew ?_ | (with_reducible refine But.setNew ?_ ?_ _; rotate_left; exact (by first | omega | (simp; omega) | simp | (simp; done))))))
  have V2' := hide (RepEx.set (unhide V2) (unhide HG2) (by decide) 2 (.iface tx vx))
  have G3 : Blk (w2.setCell ⟨w.heap.size + 1, 2, none⟩ (.iface tx vx)) (w.heap.size + 1) #[.int .i64 (tokP s (K s i)), .string (tokT s (K s i)), .iface tx vx] 159 := (unhide HG2).set 2 _
  have R3 : Blk (w2.setCell ⟨w.heap.size + 1, 2, none⟩ (.iface tx vx)) w.heap.size #[.int .i64 0, .string ⟨#[]⟩, .nilIface] 159 := (unhide HR2).other (by simp) _
  generalize w2.setCell ⟨w.heap.size + 1, 2, none⟩ (.iface tx vx) = W at *
  clear p0 p1 p2 q0 q1 q2 zp zq A2 B2 V2 HG2 HR2
  have HG3 := hide G3
  have HR3 := hide R3
  obtain ⟨q0, q1, q2⟩ := G3.three
  have zq := G3.fz
  have hW := G3.lt
  have hW' := R3.lt
  clear G3 R3
  go_region_held3 (fun w' => w'.cell? ⟨w.heap.size + 1, 0, none⟩ = some (.int .i64 (tokP s (K s i))) ∧ w'.cell? ⟨w.heap.size + 1, 1, none⟩ = some (.string (tokT s (K s i))) ∧ w'.cell? ⟨w.heap.size + 1, 2, none⟩ = some (.iface tx vx)) (go_keep)
    ((go_at_call 169; refine (takes_no b s m d (sg 59) _ ?_ (unhide He)).mono ?_; (exact (unhide A2').drew); rintro e w3 ⟨rfl, a3, b3⟩; have G4 := (unhide HG3).drew.but b3 (by omega); obtain ⟨n0, n1, n2⟩ := G4.three; have R4 := (unhide HR3).drew.but b3 (by omega); obtain ⟨k0, k1, k2⟩ := R4.three; have zk := Blk.fz R4; have HR4 := hide R4; have A4 := hide a3; have V4 := hide (RepEx.but (unhide V2') (But.trans ((But.refl b W).drew) b3)); have B4 := hide (But.trans (unhide B2').drew b3); clear G4 R4 a3 b3))
  go_wp2
  refine bodyPost_ret (v := .tuple #[.agg #[.int .i64 (tokP s (K s i)), .string (tokT s (K s i)), .iface tx vx], errv 2]) (res_cc Tryz.results172 _ _ w.heap.size _ 159 _ _ rfl rfl ?hB Tryz.underlying159 rfl (by kernel_rfl)) rfl ?post
  case hB => exact ⟨_, (by repeat (first | with_reducible exact unhide HR4 | with_reducible apply Blk.alloc | with_reducible apply Blk.drew | with_reducible apply Blk.set | (with_reducible apply Blk.other; case ha => exact (by first | omega | (simp; omega) | simp | (simp; done))))), by rfl⟩
  case post => exact ⟨(by repeat (first | with_reducible exact unhide B4 | with_reducible refine But.alloc ?_ _ | with_reducible refine But.drew ?_ | (with_reducible refine But.setNew ?_ ?_ _; rotate_left; exact (by first | omega | (simp; omega) | simp | (simp; done))))), _, d, rfl, ⟨_, _, _, rfl, .inr ⟨_, _, rfl⟩⟩, (by repeat (first | with_reducible exact unhide A4 | with_reducible refine At.alloc ?_ _ | with_reducible refine At.drew ?_ | (with_reducible refine At.setNew ?_ ?_ _; rotate_left; exact (by first | omega | (simp; omega) | simp | (simp; done)))))⟩

theorem rel_post (b : Nat) (s : ByteArray) (i d : Nat) (w : World) (hs : s.size ≤ 500) (h : At w b s i d) (hd : d + 4 = 4) :
    Calls Tryz.prog 172 #[.pointer (some ⟨b, 0, none⟩)] w (Post b s d w (relR (TT s) (PP s) i) (RepRl b) IsRl) := by
  unfold relR
  cases hr : nameThenR (TT s) (sg 58) i with
  | error e => exact rel_bad b s i d w hs h e.1 e.2 (hide hr)
  | ok y =>
    obtain ⟨⟨⟩, j⟩ := y
    cases hx : exprR (TT s) (PP s) 4 j with
    | error e => simp only [hx]; exact rel_xbad b s i d w hs h hd e.1 j e.2 (hide hr) (hide hx)
    | ok y =>
      obtain ⟨x, m⟩ := y
      cases he : eqs (TT s m) (sg 59)
      · simp only [hx, he]
        exact rel_no b s i d w hs h hd x j m (hide hr) (hide hx) (hide he)
      · simp only [hx, he]
        exact rel_yes b s i d w hs h hd x j m (hide hr) (hide hx) (hide he)
end Go.Proofs.YtlbpnlngckgcbaaGreatDoor
