import Derived.Test.YtlbpnlngckgcbaaGreatDoorM15
namespace Go.Proofs.YtlbpnlngckgcbaaGreatDoor
open Go.RowKit Go.PlainAid
set_option linter.unusedSimpArgs false
set_option linter.unusedVariables false
theorem rep_nil (w : World) (k : Nat) (x y : ByteArray) (p q : Nat) : RepP w (⟨k, [], x, y, p, q, [], []⟩, .slice none 0 0, .slice none 0 0, .slice none 0 0) := ⟨World.ownsRow_nil _ _ _ _, World.ownsRow_nil _ _ _ _, World.ownsRow_nil _ _ _ _⟩
set_option maxHeartbeats 1000000 in
set_option maxRecDepth 100000 in
theorem unit_own (base b : Nat) (s : ByteArray) (tv : Value) (i d a : Nat) (kv rv pv : Value) (pl : List PV) (l : List PX) (w : World) (h : RS w b s tv i d 0 a kv rv pv) (ht : PT base w pv pl l) (hbb : base ≤ b) (hbw : base ≤ w.heap.size) (hl : pl.length ≤ i) (ex : Nat) (h1 : eqs (TT s i) (sg 91) = false) (h2 : eqs (TT s i) (sg 40) = false) (hn : isNm (TT s i) = true) (h8 : (TT s i).size ≤ 8) (hd : eqs (TT s (i + 1)) (sg 46) = false) : Calls Tryz.prog 266 #[.pointer (some ⟨b, 0, none⟩)] w (RPost base b s tv i d a kv rv pv pl l w (ex + 1) (.ok (⟨⟨1, PP s i, TT s i, PP s i, em, 0, []⟩, none, none⟩, i + 1))) := by
 have H := hide h
 have HT := hide ht
 have C := hide (is_okB b s tv i d a kv rv pv (sg 91) w h false h1)
 have hlt := h.lt
 have hle := h.gd.le
 have hsz := h.sz
 clear h ht
 go_enter Tryz.func266, Tryz.ntmps266
 go_wp2_with fail
 refine (uh C).mono ?_
 rintro e w1 ⟨rfl, hb1⟩
 have H1 := hide ((uh H).below hb1)
 have B1 := hide (But.of_below (b := b) hb1)
 clear hb1 C
 go_wp2_with fail
 refine (is_okB b s tv i d a kv rv pv (sg 40) w1 (uh H1) false h2).mono ?_
 rintro e w2 ⟨rfl, hb2⟩
 have H2 := hide ((uh H1).below hb2)
 have B2 := hide ((uh B1).trans (But.of_below (b := b) hb2))
 clear hb2 H1 B1
 go_wp2_with fail
 refine (rname_ok b s tv i d a kv rv pv w2 (uh H2) hn h8).mono ?_
 rintro e w3 ⟨rfl, b3, k3⟩
 have K3 := hide k3
 have B3 := hide ((uh B2).trans b3)
 have BW3 := hide (Below.refl w3.heap.size w3)
 clear b3 k3 H2 B2
 unfold tkv
 go_wp2_with fail
 refine (is_okB b s tv (i + 1) d a kv rv pv (sg 46) _ ?r (false) hd).mono ?_
 case r => exact (uh K3).below (by repeat (first | with_reducible exact uh BW3 | with_reducible refine Below.drew ?_ | (with_reducible refine Below.setCell ?_ ?_ _; rotate_left; exact (by first | omega | (simp; omega) | simp | (simp; done))) | (with_reducible refine Below.alloc ?_ ?_ _; rotate_left; exact (by first | omega | (simp; omega) | simp | (simp; done)))))
 rintro e w4 ⟨rfl, hb4⟩
 have K4 := hide (((uh K3).below (by repeat (first | with_reducible exact uh BW3 | with_reducible refine Below.drew ?_ | (with_reducible refine Below.setCell ?_ ?_ _; rotate_left; exact (by first | omega | (simp; omega) | simp | (simp; done))) | (with_reducible refine Below.alloc ?_ ?_ _; rotate_left; exact (by first | omega | (simp; omega) | simp | (simp; done)))))).below hb4)
 have TB4 := hide ((Blk.new w3 #[.string (TT s i), .int .i64 (PP s i), .bool (wordT (TT s i))] 259).below hb4)
 have B4 := hide ((show But b w _ from (by repeat (first | with_reducible exact uh B3 | with_reducible refine But.alloc ?_ _ | with_reducible refine But.drew ?_ | (with_reducible refine But.setNew ?_ ?_ _; rotate_left; exact (by first | omega | (simp; omega) | simp | (simp; done)))))).trans (But.of_below hb4))
 obtain ⟨t0, t1, t2⟩ := (uh TB4).three
 have lt4 := (uh TB4).lt
 have sz0 := (uh B3).size
 clear hb4 K3 B3 BW3
 go_wp2_with fail
 have T4 := hide ((uh HT).but (uh B4) (uh H).blk hbb hbw)
 have hb4 : base ≤ (w4).heap.size := Nat.le_trans hbw (uh B4).size
 refine (part_any base b s tv (i + 1) d 0 (a) kv rv pv pl l ⟨2, [], em, TT s i, PP s i, 0, [], []⟩ none 0 none 0 none 0 (w4) (uh K4) (uh T4) (rep_nil _ _ _ _ _ _) (by omega) hb4 hbb).mono ?_
 rintro e' wf ⟨pv', rfl, fr, rs6, pt6⟩
 have F6 := hide ((Fr.of_but (uh B4) hbb hbw).trans fr)
 have R6 := hide rs6
 have P6 := hide pt6
 clear fr rs6 pt6
 go_wp2
 go_ret
 exact ⟨pl.length, rfl, pv', _, _, [_], [_], uh F6, uh P6, rfl, rfl, fun y hy => by rw [List.mem_singleton] at hy; subst hy; exact fresh_nil _ _, uh R6, by omega, by simp; omega, 1, _, List.getElem?_concat_length, .inr (.inl ⟨rfl, rfl, ⟨rfl, rfl⟩, rfl⟩)⟩
set_option maxHeartbeats 1000000 in
set_option maxRecDepth 100000 in
theorem unit_text (base b : Nat) (s : ByteArray) (tv : Value) (i d a : Nat) (kv rv pv : Value) (pl : List PV) (l : List PX) (w : World) (h : RS w b s tv i d 0 a kv rv pv) (ht : PT base w pv pl l) (hbb : base ≤ b) (hbw : base ≤ w.heap.size) (hl : pl.length ≤ i) (ex : Nat) (h1 : eqs (TT s i) (sg 91) = false) (h2 : eqs (TT s i) (sg 40) = false) (hn : isNm (TT s i) = false) : Calls Tryz.prog 266 #[.pointer (some ⟨b, 0, none⟩)] w (RPost base b s tv i d a kv rv pv pl l w (ex + 1) (.error (2, i))) := by
 have H := hide h
 have HT := hide ht
 have C := hide (is_okB b s tv i d a kv rv pv (sg 91) w h false h1)
 have hlt := h.lt
 have hle := h.gd.le
 have hsz := h.sz
 clear h ht
 go_enter Tryz.func266, Tryz.ntmps266
 go_wp2_with fail
 refine (uh C).mono ?_
 rintro e w1 ⟨rfl, hb1⟩
 have H1 := hide ((uh H).below hb1)
 have B1 := hide (But.of_below (b := b) hb1)
 clear hb1 C
 go_wp2_with fail
 refine (is_okB b s tv i d a kv rv pv (sg 40) w1 (uh H1) false h2).mono ?_
 rintro e w2 ⟨rfl, hb2⟩
 have H2 := hide ((uh H1).below hb2)
 have B2 := hide ((uh B1).trans (But.of_below (b := b) hb2))
 clear hb2 H1 B1
 go_wp2_with fail
 refine (rname_text b s tv i d a kv rv pv true w2 (uh H2) hn).mono ?_
 rintro e w3 ⟨rfl, b3, k3⟩
 have K3 := hide k3
 have B3 := hide ((uh B2).trans b3)
 have BW3 := hide (Below.refl w3.heap.size w3)
 clear b3 k3 H2 B2
 unfold tkv
 go_wp2_with fail
 refine (is_errB b s tv i d 2 (PP s i) kv rv pv (sg 46) _ ?r (by decide)).mono ?_
 case r => exact (uh K3).below (by repeat (first | with_reducible exact uh BW3 | with_reducible refine Below.drew ?_ | (with_reducible refine Below.setCell ?_ ?_ _; rotate_left; exact (by first | omega | (simp; omega) | simp | (simp; done))) | (with_reducible refine Below.alloc ?_ ?_ _; rotate_left; exact (by first | omega | (simp; omega) | simp | (simp; done)))))
 rintro e w4 ⟨rfl, hb4⟩
 have K4 := hide (((uh K3).below (by repeat (first | with_reducible exact uh BW3 | with_reducible refine Below.drew ?_ | (with_reducible refine Below.setCell ?_ ?_ _; rotate_left; exact (by first | omega | (simp; omega) | simp | (simp; done))) | (with_reducible refine Below.alloc ?_ ?_ _; rotate_left; exact (by first | omega | (simp; omega) | simp | (simp; done)))))).below hb4)
 have TB4 := hide ((Blk.new w3 #[.string (TT s i), .int .i64 (PP s i), .bool (wordT (TT s i))] 259).below hb4)
 have B4 := hide ((show But b w _ from (by repeat (first | with_reducible exact uh B3 | with_reducible refine But.alloc ?_ _ | with_reducible refine But.drew ?_ | (with_reducible refine But.setNew ?_ ?_ _; rotate_left; exact (by first | omega | (simp; omega) | simp | (simp; done)))))).trans (But.of_below hb4))
 obtain ⟨t0, t1, t2⟩ := (uh TB4).three
 have lt4 := (uh TB4).lt
 have sz0 := (uh B3).size
 clear hb4 K3 B3 BW3
 go_wp2_with fail
 have T4 := hide ((uh HT).but (uh B4) (uh H).blk hbb hbw)
 have hb4 : base ≤ (w4).heap.size := Nat.le_trans hbw (uh B4).size
 refine (part_any base b s tv (i) d 2 (PP s i) kv rv pv pl l ⟨2, [], em, TT s i, PP s i, 0, [], []⟩ none 0 none 0 none 0 (w4) (uh K4) (uh T4) (rep_nil _ _ _ _ _ _) (by omega) hb4 hbb).mono ?_
 rintro e' wf ⟨pv', rfl, fr, rs6, pt6⟩
 have F6 := hide ((Fr.of_but (uh B4) hbb hbw).trans fr)
 have R6 := hide rs6
 have P6 := hide pt6
 clear fr rs6 pt6
 go_wp2
 go_ret
 exact ⟨pl.length, rfl, pv', _, _, [_], [_], uh F6, uh P6, rfl, rfl, fun y hy => by rw [List.mem_singleton] at hy; subst hy; exact fresh_nil _ _, by decide, i, Nat.le_refl _, uh R6, by simp; omega⟩
set_option maxHeartbeats 1000000 in
set_option maxRecDepth 100000 in
theorem unit_big (base b : Nat) (s : ByteArray) (tv : Value) (i d a : Nat) (kv rv pv : Value) (pl : List PV) (l : List PX) (w : World) (h : RS w b s tv i d 0 a kv rv pv) (ht : PT base w pv pl l) (hbb : base ≤ b) (hbw : base ≤ w.heap.size) (hl : pl.length ≤ i) (ex : Nat) (h1 : eqs (TT s i) (sg 91) = false) (h2 : eqs (TT s i) (sg 40) = false) (hn : isNm (TT s i) = true) (h8 : 8 < (TT s i).size) : Calls Tryz.prog 266 #[.pointer (some ⟨b, 0, none⟩)] w (RPost base b s tv i d a kv rv pv pl l w (ex + 1) (.error (3, i))) := by
 have H := hide h
 have HT := hide ht
 have C := hide (is_okB b s tv i d a kv rv pv (sg 91) w h false h1)
 have hlt := h.lt
 have hle := h.gd.le
 have hsz := h.sz
 clear h ht
 go_enter Tryz.func266, Tryz.ntmps266
 go_wp2_with fail
 refine (uh C).mono ?_
 rintro e w1 ⟨rfl, hb1⟩
 have H1 := hide ((uh H).below hb1)
 have B1 := hide (But.of_below (b := b) hb1)
 clear hb1 C
 go_wp2_with fail
 refine (is_okB b s tv i d a kv rv pv (sg 40) w1 (uh H1) false h2).mono ?_
 rintro e w2 ⟨rfl, hb2⟩
 have H2 := hide ((uh H1).below hb2)
 have B2 := hide ((uh B1).trans (But.of_below (b := b) hb2))
 clear hb2 H1 B1
 go_wp2_with fail
 refine (rname_big b s tv i d a kv rv pv true w2 (uh H2) hn h8).mono ?_
 rintro e w3 ⟨rfl, b3, k3⟩
 have K3 := hide k3
 have B3 := hide ((uh B2).trans b3)
 have BW3 := hide (Below.refl w3.heap.size w3)
 clear b3 k3 H2 B2
 unfold tkv
 go_wp2_with fail
 refine (is_errB b s tv i d 3 (PP s i) kv rv pv (sg 46) _ ?r (by decide)).mono ?_
 case r => exact (uh K3).below (by repeat (first | with_reducible exact uh BW3 | with_reducible refine Below.drew ?_ | (with_reducible refine Below.setCell ?_ ?_ _; rotate_left; exact (by first | omega | (simp; omega) | simp | (simp; done))) | (with_reducible refine Below.alloc ?_ ?_ _; rotate_left; exact (by first | omega | (simp; omega) | simp | (simp; done)))))
 rintro e w4 ⟨rfl, hb4⟩
 have K4 := hide (((uh K3).below (by repeat (first | with_reducible exact uh BW3 | with_reducible refine Below.drew ?_ | (with_reducible refine Below.setCell ?_ ?_ _; rotate_left; exact (by first | omega | (simp; omega) | simp | (simp; done))) | (with_reducible refine Below.alloc ?_ ?_ _; rotate_left; exact (by first | omega | (simp; omega) | simp | (simp; done)))))).below hb4)
 have TB4 := hide ((Blk.new w3 #[.string (TT s i), .int .i64 (PP s i), .bool (wordT (TT s i))] 259).below hb4)
 have B4 := hide ((show But b w _ from (by repeat (first | with_reducible exact uh B3 | with_reducible refine But.alloc ?_ _ | with_reducible refine But.drew ?_ | (with_reducible refine But.setNew ?_ ?_ _; rotate_left; exact (by first | omega | (simp; omega) | simp | (simp; done)))))).trans (But.of_below hb4))
 obtain ⟨t0, t1, t2⟩ := (uh TB4).three
 have lt4 := (uh TB4).lt
 have sz0 := (uh B3).size
 clear hb4 K3 B3 BW3
 go_wp2_with fail
 have T4 := hide ((uh HT).but (uh B4) (uh H).blk hbb hbw)
 have hb4 : base ≤ (w4).heap.size := Nat.le_trans hbw (uh B4).size
 refine (part_any base b s tv (i) d 3 (PP s i) kv rv pv pl l ⟨2, [], em, TT s i, PP s i, 0, [], []⟩ none 0 none 0 none 0 (w4) (uh K4) (uh T4) (rep_nil _ _ _ _ _ _) (by omega) hb4 hbb).mono ?_
 rintro e' wf ⟨pv', rfl, fr, rs6, pt6⟩
 have F6 := hide ((Fr.of_but (uh B4) hbb hbw).trans fr)
 have R6 := hide rs6
 have P6 := hide pt6
 clear fr rs6 pt6
 go_wp2
 go_ret
 exact ⟨pl.length, rfl, pv', _, _, [_], [_], uh F6, uh P6, rfl, rfl, fun y hy => by rw [List.mem_singleton] at hy; subst hy; exact fresh_nil _ _, by decide, i, Nat.le_refl _, uh R6, by simp; omega⟩
set_option maxHeartbeats 1000000 in
set_option maxRecDepth 100000 in
theorem unit_tie (base b : Nat) (s : ByteArray) (tv : Value) (i d a : Nat) (kv rv pv : Value) (pl : List PV) (l : List PX) (w : World) (h : RS w b s tv i d 0 a kv rv pv) (ht : PT base w pv pl l) (hbb : base ≤ b) (hbw : base ≤ w.heap.size) (hl : pl.length ≤ i) (ex : Nat) (h1 : eqs (TT s i) (sg 91) = false) (h2 : eqs (TT s i) (sg 40) = false) (hn : isNm (TT s i) = true) (h8 : (TT s i).size ≤ 8) (hd : eqs (TT s (i + 1)) (sg 46) = true) (hm : isNm (TT s (i + 2)) = true) (hm8 : (TT s (i + 2)).size ≤ 8) : Calls Tryz.prog 266 #[.pointer (some ⟨b, 0, none⟩)] w (RPost base b s tv i d a kv rv pv pl l w (ex + 1) (.ok (⟨⟨2, PP s i, TT s i, PP s i, TT s (i + 2), PP s (i + 2), []⟩, none, none⟩, i + 3))) := by
 have H := hide h
 have HT := hide ht
 have C := hide (is_okB b s tv i d a kv rv pv (sg 91) w h false h1)
 have hlt := h.lt
 have hle := h.gd.le
 have hsz := h.sz
 clear h ht
 go_enter Tryz.func266, Tryz.ntmps266
 go_wp2_with fail
 refine (uh C).mono ?_
 rintro e w1 ⟨rfl, hb1⟩
 have H1 := hide ((uh H).below hb1)
 have B1 := hide (But.of_below (b := b) hb1)
 clear hb1 C
 go_wp2_with fail
 refine (is_okB b s tv i d a kv rv pv (sg 40) w1 (uh H1) false h2).mono ?_
 rintro e w2 ⟨rfl, hb2⟩
 have H2 := hide ((uh H1).below hb2)
 have B2 := hide ((uh B1).trans (But.of_below (b := b) hb2))
 clear hb2 H1 B1
 go_wp2_with fail
 refine (rname_ok b s tv i d a kv rv pv w2 (uh H2) hn h8).mono ?_
 rintro e w3 ⟨rfl, b3, k3⟩
 have K3 := hide k3
 have B3 := hide ((uh B2).trans b3)
 have BW3 := hide (Below.refl w3.heap.size w3)
 clear b3 k3 H2 B2
 unfold tkv
 go_wp2_with fail
 refine (is_okB b s tv (i + 1) d a kv rv pv (sg 46) _ ?r true hd).mono ?_
 case r => exact (uh K3).below (by repeat (first | with_reducible exact uh BW3 | with_reducible refine Below.drew ?_ | (with_reducible refine Below.setCell ?_ ?_ _; rotate_left; exact (by first | omega | (simp; omega) | simp | (simp; done))) | (with_reducible refine Below.alloc ?_ ?_ _; rotate_left; exact (by first | omega | (simp; omega) | simp | (simp; done)))))
 rintro e w4 ⟨rfl, hb4⟩
 have K4 := hide (((uh K3).below (by repeat (first | with_reducible exact uh BW3 | with_reducible refine Below.drew ?_ | (with_reducible refine Below.setCell ?_ ?_ _; rotate_left; exact (by first | omega | (simp; omega) | simp | (simp; done))) | (with_reducible refine Below.alloc ?_ ?_ _; rotate_left; exact (by first | omega | (simp; omega) | simp | (simp; done)))))).below hb4)
 have TB4 := hide ((Blk.new w3 #[.string (TT s i), .int .i64 (PP s i), .bool (wordT (TT s i))] 259).below hb4)
 have B4 := hide ((show But b w _ from (by repeat (first | with_reducible exact uh B3 | with_reducible refine But.alloc ?_ _ | with_reducible refine But.drew ?_ | (with_reducible refine But.setNew ?_ ?_ _; rotate_left; exact (by first | omega | (simp; omega) | simp | (simp; done)))))).trans (But.of_below hb4))
 obtain ⟨t0, t1, t2⟩ := (uh TB4).three
 have lt4 := (uh TB4).lt
 have sz0 := (uh B3).size
 clear hb4 K3 B3 BW3
 have HG := hide ((uh K4).gd.succ (eqs_pos hd (by decide)))
 obtain ⟨r0, r1, r2, r3, r4, _⟩ := (uh K4).blk.eight
 have zr := (uh K4).blk.fz
 have sz3 := (uh B4).size
 go_wp2_with fail
 have K5 := hide (show RS (w4.setCell ⟨b, 1, none⟩ (.int .i64 ((i : Int) + 1 + 1))) b s tv (i + 2) d 0 a kv rv pv from (uh K4).setI (i + 2) (uh HG))
 have B5 := hide (show But b w (w4.setCell ⟨b, 1, none⟩ (.int .i64 ((i : Int) + 1 + 1))) from (uh B4).setCell 1 _)
 have hne : ¬ (w3.heap.size = b) := by omega
 have TB5 := hide (show Blk (w4.setCell ⟨b, 1, none⟩ (.int .i64 ((i : Int) + 1 + 1))) w3.heap.size #[.string (TT s i), .int .i64 (PP s i), .bool (wordT (TT s i))] 259 from (uh TB4).other hne _)
 clear r0 r1 r2 r3 r4 zr t0 t1 t2 lt4 K4 B4 TB4
 generalize w4.setCell ⟨b, 1, none⟩ (.int .i64 ((i : Int) + 1 + 1)) = W5 at *
 refine (rname_ok b s tv (i + 2) d a kv rv pv W5 (uh K5) hm hm8).mono ?_
 rintro e w6 ⟨rfl, b6, k6⟩
 have K6 := hide k6
 have B6 := hide ((uh B5).trans b6)
 have TB6 := hide ((uh TB5).but b6 hne)
 have lt6 := (uh TB6).lt
 obtain ⟨t0, t1, t2⟩ := (uh TB6).three
 have n1 : ¬ (w3.heap.size = w6.heap.size) := by omega
 have n2 : ¬ (w6.heap.size = w3.heap.size) := by omega
 have BW6 := hide (Below.refl w6.heap.size w6)
 clear b6 k6 K5 B5 TB5
 unfold tkv
 go_wp2_with fail
 have K7 := hide ((uh K6).below ((Below.refl _ w6).alloc (Nat.le_refl _) (.cells #[.string (TT s (i + 2)), .int .i64 (PP s (i + 2)), .bool (wordT (TT s (i + 2)))] 259)))
 have B7 := hide ((uh B6).trans (But.of_below (b := b) ((Below.refl _ w6).alloc (Nat.le_refl _) (.cells #[.string (TT s (i + 2)), .int .i64 (PP s (i + 2)), .bool (wordT (TT s (i + 2)))] 259))))
 clear K6 B6 TB6 BW6
 generalize w6.alloc (.cells #[.string (TT s (i + 2)), .int .i64 (PP s (i + 2)), .bool (wordT (TT s (i + 2)))] 259) = WW at *
 have T4 := hide ((uh HT).but (uh B7) (uh H).blk hbb hbw)
 have hb4 : base ≤ (WW).heap.size := Nat.le_trans hbw (uh B7).size
 refine (part_any base b s tv (i + 3) d 0 (a) kv rv pv pl l ⟨3, [], TT s i, TT s (i + 2), PP s i, PP s (i + 2), [], []⟩ none 0 none 0 none 0 (WW) (uh K7) (uh T4) (rep_nil _ _ _ _ _ _) (by omega) hb4 hbb).mono ?_
 rintro e' wf ⟨pv', rfl, fr, rs6, pt6⟩
 have F6 := hide ((Fr.of_but (uh B7) hbb hbw).trans fr)
 have R6 := hide rs6
 have P6 := hide pt6
 clear fr rs6 pt6
 go_wp2
 go_ret
 exact ⟨pl.length, rfl, pv', _, _, [_], [_], uh F6, uh P6, rfl, rfl, fun y hy => by rw [List.mem_singleton] at hy; subst hy; exact fresh_nil _ _, uh R6, by omega, by simp; omega, 1, _, List.getElem?_concat_length, .inr (.inr (.inl ⟨rfl, rfl, ⟨rfl, rfl⟩, rfl⟩))⟩
set_option maxHeartbeats 1000000 in
set_option maxRecDepth 100000 in
theorem unit_tieText (base b : Nat) (s : ByteArray) (tv : Value) (i d a : Nat) (kv rv pv : Value) (pl : List PV) (l : List PX) (w : World) (h : RS w b s tv i d 0 a kv rv pv) (ht : PT base w pv pl l) (hbb : base ≤ b) (hbw : base ≤ w.heap.size) (hl : pl.length ≤ i) (ex : Nat) (h1 : eqs (TT s i) (sg 91) = false) (h2 : eqs (TT s i) (sg 40) = false) (hn : isNm (TT s i) = true) (h8 : (TT s i).size ≤ 8) (hd : eqs (TT s (i + 1)) (sg 46) = true) (hm : isNm (TT s (i + 2)) = false) : Calls Tryz.prog 266 #[.pointer (some ⟨b, 0, none⟩)] w (RPost base b s tv i d a kv rv pv pl l w (ex + 1) (.error (2, i + 2))) := by
 have H := hide h
 have HT := hide ht
 have C := hide (is_okB b s tv i d a kv rv pv (sg 91) w h false h1)
 have hlt := h.lt
 have hle := h.gd.le
 have hsz := h.sz
 clear h ht
 go_enter Tryz.func266, Tryz.ntmps266
 go_wp2_with fail
 refine (uh C).mono ?_
 rintro e w1 ⟨rfl, hb1⟩
 have H1 := hide ((uh H).below hb1)
 have B1 := hide (But.of_below (b := b) hb1)
 clear hb1 C
 go_wp2_with fail
 refine (is_okB b s tv i d a kv rv pv (sg 40) w1 (uh H1) false h2).mono ?_
 rintro e w2 ⟨rfl, hb2⟩
 have H2 := hide ((uh H1).below hb2)
 have B2 := hide ((uh B1).trans (But.of_below (b := b) hb2))
 clear hb2 H1 B1
 go_wp2_with fail
 refine (rname_ok b s tv i d a kv rv pv w2 (uh H2) hn h8).mono ?_
 rintro e w3 ⟨rfl, b3, k3⟩
 have K3 := hide k3
 have B3 := hide ((uh B2).trans b3)
 have BW3 := hide (Below.refl w3.heap.size w3)
 clear b3 k3 H2 B2
 unfold tkv
 go_wp2_with fail
 refine (is_okB b s tv (i + 1) d a kv rv pv (sg 46) _ ?r true hd).mono ?_
 case r => exact (uh K3).below (by repeat (first | with_reducible exact uh BW3 | with_reducible refine Below.drew ?_ | (with_reducible refine Below.setCell ?_ ?_ _; rotate_left; exact (by first | omega | (simp; omega) | simp | (simp; done))) | (with_reducible refine Below.alloc ?_ ?_ _; rotate_left; exact (by first | omega | (simp; omega) | simp | (simp; done)))))
 rintro e w4 ⟨rfl, hb4⟩
 have K4 := hide (((uh K3).below (by repeat (first | with_reducible exact uh BW3 | with_reducible refine Below.drew ?_ | (with_reducible refine Below.setCell ?_ ?_ _; rotate_left; exact (by first | omega | (simp; omega) | simp | (simp; done))) | (with_reducible refine Below.alloc ?_ ?_ _; rotate_left; exact (by first | omega | (simp; omega) | simp | (simp; done)))))).below hb4)
 have TB4 := hide ((Blk.new w3 #[.string (TT s i), .int .i64 (PP s i), .bool (wordT (TT s i))] 259).below hb4)
 have B4 := hide ((show But b w _ from (by repeat (first | with_reducible exact uh B3 | with_reducible refine But.alloc ?_ _ | with_reducible refine But.drew ?_ | (with_reducible refine But.setNew ?_ ?_ _; rotate_left; exact (by first | omega | (simp; omega) | simp | (simp; done)))))).trans (But.of_below hb4))
 obtain ⟨t0, t1, t2⟩ := (uh TB4).three
 have lt4 := (uh TB4).lt
 have sz0 := (uh B3).size
 clear hb4 K3 B3 BW3
 have HG := hide ((uh K4).gd.succ (eqs_pos hd (by decide)))
 obtain ⟨r0, r1, r2, r3, r4, _⟩ := (uh K4).blk.eight
 have zr := (uh K4).blk.fz
 have sz3 := (uh B4).size
 go_wp2_with fail
 have K5 := hide (show RS (w4.setCell ⟨b, 1, none⟩ (.int .i64 ((i : Int) + 1 + 1))) b s tv (i + 2) d 0 a kv rv pv from (uh K4).setI (i + 2) (uh HG))
 have B5 := hide (show But b w (w4.setCell ⟨b, 1, none⟩ (.int .i64 ((i : Int) + 1 + 1))) from (uh B4).setCell 1 _)
 have hne : ¬ (w3.heap.size = b) := by omega
 have TB5 := hide (show Blk (w4.setCell ⟨b, 1, none⟩ (.int .i64 ((i : Int) + 1 + 1))) w3.heap.size #[.string (TT s i), .int .i64 (PP s i), .bool (wordT (TT s i))] 259 from (uh TB4).other hne _)
 clear r0 r1 r2 r3 r4 zr t0 t1 t2 lt4 K4 B4 TB4
 generalize w4.setCell ⟨b, 1, none⟩ (.int .i64 ((i : Int) + 1 + 1)) = W5 at *
 refine (rname_text b s tv (i + 2) d a kv rv pv true W5 (uh K5) hm).mono ?_
 rintro e w6 ⟨rfl, b6, k6⟩
 have K6 := hide k6
 have B6 := hide ((uh B5).trans b6)
 have TB6 := hide ((uh TB5).but b6 hne)
 have lt6 := (uh TB6).lt
 obtain ⟨t0, t1, t2⟩ := (uh TB6).three
 have n1 : ¬ (w3.heap.size = w6.heap.size) := by omega
 have n2 : ¬ (w6.heap.size = w3.heap.size) := by omega
 have BW6 := hide (Below.refl w6.heap.size w6)
 clear b6 k6 K5 B5 TB5
 unfold tkv
 go_wp2_with fail
 have K7 := hide ((uh K6).below ((Below.refl _ w6).alloc (Nat.le_refl _) (.cells #[.string (TT s (i + 2)), .int .i64 (PP s (i + 2)), .bool (wordT (TT s (i + 2)))] 259)))
 have B7 := hide ((uh B6).trans (But.of_below (b := b) ((Below.refl _ w6).alloc (Nat.le_refl _) (.cells #[.string (TT s (i + 2)), .int .i64 (PP s (i + 2)), .bool (wordT (TT s (i + 2)))] 259))))
 clear K6 B6 TB6 BW6
 generalize w6.alloc (.cells #[.string (TT s (i + 2)), .int .i64 (PP s (i + 2)), .bool (wordT (TT s (i + 2)))] 259) = WW at *
 have T4 := hide ((uh HT).but (uh B7) (uh H).blk hbb hbw)
 have hb4 : base ≤ (WW).heap.size := Nat.le_trans hbw (uh B7).size
 refine (part_any base b s tv (i + 2) d 2 (PP s (i + 2)) kv rv pv pl l ⟨3, [], TT s i, TT s (i + 2), PP s i, PP s (i + 2), [], []⟩ none 0 none 0 none 0 (WW) (uh K7) (uh T4) (rep_nil _ _ _ _ _ _) (by omega) hb4 hbb).mono ?_
 rintro e' wf ⟨pv', rfl, fr, rs6, pt6⟩
 have F6 := hide ((Fr.of_but (uh B7) hbb hbw).trans fr)
 have R6 := hide rs6
 have P6 := hide pt6
 clear fr rs6 pt6
 go_wp2
 go_ret
 exact ⟨pl.length, rfl, pv', _, _, [_], [_], uh F6, uh P6, rfl, rfl, fun y hy => by rw [List.mem_singleton] at hy; subst hy; exact fresh_nil _ _, by decide, i + 2, by omega, uh R6, by simp; omega⟩
set_option maxHeartbeats 1000000 in
set_option maxRecDepth 100000 in
theorem unit_tieBig (base b : Nat) (s : ByteArray) (tv : Value) (i d a : Nat) (kv rv pv : Value) (pl : List PV) (l : List PX) (w : World) (h : RS w b s tv i d 0 a kv rv pv) (ht : PT base w pv pl l) (hbb : base ≤ b) (hbw : base ≤ w.heap.size) (hl : pl.length ≤ i) (ex : Nat) (h1 : eqs (TT s i) (sg 91) = false) (h2 : eqs (TT s i) (sg 40) = false) (hn : isNm (TT s i) = true) (h8 : (TT s i).size ≤ 8) (hd : eqs (TT s (i + 1)) (sg 46) = true) (hm : isNm (TT s (i + 2)) = true) (hm8 : 8 < (TT s (i + 2)).size) : Calls Tryz.prog 266 #[.pointer (some ⟨b, 0, none⟩)] w (RPost base b s tv i d a kv rv pv pl l w (ex + 1) (.error (3, i + 2))) := by
 have H := hide h
 have HT := hide ht
 have C := hide (is_okB b s tv i d a kv rv pv (sg 91) w h false h1)
 have hlt := h.lt
 have hle := h.gd.le
 have hsz := h.sz
 clear h ht
 go_enter Tryz.func266, Tryz.ntmps266
 go_wp2_with fail
 refine (uh C).mono ?_
 rintro e w1 ⟨rfl, hb1⟩
 have H1 := hide ((uh H).below hb1)
 have B1 := hide (But.of_below (b := b) hb1)
 clear hb1 C
 go_wp2_with fail
 refine (is_okB b s tv i d a kv rv pv (sg 40) w1 (uh H1) false h2).mono ?_
 rintro e w2 ⟨rfl, hb2⟩
 have H2 := hide ((uh H1).below hb2)
 have B2 := hide ((uh B1).trans (But.of_below (b := b) hb2))
 clear hb2 H1 B1
 go_wp2_with fail
 refine (rname_ok b s tv i d a kv rv pv w2 (uh H2) hn h8).mono ?_
 rintro e w3 ⟨rfl, b3, k3⟩
 have K3 := hide k3
 have B3 := hide ((uh B2).trans b3)
 have BW3 := hide (Below.refl w3.heap.size w3)
 clear b3 k3 H2 B2
 unfold tkv
 go_wp2_with fail
 refine (is_okB b s tv (i + 1) d a kv rv pv (sg 46) _ ?r true hd).mono ?_
 case r => exact (uh K3).below (by repeat (first | with_reducible exact uh BW3 | with_reducible refine Below.drew ?_ | (with_reducible refine Below.setCell ?_ ?_ _; rotate_left; exact (by first | omega | (simp; omega) | simp | (simp; done))) | (with_reducible refine Below.alloc ?_ ?_ _; rotate_left; exact (by first | omega | (simp; omega) | simp | (simp; done)))))
 rintro e w4 ⟨rfl, hb4⟩
 have K4 := hide (((uh K3).below (by repeat (first | with_reducible exact uh BW3 | with_reducible refine Below.drew ?_ | (with_reducible refine Below.setCell ?_ ?_ _; rotate_left; exact (by first | omega | (simp; omega) | simp | (simp; done))) | (with_reducible refine Below.alloc ?_ ?_ _; rotate_left; exact (by first | omega | (simp; omega) | simp | (simp; done)))))).below hb4)
 have TB4 := hide ((Blk.new w3 #[.string (TT s i), .int .i64 (PP s i), .bool (wordT (TT s i))] 259).below hb4)
 have B4 := hide ((show But b w _ from (by repeat (first | with_reducible exact uh B3 | with_reducible refine But.alloc ?_ _ | with_reducible refine But.drew ?_ | (with_reducible refine But.setNew ?_ ?_ _; rotate_left; exact (by first | omega | (simp; omega) | simp | (simp; done)))))).trans (But.of_below hb4))
 obtain ⟨t0, t1, t2⟩ := (uh TB4).three
 have lt4 := (uh TB4).lt
 have sz0 := (uh B3).size
 clear hb4 K3 B3 BW3
 have HG := hide ((uh K4).gd.succ (eqs_pos hd (by decide)))
 obtain ⟨r0, r1, r2, r3, r4, _⟩ := (uh K4).blk.eight
 have zr := (uh K4).blk.fz
 have sz3 := (uh B4).size
 go_wp2_with fail
 have K5 := hide (show RS (w4.setCell ⟨b, 1, none⟩ (.int .i64 ((i : Int) + 1 + 1))) b s tv (i + 2) d 0 a kv rv pv from (uh K4).setI (i + 2) (uh HG))
 have B5 := hide (show But b w (w4.setCell ⟨b, 1, none⟩ (.int .i64 ((i : Int) + 1 + 1))) from (uh B4).setCell 1 _)
 have hne : ¬ (w3.heap.size = b) := by omega
 have TB5 := hide (show Blk (w4.setCell ⟨b, 1, none⟩ (.int .i64 ((i : Int) + 1 + 1))) w3.heap.size #[.string (TT s i), .int .i64 (PP s i), .bool (wordT (TT s i))] 259 from (uh TB4).other hne _)
 clear r0 r1 r2 r3 r4 zr t0 t1 t2 lt4 K4 B4 TB4
 generalize w4.setCell ⟨b, 1, none⟩ (.int .i64 ((i : Int) + 1 + 1)) = W5 at *
 refine (rname_big b s tv (i + 2) d a kv rv pv true W5 (uh K5) hm hm8).mono ?_
 rintro e w6 ⟨rfl, b6, k6⟩
 have K6 := hide k6
 have B6 := hide ((uh B5).trans b6)
 have TB6 := hide ((uh TB5).but b6 hne)
 have lt6 := (uh TB6).lt
 obtain ⟨t0, t1, t2⟩ := (uh TB6).three
 have n1 : ¬ (w3.heap.size = w6.heap.size) := by omega
 have n2 : ¬ (w6.heap.size = w3.heap.size) := by omega
 have BW6 := hide (Below.refl w6.heap.size w6)
 clear b6 k6 K5 B5 TB5
 unfold tkv
 go_wp2_with fail
 have K7 := hide ((uh K6).below ((Below.refl _ w6).alloc (Nat.le_refl _) (.cells #[.string (TT s (i + 2)), .int .i64 (PP s (i + 2)), .bool (wordT (TT s (i + 2)))] 259)))
 have B7 := hide ((uh B6).trans (But.of_below (b := b) ((Below.refl _ w6).alloc (Nat.le_refl _) (.cells #[.string (TT s (i + 2)), .int .i64 (PP s (i + 2)), .bool (wordT (TT s (i + 2)))] 259))))
 clear K6 B6 TB6 BW6
 generalize w6.alloc (.cells #[.string (TT s (i + 2)), .int .i64 (PP s (i + 2)), .bool (wordT (TT s (i + 2)))] 259) = WW at *
 have T4 := hide ((uh HT).but (uh B7) (uh H).blk hbb hbw)
 have hb4 : base ≤ (WW).heap.size := Nat.le_trans hbw (uh B7).size
 refine (part_any base b s tv (i + 2) d 3 (PP s (i + 2)) kv rv pv pl l ⟨3, [], TT s i, TT s (i + 2), PP s i, PP s (i + 2), [], []⟩ none 0 none 0 none 0 (WW) (uh K7) (uh T4) (rep_nil _ _ _ _ _ _) (by omega) hb4 hbb).mono ?_
 rintro e' wf ⟨pv', rfl, fr, rs6, pt6⟩
 have F6 := hide ((Fr.of_but (uh B7) hbb hbw).trans fr)
 have R6 := hide rs6
 have P6 := hide pt6
 clear fr rs6 pt6
 go_wp2
 go_ret
 exact ⟨pl.length, rfl, pv', _, _, [_], [_], uh F6, uh P6, rfl, rfl, fun y hy => by rw [List.mem_singleton] at hy; subst hy; exact fresh_nil _ _, by decide, i + 2, by omega, uh R6, by simp; omega⟩
/-- A unit, whatever it is. -/
theorem runit_any (base b : Nat) (s : ByteArray) (tv : Value) (i d a : Nat) (kv rv pv : Value) (pl : List PV) (l : List PX) (w : World) (h : RS w b s tv i d 0 a kv rv pv) (ht : PT base w pv pl l) (hbb : base ≤ b) (hbw : base ≤ w.heap.size) (hl : pl.length ≤ i) (room : Bool) (inner : Nat → Res Ex) (ex : Nat) (hr : room = true → d < 4 ∧ InnerOK s inner (d + 1) ex) (hf : room = false → d = 4) : Calls Tryz.prog 266 #[.pointer (some ⟨b, 0, none⟩)] w (RPost base b s tv i d a kv rv pv pl l w (ex + 1) (unitR (TT s) (PP s) room inner i)) := by
 unfold unitR
 cases h1 : eqs (TT s i) (sg 91)
 ·simp only [Bool.false_eq_true, if_false]
  cases h2 : eqs (TT s i) (sg 40)
  ·simp only [Bool.false_eq_true, if_false]
   unfold ownTie nameR
   cases hn : isNm (TT s i)
   ·exact unit_text base b s tv i d a kv rv pv pl l w h ht hbb hbw hl ex h1 h2 hn
   ·by_cases h8 : 8 < (TT s i).size
    ·simp only [if_true, h8]
     exact unit_big base b s tv i d a kv rv pv pl l w h ht hbb hbw hl ex h1 h2 hn h8
    ·simp only [if_true, h8, if_false]
     cases hd : eqs (TT s (i + 1)) (sg 46)
     ·simp only [Bool.false_eq_true, if_false]
      exact unit_own base b s tv i d a kv rv pv pl l w h ht hbb hbw hl ex h1 h2 hn (by omega) hd
     ·simp only [if_true]
      cases hm : isNm (TT s (i + 1 + 1))
      ·exact unit_tieText base b s tv i d a kv rv pv pl l w h ht hbb hbw hl ex h1 h2 hn (by omega) hd hm
      ·by_cases hm8 : 8 < (TT s (i + 1 + 1)).size
       ·simp only [if_true, hm8]
        exact unit_tieBig base b s tv i d a kv rv pv pl l w h ht hbb hbw hl ex h1 h2 hn (by omega) hd hm hm8
       ·simp only [if_true, hm8, if_false]
        exact unit_tie base b s tv i d a kv rv pv pl l w h ht hbb hbw hl ex h1 h2 hn (by omega) hd hm (Nat.le_of_not_lt hm8)
  ·simp only [if_true]
   cases room with
   | false =>
    simp only [Bool.false_eq_true, if_false]
    exact unit_full base b s tv i d a kv rv pv pl l w h ht hbb hbw hl ex h1 h2 (hf rfl)
   | true =>
    simp only [if_true]
    exact unit_in base b s tv i d a kv rv pv pl l w h ht hbb hbw hl inner ex (hr rfl).2 h1 h2 (hr rfl).1
 ·simp only [if_true]
  exact unit_list base b s tv i d a kv rv pv pl l w h ht hbb hbw hl ex h1
end Go.Proofs.YtlbpnlngckgcbaaGreatDoor
