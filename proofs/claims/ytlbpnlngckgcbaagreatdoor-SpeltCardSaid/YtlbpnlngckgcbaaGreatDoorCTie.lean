import Derived.Test.YtlbpnlngckgcbaaGreatDoorTied
namespace Go.Proofs.YtlbpnlngckgcbaaGreatDoor
open Go.RowKit Go.PlainAid
set_option linter.unusedSimpArgs false
set_option linter.unusedVariables false

def tieN (ts : List Ty) (t : Ty) (n1 : ByteArray) (p1 : Nat) (n2 : ByteArray) (p2 : Nat) : Option Nat := match findRl t n1 with
  | none => some p1
  | some r => if ((allG r.body).filterMap (tie1 ts n2)).length = 0 then some p2 else none

set_option maxHeartbeats 1000000 in
set_option maxRecDepth 100000 in
theorem checkTie_any (b tp p1 p2 : Nat) (n1 n2 : ByteArray) (sv : Value) (ts : List Ty) (tl : List (Ty × Value)) (t : Ty) (tv : Value) (rl : List (Rl × Value)) (w : World) (h : MC b w sv ts tl) (ht : RC b w tv t.rels rl) :
    Calls Tryz.prog 175 #[.agg #[sv], .agg #[.int .i64 t.place, .string t.name, tv], .agg #[.int .i64 tp, .int .i64 p1, .string n1, .int .i64 p2, .string n2]] w fun e' w' => e' = .returned (errO 5 (tieN ts t n1 p1 n2 p2)) ∧ Below w.heap.size w w' := by
  obtain ⟨ma, mn, mc, rfl⟩ := h.form
  obtain ⟨va, vn, vc, rfl⟩ := ht.form
  have W0 : Below w.heap.size w (((w.alloc (.cells #[.slice ma mn mc] 75)).alloc (.cells #[.int .i64 t.place, .string t.name, .slice va vn vc] 110)).alloc (.cells #[.int .i64 tp, .int .i64 p1, .string n1, .int .i64 p2, .string n2] 240)) := (((Below.refl _ _).alloc (Nat.le_refl _) _).alloc (by simp) _).alloc (by simp; omega) _
  have HM0 := hide (h.below W0)
  have HT0 := hide (ht.below W0)
  have MB := hide (((Blk.new w #[.slice ma mn mc] 75).alloc (.cells #[.int .i64 t.place, .string t.name, .slice va vn vc] 110)).alloc (.cells #[.int .i64 tp, .int .i64 p1, .string n1, .int .i64 p2, .string n2] 240))
  have YB := hide ((Blk.new' (w.alloc (.cells #[.slice ma mn mc] 75)) #[.int .i64 t.place, .string t.name, .slice va vn vc] 110 (w.heap.size + 1) (by simp)).alloc (.cells #[.int .i64 tp, .int .i64 p1, .string n1, .int .i64 p2, .string n2] 240))
  have TB := hide (Blk.new' ((w.alloc (.cells #[.slice ma mn mc] 75)).alloc (.cells #[.int .i64 t.place, .string t.name, .slice va vn vc] 110)) #[.int .i64 tp, .int .i64 p1, .string n1, .int .i64 p2, .string n2] 240 (w.heap.size + 2) (by simp))
  have HW0 := hide W0
  generalize hR : tieN ts t n1 p1 n2 p2 = R
  unfold tieN at hR
  clear W0 h ht
  cases hf : findRl t n1 with
  | none =>
    have C := hide (tfind_no b t.place t.name _ t rl n1 _ (unhide HT0) hf)
    rw [hf] at hR
    have HR := hide hR
    clear hR hf
    go_enter Tryz.func175, Tryz.ntmps175
    go_wp2_with fail
    refine (unhide C).mono ?_
    rintro e w1 ⟨rfl, hb1⟩
    have B1 := hide ((unhide HW0).trans (hb1.mono (unhide HW0).size))
    obtain ⟨v0, v1, v2, v3, v4⟩ := ((unhide TB).below hb1).five
    have vl := ((unhide TB).below hb1).lt
    have sz := (unhide B1).size
    clear hb1
    unfold errv
    go_wp2_with (go_at_call 73; refine (wrap_err _ 5 _).mono ?_; rintro e w3 ⟨rfl, rfl⟩)
    go_ret
    rw [← unhide HR]
    exact ⟨rfl, (by repeat (first | with_reducible exact unhide B1 | with_reducible refine Below.drew ?_ | (with_reducible refine Below.setCell ?_ ?_ _; rotate_left; exact (by first | omega | (simp; omega) | simp | (simp; done))) | (with_reducible refine Below.alloc ?_ ?_ _; rotate_left; exact (by first | omega | (simp; omega) | simp | (simp; done)))))⟩
  | some r =>
    obtain ⟨xa, xv, _, _, hcall⟩ := tfind_yes b t.place t.name _ t rl n1 _ (unhide HT0) r hf
    have C := hide hcall
    have HF := hide hf
    rw [hf] at hR
    have HR := hide hR
    clear hR hf hcall
    go_enter Tryz.func175, Tryz.ntmps175
    go_wp2_with fail
    refine (unhide C).mono ?_
    rintro e w1 ⟨rfl, hb1⟩
    have b1 := hb1.alloc hb1.size (.cells #[.int .i64 r.place, .string r.name, .iface xa xv] 159)
    have B1 := hide ((unhide HW0).trans (b1.mono (unhide HW0).size))
    have M1 := hide ((unhide HM0).below b1)
    have T1 := hide ((unhide HT0).below b1)
    have TB1 := hide ((unhide TB).below b1)
    obtain ⟨v0, v1, v2, v3, v4⟩ := ((unhide TB).below hb1).five
    have vl := ((unhide TB).below hb1).lt
    obtain ⟨y0, y1, y2⟩ := ((unhide YB).below hb1).three
    have yl := ((unhide YB).below hb1).lt
    have m0 : w1.cell? ⟨w.heap.size, 0, none⟩ = some (.slice ma mn mc) := ((unhide MB).below hb1).cell rfl
    have sz := (unhide B1).size
    have ml := ((unhide MB).below hb1).lt
    clear hb1 b1 C
    go_wp2_with fail
    refine (tied_some b tp p1 p2 n1 n2 _ ts tl t _ rl _ (unhide M1) (unhide T1) r (unhide HF)).mono ?_
    rintro e w2 ⟨sv2, l3, rfl, hb2, ho, hl3, _⟩
    have hlen : l3.length = ((allG r.body).filterMap (tie1 ts n2)).length := by
      have := congrArg List.length hl3
      rwa [List.length_map, List.length_map] at this
    obtain ⟨oa, oc, rfl⟩ := own_form ho
    have B2 := hide ((unhide B1).trans (hb2.mono (unhide B1).size))
    obtain ⟨z0, z1, z2, z3, z4⟩ := ((unhide TB1).below hb2).five
    have zl := ((unhide TB1).below hb2).lt
    have sz2 := (unhide B2).size
    have hR := unhide HR
    rw [← hlen] at hR
    generalize l3.length = ln at *
    clear hb2 ho hl3 hlen v0 v1 v2 v3 v4 y0 y1 y2 m0
    by_cases h0 : ln = 0
    · have h0' : ((ln : Int) == 0) = true := by rw [h0]; rfl
      rw [if_pos h0] at hR
      have HR2 := hide hR
      clear hR h0
      go_wp2_with (go_at_call 73; refine (wrap_err _ 5 _).mono ?_; rintro e w3 ⟨rfl, rfl⟩)
      go_ret
      rw [← unhide HR2]
      exact ⟨rfl, (by repeat (first | with_reducible exact unhide B2 | with_reducible refine Below.drew ?_ | (with_reducible refine Below.setCell ?_ ?_ _; rotate_left; exact (by first | omega | (simp; omega) | simp | (simp; done))) | (with_reducible refine Below.alloc ?_ ?_ _; rotate_left; exact (by first | omega | (simp; omega) | simp | (simp; done)))))⟩
    · have h0' : ((ln : Int) == 0) = false := by rw [beq_eq_false_iff_ne]; omega
      rw [if_neg h0] at hR
      have HR2 := hide hR
      clear hR h0
      go_wp2
      go_ret
      rw [← unhide HR2]
      exact ⟨rfl, (by repeat (first | with_reducible exact unhide B2 | with_reducible refine Below.drew ?_ | (with_reducible refine Below.setCell ?_ ?_ _; rotate_left; exact (by first | omega | (simp; omega) | simp | (simp; done))) | (with_reducible refine Below.alloc ?_ ?_ _; rotate_left; exact (by first | omega | (simp; omega) | simp | (simp; done)))))⟩
end Go.Proofs.YtlbpnlngckgcbaaGreatDoor
