import Derived.Test.YtlbpnlngckgcbaaGreatDoorJoin
import Derived.Test.YtlbpnlngckgcbaaGreatDoorMono
import Derived.Deep.LoopGhost
namespace Go.Proofs.YtlbpnlngckgcbaaGreatDoor
open Go.RowKit Go.PlainAid
set_option linter.unusedSimpArgs false
set_option linter.unusedVariables false
theorem anyEq_pos {t : ByteArray} {l : List ByteArray} (h : anyEq t l = true) (hl : ∀ x ∈ l, 0 < (lst x).length) : 0 < t.size := by
  unfold anyEq at h
  rw [List.any_eq_true] at h
  obtain ⟨x, hx, he⟩ := h
  exact eqs_pos he (hl x hx)

set_option maxHeartbeats 2000000 in
set_option maxRecDepth 100000 in
theorem joined_unit (b : Nat) (s : ByteArray) (i d : Nat) (w : World) (hs : s.size ≤ 500) (h : At w b s i d) (g cap : Nat) (l : List ByteArray) (part : Nat → Res Ex) (hm : Mono part)
    (hp : ∀ i w, At w b s i d → Calls Tryz.prog 264 #[.pointer (some ⟨b, 0, none⟩)] w (PostE b s d w (part i)))
    (hl : l.length ≤ maxLen) (hpos : ∀ x ∈ l, 0 < (lst x).length) (hg : g ≠ b) (hgl : g < w.heap.size) (hc : ∀ i, i < l.length → w.cell? ⟨g, i, none⟩ = some (.string (l.getD i ByteArray.empty))) :
    Calls Tryz.prog 248 #[.pointer (some ⟨b, 0, none⟩), .func (.func 264) #[.pointer (some ⟨b, 0, none⟩)] #[], .slice (some ⟨g, 0, none⟩) l.length cap] w (PostE b s d w (joinR (TT s) (PP s) l part i)) := by
  have hlt := h.lt
  have Hs : Hid (s.size ≤ maxLen) := hide (by unfold maxLen; omega)
  have Hp := hide hp
  have Hm := hide hm
  have Hc := hide hc
  have Hl := hide hl
  have Hpos := hide hpos
  have A0 := hide h
  clear hp hm hc hl h hpos
  unfold joinR
  cases hr : part i with
  | error e =>
    obtain ⟨c, j⟩ := e
    have C := hide (unhide Hp i w (unhide A0))
    rw [hr] at C
    clear hr
    go_enter Tryz.func248, Tryz.ntmps248
    go_wp2_with fail
    refine (unhide C).mono ?_
    rintro e w1 ⟨b1, v, d', rfl, hv, a1⟩
    have A1 := hide a1
    have B1 := hide b1
    have HV := hide hv
    clear a1 b1 hv
    unfold errv
    go_wp2_with fail
    refine wp_loop_rounds 1 ?_
    rw [rounds_succ]
    go_wp2
    go_ret2
    exact ⟨unhide B1, v, d', rfl, unhide HV, unhide A1⟩
  | ok y =>
    obtain ⟨x0, j0⟩ := y
    have C := hide (unhide Hp i w (unhide A0))
    rw [hr] at C
    have Hj := hide (unhide Hm _ _ _ hr)
    clear hr
    simp only
    generalize hR : joinL (TT s) (PP s) l part 512 x0 j0 = R
    have HR := hide hR
    clear hR
    go_enter Tryz.func248, Tryz.ntmps248
    go_wp2_with fail
    refine (unhide C).mono ?_
    rintro e w1 ⟨b1, v, rfl, hv, a1⟩
    have A1 := hide a1
    have B1 := hide b1
    have HV := hide hv
    clear a1 b1 hv
    go_wp2_with fail
    go_loopg [8, 9] 512 (fun k u8 u9 wr => But b w wr ∧ ((u9 = .nilIface ∧ ∃ x j, RepEx b wr x u8 ∧ At wr b s j d ∧ 512 ≤ k + j ∧ Hid (joinL (TT s) (PP s) l part k x j = R)) ∨ (∃ c j d', u9 = errv c ∧ IsI u8 ∧ At wr b s j d' ∧ Hid (R = .error (c, j)))))
    case atStart => exact ⟨unhide B1, .inl ⟨rfl, x0, j0, unhide HV, unhide A1, by omega, HR⟩⟩
    case round =>
      obtain ⟨hb, ⟨rfl, x, j, hv, ha, hk, HJ⟩ | ⟨c, j, d', rfl, hv, ha, HJ⟩⟩ := hrel
      · have hf : 12 ≤ gk := by have := ha.le; omega
        obtain ⟨f, rfl⟩ : ∃ f, gk = f + 1 := ⟨gk - 1, by omega⟩
        have HA := hide ha
        have HB := hide hb
        have HX := hide hv
        have hc' := hide (show ∀ i, i < l.length → wr.cell? ⟨g, i, none⟩ = some (.string (l.getD i ByteArray.empty)) from fun i hi => (hb.cell hgl hg).trans (unhide Hc i hi))
        have hlt' : b < wr.heap.size := ha.lt
        obtain ⟨tx, vx, rfl⟩ := hv.isI
        have c1 := ha.pos.rd.c1
        have c2 := ha.pos.rd.c2
        clear ha hb hv
        have HJ' := unhide HJ
        unfold joinL at HJ'
        cases ht : anyEq (TT s j) l
        · simp only [ht] at HJ'
          have HJ2 := hide HJ'
          clear HJ'
          go_wp2_with fail
          refine (rat_any b s _ _ d g cap l _ (unhide HA).pos.rd (unhide Hl) (unhide hc')).mono ?_
          rintro e w2 ⟨rfl, rfl⟩
          rw [show anyEq (tokT s (K s j)) l = false from ht]
          go_wp2
          go_ret2
          rw [← unhide HJ2]
          exact ⟨unhide HB, _, rfl, unhide HX, unhide HA⟩
        · simp only [ht, if_true] at HJ'
          have HJ2 := hide HJ'
          clear HJ'
          go_wp2_with fail
          refine (rat_any b s _ _ d g cap l _ (unhide HA).pos.rd (unhide Hl) (unhide hc')).mono ?_
          rintro e w2 ⟨rfl, rfl⟩
          rw [show anyEq (tokT s (K s j)) l = true from ht]
          have Ht := hide ht
          clear ht
          go_wp2_with fail
          refine (steps b s j d _ (unhide Hs) ((unhide HA).alloc _) (anyEq_pos (unhide Ht) (unhide Hpos))).mono ?_
          rintro e w3 ⟨rfl, a3, b3⟩
          have S3 := hide ((Blk.new w2 #[.int .i64 (tokP s (K s j)), .string (tokT s (K s j))] 137).but b3 (by omega))
          have B3 := hide (But.trans (unhide HB) (But.trans ((But.refl b w2).alloc _) b3))
          have X3 := hide (RepEx.but (unhide HX) (But.trans ((But.refl b w2).alloc _) b3))
          have A3 := hide a3
          have hlt3 : b < w3.heap.size := a3.lt
          clear a3 b3 c1 c2
          cases hq : part (j + 1) with
          | error e =>
            obtain ⟨c4, j4⟩ := e
            have C3 := hide (unhide Hp (j + 1) w3 (unhide A3))
            rw [hq] at HJ2 C3
            clear hq
            go_wp2_with fail
            refine (unhide C3).mono ?_
            rintro e w4 ⟨b4, v4, d4, rfl, hv4, a4⟩
            have S4 := (unhide S3).but b4 (by have := (unhide S3).lt; have := (unhide HA).lt; omega)
            obtain ⟨s0, s1⟩ := S4.two
            have B4 := hide (But.trans (unhide B3) b4)
            have A4 := hide a4
            have V4 := hide hv4
            clear a4 b4 hv4 S4
            unfold errv
            go_wp2_with fail
            refine (join_any _ _ _ _ (.inr ⟨_, _, rfl⟩) (unhide V4) _).mono ?_
            rintro e w5 ⟨rfl, hb5⟩
            have B5 := hide (But.trans (unhide B4) (But.of_below hb5))
            have A5 := hide ((unhide A4).below hb5)
            clear hb5
            go_wp2
            go_roundg 0
            case measure => omega
            case rel => exact ⟨unhide B5, .inr ⟨c4, j4, d4, rfl, .inr ⟨_, _, rfl⟩, unhide A5, hide (unhide HJ2).symm⟩⟩
          | ok y =>
            obtain ⟨y4, j4⟩ := y
            have C3 := hide (unhide Hp (j + 1) w3 (unhide A3))
            have hj4 : j + 1 < j4 := unhide Hm _ _ _ hq
            rw [hq] at HJ2 C3
            clear hq
            go_wp2_with fail
            refine (unhide C3).mono ?_
            rintro e w4 ⟨b4, v4, rfl, hv4, a4⟩
            have S4 := (unhide S3).but b4 (by have := (unhide S3).lt; have := (unhide HA).lt; omega)
            obtain ⟨s0, s1⟩ := S4.two
            have B4 := hide (But.trans (unhide B3) b4)
            have A4 := hide a4
            have V4 := hide hv4
            have X4 := hide (RepEx.but (unhide X3) b4)
            have I4 := hide (show IsI v4 from .inr hv4.isI)
            clear a4 b4 hv4 S4
            go_wp2_with fail
            refine (join_any _ _ _ _ (.inr ⟨_, _, rfl⟩) (unhide I4) _).mono ?_
            rintro e w5 ⟨rfl, hb5⟩
            have B5 := hide (But.trans (unhide B4) (But.of_below hb5))
            have A5 := hide ((unhide A4).below hb5)
            have X5 := hide (RepEx.but (unhide X4) (But.of_below hb5))
            have V5 := hide (RepEx.but (unhide V4) (But.of_below hb5))
            clear hb5
            go_wp2
            go_roundg f
            case measure => omega
            case rel => exact ⟨unhide B5, .inl ⟨rfl, joinE (TT s j) (PP s j) x y4, j4, ⟨_, _, rfl, unhide X5, unhide V5⟩, unhide A5, by omega, hide (unhide HJ2)⟩⟩
      · have HB := hide hb
        have HA := hide ha
        have HX := hide hv
        clear hb ha hv
        unfold errv
        go_wp2
        go_ret2
        rw [unhide HJ]
        exact ⟨unhide HB, _, d', rfl, unhide HX, unhide HA⟩

set_option maxHeartbeats 2000000 in
set_option maxRecDepth 100000 in
theorem joined_chain (b : Nat) (s : ByteArray) (i d : Nat) (w : World) (hs : s.size ≤ 500) (h : At w b s i d) (g cap : Nat) (l : List ByteArray) (part : Nat → Res Ex) (hm : Mono part)
    (hp : ∀ i w, At w b s i d → Calls Tryz.prog 249 #[.pointer (some ⟨b, 0, none⟩)] w (PostE b s d w (part i)))
    (hl : l.length ≤ maxLen) (hpos : ∀ x ∈ l, 0 < (lst x).length) (hg : g ≠ b) (hgl : g < w.heap.size) (hc : ∀ i, i < l.length → w.cell? ⟨g, i, none⟩ = some (.string (l.getD i ByteArray.empty))) :
    Calls Tryz.prog 248 #[.pointer (some ⟨b, 0, none⟩), .func (.func 249) #[.pointer (some ⟨b, 0, none⟩)] #[], .slice (some ⟨g, 0, none⟩) l.length cap] w (PostE b s d w (joinR (TT s) (PP s) l part i)) := by
  have hlt := h.lt
  have Hs : Hid (s.size ≤ maxLen) := hide (by unfold maxLen; omega)
  have Hp := hide hp
  have Hm := hide hm
  have Hc := hide hc
  have Hl := hide hl
  have Hpos := hide hpos
  have A0 := hide h
  clear hp hm hc hl h hpos
  unfold joinR
  cases hr : part i with
  | error e =>
    obtain ⟨c, j⟩ := e
    have C := hide (unhide Hp i w (unhide A0))
    rw [hr] at C
    clear hr
    go_enter Tryz.func248, Tryz.ntmps248
    go_wp2_with fail
    refine (unhide C).mono ?_
    rintro e w1 ⟨b1, v, d', rfl, hv, a1⟩
    have A1 := hide a1
    have B1 := hide b1
    have HV := hide hv
    clear a1 b1 hv
    unfold errv
    go_wp2_with fail
    refine wp_loop_rounds 1 ?_
    rw [rounds_succ]
    go_wp2
    go_ret2
    exact ⟨unhide B1, v, d', rfl, unhide HV, unhide A1⟩
  | ok y =>
    obtain ⟨x0, j0⟩ := y
    have C := hide (unhide Hp i w (unhide A0))
    rw [hr] at C
    have Hj := hide (unhide Hm _ _ _ hr)
    clear hr
    simp only
    generalize hR : joinL (TT s) (PP s) l part 512 x0 j0 = R
    have HR := hide hR
    clear hR
    go_enter Tryz.func248, Tryz.ntmps248
    go_wp2_with fail
    refine (unhide C).mono ?_
    rintro e w1 ⟨b1, v, rfl, hv, a1⟩
    have A1 := hide a1
    have B1 := hide b1
    have HV := hide hv
    clear a1 b1 hv
    go_wp2_with fail
    go_loopg [8, 9] 512 (fun k u8 u9 wr => But b w wr ∧ ((u9 = .nilIface ∧ ∃ x j, RepEx b wr x u8 ∧ At wr b s j d ∧ 512 ≤ k + j ∧ Hid (joinL (TT s) (PP s) l part k x j = R)) ∨ (∃ c j d', u9 = errv c ∧ IsI u8 ∧ At wr b s j d' ∧ Hid (R = .error (c, j)))))
    case atStart => exact ⟨unhide B1, .inl ⟨rfl, x0, j0, unhide HV, unhide A1, by omega, HR⟩⟩
    case round =>
      obtain ⟨hb, ⟨rfl, x, j, hv, ha, hk, HJ⟩ | ⟨c, j, d', rfl, hv, ha, HJ⟩⟩ := hrel
      · have hf : 12 ≤ gk := by have := ha.le; omega
        obtain ⟨f, rfl⟩ : ∃ f, gk = f + 1 := ⟨gk - 1, by omega⟩
        have HA := hide ha
        have HB := hide hb
        have HX := hide hv
        have hc' := hide (show ∀ i, i < l.length → wr.cell? ⟨g, i, none⟩ = some (.string (l.getD i ByteArray.empty)) from fun i hi => (hb.cell hgl hg).trans (unhide Hc i hi))
        have hlt' : b < wr.heap.size := ha.lt
        obtain ⟨tx, vx, rfl⟩ := hv.isI
        have c1 := ha.pos.rd.c1
        have c2 := ha.pos.rd.c2
        clear ha hb hv
        have HJ' := unhide HJ
        unfold joinL at HJ'
        cases ht : anyEq (TT s j) l
        · simp only [ht] at HJ'
          have HJ2 := hide HJ'
          clear HJ'
          go_wp2_with fail
          refine (rat_any b s _ _ d g cap l _ (unhide HA).pos.rd (unhide Hl) (unhide hc')).mono ?_
          rintro e w2 ⟨rfl, rfl⟩
          rw [show anyEq (tokT s (K s j)) l = false from ht]
          go_wp2
          go_ret2
          rw [← unhide HJ2]
          exact ⟨unhide HB, _, rfl, unhide HX, unhide HA⟩
        · simp only [ht, if_true] at HJ'
          have HJ2 := hide HJ'
          clear HJ'
          go_wp2_with fail
          refine (rat_any b s _ _ d g cap l _ (unhide HA).pos.rd (unhide Hl) (unhide hc')).mono ?_
          rintro e w2 ⟨rfl, rfl⟩
          rw [show anyEq (tokT s (K s j)) l = true from ht]
          have Ht := hide ht
          clear ht
          go_wp2_with fail
          refine (steps b s j d _ (unhide Hs) ((unhide HA).alloc _) (anyEq_pos (unhide Ht) (unhide Hpos))).mono ?_
          rintro e w3 ⟨rfl, a3, b3⟩
          have S3 := hide ((Blk.new w2 #[.int .i64 (tokP s (K s j)), .string (tokT s (K s j))] 137).but b3 (by omega))
          have B3 := hide (But.trans (unhide HB) (But.trans ((But.refl b w2).alloc _) b3))
          have X3 := hide (RepEx.but (unhide HX) (But.trans ((But.refl b w2).alloc _) b3))
          have A3 := hide a3
          have hlt3 : b < w3.heap.size := a3.lt
          clear a3 b3 c1 c2
          cases hq : part (j + 1) with
          | error e =>
            obtain ⟨c4, j4⟩ := e
            have C3 := hide (unhide Hp (j + 1) w3 (unhide A3))
            rw [hq] at HJ2 C3
            clear hq
            go_wp2_with fail
            refine (unhide C3).mono ?_
            rintro e w4 ⟨b4, v4, d4, rfl, hv4, a4⟩
            have S4 := (unhide S3).but b4 (by have := (unhide S3).lt; have := (unhide HA).lt; omega)
            obtain ⟨s0, s1⟩ := S4.two
            have B4 := hide (But.trans (unhide B3) b4)
            have A4 := hide a4
            have V4 := hide hv4
            clear a4 b4 hv4 S4
            unfold errv
            go_wp2_with fail
            refine (join_any _ _ _ _ (.inr ⟨_, _, rfl⟩) (unhide V4) _).mono ?_
            rintro e w5 ⟨rfl, hb5⟩
            have B5 := hide (But.trans (unhide B4) (But.of_below hb5))
            have A5 := hide ((unhide A4).below hb5)
            clear hb5
            go_wp2
            go_roundg 0
            case measure => omega
            case rel => exact ⟨unhide B5, .inr ⟨c4, j4, d4, rfl, .inr ⟨_, _, rfl⟩, unhide A5, hide (unhide HJ2).symm⟩⟩
          | ok y =>
            obtain ⟨y4, j4⟩ := y
            have C3 := hide (unhide Hp (j + 1) w3 (unhide A3))
            have hj4 : j + 1 < j4 := unhide Hm _ _ _ hq
            rw [hq] at HJ2 C3
            clear hq
            go_wp2_with fail
            refine (unhide C3).mono ?_
            rintro e w4 ⟨b4, v4, rfl, hv4, a4⟩
            have S4 := (unhide S3).but b4 (by have := (unhide S3).lt; have := (unhide HA).lt; omega)
            obtain ⟨s0, s1⟩ := S4.two
            have B4 := hide (But.trans (unhide B3) b4)
            have A4 := hide a4
            have V4 := hide hv4
            have X4 := hide (RepEx.but (unhide X3) b4)
            have I4 := hide (show IsI v4 from .inr hv4.isI)
            clear a4 b4 hv4 S4
            go_wp2_with fail
            refine (join_any _ _ _ _ (.inr ⟨_, _, rfl⟩) (unhide I4) _).mono ?_
            rintro e w5 ⟨rfl, hb5⟩
            have B5 := hide (But.trans (unhide B4) (But.of_below hb5))
            have A5 := hide ((unhide A4).below hb5)
            have X5 := hide (RepEx.but (unhide X4) (But.of_below hb5))
            have V5 := hide (RepEx.but (unhide V4) (But.of_below hb5))
            clear hb5
            go_wp2
            go_roundg f
            case measure => omega
            case rel => exact ⟨unhide B5, .inl ⟨rfl, joinE (TT s j) (PP s j) x y4, j4, ⟨_, _, rfl, unhide X5, unhide V5⟩, unhide A5, by omega, hide (unhide HJ2)⟩⟩
      · have HB := hide hb
        have HA := hide ha
        have HX := hide hv
        clear hb ha hv
        unfold errv
        go_wp2
        go_ret2
        rw [unhide HJ]
        exact ⟨unhide HB, _, d', rfl, unhide HX, unhide HA⟩
end Go.Proofs.YtlbpnlngckgcbaaGreatDoor
