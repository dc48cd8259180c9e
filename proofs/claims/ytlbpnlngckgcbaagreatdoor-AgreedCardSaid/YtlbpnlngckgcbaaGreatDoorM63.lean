import Derived.Test.YtlbpnlngckgcbaaGreatDoorM62
set_option linter.all false
set_option maxHeartbeats 20000000
set_option maxRecDepth 100000
namespace Go.Proofs.YtlbpnlngckgcbaaGreatDoor
open Go.RowKit Go.PlainAid
theorem placeQ_at (base : Nat) (v : Value) (l : List ByteArray) (s : ByteArray) (w : World) (h : w.ownsRow base 9 1 v l.length (jZ l)) (hl : l.length ≤ 100000) :
    Calls Tryz.prog 32 #[v, .string s] w fun e w' => ∃ r : Int, e = .returned (.int .i64 r) ∧ w' = w ∧ ((r = -1 ∧ s ∉ l) ∨ ∃ k : Nat, r = k ∧ l[k]? = some s) := by
  obtain ⟨a, c, rfl⟩ := ak h
  have H := ae h
  clear h
  go_enter Tryz.func32, Tryz.ntmps32
  go_wp2_with fail
  go_loopw [5] (fun u wr => ∃ k : Nat, u = .int .i64 k ∧ k ≤ l.length ∧ wr = w ∧ Hid (∀ j, j < k → l[j]? ≠ some s)) (fun u _ => l.length - (intOf u).toNat)
  case atStart => exact ⟨0, rfl, by omega, rfl, ae (fun j h => by omega)⟩
  case round =>
    obtain ⟨k, rfl, hk, hw, HN⟩ := hrel
    subst hw
    by_cases hlt : k < l.length
    · have hkn : (k : Int) < (l.length : Int) := by omega
      obtain ⟨g, c', e1, hc⟩ := aQ (aa H) k (.string l[k]) (by unfold jZ; rw [List.getElem?_map, List.getElem?_eq_getElem hlt]; rfl)
      simp only [Value.slice.injEq, true_and] at e1
      obtain ⟨rfl, rfl⟩ := e1
      have HM := ae (show l[k]? = some l[k] from List.getElem?_eq_getElem hlt)
      generalize l[k] = y at *
      by_cases hys : y = s
      · have hq := ug hys
        have Qm := ae (show l[k]? = some s from hys ▸ aa HM)
        go_wp2
        go_ret
        exact ⟨_, rfl, rfl, .inr ⟨k, rfl, aa Qm⟩⟩
      · have hq := uf hys
        have IE := ae (show ∀ j, j < k + 1 → l[j]? ≠ some s from fun j hj => by
          by_cases e : j = k
          · subst e
            rw [aa HM]
            intro e
            exact hys (Option.some.inj e)
          · exact aa HN j (by omega))
        go_wp2
        go_roundw
        case rel => exact ⟨k + 1, by go_num, by omega, by first | rfl | trivial, IE⟩
        case measure => simp [intOf]; omega
    · have hkn : ¬ ((k : Int) < (l.length : Int)) := by omega
      have HOUT := ae (show s ∉ l from fun hs => by
        obtain ⟨j, hj⟩ := List.mem_iff_getElem?.1 hs
        exact aa HN j (by have := (List.getElem?_eq_some_iff.1 hj).1; omega) hj)
      go_wp2
      go_ret
      exact ⟨_, rfl, rfl, .inl ⟨rfl, aa HOUT⟩⟩
theorem withoutQ_any (base : Nat) (v : Value) (l : List ByteArray) (k : Nat) (w : World) (h : w.ownsRow base 9 1 v l.length (jZ l)) (hk : k < l.length) (hl : l.length ≤ 100000) :
    Calls Tryz.prog 51 #[v, .int .i64 k] w fun e w' => ∃ v', e = .returned v' ∧ Below w.heap.size w w' ∧ w'.ownsRow w.heap.size 9 1 v' (l.eraseIdx k).length (jZ (l.eraseIdx k)) := by
  obtain ⟨g, c, rfl, hnc, _⟩ := yJ h (by omega)
  have H := ae h
  have HPA := ae (part_take h (show k ≤ l.length by omega))
  obtain ⟨A, hA⟩ : ∃ A : Addr, (if c = k + 1 then some (⟨g, 0, none⟩ : Addr) else some ⟨g, k + 1, none⟩) = some A := by
    split
    · exact ⟨_, rfl⟩
    · exact ⟨_, rfl⟩
  have HLE := ae (show jZ (l.eraseIdx k) = jZ (l.take k) ++ jZ (l.drop (k + 1)) ∧ (l.eraseIdx k).length = k + (l.length - (k + 1)) from ⟨by rw [List.eraseIdx_eq_take_drop_succ, stC_app], by rw [List.length_eraseIdx_of_lt hk]; omega⟩)
  obtain ⟨i0, hi0, hz0, hz1, hz2⟩ := info_parts Tryz.infoStr
  have HI := ae hi0
  have jg := ae hz0
  have jh := ae hz1
  have ji := ae hz2
  have s1 : k ≤ c := by omega
  have s2 : k + 1 ≤ c := by omega
  have s3 : k + 1 ≤ l.length := by omega
  clear h hi0 hz0 hz1 hz2
  go_enter Tryz.func51, Tryz.ntmps51
  go_wp2_with (at_builtin; go_must (refine wpList_append_part rfl _ _ 22 rfl w.heap.size 9 i0 _ 1 16 Tryz.underlying22 (aa HI) (aa jg) (aa jh) (aa ji) rfl (by decide) (.slice none 0 0) 0 [] rfl (World.ownsRow_nil _ _ _ _) (.slice (some ⟨g, 0, none⟩) k c) k (jZ (l.take k)) rfl (aa HPA) (stC_one _) ?h63A ?Jf (Nat.le_refl _) ?hrestA))
  case h63A => unfold maxLen; omega
  case Jf => omega
  case hrestA =>
    intro av1 cv1 w1 hown1 hgrow1
    have B1 := ae (Below.grown (Below.refl w.heap.size w) hgrow1 (Nat.le_refl _) (fun k hk => by simp [Value.ownBlock] at hk))
    have HPB := ae (part_drop (aF (aa H) (aa B1)) (show k + 1 ≤ l.length by omega) hA.symm)
    have M1 := ae hown1
    have hs1 := (aa B1).size
    clear hown1 hgrow1 HPA
    go_wp2_with (at_builtin; go_must (refine wpList_append_part rfl _ _ 22 rfl w.heap.size 9 i0 _ 1 16 Tryz.underlying22 (aa HI) (aa jg) (aa jh) (aa ji) rfl (by decide) (.slice av1 k cv1) k (jZ (l.take k)) rfl (aa M1) (.slice (some A) (l.length - (k + 1)) (c - (k + 1))) (l.length - (k + 1)) (jZ (l.drop (k + 1))) rfl (aa HPB) (stC_one _) ?h63C ?hbytesC hs1 ?hrestC))
    case h63C => unfold maxLen; omega
    case hbytesC => omega
    case hrestC =>
      intro av3 cv3 w3 o9 fF
      have B3 := ae (Below.grown (aa B1) fF hs1 (fun q hq => ((aa M1).lt q hq).1))
      have M3 := ae (show w3.ownsRow w.heap.size 9 1 (.slice av3 (k + (l.length - (k + 1))) cv3) (l.eraseIdx k).length (jZ (l.eraseIdx k)) from by
        rw [(aa HLE).1, (aa HLE).2]
        simpa using o9)
      clear o9 fF
      go_wp2
      go_ret
      exact ⟨_, rfl, aa B3, aa M3⟩
end Go.Proofs.YtlbpnlngckgcbaaGreatDoor

namespace Go.Proofs.YtlbpnlngckgcbaaGreatDoor
open Go.RowKit Go.PlainAid
section
variable {B : Nat} {w w' : World} {x : Nat} {ts : List Ty} {gs : List Tu} {ss : List ByteArray} {s : ByteArray}
theorem EP.grown {v : Value} {b n : Nat} {xs : List Value} (h : EP B w x ts gs) (hr : w.ownsRow b 9 1 v n xs) (hg : w.grownBy w' v.ownBlock) : EP B w' x ts gs := by
  obtain ⟨mv, lv, gv, h1, h4⟩ := h
  have key : ∀ k, v.ownBlock = some k → ∃ cs f, w.heap[k]? = some (Obj.cells cs 9 f) := fun k hk => by
    rcases hr with ⟨h0, ⟨rfl, _⟩ | ⟨g, cap, cur, rfl, hg', hh, _⟩⟩
    · simp [Value.ownBlock] at hk
    · simp only [Value.ownBlock, Option.some.injEq] at hk
      subst hk
      exact ⟨_, _, hh⟩
  have hb : aS (fun k => v.ownBlock = some k) w w' := fV hg (fun _ e => e)
  refine ⟨mv, lv, gv, h1.keep hb (fun k hk e => ?_) (fun k cs T f hk hh => ?_), h4⟩
  · obtain ⟨cs, T, hb', hT'⟩ := h1.ty hk
    obtain ⟨cs', f', e'⟩ := key k e
    unfold ag at hb'
    rw [hb'] at e'
    cases e'
    rcases hT' with e | e <;> exact absurd e (by decide)
  · obtain ⟨cs', f', e⟩ := key k hk
    rw [e] at hh
    cases hh
    unfold MQ LT
    decide
structure DnI (ss : List ByteArray) : Prop where
  gr : ∀ t ∈ ss, t ∈ pO
  nd : ss.Nodup
  len : ss.length ≤ 24
theorem DnI.snoc (h : DnI ss) (hs : s ∈ pO) (hn : s ∉ ss) (hl : ss.length < 24) : DnI (ss ++ [s]) where
  gr := fun u hu => by
    rcases List.mem_append.1 hu with hu | hu
    · exact h.gr u hu
    · rw [List.mem_singleton] at hu; subst hu; exact hs
  nd := by
    rw [List.nodup_append]
    refine ⟨h.nd, by simp, fun a ha b hb e => ?_⟩
    rw [List.mem_singleton] at hb
    subst hb
    subst e
    exact hn ha
  len := by simp; omega
theorem DnI.cut (h : DnI ss) (k : Nat) : DnI (ss.eraseIdx k) where
  gr := fun u hu => h.gr u (List.mem_of_mem_eraseIdx hu)
  nd := h.nd.sublist (List.eraseIdx_sublist ss k)
  len := by have := List.length_eraseIdx_le ss k; have := h.len; omega
theorem idx_at {ts : List Ty} (h : EC ts) {k : Nat} (hss : ∀ s ∈ ss, s ∈ allG2) (hn : ss.Nodup) (hk : ss[k]? = some s) : ou (ss.map tt) (tt s) = k := by
  obtain ⟨hl, e0⟩ := List.getElem?_eq_some_iff.1 hk
  refine I9 (by simpa using hl) (fun j hj hjk => ?_) ?_
  · cases e : qW (tt s) (ss.map tt)[j]
    · rfl
    · have := (eqTu_iff _ _).1 e
      rw [List.getElem_map] at this
      have hj' : j < ss.length := by simpa using hj
      have e2 := tt_inj h (hss _ (List.mem_of_getElem? hk)) (hss _ (List.getElem_mem hj')) this
      rw [← e0] at e2
      have hp := List.pairwise_iff_getElem.1 hn j k hj' hl hjk
      exact absurd e2.symm hp
  · rw [eqTu_iff, List.getElem_map, e0]
theorem md_new (h : EP B w x ts (ss.map tt)) (hE : yN w) (ht : EC ts) (hss : ∀ s ∈ ss, s ∈ allG2) (hs : s ∈ allG2) (hn : s ∉ ss) (hl : ss.length < 24) :
    Calls Tryz.prog 28 #[.pointer (some ⟨x, 0, none⟩), .string s] w fun e w' => e = .returned (.int .i64 0) ∧ EP B w' x ts ((ss ++ [s]).map tt) ∧ Below B w w' ∧ PR w w' := by
  have e : Nv ts (ss.map tt) s = (0, (ss ++ [s]).map tt) := by
    obtain ⟨h1, h2⟩ := ht.lets2 s hs
    unfold Nv
    rw [h1, show rA ts (dw s).1 = 0 from h2, show ou (ss.map tt) (dw s).1 = -1 from idx_out ht hss hs hn]
    rw [if_neg (by simp), if_neg (by simp), if_neg (by decide), if_neg (by simp; omega), List.map_append]
    rfl
  have := KO (RA := ts) (RD := (Nv ts (ss.map tt) s).2) (c := (Nv ts (ss.map tt) s).1) h (fun mv lv gv hu => M7 hu s hE.max (by have := hE.lt; omega) hE.laid (by simp; omega))
  rw [e] at this
  exact this
theorem md_full (h : EP B w x ts (ss.map tt)) (hE : yN w) (ht : EC ts) (hss : ∀ s ∈ ss, s ∈ allG2) (hs : s ∈ allG2) (hn : s ∉ ss) (hl : ss.length = 24) :
    Calls Tryz.prog 28 #[.pointer (some ⟨x, 0, none⟩), .string s] w fun e w' => e = .returned (.int .i64 8) ∧ EP B w' x ts (ss.map tt) ∧ Below B w w' ∧ PR w w' := by
  have e : Nv ts (ss.map tt) s = (8, ss.map tt) := by
    obtain ⟨h1, h2⟩ := ht.lets2 s hs
    unfold Nv
    rw [h1, show rA ts (dw s).1 = 0 from h2, show ou (ss.map tt) (dw s).1 = -1 from idx_out ht hss hs hn]
    rw [if_neg (by simp), if_neg (by simp), if_neg (by decide), if_pos (by simp; omega)]
  have := KO (RA := ts) (RD := (Nv ts (ss.map tt) s).2) (c := (Nv ts (ss.map tt) s).1) h (fun mv lv gv hu => M7 hu s hE.max (by have := hE.lt; omega) hE.laid (by simp; omega))
  rw [e] at this
  exact this
theorem md_twice (h : EP B w x ts (ss.map tt)) (hE : yN w) (ht : EC ts) (hs : s ∈ allG2) (hn : s ∈ ss) (hl : ss.length ≤ 24) :
    Calls Tryz.prog 28 #[.pointer (some ⟨x, 0, none⟩), .string s] w fun e w' => e = .returned (.int .i64 4) ∧ EP B w' x ts (ss.map tt) ∧ Below B w w' ∧ PR w w' := by
  have e : Nv ts (ss.map tt) s = (4, ss.map tt) := by
    obtain ⟨h1, h2⟩ := ht.lets2 s hs
    unfold Nv
    rw [h1, show rA ts (dw s).1 = 0 from h2]
    rw [if_neg (by simp), if_neg (by simp), if_pos (show 0 ≤ ou (ss.map tt) (dw s).1 from idx_in hn)]
  have := KO (RA := ts) (RD := (Nv ts (ss.map tt) s).2) (c := (Nv ts (ss.map tt) s).1) h (fun mv lv gv hu => M7 hu s hE.max (by have := hE.lt; omega) hE.laid (by simp; omega))
  rw [e] at this
  exact this
theorem md_del (h : EP B w x ts (ss.map tt)) (hE : yN w) (ht : EC ts) (hss : ∀ s ∈ ss, s ∈ allG2) (hnd : ss.Nodup) {k : Nat} (hk : ss[k]? = some s) :
    Calls Tryz.prog 35 #[.pointer (some ⟨x, 0, none⟩), .string s] w fun e w' => e = .returned (.int .i64 0) ∧ EP B w' x ts ((ss.eraseIdx k).map tt) ∧ Below B w w' ∧ PR w w' := by
  have e : delP (ss.map tt) s = (0, (ss.eraseIdx k).map tt) := by
    unfold delP
    rw [(ht.lets2 s (hss s (List.mem_of_getElem? hk))).1, show ou (ss.map tt) (dw s).1 = k from idx_at ht hss hnd hk]
    rw [if_neg (by simp), if_neg (by omega)]
    congr 1
    rw [Int.toNat_natCast, List.eraseIdx_eq_take_drop_succ, List.eraseIdx_eq_take_drop_succ, List.map_append, List.map_take, List.map_drop]
  have := KO (RA := ts) (RD := (delP (ss.map tt) s).2) (c := (delP (ss.map tt) s).1) h (fun mv lv gv hu => qdelete hu s hE.max (by have := hE.lt; omega))
  rw [e] at this
  exact this
theorem md_none (h : EP B w x ts (ss.map tt)) (hE : yN w) (ht : EC ts) (hss : ∀ s ∈ ss, s ∈ allG2) (hs : s ∈ allG2) (hn : s ∉ ss) :
    Calls Tryz.prog 35 #[.pointer (some ⟨x, 0, none⟩), .string s] w fun e w' => e = .returned (.int .i64 9) ∧ EP B w' x ts (ss.map tt) ∧ Below B w w' ∧ PR w w' := by
  have e : delP (ss.map tt) s = (9, ss.map tt) := by
    unfold delP
    rw [(ht.lets2 s hs).1, show ou (ss.map tt) (dw s).1 = -1 from idx_out ht hss hs hn]
    rw [if_neg (by simp), if_pos (by decide)]
  have := KO (RA := ts) (RD := (delP (ss.map tt) s).2) (c := (delP (ss.map tt) s).1) h (fun mv lv gv hu => qdelete hu s hE.max (by have := hE.lt; omega))
  rw [e] at this
  exact this
end
def DnPost (B x : Nat) (ts : List Ty) (w : World) (e : Ending) (w' : World) : Prop := ∃ v ss, e = .returned (.tuple #[v, .bool true]) ∧ Below B w w' ∧ EP B w' x ts (ss.map tt) ∧ w'.ownsRow B 9 1 v ss.length (jZ ss) ∧ DnI ss
theorem doneQ_any (B x : Nat) (o : Oq) (v : Value) (ts : List Ty) (ss : List ByteArray) (w : World) (ho : AV o) (h : EP B w x ts (ss.map tt)) (hE : yN w) (hB : 4 < B) (hBw : B ≤ w.heap.size) (ht : EC ts) (hv : w.ownsRow B 9 1 v ss.length (jZ ss)) (hi : DnI ss) :
    Calls Tryz.prog 21 #[.pointer (some ⟨x, 0, none⟩), .agg #[.int .i64 o.kd, .int .i64 o.a, .int .i64 o.b, .bool o.less], v] w (DnPost B x ts w) := by
  obtain ⟨va, vc, rfl⟩ := ak hv
  have b0 := (Below.refl w.heap.size w).alloc (Nat.le_refl _) (.cells #[.int .i64 o.kd, .int .i64 o.a, .int .i64 o.b, .bool o.less] 50)
  have MO := ae (b0.mono hBw)
  have HS0 := ae (h.below b0)
  have HR0 := ae (aF hv b0)
  have HE := ae hE
  have HT := ae ht
  have HI := ae hi
  have hlen := hi.len
  have CG := ae (fun w' => AX o ho w')
  have l1 := mX o.kd (n := 9) (by omega)
  have l2 := mX o.a (n := 4) (by omega)
  have l3 := mX o.b (n := 4) (by omega)
  have RF := ae (Ha l1 l2 l3)
  generalize Io (BV o.kd 9) (BV o.a 4) (BV o.b 4) = T at *
  clear h hE ht hv hi b0 l1 l2 l3 ho
  go_enter Tryz.func21, Tryz.ntmps21
  go_wp2_with fail
  refine (aa CG _).mono ?_
  rintro e w1 ⟨rfl, hb1⟩
  have y3 : w1.cell? ⟨w.heap.size, 3, none⟩ = some (.bool o.less) := af (show (w.alloc (.cells #[.int .i64 o.kd, .int .i64 o.a, .int .i64 o.b, .bool o.less] 50)).cell? ⟨w.heap.size, 3, none⟩ = some (.bool o.less) from by have q := World.news_of_block (B := w.heap.size) (cs := #[.int .i64 o.kd, .int .i64 o.a, .int .i64 o.b, .bool o.less]) (t := 50) (fr := (0, 0)) (ag.new w _ _) 3 _ rfl; exact q) hb1
  have MN := ae ((aa MO).trans (hb1.mono (by simp; omega)))
  have HS1 := ae ((aa HS0).below hb1)
  have Ou := ae (aF (aa HR0) hb1)
  have HE1 := ae ((aa HE).below (aa MN) hB)
  have hs1 := (aa MN).size
  have CP := ae (placeQ_at _ _ ss T w1 (aa Ou) (by omega))
  have HG2 := ae (gr_two (aa HI).gr)
  have HT2 := ae (show T ∈ allG2 from List.mem_append_left _ (aa RF))
  clear hb1 CG MO HS0 HR0
  go_wp2_with fail
  refine (aa CP).mono ?_
  rintro e w2 ⟨r, rfl, hw2, hr⟩
  rw [hw2]
  clear hw2 w2 CP
  cases hles : o.less
  · rw [hles] at y3
    rcases hr with ⟨rfl, hout⟩ | ⟨k, rfl, hk⟩
    · by_cases hfull : ss.length = 24
      · have CW := ae (md_full (aa HS1) (aa HE1) (aa HT) (aa HG2) (aa HT2) hout hfull)
        have hfe : ((ss.length : Int) == 24) = true := by rw [hfull]; rfl
        clear hout hles hfull
        go_wp2_with fail
        refine (aa CW).mono ?_
        rintro e w3 ⟨rfl, hs3, hb3, hk3⟩
        have ww := ae ((aa MN).trans hb3)
        have zJ := ae hs3
        have gD := ae (hk3.row (aa Ou))
        clear hs3 hb3 hk3 CW
        go_wp2
        go_ret2
        exact ⟨_, ss, rfl, aa ww, aa zJ, aa gD, aa HI⟩
      · have CW := ae (md_new (aa HS1) (aa HE1) (aa HT) (aa HG2) (aa HT2) hout (by omega))
        have yC := ae ((aa HI).snoc (aa RF) hout (by omega))
        have hfe : ((ss.length : Int) == 24) = false := by rw [beq_eq_false_iff_ne]; omega
        have hfi : ¬ ((ss.length : Int) = 24) := by omega
        clear hout hles
        go_wp2_with fail
        refine (aa CW).mono ?_
        rintro e w3 ⟨rfl, hs3, hb3, hk3⟩
        have ww := ae ((aa MN).trans hb3)
        have zJ := ae hs3
        have gD := ae (hk3.row (aa Ou))
        have zD := hb3.size
        clear hs3 hb3 hk3 CW
        obtain ⟨i0, hi0, hz0, hz1, hz2⟩ := info_parts Tryz.infoStr
        have HJ := ae hi0
        have jg := ae hz0
        have jh := ae hz1
        have ji := ae hz2
        clear hi0 hz0 hz1 hz2
        go_wp2_with (at_builtin; go_must (refine wpList_append_lies _ rfl _ _ 22 rfl B 9 i0 _ 1 16 Tryz.underlying22 (aa HJ) (aa jg) (aa jh) (aa ji) rfl (by decide) (.slice va ss.length vc) ss.length (jZ ss) rfl ?hownB ⟨w3.heap.size, 0, none⟩ 1 1 [.string T] rfl rfl ?Lt ?honeB (by decide) ?h63B ?Je ?Lu (w3.heap.size + 1) ?hHB ?hrestB))
        case hownB => exact (aa gD).alloc _
        case Lt => exact World.news_of_block (B := w3.heap.size) (cs := #[.string T]) (t := 9) (fr := (0, 0)) (ag.new _ _ _)
        case honeB =>
          intro u hu
          simp at hu
          subst hu
          rfl
        case h63B => unfold maxLen; omega
        case Je => omega
        case Lu => simp; omega
        case hHB => simp
        case hrestB =>
          intro g8 c8 w8 hown8 hgrow8 hat8 hgl8
          have fA := (aa gD).alloc (.cells #[.string T] 9)
          have HB8 := ae (Below.grown ((aa ww).alloc (by omega) (.cells #[.string T] 9)) hgrow8 (by simp; omega) (fun q hq => (fA.lt q hq).1))
          have QP := ae (((aa zJ).below ((Below.refl w3.heap.size w3).alloc (Nat.le_refl _) (.cells #[.string T] 9))).grown fA hgrow8)
          have HR8 := ae (show w8.ownsRow B 9 1 (.slice (some ⟨g8, 0, none⟩) (ss.length + 1) c8) (ss ++ [T]).length (jZ (ss ++ [T])) from by
            rw [show (ss ++ [T]).length = ss.length + 1 by simp, stC_app]
            exact hown8)
          clear fA hown8 hgrow8 hat8 hgl8 ww zJ gD
          go_wp2
          go_ret2
          exact ⟨_, ss ++ [T], rfl, aa HB8, aa QP, aa HR8, aa yC⟩
    · have CW := ae (md_twice (aa HS1) (aa HE1) (aa HT) (aa HT2) (List.mem_of_getElem? hk) hlen)
      clear hk hles
      go_wp2_with fail
      refine (aa CW).mono ?_
      rintro e w3 ⟨rfl, hs3, hb3, hk3⟩
      have ww := ae ((aa MN).trans hb3)
      have zJ := ae hs3
      have gD := ae (hk3.row (aa Ou))
      clear hs3 hb3 hk3 CW
      go_wp2
      go_ret2
      exact ⟨_, ss, rfl, aa ww, aa zJ, aa gD, aa HI⟩
  · rw [hles] at y3
    rcases hr with ⟨rfl, hout⟩ | ⟨k, rfl, hk⟩
    · have CW := ae (md_none (aa HS1) (aa HE1) (aa HT) (aa HG2) (aa HT2) hout)
      clear hout hles
      go_wp2_with fail
      refine (aa CW).mono ?_
      rintro e w3 ⟨rfl, hs3, hb3, hk3⟩
      have ww := ae ((aa MN).trans hb3)
      have zJ := ae hs3
      have gD := ae (hk3.row (aa Ou))
      clear hs3 hb3 hk3 CW
      go_wp2
      go_ret2
      exact ⟨_, ss, rfl, aa ww, aa zJ, aa gD, aa HI⟩
    · have CW := ae (md_del (aa HS1) (aa HE1) (aa HT) (aa HG2) (aa HI).nd hk)
      have hkl : k < ss.length := (List.getElem?_eq_some_iff.1 hk).1
      clear hk hles
      go_wp2_with fail
      refine (aa CW).mono ?_
      rintro e w3 ⟨rfl, hs3, hb3, hk3⟩
      have ww := ae ((aa MN).trans hb3)
      have zJ := ae hs3
      have COzq := ae (withoutQ_any _ _ ss k w3 (hk3.row (aa Ou)) hkl (by omega))
      have zD := hb3.size
      clear hs3 hb3 hk3 CW
      go_wp2_with fail
      refine (aa COzq).mono ?_
      rintro e w4 ⟨v4, rfl, hb4, hr4⟩
      have wy := ae ((aa ww).trans (hb4.mono (by omega)))
      have Nl := ae ((aa zJ).below hb4)
      have lD := ae (own_low hr4 (show B ≤ w3.heap.size by omega))
      clear hb4 hr4 COzq
      go_wp2
      go_ret2
      exact ⟨_, ss.eraseIdx k, rfl, aa wy, aa Nl, aa lD, (aa HI).cut k⟩
end Go.Proofs.YtlbpnlngckgcbaaGreatDoor

namespace Go.Proofs.YtlbpnlngckgcbaaGreatDoor
open Go.RowKit Go.PlainAid
def bNew : ByteArray := ⟨#[110, 101, 119]⟩
def endsB (s e : ByteArray) : Bool := decide (s.extract (s.size - e.size) s.size = e)
def agrB (s : ByteArray) : Bool :=
  ((List.range 4).all fun j => !decide (uy ⟨(dw s).1.kind, (dw s).1.id⟩ = gQ j)
    && decide (decide (uy ⟨(dw s).1.sub, (dw s).1.who⟩ = gQ j) = endsB s (gQ j))
    && (!endsB s (gQ j) || (decide ((dw s).1.sub = dP) && decide ((dw s).1.who = NI j))))
  && decide (jF (ed (dw s).1) ⟨dP, bNew⟩ = jF (ed (dw s).1) ⟨dP, bAll⟩)
  && !decide (uy ⟨(dw s).1.kind, (dw s).1.id⟩ = uy ⟨dP, bAll⟩)
  && (!decide (uy ⟨(dw s).1.sub, (dw s).1.who⟩ = uy ⟨dP, bAll⟩) || (decide ((dw s).1.sub = dP) && decide ((dw s).1.who = bAll)))
  && decide (7 ≤ s.size)
theorem agr_all : (pO.all agrB) = true := by kernel_rfl
theorem star_t : (match lM pM with | .ok ts => ts.any fun t => decide (t.name = dP) | .error _ => false) = true := by kernel_rfl
theorem tgS_star {n : ByteArray} {j : Nat} (hj : j < 4) : uy ⟨n, bAll⟩ ≠ gQ j := by
  intro e
  have e1 := congrArg (fun b => (cO b).getLast?) e
  have e2 : (cO (uy ⟨n, bAll⟩)).getLast? = some 42 := by
    unfold uy cO
    simp [ByteArray.data_append, bAll]
  simp only [e2] at e1
  rcases j with _ | _ | _ | _ | j
  · exact absurd e1 (by decide)
  · exact absurd e1 (by decide)
  · exact absurd e1 (by decide)
  · exact absurd e1 (by decide)
  · omega
theorem tgS_inj_all {n : ByteArray} (h : uy ⟨n, bAll⟩ = uy ⟨dP, bAll⟩) : n = dP := by
  have := congrArg cO h
  unfold uy at this
  have e : ∀ a b : ByteArray, cO (a ++ b) = cO a ++ cO b := fun a b => by simp [cO, ByteArray.data_append]
  simp only [e] at this
  rw [List.append_cancel_right_eq, List.append_cancel_right_eq] at this
  rw [← lQ n, this, lQ]
theorem agr_user {ts : List Ty} (h : EC ts) {ss : List ByteArray} (hss : ∀ s ∈ ss, s ∈ pO) {K : Sj → Nat} (hr : Run (aH ts (ss.map tt)) (bF (ss.map tt)) (aT ts) (fun _ => 0) K) (hl : (aH ts (ss.map tt)).length ≤ 64) {j : Nat} (hj : j < 4) {kb : Sj → Bool} (hb : oM ⟨dP, NI j⟩ (bF (ss.map tt)) (p9 ++ [vT]) (fun _ => false) kb) (q : Sj) :
    gQ j ∈ iH (K q) (aH ts (ss.map tt)) ↔ kb q = true ∧ ∃ s ∈ ss, endsB s (gQ j) = true := by
  have key : ∀ s ∈ ss, _ := fun s hs => List.all_eq_true.1 agr_all s (hss s hs)
  unfold agrB at key
  simp only [Bool.and_eq_true, List.all_eq_true, List.mem_range, decide_eq_true_eq, Bool.not_eq_true', decide_eq_false_iff_not, Bool.or_eq_true] at key
  have bit : ∀ i : Nat, (aH ts (ss.map tt))[i]? = some ⟨dP, NI j⟩ → (K q).testBit i = kb q := fun i hi => by
    have := runB_one (h.bit hr hl hi) hb
    exact congrFun this q
  rw [yM]
  constructor
  · rintro ⟨i, t, hi, JP, e⟩
    have hm := List.mem_of_getElem? hi
    have : ∃ s ∈ ss, endsB s (gQ j) = true ∧ t = ⟨dP, NI j⟩ := by
      unfold aH at hm
      rcases List.mem_append.1 hm with hm | hm
      · obtain ⟨y, _, rfl⟩ := List.mem_map.1 hm
        exact absurd e (tgS_star hj)
      · obtain ⟨u, hu, hm⟩ := List.mem_flatMap.1 hm
        obtain ⟨s, hs, rfl⟩ := List.mem_map.1 hu
        obtain ⟨⟨⟨⟨k1, k2⟩, k3⟩, k4⟩, k5⟩ := key s hs
        obtain ⟨⟨q1, q2⟩, q3⟩ := k1 j hj
        simp only [p8, List.mem_cons, List.not_mem_nil, or_false] at hm
        rcases hm with rfl | rfl
        · exact absurd e q1
        · have he : endsB s (gQ j) = true := by
            rw [← q2]
            exact decide_eq_true e
          refine ⟨s, hs, he, ?_⟩
          rcases q3 with q3 | q3
          · rw [he] at q3; cases q3
          · show (⟨(dw s).1.sub, (dw s).1.who⟩ : Tg) = _
            rw [q3.1, q3.2]
    obtain ⟨s, hs, he, rfl⟩ := this
    exact ⟨(bit i hi) ▸ JP, s, hs, he⟩
  · rintro ⟨hk, s, hs, he⟩
    obtain ⟨⟨⟨⟨k1, k2⟩, k3⟩, k4⟩, k5⟩ := key s hs
    obtain ⟨⟨q1, q2⟩, q3⟩ := k1 j hj
    rcases q3 with q3 | q3
    · rw [he] at q3; cases q3
    · have hm : (⟨dP, NI j⟩ : Tg) ∈ aH ts (ss.map tt) := List.mem_append_right _ (List.mem_flatMap.2 ⟨tt s, List.mem_map.2 ⟨s, hs, rfl⟩, by
        simp only [p8, List.mem_cons, List.not_mem_nil, or_false]
        right
        show _ = (⟨(dw s).1.sub, (dw s).1.who⟩ : Tg)
        rw [q3.1, q3.2]⟩)
      obtain ⟨i, hi⟩ := List.mem_iff_getElem?.1 hm
      exact ⟨i, _, hi, (bit i hi).trans hk, BZ hj⟩
theorem evalS_who {kb : Sj → Bool} {a b : Tg} {kd id rel : ByteArray} {ts : List Tu} (h : ∀ t ∈ ts, jF (ed t) a = jF (ed t) b) : ∀ sh, eu kb a kd id ts rel sh = eu kb b kd id ts rel sh
  | ⟨k, n, m, some x, some y⟩ => by rw [eu, eu, evalS_who h x, evalS_who h y]
  | ⟨k, n, m, none, r⟩ => by
    rw [eu, eu]
    split
    · rw [Bool.eq_iff_iff, List.any_eq_true, List.any_eq_true]
      have e : ∀ t ∈ ts, gV kb a (ed t) = gV kb b (ed t) := fun t ht => by unfold gV; rw [h t ht]
      exact ⟨fun ⟨t, ht, q⟩ => ⟨t, ht, by rw [← e t ht]; exact q⟩, fun ⟨t, ht, q⟩ => ⟨t, ht, by rw [e t ht]; exact q⟩⟩
    · rfl
  | ⟨_, _, _, some _, none⟩ => by rw [eu, eu]
theorem sol_who {a b : Tg} {hs : List Hp} (h : ∀ y ∈ hs, ∀ t ∈ y.ts, jF (ed t) a = jF (ed t) b) {g : List R3} {k0 k1 : Sj → Bool} (k : Gu a hs g k0 k1) : Gu b hs g k0 k1 where
  old := k.old
  fix := fun x hx y hy e => by rw [← evalS_who (h y hy)]; exact k.fix x hx y hy e
  least := fun k' o' c' => k.least k' o' (fun x hx y hy e he => by
    rw [evalS_who (h y hy)] at he
    exact c' x hx y hy e he)
theorem run_who {a b : Tg} {hs : List Hp} (h : ∀ y ∈ hs, ∀ t ∈ y.ts, jF (ed t) a = jF (ed t) b) : ∀ {gs : List (List R3)} {k0 k : Sj → Bool}, oM a hs gs k0 k → oM b hs gs k0 k
  | [], k0, k, r => r
  | g :: gs, k0, k, ⟨k1, h1, h2⟩ => ⟨k1, sol_who h h1, run_who h h2⟩
theorem agr_new {ts : List Ty} (h : EC ts) {ss : List ByteArray} (hss : ∀ s ∈ ss, s ∈ pO) {K : Sj → Nat} (hr : Run (aH ts (ss.map tt)) (bF (ss.map tt)) (aT ts) (fun _ => 0) K) (hl : (aH ts (ss.map tt)).length ≤ 64) {kb : Sj → Bool} (hb : oM ⟨dP, bNew⟩ (bF (ss.map tt)) (p9 ++ [vT]) (fun _ => false) kb) (q : Sj) :
    uy ⟨dP, bAll⟩ ∈ iH (K q) (aH ts (ss.map tt)) ↔ kb q = true := by
  have key : ∀ s ∈ ss, _ := fun s hs => List.all_eq_true.1 agr_all s (hss s hs)
  unfold agrB at key
  simp only [Bool.and_eq_true, List.all_eq_true, List.mem_range, decide_eq_true_eq, Bool.not_eq_true', decide_eq_false_iff_not, Bool.or_eq_true] at key
  have hb' : oM ⟨dP, bAll⟩ (bF (ss.map tt)) (p9 ++ [vT]) (fun _ => false) kb := run_who (fun y hy t ht => by
    rw [((jd _).ts y hy).1, List.mem_filter] at ht
    obtain ⟨s, hs, rfl⟩ := List.mem_map.1 ht.1
    exact (key s hs).1.1.1.2) hb
  have bit : ∀ i : Nat, (aH ts (ss.map tt))[i]? = some ⟨dP, bAll⟩ → (K q).testBit i = kb q := fun i hi => congrFun (runB_one (h.bit hr hl hi) hb') q
  have hu : ∃ t ∈ ts, t.name = dP := by
    have := star_t
    rw [h.read] at this
    obtain ⟨t, ht, e⟩ := List.any_eq_true.1 this
    exact ⟨t, ht, by simpa using e⟩
  rw [yM]
  constructor
  · rintro ⟨i, t, hi, JP, e⟩
    have hm := List.mem_of_getElem? hi
    have : t = ⟨dP, bAll⟩ := by
      unfold aH at hm
      rcases List.mem_append.1 hm with hm | hm
      · obtain ⟨y, _, rfl⟩ := List.mem_map.1 hm
        have := tgS_inj_all (n := y.name) e
        show (⟨y.name, _⟩ : Tg) = _
        rw [this]
        rfl
      · obtain ⟨u, hu, hm⟩ := List.mem_flatMap.1 hm
        obtain ⟨s, hs, rfl⟩ := List.mem_map.1 hu
        obtain ⟨⟨⟨⟨k1, k2⟩, k3⟩, k4⟩, k5⟩ := key s hs
        simp only [p8, List.mem_cons, List.not_mem_nil, or_false] at hm
        rcases hm with rfl | rfl
        · exact absurd e k3
        · rcases k4 with k4 | k4
          · exact absurd e k4
          · show (⟨(dw s).1.sub, (dw s).1.who⟩ : Tg) = _
            rw [k4.1, k4.2]
    subst this
    exact (bit i hi) ▸ JP
  · intro hk
    obtain ⟨t, ht, e⟩ := hu
    have hm : (⟨dP, bAll⟩ : Tg) ∈ aH ts (ss.map tt) := List.mem_append_left _ (List.mem_map.2 ⟨t, ht, by show (⟨t.name, _⟩ : Tg) = _; rw [e]; rfl⟩)
    obtain ⟨i, hi⟩ := List.mem_iff_getElem?.1 hm
    exact ⟨i, _, hi, (bit i hi).trans hk, rfl⟩
end Go.Proofs.YtlbpnlngckgcbaaGreatDoor

namespace Go.Proofs.YtlbpnlngckgcbaaGreatDoor
open Go.RowKit Go.PlainAid
theorem sortM_perm (l : List ByteArray) : (iG l).Perm l := by
  rw [sort_same]
  have := (foldl_ins l [] List.Pairwise.nil).2
  rw [List.nil_append] at this
  exact this
theorem held_texts {ts : List Ty} (h : EC ts) {ss : List ByteArray} (hss : ∀ s ∈ ss, s ∈ allG2) : (ss.map tt).map tuS = ss := by
  rw [List.map_map]
  conv => rhs; rw [← List.map_id ss]
  exact List.map_congr_left (fun s hs => tup_text (h.lets2 s (hss s hs)).1)
theorem sortM_str {l : List ByteArray} (h : l.Nodup) : StrO (iG l) := by
  have h1 := sortM_sorted l
  have h2 : (iG l).Nodup := (sortM_perm l).nodup_iff.2 h
  exact h1.and h2
theorem usr_t : (match lM pM with | .ok ts => (cu ts dP).isSome | .error _ => false) = true := by kernel_rfl
theorem user_facts {j : Nat} (h : j < 4) : (ax (gQ j) 58).1 = dP ∧ dR (gQ j) = true ∧ (gQ j).size = 7 := by
  rcases j with _ | _ | _ | _ | d <;> first | omega | (refine ⟨?_, ?_, ?_⟩ <;> kernel_rfl)
def AgPost (gs : List Tu) (q : Sj) (who : Tg) (w : World) (e : Ending) (w' : World) : Prop := ∃ kb, e = .returned (.tuple #[.bool (kb q), .int .i64 0]) ∧ Below w.heap.size w w' ∧ oM who (bF gs) (p9 ++ [vT]) (fun _ => false) kb
theorem agr_check {x : Nat} {mv lv gv : Value} {w : World} {ts : List Ty} {gs : List Tu} (hu : UQ w x mv lv gv ts gs) (hE : yN w) (ht : EC ts) (hg : GdL gs) (hl : gs.length ≤ 24) {d : Nat} (hd : d < 10) {c : ByteArray} (hc : c ∈ [lw, bH, qj, dM, vS]) {W id : ByteArray} (hw : (ax W 58).1 = dP ∧ dR W = true ∧ W.size ≤ 1000) (hid : (ax W 58).2.1 = id) :
    Calls Tryz.prog 26 #[.pointer (some ⟨x, 0, none⟩), .string (ib d), .string c, .string W] w (AgPost gs ⟨eP, qa d, c⟩ ⟨dP, id⟩ w) := by
  obtain ⟨d1, d2, d3⟩ := doc_facts2 hd
  obtain ⟨f1, f2⟩ := rel_fits hc
  obtain ⟨t, r, hf, hq⟩ := ht.rel c hc
  obtain ⟨t', hf'⟩ : ∃ t', cu ts dP = some t' := by
    have := usr_t
    rw [ht.read] at this
    exact Option.isSome_iff_exists.1 this
  refine (check_ok x mv lv gv ts gs w hu (purL ht hg hl) (ib d) c W (by omega) d2 f1 f2 t (by rw [d1]; exact hf) r hq hw.2.2 hw.2.1 t' (by rw [hw.1]; exact hf') hE.max (by have := hE.lt; omega)).mono ?_
  rintro e w' ⟨kb, rfl, hb, hr⟩
  rw [d1, hw.1, hid] at *
  rw [ht.grp] at hr
  exact ⟨kb, rfl, hb, hr⟩
theorem s9_tup : tt s9B = ⟨eP, qa 9, bH, dP, NI 9, ⟨#[]⟩⟩ := by kernel_rfl
theorem not_9 : (pO.all fun s => !(decide ((dw s).1.kind = eP) && decide ((dw s).1.id = qa 9))) = true := by kernel_rfl
theorem un9 : ((NI 9).toList == [42]) = false := by kernel_rfl
theorem s9_out : s9B ∉ pO := by
  have h : (pO.all fun s => !decide (s = s9B)) = true := by kernel_rfl
  intro hm
  have := List.all_eq_true.1 h _ hm
  simp at this
theorem s9_in : s9B ∈ allG2 := List.mem_append_right _ (by simp)
theorem agr_last {ts : List Ty} (h : EC ts) {ss : List ByteArray} (hss : ∀ s ∈ ss, s ∈ pO) {l : List ByteArray} (hl : (aH ts ((ss ++ [s9B]).map tt)).length ≤ 64) (hw : IsW ts ((ss ++ [s9B]).map tt) ⟨eP, qa 9, vS⟩ l) : l = [uy ⟨dP, NI 9⟩] := by
  obtain ⟨K, hr, rfl⟩ := hw
  have ht : (⟨eP, qa 9, bH, dP, NI 9, ⟨#[]⟩⟩ : Tu) ∈ (ss ++ [s9B]).map tt := List.mem_map.2 ⟨s9B, by simp, s9_tup⟩
  have hno : ∀ t ∈ (ss ++ [s9B]).map tt, t.kind = eP → t.id = qa 9 → t = ⟨eP, qa 9, bH, dP, NI 9, ⟨#[]⟩⟩ := fun t ht e1 e2 => by
    obtain ⟨s, hs, rfl⟩ := List.mem_map.1 ht
    rcases List.mem_append.1 hs with hs | hs
    · have := List.all_eq_true.1 not_9 s (hss s hs)
      have e1' : (dw s).1.kind = eP := e1
      have e2' : (dw s).1.id = qa 9 := e2
      rw [e1', e2'] at this
      simp at this
    · rw [List.mem_singleton] at hs
      subst hs
      rw [s9_tup]
  generalize (ss ++ [s9B]).map tt = gs at *
  obtain ⟨y, hy, e⟩ := (jd gs).all _ ht
  obtain ⟨e1, e2⟩ := dn.1 e
  have e1' : y.kd = eP := e1
  have e2' : y.id = qa 9 := e2
  have hty : (⟨eP, qa 9, bH, dP, NI 9, ⟨#[]⟩⟩ : Tu) ∈ y.ts := by
    rw [((jd gs).ts y hy).1, List.mem_filter]
    exact ⟨ht, e⟩
  have hts : ∀ t ∈ y.ts, t = ⟨eP, qa 9, bH, dP, NI 9, ⟨#[]⟩⟩ := fun t wT => by
    rw [((jd gs).ts y hy).1, List.mem_filter] at wT
    obtain ⟨f1, f2⟩ := dn.1 wT.2
    exact hno t wT.1 (f1.symm.trans e1') (f2.symm.trans e2')
  have bit : ∀ i t, (aH ts gs)[i]? = some t → (K ⟨eP, qa 9, vS⟩).testBit i = pY t ⟨dP, NI 9⟩ := fun i t hi => by
    have hb := h.bit hr hl hi
    show (fun s => (K s).testBit i) (⟨eP, qa 9, vS⟩ : Sj) = _
    generalize (fun s => (K s).testBit i) = kb at hb ⊢
    obtain ⟨Na, k3', q⟩ := Ho hb hy e1'
    obtain ⟨k4, hA, k5, h5, e5⟩ := mU hb
    have Rz : kb = k5 := e5
    subst Rz
    obtain ⟨k1, h1, k2, h2, k3, h3, k4', h4, e4⟩ := hA
    have e4' : k4 = k4' := e4
    subst e4'
    obtain rfl := BS h2
    obtain rfl := BS h4
    have f5 := h5.fix ⟨eP, vS, rP (gP gp (rO dM)) (rO qj)⟩ (List.mem_singleton.2 rfl) y hy e1'
    have f1 := h1.fix ⟨eP, qj, gp⟩ (by simp) y hy e1'
    rw [e1'] at f5 f1
    have q3 : kb ⟨eP, y.id, qj⟩ = k2 ⟨eP, y.id, qj⟩ := (h5.old _ (Hg (fun x hx => by
      simp only [vT, List.mem_singleton] at hx
      subst hx
      decide))).trans (h3.old _ (Hg (fun x hx => by
      rw [List.mem_singleton] at hx
      subst hx
      decide)))
    have none : ∀ (c : ByteArray) (p : Tu → Bool), bH ≠ c → y.ts.any (fun t => decide (t.rel = c) && p t) = false := fun c p hc => by
      rw [List.any_eq_false]
      intro t wT
      rw [hts t wT]
      simp [hc]
    have nb : k2 ⟨eP, y.id, qj⟩ = false := by
      rw [← f1]
      simp only [gp, eu, if_true]
      exact none qj _ (by decide)
    have e3 : (⟨eP, qa 9, vS⟩ : Sj) = ⟨eP, y.id, vS⟩ := by rw [e2']
    rw [e3, ← f5]
    simp only [rP, gP, gp, rO, eu, if_true]
    simp only [Nat.reduceEqDiff, if_false, if_true]
    rw [q3, nb, none vS _ (by decide)]
    have qe : kb ⟨eP, y.id, dM⟩ = pY t ⟨dP, NI 9⟩ := by
      refine q.trans ?_
      rw [none dM _ (by decide), none lw _ (by decide)]
      rw [Bool.false_or, Bool.or_false, Bool.eq_iff_iff, List.any_eq_true]
      have hm : gV Na t (ed ⟨eP, qa 9, bH, dP, NI 9, ⟨#[]⟩⟩) = pY t ⟨dP, NI 9⟩ := by
        simp [gV, ed, jF, un9, Hf]
      constructor
      · rintro ⟨u, hu, hq⟩
        rw [hts u hu] at hq
        simp only [decide_true, Bool.true_and] at hq
        rw [← hm]; exact hq
      · intro hq
        exact ⟨_, hty, by simp only [decide_true, Bool.true_and]; rw [hm]; exact hq⟩
    rw [qe]
    simp
  refine str_one _ _ (whoL_str _ _) (by simp [StrO]) (fun s => ?_)
  rw [yM, List.mem_singleton]
  constructor
  · rintro ⟨i, t, hi, hb, rfl⟩
    rw [bit i t hi] at hb
    unfold pY at hb
    rw [Bool.and_eq_true, eT, eT] at hb
    obtain ⟨a, b⟩ := t
    obtain ⟨rfl, rfl⟩ : a = dP ∧ b = NI 9 := hb
    rfl
  · rintro rfl
    have hm : (⟨dP, NI 9⟩ : Tg) ∈ aH ts gs := List.mem_append_right _ (List.mem_flatMap.2 ⟨_, ht, by simp [p8]⟩)
    obtain ⟨i, hi⟩ := List.mem_iff_getElem?.1 hm
    exact ⟨i, _, hi, by rw [bit i _ hi]; simp [pY, (eT _ _).2 rfl], rfl⟩
end Go.Proofs.YtlbpnlngckgcbaaGreatDoor

namespace Go.Proofs.YtlbpnlngckgcbaaGreatDoor
open Go.RowKit Go.PlainAid
theorem strO_at {l : List ByteArray} (h : StrO l) {k : Nat} (hk : k + 1 < l.length) : ltB l[k] l[k + 1] = true := by
  have := List.pairwise_iff_getElem.1 h k (k + 1) (by omega) hk (by omega)
  cases e : ltB l[k] l[k + 1]
  · exact absurd (leB_anti this.1 (leB_of_not e)) this.2
  · rfl
theorem orderedQ_yes (base : Nat) (v : Value) (l : List ByteArray) (w : World) (h : w.ownsRow base 9 1 v l.length (jZ l)) (hs : StrO l) (hl : l.length ≤ 100000) :
    Calls Tryz.prog 30 #[v] w fun e w' => e = .returned (.bool true) ∧ Below w.heap.size w w' := by
  obtain ⟨a, c, rfl⟩ := ak h
  have H := ae h
  have HS := ae hs
  clear h hs
  go_enter Tryz.func30, Tryz.ntmps30
  go_wp2_with fail
  go_loopw [3] (fun u wr => ∃ k : Nat, u = .int .i64 ((k : Int) + 1) ∧ k ≤ l.length ∧ Below w.heap.size w wr) (fun u _ => l.length - (intOf u).toNat)
  case atStart => exact ⟨0, rfl, by omega, Below.refl _ _⟩
  case round =>
    obtain ⟨k, rfl, hk, hb⟩ := hrel
    have HB := ae hb
    by_cases hlt : k + 1 < l.length
    · have hkn : (k : Int) + 1 < (l.length : Int) := by omega
      have hkm : (k : Int) < (l.length : Int) := by omega
      have r1 := aF (aa H) hb
      obtain ⟨g1, d1, e1, k1⟩ := aQ r1 k (.string (l[k]'(by omega))) (by simp [jZ, show k < l.length by omega])
      obtain ⟨g2, d2, e2, k2⟩ := aQ r1 (k + 1) (.string l[k + 1]) (by simp [jZ, hlt])
      simp only [Value.slice.injEq, true_and] at e1 e2
      obtain ⟨rfl, rfl⟩ := e1
      simp only [Option.some.injEq, Addr.mk.injEq, and_true, true_and] at e2
      obtain ⟨rfl, rfl⟩ := e2
      have hq := strO_at (aa HS) hlt
      unfold ltB at hq
      generalize l[k]'(by omega) = x at *
      generalize l[k + 1] = y at *
      clear hb r1
      go_wp2_with fail
      go_region
      go_wp2_with fail
      exact ⟨⟨k + 1, by go_num, by omega, (aa HB).drew⟩, by simp [intOf]; omega⟩
    · have hkn : ¬ ((k : Int) + 1 < (l.length : Int)) := by omega
      clear hb
      go_wp2
      go_ret
      exact ⟨rfl, aa HB⟩
end Go.Proofs.YtlbpnlngckgcbaaGreatDoor

namespace Go.Proofs.YtlbpnlngckgcbaaGreatDoor
open Go.RowKit Go.PlainAid
def relB : Nat → ByteArray
  | 0 => ⟨#[111, 119, 110, 101, 114]⟩
  | 1 => ⟨#[101, 100, 105, 116, 111, 114]⟩
  | 2 => ⟨#[118, 105, 101, 119, 101, 114]⟩
  | _ => ⟨#[98, 97, 110, 110, 101, 100]⟩
theorem rel_in {a : Nat} (h : a < 4) : relB a ∈ [lw, bH, qj, dM, vS] := by
  rcases a with _ | _ | _ | _ | a
  · exact List.mem_cons_of_mem _ List.mem_cons_self
  · exact List.mem_cons_of_mem _ (List.mem_cons_of_mem _ (List.mem_cons_of_mem _ List.mem_cons_self))
  · exact List.mem_cons_of_mem _ (List.mem_cons_of_mem _ (List.mem_cons_of_mem _ (List.mem_cons_of_mem _ List.mem_cons_self)))
  · exact List.mem_cons_of_mem _ (List.mem_cons_of_mem _ List.mem_cons_self)
  · omega
theorem rel_cell (w : World) {a : Nat} (h : a < 4) : (w.alloc (.cells #[.string ⟨#[111, 119, 110, 101, 114]⟩, .string ⟨#[101, 100, 105, 116, 111, 114]⟩, .string ⟨#[118, 105, 101, 119, 101, 114]⟩, .string ⟨#[98, 97, 110, 110, 101, 100]⟩] 9)).cell? ⟨w.heap.size, a, none⟩ = some (.string (relB a)) := by
  have q := World.news_of_block (B := w.heap.size) (cs := #[.string ⟨#[111, 119, 110, 101, 114]⟩, .string ⟨#[101, 100, 105, 116, 111, 114]⟩, .string ⟨#[118, 105, 101, 119, 101, 114]⟩, .string ⟨#[98, 97, 110, 110, 101, 100]⟩]) (t := 9) (fr := (0, 0)) (ag.new w _ _)
  rcases a with _ | _ | _ | _ | a
  · exact q 0 _ rfl
  · exact q 1 _ rfl
  · exact q 2 _ rfl
  · exact q 3 _ rfl
  · omega
section
variable {B : Nat} {w : World} {x : Nat} {ts : List Ty} {ss : List ByteArray}
theorem mg_grants (h : EP B w x ts (ss.map tt)) (ht : EC ts) (hss : ∀ s ∈ ss, s ∈ allG2) :
    Calls Tryz.prog 29 #[.pointer (some ⟨x, 0, none⟩)] w (GrPost (iG ss) w) := by
  obtain ⟨mv, lv, gv, h1, _⟩ := h
  have := pgrants_any x w mv lv gv _ h1.p (fun t ht => (tuGB_all (gdL_map hss t ht)).2.2.2.2.2.2.2)
  rw [held_texts ht hss] at this
  exact this
theorem mg_who (h : EP B w x ts (ss.map tt)) (hE : yN w) (ht : EC ts) (hss : ∀ s ∈ ss, s ∈ allG2) (hl : ss.length ≤ 24) {d : Nat} (hd : d < 10) {c : ByteArray} (hc : c ∈ [lw, bH, qj, dM, vS]) :
    Calls Tryz.prog 31 #[.pointer (some ⟨x, 0, none⟩), .string (ib d), .string c] w (AU ts (ss.map tt) ⟨eP, qa d, c⟩ w) := by
  obtain ⟨mv, lv, gv, h1, _⟩ := h
  exact un_whoU h1 hE ht (gdL_map hss) (by simpa using hl) hd hc
theorem mg_check (h : EP B w x ts (ss.map tt)) (hE : yN w) (ht : EC ts) (hss : ∀ s ∈ ss, s ∈ allG2) (hl : ss.length ≤ 24) {d : Nat} (hd : d < 10) {c : ByteArray} (hc : c ∈ [lw, bH, qj, dM, vS]) {W id : ByteArray} (hw : (ax W 58).1 = dP ∧ dR W = true ∧ W.size ≤ 1000) (hid : (ax W 58).2.1 = id) :
    Calls Tryz.prog 26 #[.pointer (some ⟨x, 0, none⟩), .string (ib d), .string c, .string W] w (AgPost (ss.map tt) ⟨eP, qa d, c⟩ ⟨dP, id⟩ w) := by
  obtain ⟨mv, lv, gv, h1, _⟩ := h
  exact agr_check h1 hE ht (gdL_map hss) (by simpa using hl) hd hc hw hid
end
structure AgI (ts : List Ty) (ss gl l : List ByteArray) (q : Sj) : Prop where
  dnzq : DnI ss
  mem : ∀ s, s ∈ gl ↔ s ∈ ss
  who : ∀ j, j < 4 → ∀ kb, oM ⟨dP, NI j⟩ (bF (ss.map tt)) (p9 ++ [vT]) (fun _ => false) kb → (gQ j ∈ l ↔ kb q = true ∧ ∃ s ∈ ss, endsB s (gQ j) = true)
  new : ∀ kb, oM ⟨dP, bNew⟩ (bF (ss.map tt)) (p9 ++ [vT]) (fun _ => false) kb → (uy ⟨dP, bAll⟩ ∈ l ↔ kb q = true)
  len : l.length ≤ 64
theorem gr_size {s : ByteArray} (h : s ∈ pO) : 7 ≤ s.size ∧ s.size ≤ 1000 := by
  have k : (pO.all fun s => decide (7 ≤ s.size) && decide (s.size ≤ 1000)) = true := by kernel_rfl
  have := List.all_eq_true.1 k s h
  simpa using this
end Go.Proofs.YtlbpnlngckgcbaaGreatDoor

namespace Go.Proofs.YtlbpnlngckgcbaaGreatDoor
open Go.RowKit Go.PlainAid
theorem agreed_law (v : Value) (n : Nat) (what : Int) (w : World) (h : JY w v n) (hn : n ≤ 4398046511104) (hwh : uA what) (hE : yN w) :
    Calls Tryz.prog 10 #[v, .int .i64 what] w fun e w' => e = .returned (.bool true) ∧ Below w.heap.size w w' := by
  have hv : ∃ a c, v = .slice a n c ∧ (0 < n → ∃ ad, a = some ad) := by
    rcases h with ⟨rfl, rfl⟩ | ⟨ad, c, z, rfl, h1, _⟩
    · exact ⟨_, _, rfl, by omega⟩
    · exact ⟨_, _, rfl, fun _ => ⟨_, rfl⟩⟩
  obtain ⟨ra, rc, rfl, hra⟩ := hv
  obtain ⟨ts, ht⟩ := Ng
  have hlt := hE.lt
  have C1 := ae (EH pM ts ht.read w hE.laid)
  unfold pM at C1
  have P0 := ae (fun w' => gu what 4 w' hwh (by omega) (by omega))
  have la := mX what (n := 4) (by omega)
  generalize BV what 4 = a at *
  have P1 := ae (fun w' => gu (wrap64 (what.tdiv 4)) 4 w' (vW (wrap64_wf _)) (by omega) (by omega))
  have ld := mX (wrap64 (what.tdiv 4)) (n := 4) (by omega)
  generalize BV (wrap64 (what.tdiv 4)) 4 = d at *
  have C2 := ae (fun w' => nV d (by omega) w')
  have HR := ae h
  have HRA := ae hra
  have HE := ae hE
  have HT := ae ht
  clear h hra hE ht
  go_enter Tryz.func10, Tryz.ntmps10
  go_wp2_with fail
  refine (aa C1).mono ?_
  rintro e w1 ⟨mv, lv, x, rfl, hu, hb1, hx⟩
  have HS := ae (show EP w.heap.size w1 x ts (([] : List ByteArray).map tt) from ⟨mv, lv, _, hu, fun k hk => by
    rcases hk with rfl | ⟨_, _, e⟩
    · exact hx
    · cases e⟩)
  have MN := ae hb1
  clear hu hb1 C1 hx
  go_wp2_with fail
  go_loopw [6, 7] (fun u6 u7 wr => ∃ (i : Nat) (ss : List ByteArray), u7 = .int .i64 i ∧ i ≤ n ∧ Below w.heap.size w wr ∧ EP w.heap.size wr x ts (ss.map tt) ∧ wr.ownsRow w.heap.size 9 1 u6 ss.length (jZ ss) ∧ Hid (DnI ss)) (fun _ u7 _ => n - (intOf u7).toNat)
  case atStart => exact ⟨0, [], rfl, by omega, aa MN, aa HS, World.ownsRow_nil _ _ _ _, ae ⟨(fun _ h => by cases h), by simp, by simp⟩⟩
  case round =>
    obtain ⟨i, ss, rfl, hi, hb, hS, hrow, HI⟩ := hrel
    obtain ⟨va, vc, rfl⟩ := ak hrow
    by_cases hit : i < n
    · have hin : (i : Int) < (n : Int) := by omega
      obtain ⟨ad, rfl⟩ := aa HRA (by omega)
      obtain ⟨o, PT, z0, z1, z2, z3⟩ := (aa HR).cell (Below.refl _ w) hit
      have x0 := af z0 hb
      have x1 := af z1 hb
      have x2 := af z2 hb
      have x3 := af z3 hb
      clear z0 z1 z2 z3
      have CD := ae (doneQ_any w.heap.size x o _ ts ss wr PT hS ((aa HE).below hb hlt) hlt hb.size (aa HT) hrow (aa HI))
      have HB := ae hb
      clear hb hS hrow PT
      go_wp2_with fail
      refine (aa CD).mono ?_
      rintro e w2 ⟨v2, ss2, rfl, hb2, hS2, hr2, hi2⟩
      have iK := ae ((aa HB).trans hb2)
      have Ih := ae hS2
      have bP := ae hr2
      have yC := ae hi2
      clear hb2 hS2 hr2 hi2 CD HB x0 x1 x2 x3
      go_wp2
      go_roundw
      case rel => exact ⟨i + 1, ss2, by go_num, by omega, aa iK, aa Ih, aa bP, yC⟩
      case measure => simp [intOf]; omega
    · have hin : ¬ ((i : Int) < (n : Int)) := by omega
      have iK := ae hb
      have Ih := ae hS
      have bP := ae hrow
      have hlen := (aa HI).len
      have HG2 := ae (gr_two (aa HI).gr)
      have CG := ae (mg_grants hS (aa HT) (aa HG2))
      have HGS := ae (sortM_str (aa HI).nd)
      have HGM := ae (fun s => (sortM_perm ss).mem_iff (a := s))
      have hgl := (sortM_perm ss).length_eq
      generalize iG ss = gl at *
      clear hb hS hrow
      go_wp2_with fail
      refine (aa CG).mono ?_
      rintro e w3 ⟨v3, rfl, hb3, hr3⟩
      have ww := ae ((aa iK).trans (hb3.mono (aa iK).size))
      have zJ := ae ((aa Ih).below hb3)
      have gD := ae (aF (aa bP) hb3)
      have COzq := ae (orderedQ_yes _ _ gl w3 hr3 (aa HGS) (by omega))
      rw [hgl] at hr3
      obtain ⟨ga, gc, rfl⟩ := ak hr3
      have uK := ae hr3
      have HGL := ae hgl
      clear hb3 hr3 CG iK Ih bP hgl
      go_wp2_with fail
      refine (aa COzq).mono ?_
      rintro e w4 ⟨rfl, hb4⟩
      have wy := ae ((aa ww).trans (hb4.mono (aa ww).size))
      have Nl := ae ((aa zJ).below hb4)
      have lD := ae (aF (aa gD) hb4)
      have E5 := ae (aF (aa uK) hb4)
      have b5 := (Below.refl w4.heap.size w4).alloc (Nat.le_refl _) (.cells #[.string ⟨#[111, 119, 110, 101, 114]⟩, .string ⟨#[101, 100, 105, 116, 111, 114]⟩, .string ⟨#[118, 105, 101, 119, 101, 114]⟩, .string ⟨#[98, 97, 110, 110, 101, 100]⟩] 9)
      have Qn := ae ((aa wy).trans (b5.mono (aa wy).size))
      have xe := ae ((aa Nl).below b5)
      have K9 := ae (aF (aa lD) b5)
      have nG := ae (aF (aa E5) b5)
      have y0 := rel_cell w4 la
      clear hb4 COzq ww zJ gD uK wy Nl lD E5 b5
      have lai : (a : Int) < 4 := by omega
      go_wp2_with fail
      refine (aa P0 _).mono ?_
      rintro e w5 ⟨rfl, iI⟩
      rw [iI]
      clear iI w5
      go_wp2_with fail
      refine (aa P1 _).mono ?_
      rintro e w5 ⟨rfl, iI⟩
      rw [iI]
      clear iI w5
      go_wp2_with fail
      refine (aa C2 _).mono ?_
      rintro e w5 ⟨rfl, iI⟩
      rw [iI]
      clear iI w5
      clear y0
      have HRI := ae (rel_in la)
      generalize w4.alloc (.cells #[.string ⟨#[111, 119, 110, 101, 114]⟩, .string ⟨#[101, 100, 105, 116, 111, 114]⟩, .string ⟨#[118, 105, 101, 119, 101, 114]⟩, .string ⟨#[98, 97, 110, 110, 101, 100]⟩] 9) = W5 at *
      generalize relB a = R at *
      have CW := ae (mg_who (aa xe) ((aa HE).below (aa Qn) hlt) (aa HT) (aa HG2) hlen (show d < 10 by omega) (aa HRI))
      go_wp2_with fail
      refine (aa CW).mono ?_
      rintro e w6 ⟨v6, K, rfl, Nz, hrun, hown⟩
      have hcl := (crowdL (aa HT) (gdL_map (aa HG2)) (by simpa using hlen)).2.1
      have HAG := ae (show AgI ts ss gl (iH (K ⟨eP, qa d, R⟩) (aH ts (ss.map tt))) ⟨eP, qa d, R⟩ from ⟨aa HI, aa HGM, fun j hj kb hb => agr_user (aa HT) (aa HI).gr hrun hcl hj hb _, fun kb hb => agr_new (aa HT) (aa HI).gr hrun hcl hb _, Nat.le_trans (rV _ _) hcl⟩)
      have HLS := ae (whoL_str (K ⟨eP, qa d, R⟩) (aH ts (ss.map tt)))
      generalize iH (K ⟨eP, qa d, R⟩) (aH ts (ss.map tt)) = l at *
      have hll := (aa HAG).len
      have COzq := ae (orderedQ_yes _ _ l w6 hown (aa HLS) (by omega))
      obtain ⟨wa, wc, rfl⟩ := ak hown
      have HB6 := ae ((aa Qn).trans (Nz.mono (aa Qn).size))
      have C8 := ae ((aa xe).below Nz)
      have HR6 := ae (aF (aa K9) Nz)
      have HG6 := ae (aF (aa nG) Nz)
      have HL6 := ae hown
      clear Nz hrun hown CW Qn xe K9 nG hcl HLS
      go_wp2_with fail
      refine (aa COzq).mono ?_
      rintro e w7 ⟨rfl, Lx⟩
      have HB7 := ae ((aa HB6).trans (Lx.mono (aa HB6).size))
      have LB := ae ((aa C8).below Lx)
      have HR7 := ae (aF (aa HR6) Lx)
      have HG7 := ae (aF (aa HG6) Lx)
      have HL7 := ae (aF (aa HL6) Lx)
      clear Lx COzq HB6 C8 HR6 HG6 HL6
      go_wp2_with fail
      go_loopw [18] (fun u18 wk => ∃ j : Nat, u18 = .int .i64 j ∧ j ≤ 4 ∧ Below w7.heap.size w7 wk) (fun u18 _ => 4 - (intOf u18).toNat)
      case atStart => exact ⟨0, rfl, by omega, Below.refl _ _⟩
      case round =>
        obtain ⟨j, rfl, hj, hbk⟩ := hrel
        have HK := ae hbk
        clear hbk
        by_cases NM : j < 4
        · have hjn : (j : Int) < 4 := by omega
          have CUzq := ae (fun w' => lC j (show j < 10 by omega) w')
          have huz := (kN (show j < 10 by omega)).1
          go_wp2_with fail
          go_loopw [19, 20] (fun u19 u20 wm => ∃ (m : Nat) (b : Bool), u20 = .int .i64 m ∧ m ≤ ss.length ∧ u19 = .bool b ∧ Below w7.heap.size w7 wm ∧ Hid (b = (gl.take m).any fun s => endsB s (gQ j))) (fun _ u20 _ => ss.length - (intOf u20).toNat)
          case atStart => exact ⟨0, false, rfl, by omega, rfl, aa HK, ae (by simp)⟩
          case round =>
            obtain ⟨m, b, rfl, hm, rfl, hbm, Qf⟩ := hrel
            have HM := ae hbm
            by_cases hml : m < ss.length
            · have OO : (m : Int) < (ss.length : Int) := by omega
              have hmg : m < gl.length := by rw [aa HGL]; exact hml
              obtain ⟨g, c', e1, hc⟩ := aQ (aF (aa HG7) hbm) m (.string gl[m]) (by unfold jZ; rw [List.getElem?_map, List.getElem?_eq_getElem hmg]; rfl)
              simp only [Value.slice.injEq, true_and] at e1
              obtain ⟨rfl, rfl⟩ := e1
              have HT2 := ae (show (gl.take (m + 1)).any (fun s => endsB s (gQ j)) = (b || endsB gl[m] (gQ j)) from by rw [aa Qf, List.take_succ_eq_append_getElem hmg, List.any_append]; simp)
              have HY := ae ((aa HGM _).1 (List.getElem_mem hmg))
              generalize gl[m] = Y at *
              obtain ⟨hy7, hyk⟩ := gr_size ((aa HI).gr _ (aa HY))
              have CP := ae (mY _ _ ss Y wr (aF (aa HR7) hbm) (by omega))
              clear hbm Qf
              go_wp2_with fail
              refine (aa CP).mono ?_
              rintro e w8 ⟨r, rfl, uB, hr⟩
              rw [uB]
              clear uB w8
              have J8 : ¬ (r < 0) := fun h => (hr.1 h) (aa HY)
              clear hr CP
              cases b
              · have HEQ := ae (show ((Y.extract (Y.size - 7) Y.size).toList == (gQ j).toList) = endsB Y (gQ j) from by
                  unfold endsB
                  rw [huz]
                  by_cases e : Y.extract (Y.size - 7) Y.size = gQ j
                  · rw [ug e, decide_eq_true e]
                  · rw [uf e, decide_eq_false e])
                go_wp2_with fail
                go_quiet ((go_at_call 33; exact Calls.quiet_of_same (aa CUzq _)))
                have QL := ae (below_drewN (aa HM) nq)
                generalize wr.drewN nq = W8 at *
                go_wp2_with fail
                exact ⟨⟨m + 1, _, by go_num, by omega, rfl, aa QL, ae (by rw [aa HT2, aa HEQ, Bool.false_or])⟩, by simp [intOf]; omega⟩
              · go_wp2_with fail
                go_region
                go_wp2_with fail
                exact ⟨⟨m + 1, true, by go_num, by omega, rfl, (aa HM).drew, ae (by rw [aa HT2, Bool.true_or])⟩, by simp [intOf]; omega⟩
            · have OO : ¬ ((m : Int) < (ss.length : Int)) := by omega
              have iL := ae (show b = true ↔ ∃ s ∈ ss, endsB s (gQ j) = true from by
                rw [aa Qf, List.take_of_length_le (by rw [aa HGL]; omega), List.any_eq_true]
                exact ⟨fun ⟨s, h1, h2⟩ => ⟨s, (aa HGM s).1 h1, h2⟩, fun ⟨s, h1, h2⟩ => ⟨s, (aa HGM s).2 h1, h2⟩⟩)
              have HBM := ae ((aa HB7).trans (hbm.mono (aa HB7).size))
              have hsm := hbm.size
              have CK := ae (mg_check ((aa LB).below hbm) ((aa HE).below (aa HBM) hlt) (aa HT) (aa HG2) hlen (show d < 10 by omega) (aa HRI) (W := gQ j) (id := NI j) ⟨(user_facts NM).1, (user_facts NM).2.1, by omega⟩ rfl)
              clear hbm Qf
              go_wp2_with fail
              refine (aa CUzq _).mono ?_
              rintro e w8 ⟨rfl, uB⟩
              rw [uB]
              clear uB w8
              go_wp2_with fail
              refine (aa CK).mono ?_
              rintro e w9 ⟨kb, rfl, hb9, hrun9⟩
              have HW9 := ae ((aa HAG).who j NM kb hrun9)
              generalize kb ⟨eP, qa d, R⟩ = t9 at *
              have HK9 := ae ((aa HM).trans (hb9.mono hsm))
              have CP := ae (mY _ _ l (gQ j) w9 (aF (aa HL7) (aa HK9)) (by omega))
              clear hb9 hrun9 CK HM HBM
              go_wp2_with fail
              refine (aa CUzq _).mono ?_
              rintro e w8 ⟨rfl, uB⟩
              rw [uB]
              clear uB w8
              go_wp2_with fail
              refine (aa CP).mono ?_
              rintro e w8 ⟨r, rfl, uB, hr⟩
              rw [uB]
              clear uB w8 CP
              by_cases hin9 : gQ j ∈ l
              · have J8 : ¬ (r < 0) := fun h => (hr.1 h) hin9
                have hr1 : (0 : Int) ≤ r := by omega
                have h9 := (aa HW9).1 hin9
                have nZ : b = true := (aa iL).2 h9.2
                have wT : t9 = true := h9.1
                subst nZ
                subst wT
                clear hr hin9 h9
                go_wp2
                go_roundw
                case rel => exact ⟨j + 1, by go_num, by omega, aa HK9⟩
                case measure => simp [intOf]; omega
              · have J8 : r < 0 := hr.2 hin9
                have hr1 : ¬ ((0 : Int) ≤ r) := by omega
                have hnb : t9 = true → b = true → False := fun e1 e2 => hin9 ((aa HW9).2 ⟨e1, (aa iL).1 e2⟩)
                clear hr hin9
                cases t9
                · clear hnb
                  go_wp2
                  go_roundw
                  case rel => exact ⟨j + 1, by go_num, by omega, aa HK9⟩
                  case measure => simp [intOf]; omega
                · cases b
                  · clear hnb
                    go_wp2
                    go_roundw
                    case rel => exact ⟨j + 1, by go_num, by omega, aa HK9⟩
                    case measure => simp [intOf]; omega
                  · exact absurd rfl (fun e => hnb rfl e)
        · have hjn : ¬ ((j : Int) < 4) := by omega
          have HB8 := ae ((aa HB7).trans ((aa HK).mono (aa HB7).size))
          have QP := ae ((aa LB).below (aa HK))
          have HL8 := ae (aF (aa HL7) (aa HK))
          have CK := ae (mg_check (aa QP) ((aa HE).below (aa HB8) hlt) (aa HT) (aa HG2) hlen (show d < 10 by omega) (aa HRI) (W := ⟨#[117, 115, 101, 114, 58, 110, 101, 119]⟩) (id := bNew) ⟨by kernel_rfl, by kernel_rfl, by decide⟩ (by kernel_rfl))
          go_wp2_with fail
          refine (aa CK).mono ?_
          rintro e w9 ⟨kb, rfl, hb9, hrun9⟩
          have HN9 := ae ((aa HAG).new kb hrun9)
          generalize kb ⟨eP, qa d, R⟩ = t9 at *
          have HB9 := ae ((aa HB8).trans (hb9.mono (aa HB8).size))
          have HS9 := ae ((aa QP).below hb9)
          have CP := ae (mY _ _ l ⟨#[117, 115, 101, 114, 58, 42]⟩ w9 (aF (aa HL8) hb9) (by omega))
          clear hb9 hrun9 CK HB8 QP HL8
          go_wp2_with fail
          refine (aa CP).mono ?_
          rintro e w8 ⟨r, rfl, uB, hr⟩
          rw [uB]
          clear uB w8 CP
          have hnew : (0 ≤ r ↔ t9 = true) := by
            have e : uy ⟨dP, bAll⟩ = ⟨#[117, 115, 101, 114, 58, 42]⟩ := by kernel_rfl
            rw [← aa HN9, e]
            constructor
            · intro h
              by_cases hm : (⟨#[117, 115, 101, 114, 58, 42]⟩ : ByteArray) ∈ l
              · exact hm
              · have := hr.2 hm; omega
            · intro h
              by_cases h0 : r < 0
              · exact absurd h (hr.1 h0)
              · omega
          clear hr
          have HNW := ae hnew
          clear hnew
          by_cases hfull : ss.length = 24
          · have hfe : ((ss.length : Int) == 24) = true := by rw [hfull]; rfl
            have CXzq := ae (md_full (aa HS9) ((aa HE).below (aa HB9) hlt) (aa HT) (aa HG2) s9_in (fun hm => s9_out ((aa HI).gr _ hm)) hfull)
            have HFU := ae hfull
            unfold s9B at CXzq
            clear hfull
            go_wp2_with fail
            refine (aa CXzq).mono ?_
            rintro e w10 ⟨rfl, hs10, hb10, hk10⟩
            have HB10 := ae ((aa HB9).trans hb10)
            have CYzq := ae (md_full hs10 ((aa HE).below (aa HB10) hlt) (aa HT) (aa HG2) s9_in (fun hm => s9_out ((aa HI).gr _ hm)) (aa HFU))
            unfold s9B at CYzq
            clear hs10 hb10 hk10 CXzq
            go_wp2_with fail
            refine (aa CYzq).mono ?_
            rintro e w11 ⟨rfl, hs11, hb11, hk11⟩
            have HB11 := ae ((aa HB10).trans hb11)
            have CZzq := ae (show Calls Tryz.prog 31 #[.pointer (some ⟨x, 0, none⟩), .string ⟨#[100, 111, 99, 58, 100, 57]⟩, .string ⟨#[118, 105, 101, 119, 101, 114]⟩] w11 _ from mg_who hs11 ((aa HE).below (aa HB11) hlt) (aa HT) (aa HG2) hlen (show 9 < 10 by omega) (c := vS) (by simp))
            clear hs11 hb11 hk11 CYzq HB10
            go_wp2_with fail
            refine (aa CZzq).mono ?_
            rintro e w12 ⟨v12, K2, rfl, hb12, hrun12, hown12⟩
            have HB12 := ae ((aa HB11).trans (hb12.mono (aa HB11).size))
            obtain ⟨a12, c12, rfl⟩ := ak hown12
            clear hb12 hrun12 hown12 CZzq
            cases t9
            · have hr1 : ¬ ((0 : Int) ≤ r) := fun h => by have := (aa HNW).1 h; cases this
              go_wp2
              go_ret
              exact ⟨by show Ending.returned (Value.bool (!decide ((0 : Int) ≤ r))) = _; rw [decide_eq_false (show ¬ ((0 : Int) ≤ r) by omega)]; rfl, aa HB12⟩
            · have hr1 : (0 : Int) ≤ r := (aa HNW).2 rfl
              go_wp2
              go_ret
              exact ⟨rfl, aa HB12⟩
          · have hfe : ((ss.length : Int) == 24) = false := by rw [beq_eq_false_iff_ne]; omega
            have hfi : ¬ ((ss.length : Int) = 24) := by omega
            have IE := ae (show ∀ t ∈ ss ++ [s9B], t ∈ allG2 from fun t ht => by
              rcases List.mem_append.1 ht with ht | ht
              · exact aa HG2 t ht
              · rw [List.mem_singleton] at ht; subst ht; exact s9_in)
            have CXzq := ae (md_new (aa HS9) ((aa HE).below (aa HB9) hlt) (aa HT) (aa HG2) s9_in (fun hm => s9_out ((aa HI).gr _ hm)) (by omega))
            have wM := ae (show (ss ++ [s9B]).length ≤ 24 from by simp; omega)
            have HCR := ae (crowdL (aa HT) (gdL_map (aa IE)) (by simpa using aa wM)).2.1
            go_wp2_with fail
            refine (aa CXzq).mono ?_
            rintro e w10 ⟨rfl, hs10, hb10, hk10⟩
            have HB10 := ae ((aa HB9).trans hb10)
            have CYzq := ae (md_twice hs10 ((aa HE).below (aa HB10) hlt) (aa HT) s9_in (by simp) (aa wM))
            clear hs10 hb10 hk10 CXzq
            go_wp2_with fail
            refine (aa CYzq).mono ?_
            rintro e w11 ⟨rfl, hs11, hb11, hk11⟩
            have HB11 := ae ((aa HB10).trans hb11)
            have CZzq := ae (show Calls Tryz.prog 31 #[.pointer (some ⟨x, 0, none⟩), .string ⟨#[100, 111, 99, 58, 100, 57]⟩, .string ⟨#[118, 105, 101, 119, 101, 114]⟩] w11 _ from mg_who hs11 ((aa HE).below (aa HB11) hlt) (aa HT) (aa IE) (aa wM) (show 9 < 10 by omega) (c := vS) (by simp))
            clear hs11 hb11 hk11 CYzq HB10
            go_wp2_with fail
            refine (aa CZzq).mono ?_
            rintro e w12 ⟨v12, K2, rfl, hb12, hrun12, hown12⟩
            rw [agr_last (aa HT) (aa HI).gr (aa HCR) ⟨K2, hrun12, rfl⟩] at hown12
            have HB12 := ae ((aa HB11).trans (hb12.mono (aa HB11).size))
            obtain ⟨g, c', e1, hc⟩ := aQ hown12 0 (.string (uy ⟨dP, NI 9⟩)) rfl
            subst e1
            have hu0 : (uy ⟨dP, NI 9⟩).toList == [117, 115, 101, 114, 58, 117, 57] := by kernel_rfl
            clear hb12 hrun12 hown12 CZzq
            cases t9
            · have hr1 : ¬ ((0 : Int) ≤ r) := fun h => by have := (aa HNW).1 h; cases this
              go_wp2
              go_ret
              exact ⟨by show Ending.returned (Value.bool (!decide ((0 : Int) ≤ r))) = _; rw [decide_eq_false (show ¬ ((0 : Int) ≤ r) by omega)]; rfl, aa HB12⟩
            · have hr1 : (0 : Int) ≤ r := (aa HNW).2 rfl
              go_wp2
              go_ret
              exact ⟨rfl, aa HB12⟩
end Go.Proofs.YtlbpnlngckgcbaaGreatDoor

