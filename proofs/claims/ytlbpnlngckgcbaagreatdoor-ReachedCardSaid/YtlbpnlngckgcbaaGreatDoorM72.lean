import Derived.Test.YtlbpnlngckgcbaaGreatDoorM31
import Derived.Test.YtlbpnlngckgcbaaGreatDoorM01
import Derived.Test.YtlbpnlngckgcbaaGreatDoorM02
import Derived.Test.YtlbpnlngckgcbaaGreatDoorM03
import Derived.Test.YtlbpnlngckgcbaaGreatDoorM04
import Derived.Test.YtlbpnlngckgcbaaGreatDoorM05
import Derived.Test.YtlbpnlngckgcbaaGreatDoorM06
import Derived.Test.YtlbpnlngckgcbaaGreatDoorM07
import Derived.Test.YtlbpnlngckgcbaaGreatDoorM08
import Derived.Test.YtlbpnlngckgcbaaGreatDoorM09
import Derived.Test.YtlbpnlngckgcbaaGreatDoorM10
import Derived.Test.YtlbpnlngckgcbaaGreatDoorM11
import Derived.Test.YtlbpnlngckgcbaaGreatDoorM12
import Derived.Test.YtlbpnlngckgcbaaGreatDoorM13
import Derived.Test.YtlbpnlngckgcbaaGreatDoorM14
import Derived.Test.YtlbpnlngckgcbaaGreatDoorM15
import Derived.Test.YtlbpnlngckgcbaaGreatDoorM16
import Derived.Test.YtlbpnlngckgcbaaGreatDoorM17
import Derived.Test.YtlbpnlngckgcbaaGreatDoorM18
import Derived.Test.YtlbpnlngckgcbaaGreatDoorM19
import Derived.Test.YtlbpnlngckgcbaaGreatDoorM20
import Derived.Test.YtlbpnlngckgcbaaGreatDoorM21
import Derived.Test.YtlbpnlngckgcbaaGreatDoorM22
import Derived.Test.YtlbpnlngckgcbaaGreatDoorM23
import Derived.Test.YtlbpnlngckgcbaaGreatDoorM24
import Derived.Test.YtlbpnlngckgcbaaGreatDoorM25
import Derived.Test.YtlbpnlngckgcbaaGreatDoorM26
import Derived.Test.YtlbpnlngckgcbaaGreatDoorM27
import Derived.Test.YtlbpnlngckgcbaaGreatDoorM28
import Derived.Test.YtlbpnlngckgcbaaGreatDoorM29
import Derived.Test.YtlbpnlngckgcbaaGreatDoorM30
import Derived.Deep.RegionLaw
import Derived.Lib.SliceRun
import Derived.Deep.DrawnRows
import Derived.Deep.Upon
import Derived.BigRegion
import Derived.Deep.DeepCutAuto
import Derived.SevenTiedAt
import Derived.HandedShaped
import Derived.JoinedOf
import Derived.RowKitTokens
import Derived.Stop.Joined
set_option linter.all false
set_option maxHeartbeats 20000000
set_option maxRecDepth 100000
namespace Go.Proofs.YtlbpnlngckgcbaaGreatDoor
open Go.RowKit Go.PlainAid
theorem eqTu_iff (a c : Tu) : qW a c = true ↔ a = c := by
  unfold qW
  simp only [Bool.and_eq_true, eT]
  cases a
  cases c
  simp
end Go.Proofs.YtlbpnlngckgcbaaGreatDoor

namespace Go.Proofs.YtlbpnlngckgcbaaGreatDoor
open Go.RowKit Go.PlainAid
theorem run_clear_one {P : Program} (w : World) (t e ty : TypeId) (z : Value) (ht : P.underlying t = some (.slice e)) (hv : ∀ w, (zeroValue e).run P w = .ok z w) (zs : List Value) (hz : (Builtin.zeroCells z.cells 1).toList = zs) (h1 : ∀ u ∈ zs, u.oneCell' = true) (b o c : Nat)
    (hc : ∀ j, j < zs.length → (w.cell? ⟨b, o + j, none⟩).isSome = true) (hf : ∀ j, j < zs.length → w.frozen? ⟨b, o + j, none⟩ = false) :
    (Builtin.clear_ #[t] ty #[.slice (some ⟨b, o, none⟩) 1 c]).run P w = .ok (.tuple #[]) (w.setCells b o zs) := by
  have hst := run_storeCells_cells (P := P) b o zs 0 w (by simpa using hc) (by simpa using hf) h1
  simp only [Nat.add_zero] at hst
  simp [Builtin.clear_, run_underlying ht, hv, hz, hst]
theorem tuC_len (l : List Tu) : (l.flatMap mH).length = l.length * 6 := by
  induction l with
  | nil => rfl
  | cons x l ih => rw [List.flatMap_cons, List.length_append, ih, List.length_cons, show (mH x).length = 6 from rfl]; omega
theorem tuC_one (l : List Tu) : ∀ u ∈ l.flatMap mH, u.oneCell' = true := by
  intro u hu
  obtain ⟨x, _, hx⟩ := List.mem_flatMap.1 hu
  simp only [mH, List.mem_cons, List.not_mem_nil, or_false] at hx
  rcases hx with rfl | rfl | rfl | rfl | rfl | rfl <;> rfl
theorem deleteTu (base g c : Nat) (l : List Tu) (i : Nat) (w : World) (hi : i < l.length) (hl : l.length ≤ 100000) (h : w.ownsRow base 123 6 (.slice (some ⟨g, 0, none⟩) l.length c) l.length (l.flatMap mH)) :
    Calls Tryz.prog 69 #[.slice (some ⟨g, 0, none⟩) l.length c, .int .i64 i, .int .i64 (i + 1 : Nat)] w fun e w' => e = .returned (.slice (some ⟨g, 0, none⟩) (l.length - 1) c) ∧ w'.ownsRow base 123 6 (.slice (some ⟨g, 0, none⟩) (l.length - 1) c) (l.length - 1) ((l.eraseIdx i).flatMap mH) ∧ But g w w' := by
  obtain ⟨cur, hbk, hbase, hnc, hcm, hcs, htk⟩ : ∃ cur, ag w g cur 123 ∧ base ≤ g ∧ l.length ≤ c ∧ c ≤ maxLen ∧ cur.size = c * 6 ∧ cur.toList.take (l.length * 6) = l.flatMap mH := by
    rcases h.2 with ⟨h, _⟩ | ⟨g', cap', cur, e1, hb, hh, h1, h2, h3, h4⟩
    · cases h
    · simp only [Value.slice.injEq, Option.some.injEq, Addr.mk.injEq] at e1
      obtain ⟨⟨rfl, _, _⟩, _, rfl⟩ := e1
      exact ⟨cur, hh, hb, h1, h2, h3, h4⟩
  unfold maxLen at hcm
  obtain ⟨news, hnews⟩ : ∃ news, news = (l.drop (i + 1)).flatMap mH := ⟨_, rfl⟩
  have hlen : news.length = (l.length - (i + 1)) * 6 := by rw [hnews, tuC_len, List.length_drop]
  have hcell : ∀ k u, (l.flatMap mH)[k]? = some u → w.cell? ⟨g, k, none⟩ = some u := fun k u hu => by
    rw [← htk] at hu
    refine hbk.cell ?_
    rw [List.getElem?_take] at hu
    split at hu
    · simpa using hu
    · cases hu
  have hsome : ∀ k, k < c * 6 → (w.cell? ⟨g, k, none⟩).isSome = true ∧ w.frozen? ⟨g, k, none⟩ = false := fun k hk => ⟨by rw [hbk.cell (o := k) (Array.getElem?_eq_getElem (by omega))]; rfl, hbk.fz k⟩
  have hsplit : (l.flatMap mH).drop ((i + 1) * 6) = news := by
    have e : l.flatMap mH = (l.take (i + 1)).flatMap mH ++ (l.drop (i + 1)).flatMap mH := by rw [← List.flatMap_append, List.take_append_drop]
    rw [e, List.drop_left' (by rw [tuC_len, List.length_take]; omega), hnews]
  obtain ⟨A, hA, hsrc⟩ : ∃ A : Addr, (if c = i + 1 then some (⟨g, 0, none⟩ : Addr) else some ⟨g, (i + 1) * 6, none⟩) = some A ∧ Hid (∀ t u, news[t]? = some u → w.drew.cell? (A.add t) = some u) := by
    by_cases hh : c = i + 1
    · refine ⟨⟨g, 0, none⟩, by simp [hh], fun t u hu => ?_⟩
      have h0 : news.length = 0 := by rw [hlen]; omega
      rw [List.length_eq_zero_iff.1 h0] at hu
      simp at hu
    · refine ⟨⟨g, (i + 1) * 6, none⟩, by simp [hh], fun t u hu => ?_⟩
      rw [Addr.add_lit]
      refine hcell _ _ ?_
      rw [← hsplit, List.getElem?_drop] at hu
      exact hu
  have s2 : Hid (∀ u ∈ news, u.oneCell' = true) := by rw [hnews]; exact tuC_one _
  have s3 : Hid (∀ t, t < news.length → (w.drew.cell? ⟨g, 0 + i * 6 + t, none⟩).isSome = true ∧ w.drew.frozen? ⟨g, 0 + i * 6 + t, none⟩ = false) := by
    intro t ht
    rw [hlen] at ht
    exact hsome _ (by omega)
  obtain ⟨i0, hi0, hz0, hz1, hz2⟩ := info_parts (show (Tryz.prog.info? 123).map (fun i => (i.zero, i.size, i.bytes)) = some (some (.agg #[.string ⟨#[]⟩, .string ⟨#[]⟩, .string ⟨#[]⟩, .string ⟨#[]⟩, .string ⟨#[]⟩, .string ⟨#[]⟩]), 6, 96) by kernel_rfl)
  have s1 : Hid (news.length = (l.length - (i + 1)) * 6) := hlen
  obtain ⟨W1, hW1⟩ : ∃ W1, W1 = w.drew.setCells g (0 + i * 6) news := ⟨_, rfl⟩
  have hW : Hid (W1 = w.drew.setCells g (0 + i * 6) news) := hW1
  have j1 : i + 1 ≤ l.length := hi
  have j2 : i + 1 ≤ c := by omega
  have j3 : i ≤ c := by omega
  have j4 : ¬ ((i : Int) = ((i + 1 : Nat) : Int)) := by omega
  have j5 : ((i : Int) == ((i + 1 : Nat) : Int)) = false := by rw [beq_eq_false_iff_ne]; exact j4
  generalize hn : l.length = n at *
  have j6zq : (0 : Int) ≤ (i : Int) + 1 := by omega
  have j7 : (i : Int) + 1 ≤ (n : Int) := by omega
  have j8 : (0 : Int) ≤ (i : Int) + 1 ∧ (i : Int) + 1 ≤ (n : Int) := ⟨j6zq, j7⟩
  have HN := ae hn
  have hzv : ∀ w, (zeroValue 123).run Tryz.prog w = .ok (.agg #[.string ⟨#[]⟩, .string ⟨#[]⟩, .string ⟨#[]⟩, .string ⟨#[]⟩, .string ⟨#[]⟩, .string ⟨#[]⟩]) w := fun w => by first | rfl | kernel_rfl | simp [zeroValue, hi0, hz0]
  obtain ⟨cur1, b1, z1, e1⟩ := nL news (0 + i * 6) w.drew cur hbk (by rw [s1, hcs]; omega)
  rw [← hW1] at b1
  have hm1 : n - (i + (n - (i + 1))) = 1 := by omega
  have hcl : ∀ ty, (Builtin.clear_ #[115] ty #[.slice (some ⟨g, (i + (n - (i + 1))) * 6, none⟩) (n - (i + (n - (i + 1)))) (c - (i + (n - (i + 1))))]).run Tryz.prog W1 = .ok (.tuple #[]) (W1.setCells g ((i + (n - (i + 1))) * 6) (List.replicate 6 (.string ⟨#[]⟩))) := fun ty => by
    rw [hm1]
    exact run_clear_one W1 _ _ ty _ Tryz.underlying115 hzv _ (by kernel_rfl) (fun u hu => by rw [List.eq_of_mem_replicate hu]; rfl) g _ _ (fun j hj => by rw [List.length_replicate] at hj; rw [b1.cell (o := (i + (n - (i + 1))) * 6 + j) (Array.getElem?_eq_getElem (by rw [z1, hcs]; omega))]; rfl) (fun j _ => b1.fz _)
  obtain ⟨PG, b2, z2, e2⟩ := nL (List.replicate 6 (.string ⟨#[]⟩)) ((i + (n - (i + 1))) * 6) W1 cur1 b1 (by rw [List.length_replicate, z1, hcs]; omega)
  have bt : But g w (W1.setCells g ((i + (n - (i + 1))) * 6) (List.replicate 6 (.string ⟨#[]⟩))) := by
    refine But.setCells _ _ _ ?_
    rw [hW1]
    exact But.setCells _ _ _ (But.refl g w).drew
  have he : i + (n - (i + 1)) = n - 1 := by omega
  have hrow : (W1.setCells g ((i + (n - (i + 1))) * 6) (List.replicate 6 (.string ⟨#[]⟩))).ownsRow base 123 6 (.slice (some ⟨g, 0, none⟩) (n - 1) c) (n - 1) ((l.eraseIdx i).flatMap mH) := by
    have el : (l.eraseIdx i).length = n - 1 := by rw [List.length_eraseIdx_of_lt (by omega), hn]
    refine ⟨by rw [tuC_len, el], .inr ⟨g, c, PG, rfl, hbase, b2, by omega, by unfold maxLen; omega, by rw [z2, z1, hcs], ?_⟩⟩
    rw [e2, he, List.append_assoc, List.take_left' (by rw [List.length_take, Array.length_toList, z1, hcs]; omega), e1]
    have k1 : (List.take (0 + i * 6) cur.toList).length = i * 6 := by rw [List.length_take, Array.length_toList, hcs]; omega
    rw [List.take_left' (by rw [List.length_append, k1, s1]; omega)]
    have k2 : List.take (0 + i * 6) cur.toList = (l.take i).flatMap mH := by
      have : List.take (0 + i * 6) cur.toList = List.take (i * 6) (l.flatMap mH) := by rw [← htk, List.take_take, Nat.zero_add, Nat.min_eq_left (by omega)]
      rw [this]
      have e : l.flatMap mH = (l.take i).flatMap mH ++ (l.drop i).flatMap mH := by rw [← List.flatMap_append, List.take_append_drop]
      rw [e, List.take_left' (by rw [tuC_len, List.length_take]; omega)]
    rw [k2, hnews, ← List.flatMap_append, List.eraseIdx_eq_take_drop_succ]
  have om := ae hrow
  have JF := ae bt
  have HE := ae he
  clear hW1 hn hcell hsome hsplit hlen htk h hi b1 z1 e1 b2 z2 e2 bt hrow he hzv hm1
  go_enter Tryz.func69, Tryz.ntmps69
  go_wp2_with fail
  go_region_law (refine step_append_room rfl (.tmp 22) (.tmp 25) 115 rfl 123 i0 6 Tryz.underlying115 hi0 hz1 g 0 i c (by simp [Act.eval, Act.put]) A (n - (i + 1)) (c - (i + 1)) news (by simp [Act.eval, Act.put]) s1 hsrc s2 (by omega) s3 ?_; rw [← hW])
  go_wp2
  go_ret
  exact ⟨by rw [← aa HE]; rfl, aa om, aa JF⟩
end Go.Proofs.YtlbpnlngckgcbaaGreatDoor

namespace Go.Proofs.YtlbpnlngckgcbaaGreatDoor
open Go.RowKit Go.PlainAid
attribute [local go_sem ↓] Go.wp_at_zero Go.wp_at_succ
theorem idxT_lt {l : List Tu} {x : Tu} {k : Nat} (h : ou l x = k) : k < l.length := by
  unfold ou at h
  split at h
  · rename_i i hi
    rw [List.findIdx?_eq_some_iff_getElem] at hi
    obtain ⟨hl, _⟩ := hi
    omega
  · omega
def delP (gs : List Tu) (s : ByteArray) : Nat × List Tu := if jE s = false then (2, gs) else if ou gs (dw s).1 < 0 then (9, gs) else (0, gs.eraseIdx (ou gs (dw s).1).toNat)
theorem pdelete_any (PC : CY) (b : Nat) (s : ByteArray) (w : World) (mv lv gv : Value) (gs : List Tu) (h : PU w b mv lv gv gs) (hm : ow w) (hw : 1 < w.heap.size) :
    Calls Tryz.prog 35 #[.pointer (some ⟨b, 0, none⟩), .string s] w (jS b mv lv gv w (delP gs s)) := by
  have C1 := ae (Dp PC s w hm hw)
  have H := ae h
  rw [Js s] at C1
  obtain ⟨t, ht, hk⟩ := Dq s
  rw [ht] at C1
  unfold delP
  clear ht
  cases ho : jE s
  · rw [ho] at C1
    rw [if_pos rfl]
    clear h hm hw PC ho hk
    go_enter Tryz.func35, Tryz.ntmps35
    go_wp2_with fail
    refine (aa C1).mono ?_
    rintro e w1 ⟨rfl, hb1⟩
    have B1 := ae (hb1.alloc hb1.size (.cells #[.string t.kind, .string t.id, .string t.rel, .string t.sub, .string t.who, .string t.of] 123))
    clear hb1 C1
    go_wp2
    go_ret
    exact jS.same (aa H) (aa B1) 2
  · rw [if_neg (by simp), ← hk ho]
    rw [ho] at C1
    clear ho hk
    obtain ⟨ga, gc, rfl⟩ := ak h.row
    have Bi := h.most
    have CI := ae (fun w' (k : Below w.heap.size w w') => Ja 0 _ gs t w' (by omega) (aF h.row k))
    have hbl := h.blk.lt
    clear h hm hw PC
    by_cases hi : ou gs t < 0
    · rw [if_pos hi]
      generalize ou gs t = n at *
      go_enter Tryz.func35, Tryz.ntmps35
      go_wp2_with fail
      refine (aa C1).mono ?_
      rintro e w1 ⟨rfl, hb1⟩
      have B1 := ae (hb1.alloc hb1.size (.cells #[.string t.kind, .string t.id, .string t.rel, .string t.sub, .string t.who, .string t.of] 123))
      have U1 := ae ((aa H).below (aa B1))
      have T1 := ae (ag.new w1 #[.string t.kind, .string t.id, .string t.rel, .string t.sub, .string t.who, .string t.of] 123)
      have hne : ¬ (w1.heap.size = b) := by have := hb1.size; omega
      have lX : ¬ (b = w1.heap.size) := by have := hb1.size; omega
      clear hb1 C1
      go_wp2_with fail
      have l1 := (aa B1).size
      generalize (w1.alloc (.cells #[.string t.kind, .string t.id, .string t.rel, .string t.sub, .string t.who, .string t.of] 123)) = W at *
      obtain ⟨c0, c1, c2⟩ := three (aa U1).blk
      obtain ⟨t0, t1, t2, t3, t4, t5⟩ := (aa T1).six
      have CI2 := ae (aa CI W.drew (aa B1).drew)
      clear CI
      go_region_held3 (fun w' => w'.cell? ⟨b, 2, none⟩ = some (.slice ga gs.length gc) ∧ w'.cell? ⟨w1.heap.size, 0, none⟩ = some (.string t.kind) ∧ w'.cell? ⟨w1.heap.size, 1, none⟩ = some (.string t.id) ∧ w'.cell? ⟨w1.heap.size, 2, none⟩ = some (.string t.rel) ∧ w'.cell? ⟨w1.heap.size, 3, none⟩ = some (.string t.sub) ∧ w'.cell? ⟨w1.heap.size, 4, none⟩ = some (.string t.who) ∧ w'.cell? ⟨w1.heap.size, 5, none⟩ = some (.string t.of)) (go_keep)
        ((go_at_call 68; refine (aa CI2).mono ?_; rintro e w2 ⟨rfl, hb2⟩; have BB := ae (show Below W.heap.size W w2 from (Below.refl _ W).drew.trans hb2); have d0 := af c2 (aa BB); have d1 := af t0 (aa BB); have d2 := af t1 (aa BB); have d3 := af t2 (aa BB); have d4 := af t3 (aa BB); have d5 := af t4 (aa BB); have d6 := af t5 (aa BB); clear hb2))
      have B2 := ae ((aa B1).trans ((aa BB).mono l1))
      clear CI2 d0 d1 d2 d3 d4 d5 d6 t0 t1 t2 t3 t4 t5 c0 c1 c2 U1 T1 B1 BB
      go_wp2
      go_ret
      exact jS.same (aa H) (aa B2) 9
    · rw [if_neg hi]
      obtain ⟨k, hkk⟩ : ∃ k : Nat, ou gs t = k := ⟨(ou gs t).toNat, by omega⟩
      have hkl := idxT_lt hkk
      rw [hkk] at CI ⊢
      clear hi hkk
      obtain ⟨g, c, e1, _⟩ := (aa H).row.form (n := gs.length) (by omega)
      simp only [Value.slice.injEq, true_and] at e1
      obtain ⟨rfl, rfl⟩ := e1
      have hgb := (aa H).apart g _ _ rfl
      rw [Int.toNat_natCast]
      have QM : ¬ ((k : Int) < 0) := by omega
      go_enter Tryz.func35, Tryz.ntmps35
      go_wp2_with fail
      refine (aa C1).mono ?_
      rintro e w1 ⟨rfl, hb1⟩
      have B1 := ae (hb1.alloc hb1.size (.cells #[.string t.kind, .string t.id, .string t.rel, .string t.sub, .string t.who, .string t.of] 123))
      have U1 := ae ((aa H).below (aa B1))
      have T1 := ae (ag.new w1 #[.string t.kind, .string t.id, .string t.rel, .string t.sub, .string t.who, .string t.of] 123)
      have hne : ¬ (w1.heap.size = b) := by have := hb1.size; omega
      have lX : ¬ (b = w1.heap.size) := by have := hb1.size; omega
      clear hb1 C1
      go_wp2_with fail
      have l1 := (aa B1).size
      generalize (w1.alloc (.cells #[.string t.kind, .string t.id, .string t.rel, .string t.sub, .string t.who, .string t.of] 123)) = W at *
      obtain ⟨c0, c1, c2⟩ := three (aa U1).blk
      obtain ⟨t0, t1, t2, t3, t4, t5⟩ := (aa T1).six
      have CI2 := ae (aa CI W.drew (aa B1).drew)
      clear CI
      go_region_held3 (fun w' => w'.cell? ⟨b, 2, none⟩ = some (.slice (some ⟨g, 0, none⟩) gs.length gc) ∧ w'.cell? ⟨w1.heap.size, 0, none⟩ = some (.string t.kind) ∧ w'.cell? ⟨w1.heap.size, 1, none⟩ = some (.string t.id) ∧ w'.cell? ⟨w1.heap.size, 2, none⟩ = some (.string t.rel) ∧ w'.cell? ⟨w1.heap.size, 3, none⟩ = some (.string t.sub) ∧ w'.cell? ⟨w1.heap.size, 4, none⟩ = some (.string t.who) ∧ w'.cell? ⟨w1.heap.size, 5, none⟩ = some (.string t.of)) (go_keep)
        ((go_at_call 68; refine (aa CI2).mono ?_; rintro e w2 ⟨rfl, hb2⟩; have BB := ae (show Below W.heap.size W w2 from (Below.refl _ W).drew.trans hb2); have d0 := af c2 (aa BB); have d1 := af t0 (aa BB); have d2 := af t1 (aa BB); have d3 := af t2 (aa BB); have d4 := af t3 (aa BB); have d5 := af t4 (aa BB); have d6 := af t5 (aa BB); clear hb2))
      have B2 := ae ((aa B1).trans ((aa BB).mono l1))
      clear CI2 d0 d1 d2 d3 d4 d5 d6 t0 t1 t2 t3 t4 t5 c0 c1 c2 U1 T1 B1 BB
      have U2 := (aa H).below (aa B2)
      have D := ae (deleteTu 0 g gc gs k w2 hkl (by omega) U2.row)
      obtain ⟨c0, c1, c2⟩ := three U2.blk
      have czzq := U2.blk.fz
      have UB := ae U2.blk
      have l2 := U2.blk.lt
      have hgb' : ¬ (b = g) := fun e => hgb e.symm
      clear U2
      go_wp2_with fail
      refine (aa D).mono ?_
      rintro e w3 ⟨rfl, hr3, hb3⟩
      have UB3 := ae ((aa UB).but hb3 hgb')
      obtain ⟨x0, x1, x2⟩ := three (aa UB3)
      have xz := (aa UB3).fz
      have gD := ae hr3
      have ww := ae hb3
      clear hr3 hb3 c0 c1 c2 czzq D
      go_wp2
      go_ret
      have hlen : (gs.eraseIdx k).length = gs.length - 1 := List.length_eraseIdx_of_lt hkl
      have hS1 : FM b (.slice (some ⟨g, 0, none⟩) gs.length gc) g := .inr ⟨_, _, rfl⟩
      have hS2 : FM b (.slice (some ⟨g, 0, none⟩) gs.length gc) b := .inl rfl
      refine ⟨.slice (some ⟨g, 0, none⟩) (gs.length - 1) gc, rfl, ⟨(aa UB3).set 2 _, ?_, ?_, by show (gs.eraseIdx k).length ≤ 1000; omega⟩, ((aS.of_below (aa B2)).trans (.of_but (aa ww) hS1)).set hS2 _, ?_⟩
      · show World.ownsRow _ 0 123 6 _ (gs.eraseIdx k).length _
        rw [hlen]
        refine ai (aa gD) (fun g' cs f _ hh => Below.heap_setCell _ _ _ _ (fun (e' : g' = b) => ?_))
        subst e'
        have := aa UB3
        unfold ag at this
        rw [hh] at this
        simp at this
      · intro g' n c e
        simp only [Value.slice.injEq, Option.some.injEq, Addr.mk.injEq, and_true] at e
        exact fun e' => hgb (e.1.trans e')
      · rintro k' (rfl | ⟨n, c, e⟩)
        · exact .inl (.inl rfl)
        · simp only [Value.slice.injEq, Option.some.injEq, Addr.mk.injEq, and_true] at e
          exact .inl (.inr ⟨_, _, by rw [e.1]⟩)
end Go.Proofs.YtlbpnlngckgcbaaGreatDoor

namespace Go.Proofs.YtlbpnlngckgcbaaGreatDoor
open Go.RowKit Go.PlainAid
theorem row_cap {w : World} {base size : Nat} {E : TypeId} {a : Option Addr} {n c m : Nat} {xs : List Value} (h : w.ownsRow base E size (.slice a m c) n xs) : n ≤ c := by
  rcases h with ⟨_, ⟨e, h2⟩ | ⟨g, cap, cur, e, _, _, hle, _⟩⟩
  · omega
  · simp only [Value.slice.injEq] at e
    omega
end Go.Proofs.YtlbpnlngckgcbaaGreatDoor

namespace Go.Proofs.YtlbpnlngckgcbaaGreatDoor
open Go.RowKit Go.PlainAid
def subT (k i r : ByteArray) : ByteArray := if r.size = 0 then (k ++ sg 58) ++ i else (((k ++ sg 58) ++ i) ++ sg 35) ++ r
theorem tup_text {s : ByteArray} (h : jE s = true) : ((((((dw s).1.kind ++ sg 58) ++ (dw s).1.id) ++ sg 35) ++ (dw s).1.rel) ++ sg 64 ++ subT (dw s).1.sub (dw s).1.who (dw s).1.of) = s := by
  obtain ⟨_, _, hl⟩ := tZ h
  have e : ∀ a b : ByteArray, cO (a ++ b) = cO a ++ cO b := fun a b => by simp [cO, ByteArray.data_append]
  have e2 : ∀ c : UInt8, cO (sg c) = [c] := fun c => rfl
  generalize (dw s).1 = t at *
  have key : cO ((((((t.kind ++ sg 58) ++ t.id) ++ sg 35) ++ t.rel) ++ sg 64 ++ subT t.sub t.who t.of)) = cO s := by
    rw [hl]
    unfold subT
    split <;> simp [e, e2]
  rw [← lQ s, ← key, lQ]
end Go.Proofs.YtlbpnlngckgcbaaGreatDoor

namespace Go.Proofs.YtlbpnlngckgcbaaGreatDoor
open Go.RowKit Go.PlainAid
section
variable {w w' : World} {x : Nat} {mv lv gv : Value} {ts : List Ty} {gs : List Tu}
theorem qdelete (hu : UQ w x mv lv gv ts gs) (s : ByteArray) (hm : ow w) (h1 : 1 < w.heap.size) :
    Calls Tryz.prog 35 #[.pointer (some ⟨x, 0, none⟩), .string s] w (JR w x gv (delP gs s).1 ts (delP gs s).2) :=
  (pdelete_any Pz x s w _ _ _ _ hu.p hm h1).mono fun e w' h => JS hu h
end
end Go.Proofs.YtlbpnlngckgcbaaGreatDoor

namespace Go.Proofs.YtlbpnlngckgcbaaGreatDoor
open Go.RowKit Go.PlainAid
def ChPost (ts : List Ty) (gs : List Tu) (s : Sj) (who : Tg) (w : World) (e : Ending) (w' : World) : Prop := ∃ kb, e = .returned (.tuple #[.bool (kb s), .int .i64 0]) ∧ Below w.heap.size w w' ∧ oM who (bF gs) ((aT ts).map (List.map NG)) (fun _ => false) kb
theorem pick_one (X : Nat) (t : Tg) : (bn X [t] 1).length = if X.testBit 0 then 1 else 0 := by
  cases h : X.testBit 0 with
  | true => rw [Ep (t := t) rfl h]; simp [bn]
  | false => rw [GG (t := t) rfl h]; simp [bn]
theorem check_ok (x : Nat) (mv lv gv : Value) (ts : List Ty) (gs : List Tu) (w : World) (h : UQ w x mv lv gv ts gs) (hp : PuR ts gs) (th rel who : ByteArray) (hs : th.size ≤ 1000) (PD : dR th = true) (hrs : rel.size ≤ 1000) (hrf : dG rel = true) (t : Ty) (hf : cu ts (ax th 58).1 = some t) (r : Rl) (hq : aW t rel = some r)
    (hws : who.size ≤ 1000) (hwf : dR who = true) (t' : Ty) (hf' : cu ts (ax who 58).1 = some t') (hm : ow w) (hw : 1 < w.heap.size) :
    Calls Tryz.prog 26 #[.pointer (some ⟨x, 0, none⟩), .string th, .string rel, .string who] w (ChPost ts gs ⟨(ax th 58).1, (ax th 58).2.1, rel⟩ ⟨(ax who 58).1, (ax who 58).2.1⟩ w) := by
  obtain ⟨bm, tl, hM⟩ := h.m
  have z1 := jB th 58
  have z2 := jB who 58
  have C1 := ae (jm Pz who w hws hm hw)
  rw [hwf] at C1
  have CA := ae (fun w' (k : Below w.heap.size w w') => GQ x bm mv lv gv ts gs tl w' (h.p.below k) (hM.below k) th rel hs PD (by unfold maxLen; omega) hrf t hf r hq (hm.below k hw) (Nat.lt_of_lt_of_le hw k.size))
  obtain ⟨ma, mn, mc, rfl⟩ := hM.form
  have CF := ae (show ∀ w', Below w.heap.size w w' → Calls Tryz.prog 57 #[.agg #[.slice ma mn mc], .string (ax who 58).1] w' fun e w'' => ∃ va vn vc, e = .returned (.tuple #[.agg #[.int .i64 t'.place, .string t'.name, .slice va vn vc], .nilIface]) ∧ Below w'.heap.size w' w'' from fun w' k => by
    obtain ⟨va, vn, vc, rl, _, D⟩ := Fu bm _ ts tl (ax who 58).1 w hM t' hf'
    exact (D w' k).mono fun e w'' h => ⟨va, vn, vc, h⟩)
  have hxl := h.p.blk.lt
  obtain ⟨ga, gc, rfl⟩ := ak h.p.row
  obtain ⟨qs, AO, _⟩ := h.l
  obtain ⟨la, lc, rfl⟩ := ak AO.row
  obtain ⟨ln, sG⟩ : ∃ n, n = qs.length := ⟨_, rfl⟩
  rw [← sG] at h
  obtain ⟨gn, Np⟩ : ∃ n, n = gs.length := ⟨_, rfl⟩
  rw [← Np] at h
  have CT := ae (fun w' g (k : Below w.heap.size w w') (cr : wo w' (.slice (some ⟨g, 0, none⟩) 1 1) [⟨(ax who 58).1, (ax who 58).2.1⟩]) => Es la ga ln lc g 1 1 gn gc w' ts gs [⟨(ax who 58).1, (ax who 58).2.1⟩] ⟨(ax th 58).1, (ax th 58).2.1, rel⟩ ⟨vI.below _ _ _ _ h.l k, cr, aF h.p.row k, hp.few, hp.low, ⟨by unfold maxLen; show (ax th 58).1.size ≤ _; omega, by unfold maxLen; show (ax th 58).2.1.size ≤ _; omega, by unfold maxLen; show rel.size ≤ _; omega⟩, hp.ln, hp.ok, hp.sum⟩ (by simp) (Nat.le_refl _) (by unfold maxLen; omega))
  have Lc := ae (fun g hg x hx => (hp.ln g hg x hx).wf)
  have H := ae h.p
  generalize ax th 58 = X at *
  obtain ⟨k, i, ok⟩ := X
  generalize ax who 58 = Y at *
  obtain ⟨a, b, ok'⟩ := Y
  simp only at C1 CA CF CT ⊢
  clear hm hw hs PD hrs hrf hf hq hM h hp hws hwf hf' z1 z2 sG Np AO
  go_enter Tryz.func26, Tryz.ntmps26
  go_wp2_with fail
  refine (aa C1).mono ?_
  rintro e w1 ⟨rfl, hb1⟩
  have B1 := ae (hb1.alloc hb1.size (.cells #[.string a, .string b] 98))
  have T1 := ae (ag.new w1 #[.string a, .string b] 98)
  have l1 := hb1.size
  have C2 := ae (aa CA _ (aa B1))
  clear hb1 C1 CA
  go_wp2_with fail
  refine (aa C2).mono ?_
  rintro e w2 ⟨rfl, hb2⟩
  have b2 := hb2.alloc hb2.size (.cells #[.string k, .string i, .string rel] 102)
  have B2 := ae ((aa B1).trans (b2.mono (aa B1).size))
  have T2 := ae ((aa T1).below b2)
  have S2 := ae (ag.new w2 #[.string k, .string i, .string rel] 102)
  have l2 : w1.heap.size < w2.heap.size := by have := hb2.size; simp at this; omega
  clear hb2 C2 T1 B1 b2
  go_wp2_with fail
  generalize (w2.alloc (.cells #[.string k, .string i, .string rel] 102)) = W at *
  have BR := ae (Below.refl W.heap.size W)
  have U := ((aa H).below (aa B2)).blk
  obtain ⟨u0, u1, u2⟩ := three U
  have t0 : W.cell? ⟨w1.heap.size, 0, none⟩ = some (.string a) := (aa T2).cell rfl
  have lW := (aa B2).size
  have lt2 := (aa T2).lt
  have ls2 := (aa S2).lt
  have nx : ¬ (x = W.heap.size) := by have := U.lt; omega
  have nt : ¬ (w1.heap.size = W.heap.size) := by omega
  have ns : ¬ (w2.heap.size = W.heap.size) := by omega
  clear U
  go_region_held3 (fun w' => w'.cell? ⟨x, 0, none⟩ = some (.slice ma mn mc) ∧ w'.cell? ⟨w1.heap.size, 0, none⟩ = some (.string a)) ((first | go_keep | refine ⟨af u0 ?_, af t0 ?_⟩ <;> (with_reducible repeat (first|exact aa BB|exact aa BR|refine Below.drew ?_|(refine Below.setCell ?_ ?_ _;rotate_left;exact (by first|omega|(simp;omega)|simp))|(refine Below.alloc ?_ ?_ _;rotate_left;exact (by first|omega|(simp;omega)|simp))))))
    ((go_at_call 57; refine (aa CF _ (show Below w.heap.size w _ from (by with_reducible repeat (first|exact aa B2|refine Below.drew ?_|(refine Below.setCell ?_ ?_ _;rotate_left;exact (by first|omega|(simp;omega)|simp))|(refine Below.alloc ?_ ?_ _;rotate_left;exact (by first|omega|(simp;omega)|simp)))))).mono ?_; rintro e w3 ⟨va, vn, vc, rfl, hb3⟩; have BB := ae (Below.trans (a := W) (B := W.heap.size) (show Below W.heap.size W _ from (by with_reducible repeat (first|exact aa BR|refine Below.drew ?_|(refine Below.setCell ?_ ?_ _;rotate_left;exact (by first|omega|(simp;omega)|simp))|(refine Below.alloc ?_ ?_ _;rotate_left;exact (by first|omega|(simp;omega)|simp))))) (hb3.mono (by first | omega | (simp; omega) | simp))); have d0 := af u0 (aa BB); have d1 := af t0 (aa BB); (first | (have z1 := (ag.new W #[.int .i64 0, .string ⟨#[]⟩, .slice none 0 0] 110).drew.below hb3; obtain ⟨e10, e11, e12⟩ := three z1; have ez1 := z1.fz; have el1 := z1.lt; clear z1) | skip); have bz := (aa BB).size; clear hb3))
  all_goals (
    go_wp2_with fail
    refine (ru _).mono ?_
    rintro e w4 ⟨rfl, hb4⟩
    have BX := Below.trans (a := W) (B := W.heap.size) (show Below W.heap.size W _ from (by with_reducible repeat (first|exact aa BB|refine Below.drew ?_|(refine Below.setCell ?_ ?_ _;rotate_left;exact (by first|omega|(simp;omega)|simp))|(refine Below.alloc ?_ ?_ _;rotate_left;exact (by first|omega|(simp;omega)|simp))))) (hb4.mono (by first | omega | (simp; omega)))
    have B4 := ae ((aa B2).trans (BX.mono lW))
    obtain ⟨v0, v1, v2⟩ := three ((aa H).below (aa B4)).blk
    have x0 : w4.cell? ⟨w1.heap.size, 0, none⟩ = some (.string a) := ((aa T2).below BX).cell rfl
    have x1 : w4.cell? ⟨w1.heap.size, 1, none⟩ = some (.string b) := ((aa T2).below BX).cell rfl
    obtain ⟨y0, y1, y2⟩ := three ((aa S2).below BX)
    have ba := ((Below.refl w4.heap.size w4).alloc (Nat.le_refl _) (.cells #[.string a, .string b] 98)).drew
    have tb := (ag.new w4 #[.string a, .string b] 98).drew
    have cr : wo (w4.alloc (.cells #[.string a, .string b] 98)).drew (.slice (some ⟨w4.heap.size, 0, none⟩) 1 1) [⟨a, b⟩] := ⟨w4.heap.size, 0, 1, rfl, tb.lt, by simp, fun j y hj => by
      rcases j with _ | j
      · simp only [List.getElem?_cons_zero, Option.some.injEq] at hj
        subst hj
        exact ⟨tb.cell rfl, tb.cell rfl⟩
      · simp at hj⟩
    have D := ae (aa CT _ w4.heap.size ((aa B4).trans (ba.mono (aa B4).size)) cr)
    have rM := ae ba
    have B4' := ae ((aa B4).trans (ba.mono (aa B4).size))
    have n1 := World.new_ne w4 _ v1
    have n2 := World.new_ne w4 _ x0
    have n3 := World.new_ne w4 _ y0
    clear hb4 BX ba tb cr CT
    go_wp2_with fail
    go_region_held3 (fun w' => w'.cell? ⟨x, 1, none⟩ = some (.slice la ln lc) ∧ w'.cell? ⟨x, 2, none⟩ = some (.slice ga gn gc) ∧ w'.cell? ⟨w1.heap.size, 0, none⟩ = some (.string a) ∧ w'.cell? ⟨w1.heap.size, 1, none⟩ = some (.string b) ∧ w'.cell? ⟨w2.heap.size, 0, none⟩ = some (.string k) ∧ w'.cell? ⟨w2.heap.size, 1, none⟩ = some (.string i) ∧ w'.cell? ⟨w2.heap.size, 2, none⟩ = some (.string rel)) (go_keep)
      ((go_at_call 58; refine (aa D).mono ?_; rintro e w5 ⟨v, K, rfl, gF, hrun, hown⟩; obtain ⟨pa, pc, rfl⟩ := ak hown; have HRN := ae hrun; have hpn := pick_one (K ⟨k, i, rel⟩) ⟨a, b⟩; change (bn (K ⟨k, i, rel⟩) [⟨a, b⟩] [(⟨a, b⟩ : Tg)].length).length = _ at hpn; generalize (bn (K ⟨k, i, rel⟩) [⟨a, b⟩] [(⟨a, b⟩ : Tg)].length).length = pn at *; have HPN := ae hpn; have B5 := ae ((aa B4').trans (gF.mono (aa B4').size)); have f0 := af (af v1 (aa rM)) gF; have f1 := af (af v2 (aa rM)) gF; have f2 := af (af x0 (aa rM)) gF; have f3 := af (af x1 (aa rM)) gF; have f4 := af (af y0 (aa rM)) gF; have f5 := af (af y1 (aa rM)) gF; have f6 := af (af y2 (aa rM)) gF; clear gF hown hrun hpn))
    have Pv := ae (show oM ⟨a, b⟩ (bF gs) ((aT ts).map (List.map NG)) (fun _ => false) (fun s => (K s).testBit 0) from by
      have := KJ (i := 0) (who := ⟨a, b⟩) (by simp) rfl (aa Lc) (aa HRN)
      simpa using this)
    clear f0 f1 f2 f3 f4 f5 f6 HRN
    cases nZ : (K ⟨k, i, rel⟩).testBit 0
    · obtain rfl : pn = 0 := by rw [aa HPN, nZ]; rfl
      go_wp2
      go_ret2
      refine ⟨_, ?_, aa B5, aa Pv⟩
      show _ = Ending.returned (.tuple #[.bool ((K ⟨k, i, rel⟩).testBit 0), .int .i64 0])
      rw [nZ]
      rfl
    · obtain rfl : pn = 1 := by rw [aa HPN, nZ]; rfl
      go_wp2
      go_ret2
      refine ⟨_, ?_, aa B5, aa Pv⟩
      show _ = Ending.returned (.tuple #[.bool ((K ⟨k, i, rel⟩).testBit 0), .int .i64 0])
      rw [nZ]
      rfl)
end Go.Proofs.YtlbpnlngckgcbaaGreatDoor

namespace Go.Proofs.YtlbpnlngckgcbaaGreatDoor
open Go.RowKit Go.PlainAid
def PartOf (P : Program) (size : Nat) (t : TypeId) (xv : Value) (m : Nat) (news : List Value) (w : World) : Prop := (0 < m → ∃ ad c, xv = .slice (some ad) m c ∧ news.length = m * size ∧ ∀ j u, news[j]? = some u → w.cell? (ad.add j) = some u) ∧ (m = 0 → news = [] ∧ Src P size t xv 0 [] w)
theorem wpList_append_part {P : Program} {w : World} {ops : Array Oper} {rest : List Oper} {o : Oper} {a : Act} {Q : Exit → Act → World → Prop} (hgd : o.guard = none) (s x : Operand) (t : TypeId)
    (ho : o.op = .call { callee := .builtin .append, args := #[s, x], argTypes := #[t, t] })
    (base : Nat) (e : TypeId) (i : TypeInfo) (z : Value) (size bytes : Nat) (ht : P.underlying t = some (.slice e)) (hi : P.info? e = some i) (hz : i.zero = some z)
    (hsize : i.size = size) (hby : i.bytes = bytes) (hzs : z.cells.size = size) (hsz : 0 < size)
    (v : Value) (n : Nat) (xs : List Value) (hs : a.eval s = v) (hown : w.ownsRow base e size v n xs)
    (xv : Value) (m : Nat) (news : List Value) (hx : a.eval x = xv) (hnews : PartOf P size t xv m news w) (h1 : ∀ u ∈ news, u.oneCell' = true)
    (h63 : n + m ≤ maxLen) (hbytes : (n + m) * bytes ≤ 140737488355328) (hbase : base ≤ w.heap.size)
    (h : ∀ av cv w', w'.ownsRow base e size (.slice av (n + m) cv) (n + m) (xs ++ news) → w.grownBy w' v.ownBlock → wpList P ops Q rest (a.put o.dst (.slice av (n + m) cv)) w') : wpList P ops Q (o :: rest) a w := by
  by_cases hm : 0 < m
  · obtain ⟨ad, c, rfl, hl, hn⟩ := hnews.1 hm
    exact wpList_append_lies w hgd s x t ho base e i z size bytes ht hi hz hsize hby hzs hsz v n xs hs hown ad m c news hx hl hn h1 hm h63 hbytes hbase _ rfl (fun g5 cap w' h2 h3 h4 h5 => h _ cap w' h2 h3)
  · obtain rfl : m = 0 := by omega
    obtain ⟨rfl, hsrc⟩ := hnews.2 rfl
    obtain ⟨av, cv, rfl⟩ := ak hown
    refine wpList_plain hgd fun K hK => ?_
    have hrun := run_append_nothing (P := P) w t t o.type e i ht hi av n cv (row_cap hown) xv (by rw [hsize]; exact hsrc)
    unfold Oper.wp execOp
    simp only [ho, resolve, invoke, builtin, Sem.run_bind, Sem.run_pure, Result.andThen_ok, List.map_toArray, List.map_cons, List.map_nil, hs, hx, hrun]
    exact hK _ _ (h av cv w (by simpa using hown) ⟨rfl, rfl, rfl, Nat.le_refl _, fun _ _ _ => rfl⟩)
theorem part_take {w : World} {base g k oc a : Nat} {O : List ByteArray} (h : w.ownsRow base 9 1 (.slice (some ⟨g, 0, none⟩) k oc) k (jZ O)) (ha : a ≤ k) : PartOf Tryz.prog 1 22 (.slice (some ⟨g, 0, none⟩) a oc) a (jZ (O.take a)) w := by
  have hlen : O.length = k := by have := h.1; simpa [jZ] using this
  refine ⟨fun hm => ⟨⟨g, 0, none⟩, oc, rfl, by simp [jZ]; omega, fun j u hj => ?_⟩, fun hm => ⟨by subst hm; rfl, ?_⟩⟩
  · have hj2 : (jZ O)[j]? = some u := by
      simp only [jZ, List.map_take, List.getElem?_take] at hj
      split at hj
      · exact hj
      · simp at hj
    obtain ⟨g', c', e1, h'⟩ := aQ h j u hj2
    simp only [Value.slice.injEq, Option.some.injEq, Addr.mk.injEq] at e1
    obtain ⟨⟨rfl, _⟩, _⟩ := e1
    rw [Addr.add_lit, Nat.zero_add]
    exact h'
  · subst hm
    exact Src.ofSlice w Tryz.underlying22 _ _ _ _ (by simp) (fun j u hj => by simp at hj) (fun u hu => by simp at hu)
theorem part_drop {w : World} {base g k oc a : Nat} {O : List ByteArray} {xa : Option Addr} (h : w.ownsRow base 9 1 (.slice (some ⟨g, 0, none⟩) k oc) k (jZ O)) (ha : a ≤ k) (hx : xa = if oc = a then some ⟨g, 0, none⟩ else some ⟨g, a, none⟩) : PartOf Tryz.prog 1 22 (.slice xa (k - a) (oc - a)) (k - a) (jZ (O.drop a)) w := by
  have hlen : O.length = k := by have := h.1; simpa [jZ] using this
  have hcap := row_cap h
  refine ⟨fun hm => ⟨⟨g, a, none⟩, oc - a, ?_, by simp [jZ]; omega, fun j u hj => ?_⟩, fun hm => ⟨?_, ?_⟩⟩
  · rw [hx, if_neg (by omega)]
  · have hj2 : (jZ O)[a + j]? = some u := by
      simpa only [jZ, List.map_drop, List.getElem?_drop] using hj
    obtain ⟨g', c', e1, h'⟩ := aQ h (a + j) u hj2
    simp only [Value.slice.injEq, Option.some.injEq, Addr.mk.injEq] at e1
    obtain ⟨⟨rfl, _⟩, _⟩ := e1
    rw [Addr.add_lit]
    exact h'
  · rw [List.drop_of_length_le (by omega)]; rfl
  · rw [hm]
    obtain ⟨ad, rfl⟩ : ∃ ad, xa = some ad := by
      rw [hx]
      split
      · exact ⟨_, rfl⟩
      · exact ⟨_, rfl⟩
    exact Src.ofSlice w Tryz.underlying22 _ _ _ _ (by simp) (fun j u hj => by simp at hj) (fun u hu => by simp at hu)
theorem own_low {w : World} {B B' size n : Nat} {e : TypeId} {v : Value} {xs : List Value} (h : w.ownsRow B' e size v n xs) (hB : B ≤ B') : w.ownsRow B e size v n xs := by
  rcases h with ⟨h0, h | ⟨g, cap, cur, e1, hg, h⟩⟩
  · exact ⟨h0, .inl h⟩
  · exact ⟨h0, .inr ⟨g, cap, cur, e1, Nat.le_trans hB hg, h⟩⟩
theorem stC_one (l : List ByteArray) : ∀ u ∈ jZ l, u.oneCell' = true := by
  intro u hu
  simp only [jZ, List.mem_map] at hu
  obtain ⟨x, _, rfl⟩ := hu
  rfl
end Go.Proofs.YtlbpnlngckgcbaaGreatDoor

namespace Go.Proofs.YtlbpnlngckgcbaaGreatDoor
open Go.RowKit Go.PlainAid
def tuSmall (t : Tu) : Prop := t.kind.size + t.id.size + t.rel.size + t.sub.size + t.who.size + t.of.size ≤ 500
end Go.Proofs.YtlbpnlngckgcbaaGreatDoor

namespace Go.Proofs.YtlbpnlngckgcbaaGreatDoor
open Go.RowKit Go.PlainAid
section
variable {B : Nat} {w w' : World} {x y : Nat} {ts ts' RA : List Ty} {gs gs' RD : List Tu}
end
def s7B : ByteArray := ⟨#[100, 111, 99, 58, 100, 55, 35, 118, 105, 101, 119, 101, 114, 64, 117, 115, 101, 114, 58, 42]⟩
def s9B : ByteArray := ⟨#[100, 111, 99, 58, 100, 57, 35, 111, 119, 110, 101, 114, 64, 117, 115, 101, 114, 58, 117, 57]⟩
def allG2 : List ByteArray := pO ++ [s7B, s9B]
def tt (s : ByteArray) : Tu := (dw s).1
theorem ext_t : (match lM pM with | .ok ts => [s7B, s9B].all fun s => jE s && decide (rA ts (dw s).1 = 0) | .error _ => false) = true := by kernel_rfl
def tuGB (t : Tu) : Bool := KM t && decide (t.kind.size + t.id.size ≤ 1000) && decide (t.sub.size + t.who.size ≤ 1000) && decide (t.kind.size + t.id.size + t.rel.size + t.sub.size + t.who.size + t.of.size ≤ 500)
theorem allG2_low : (allG2.all fun s => tuGB (dw s).1) = true := by kernel_rfl
theorem EC.lets2 {ts : List Ty} (h : EC ts) : ∀ s ∈ allG2, jE s = true ∧ rA ts (tt s) = 0 := fun s hs => by
  rcases List.mem_append.1 hs with hs | hs
  · exact h.lets s hs
  · have := ext_t
    rw [h.read] at this
    have := List.all_eq_true.1 this s hs
    simpa [tt] using this
def GdL (gs : List Tu) : Prop := ∀ t ∈ gs, tuGB t = true
theorem gdL_map {ss : List ByteArray} (h : ∀ s ∈ ss, s ∈ allG2) : GdL (ss.map tt) := fun t ht => by
  obtain ⟨s, hs, rfl⟩ := List.mem_map.1 ht
  exact List.all_eq_true.1 allG2_low s (h s hs)
theorem tuGB_all {t : Tu} (h : tuGB t = true) : t.kind.size ≤ 1000 ∧ t.id.size ≤ 1000 ∧ t.sub.size ≤ 1000 ∧ t.who.size ≤ 1000 ∧ t.of.size ≤ 1000 ∧ t.kind.size + t.id.size ≤ 1000 ∧ t.sub.size + t.who.size ≤ 1000 ∧ tuSmall t := by
  unfold tuGB KM at h
  simp only [Bool.and_eq_true, decide_eq_true_eq] at h
  obtain ⟨⟨⟨⟨⟨⟨⟨q1, q2⟩, q3⟩, q4⟩, q5⟩, q6⟩, q7⟩, q8zq⟩ := h
  exact ⟨q1, q2, q3, q4, q5, q6, q7, q8zq⟩
theorem purL {ts : List Ty} (h : EC ts) {gs : List Tu} (hg : GdL gs) (hl : gs.length ≤ 24) : PuR ts gs := by
  have hm := h.mod
  unfold JK at hm
  simp only [Bool.and_eq_true, decide_eq_true_eq] at hm
  obtain ⟨⟨m1, m2⟩, m3⟩ := hm
  refine ⟨by omega, fun t ht => ?_, fun g hg x hx => KL (List.all_eq_true.1 (List.all_eq_true.1 m2 g hg) x hx), gs_ok m1 (fun a ha b hb e1 e2 => MP (jd gs).ap ha hb e1 e2), m3⟩
  obtain ⟨q1, q2, q3, q4, q5, _⟩ := tuGB_all (hg t ht)
  refine ⟨by unfold maxLen; omega, by unfold maxLen; omega, ?_, ?_, ?_⟩
  · show t.sub.size ≤ _; unfold maxLen; omega
  · show t.who.size ≤ _; unfold maxLen; omega
  · show t.of.size ≤ _; unfold maxLen; omega
theorem tt_inj {ts : List Ty} (h : EC ts) {s t : ByteArray} (hs : s ∈ allG2) (ht : t ∈ allG2) (e : tt s = tt t) : s = t := by
  have h1 := tup_text (h.lets2 s hs).1
  have h2 := tup_text (h.lets2 t ht).1
  unfold tt at e
  rw [e] at h1
  exact h1.symm.trans h2
theorem idx_out {ts : List Ty} (h : EC ts) {ss : List ByteArray} {s : ByteArray} (hss : ∀ s ∈ ss, s ∈ allG2) (hs : s ∈ allG2) (hn : s ∉ ss) : ou (ss.map tt) (tt s) = -1 := CX (fun j hj => by
  cases e : qW (tt s) (ss.map tt)[j]
  · rfl
  · have := (eqTu_iff _ _).1 e
    rw [List.getElem_map] at this
    have := tt_inj h hs (hss _ (List.getElem_mem _)) this
    exact absurd (this ▸ List.getElem_mem _) hn)
theorem idx_in {ss : List ByteArray} {s : ByteArray} (hn : s ∈ ss) : 0 ≤ ou (ss.map tt) (tt s) := by
  unfold ou
  cases e : (ss.map tt).findIdx? (qW (tt s)) with
  | some i => simp
  | none =>
    rw [List.findIdx?_eq_none_iff] at e
    have := e (tt s) (List.mem_map.2 ⟨s, hn, rfl⟩)
    rw [(eqTu_iff _ _).2 rfl] at this
    cases this
section
variable {B : Nat} {w w' : World} {x y : Nat} {ts ts' : List Ty} {gs' : List Tu} {ss : List ByteArray} {s : ByteArray}
end
theorem doc_facts2 {d : Nat} (h : d < 10) : (ax (ib d) 58).1 = eP ∧ dR (ib d) = true ∧ (ib d).size = 6 := by
  rcases d with _ | _ | _ | _ | _ | _ | _ | _ | _ | _ | d <;> first | omega | (refine ⟨?_, ?_, ?_⟩ <;> kernel_rfl)
theorem rel_fits {c : ByteArray} (h : c ∈ [lw, bH, qj, dM, vS]) : c.size ≤ 1000 ∧ dG c = true := by
  have k : ([lw, bH, qj, dM, vS].all fun c => decide (c.size ≤ 1000) && dG c) = true := by kernel_rfl
  have := List.all_eq_true.1 k c h
  simpa using this
def bAll : ByteArray := ⟨#[42]⟩
end Go.Proofs.YtlbpnlngckgcbaaGreatDoor

namespace Go.Proofs.YtlbpnlngckgcbaaGreatDoor
open Go.RowKit Go.PlainAid
theorem stC_app (a b : List ByteArray) : jZ (a ++ b) = jZ a ++ jZ b := by simp [jZ]
end Go.Proofs.YtlbpnlngckgcbaaGreatDoor

namespace Go.Proofs.YtlbpnlngckgcbaaGreatDoor
open Go.RowKit Go.PlainAid
section
variable {B : Nat} {w w' : World} {x y : Nat} {ts ts' : List Ty} {gs gs' : List Tu}
end
theorem gr_two {ss : List ByteArray} (h : ∀ t ∈ ss, t ∈ pO) : ∀ t ∈ ss, t ∈ allG2 := fun t ht => List.mem_append_left _ (h t ht)
end Go.Proofs.YtlbpnlngckgcbaaGreatDoor

namespace Go.Proofs.YtlbpnlngckgcbaaGreatDoor
open Go.RowKit Go.PlainAid
theorem placeQ_at (base : Nat) (v : Value) (l : List ByteArray) (s : ByteArray) (w : World) (h : w.ownsRow base 9 1 v l.length (jZ l)) (hl : l.length ≤ 100000) :
    Calls Tryz.prog 32 #[v, .string s] w fun e w' => ∃ r : Int, e = .returned (.int .i64 r) ∧ w' = w ∧ ((r = -1 ∧ s ∉ l) ∨ ∃ k : Nat, r = k ∧ l[k]? = some s) := by
  obtain ⟨a, c, rfl⟩ := ak h
  have H := ae h
  clear h
  go_enter Tryz.func32, Tryz.ntmps32
  go_wp2_with fail
  go_loopw [5] (fun u wr => ∃ k : Nat, u = .int .i64 k ∧ k ≤ l.length ∧ wr = w ∧ Hid (∀ j, j < k → l[j]? ≠ some s)) (fun u _ => l.length - (intOf u).toNat)
  case atStart => exact ⟨0, rfl, by omega, rfl, ae (fun j h => by omega)⟩
  case round =>
    obtain ⟨k, rfl, hk, hw, HN⟩ := hrel
    subst hw
    by_cases hlt : k < l.length
    · have hkn : (k : Int) < (l.length : Int) := by omega
      obtain ⟨g, c', e1, hc⟩ := aQ (aa H) k (.string l[k]) (by unfold jZ; rw [List.getElem?_map, List.getElem?_eq_getElem hlt]; rfl)
      simp only [Value.slice.injEq, true_and] at e1
      obtain ⟨rfl, rfl⟩ := e1
      have HM := ae (show l[k]? = some l[k] from List.getElem?_eq_getElem hlt)
      generalize l[k] = y at *
      by_cases hys : y = s
      · have hq := ug hys
        have Qm := ae (show l[k]? = some s from hys ▸ aa HM)
        go_wp2
        go_ret
        exact ⟨_, rfl, rfl, .inr ⟨k, rfl, aa Qm⟩⟩
      · have hq := uf hys
        have IE := ae (show ∀ j, j < k + 1 → l[j]? ≠ some s from fun j hj => by
          by_cases e : j = k
          · subst e
            rw [aa HM]
            intro e
            exact hys (Option.some.inj e)
          · exact aa HN j (by omega))
        go_wp2
        go_roundw
        case rel => exact ⟨k + 1, by go_num, by omega, by first | rfl | trivial, IE⟩
        case measure => simp [intOf]; omega
    · have hkn : ¬ ((k : Int) < (l.length : Int)) := by omega
      have HOUT := ae (show s ∉ l from fun hs => by
        obtain ⟨j, hj⟩ := List.mem_iff_getElem?.1 hs
        exact aa HN j (by have := (List.getElem?_eq_some_iff.1 hj).1; omega) hj)
      go_wp2
      go_ret
      exact ⟨_, rfl, rfl, .inl ⟨rfl, aa HOUT⟩⟩
theorem withoutQ_any (base : Nat) (v : Value) (l : List ByteArray) (k : Nat) (w : World) (h : w.ownsRow base 9 1 v l.length (jZ l)) (hk : k < l.length) (hl : l.length ≤ 100000) :
    Calls Tryz.prog 51 #[v, .int .i64 k] w fun e w' => ∃ v', e = .returned v' ∧ Below w.heap.size w w' ∧ w'.ownsRow w.heap.size 9 1 v' (l.eraseIdx k).length (jZ (l.eraseIdx k)) := by
  obtain ⟨g, c, rfl, hnc, _⟩ := yJ h (by omega)
  have H := ae h
  have HPA := ae (part_take h (show k ≤ l.length by omega))
  obtain ⟨A, hA⟩ : ∃ A : Addr, (if c = k + 1 then some (⟨g, 0, none⟩ : Addr) else some ⟨g, k + 1, none⟩) = some A := by
    split
    · exact ⟨_, rfl⟩
    · exact ⟨_, rfl⟩
  have HLE := ae (show jZ (l.eraseIdx k) = jZ (l.take k) ++ jZ (l.drop (k + 1)) ∧ (l.eraseIdx k).length = k + (l.length - (k + 1)) from ⟨by rw [List.eraseIdx_eq_take_drop_succ, stC_app], by rw [List.length_eraseIdx_of_lt hk]; omega⟩)
  obtain ⟨i0, hi0, hz0, hz1, hz2⟩ := info_parts Tryz.infoStr
  have HI := ae hi0
  have jg := ae hz0
  have jh := ae hz1
  have ji := ae hz2
  have s1 : k ≤ c := by omega
  have s2 : k + 1 ≤ c := by omega
  have s3 : k + 1 ≤ l.length := by omega
  clear h hi0 hz0 hz1 hz2
  go_enter Tryz.func51, Tryz.ntmps51
  go_wp2_with (at_builtin; go_must (refine wpList_append_part rfl _ _ 22 rfl w.heap.size 9 i0 _ 1 16 Tryz.underlying22 (aa HI) (aa jg) (aa jh) (aa ji) rfl (by decide) (.slice none 0 0) 0 [] rfl (World.ownsRow_nil _ _ _ _) (.slice (some ⟨g, 0, none⟩) k c) k (jZ (l.take k)) rfl (aa HPA) (stC_one _) ?h63A ?Jf (Nat.le_refl _) ?hrestA))
  case h63A => unfold maxLen; omega
  case Jf => omega
  case hrestA =>
    intro av1 cv1 w1 hown1 hgrow1
    have B1 := ae (Below.grown (Below.refl w.heap.size w) hgrow1 (Nat.le_refl _) (fun k hk => by simp [Value.ownBlock] at hk))
    have HPB := ae (part_drop (aF (aa H) (aa B1)) (show k + 1 ≤ l.length by omega) hA.symm)
    have M1 := ae hown1
    have hs1 := (aa B1).size
    clear hown1 hgrow1 HPA
    go_wp2_with (at_builtin; go_must (refine wpList_append_part rfl _ _ 22 rfl w.heap.size 9 i0 _ 1 16 Tryz.underlying22 (aa HI) (aa jg) (aa jh) (aa ji) rfl (by decide) (.slice av1 k cv1) k (jZ (l.take k)) rfl (aa M1) (.slice (some A) (l.length - (k + 1)) (c - (k + 1))) (l.length - (k + 1)) (jZ (l.drop (k + 1))) rfl (aa HPB) (stC_one _) ?h63C ?hbytesC hs1 ?hrestC))
    case h63C => unfold maxLen; omega
    case hbytesC => omega
    case hrestC =>
      intro av3 cv3 w3 o9 fF
      have B3 := ae (Below.grown (aa B1) fF hs1 (fun q hq => ((aa M1).lt q hq).1))
      have M3 := ae (show w3.ownsRow w.heap.size 9 1 (.slice av3 (k + (l.length - (k + 1))) cv3) (l.eraseIdx k).length (jZ (l.eraseIdx k)) from by
        rw [(aa HLE).1, (aa HLE).2]
        simpa using o9)
      clear o9 fF
      go_wp2
      go_ret
      exact ⟨_, rfl, aa B3, aa M3⟩
end Go.Proofs.YtlbpnlngckgcbaaGreatDoor

namespace Go.Proofs.YtlbpnlngckgcbaaGreatDoor
open Go.RowKit Go.PlainAid
section
variable {B : Nat} {w w' : World} {x : Nat} {ts : List Ty} {gs : List Tu} {ss : List ByteArray} {s : ByteArray}
theorem EP.grown {v : Value} {b n : Nat} {xs : List Value} (h : EP B w x ts gs) (hr : w.ownsRow b 9 1 v n xs) (hg : w.grownBy w' v.ownBlock) : EP B w' x ts gs := by
  obtain ⟨mv, lv, gv, h1, h4⟩ := h
  have key : ∀ k, v.ownBlock = some k → ∃ cs f, w.heap[k]? = some (Obj.cells cs 9 f) := fun k hk => by
    rcases hr with ⟨h0, ⟨rfl, _⟩ | ⟨g, cap, cur, rfl, hg', hh, _⟩⟩
    · simp [Value.ownBlock] at hk
    · simp only [Value.ownBlock, Option.some.injEq] at hk
      subst hk
      exact ⟨_, _, hh⟩
  have hb : aS (fun k => v.ownBlock = some k) w w' := fV hg (fun _ e => e)
  refine ⟨mv, lv, gv, h1.keep hb (fun k hk e => ?_) (fun k cs T f hk hh => ?_), h4⟩
  · obtain ⟨cs, T, hb', hT'⟩ := h1.ty hk
    obtain ⟨cs', f', e'⟩ := key k e
    unfold ag at hb'
    rw [hb'] at e'
    cases e'
    rcases hT' with e | e <;> exact absurd e (by decide)
  · obtain ⟨cs', f', e⟩ := key k hk
    rw [e] at hh
    cases hh
    unfold MQ LT
    decide
structure DnI (ss : List ByteArray) : Prop where
  gr : ∀ t ∈ ss, t ∈ pO
  nd : ss.Nodup
  len : ss.length ≤ 24
theorem DnI.snoc (h : DnI ss) (hs : s ∈ pO) (hn : s ∉ ss) (hl : ss.length < 24) : DnI (ss ++ [s]) where
  gr := fun u hu => by
    rcases List.mem_append.1 hu with hu | hu
    · exact h.gr u hu
    · rw [List.mem_singleton] at hu; subst hu; exact hs
  nd := by
    rw [List.nodup_append]
    refine ⟨h.nd, by simp, fun a ha b hb e => ?_⟩
    rw [List.mem_singleton] at hb
    subst hb
    subst e
    exact hn ha
  len := by simp; omega
theorem DnI.cut (h : DnI ss) (k : Nat) : DnI (ss.eraseIdx k) where
  gr := fun u hu => h.gr u (List.mem_of_mem_eraseIdx hu)
  nd := h.nd.sublist (List.eraseIdx_sublist ss k)
  len := by have := List.length_eraseIdx_le ss k; have := h.len; omega
theorem idx_at {ts : List Ty} (h : EC ts) {k : Nat} (hss : ∀ s ∈ ss, s ∈ allG2) (hn : ss.Nodup) (hk : ss[k]? = some s) : ou (ss.map tt) (tt s) = k := by
  obtain ⟨hl, e0⟩ := List.getElem?_eq_some_iff.1 hk
  refine I9 (by simpa using hl) (fun j hj hjk => ?_) ?_
  · cases e : qW (tt s) (ss.map tt)[j]
    · rfl
    · have := (eqTu_iff _ _).1 e
      rw [List.getElem_map] at this
      have hj' : j < ss.length := by simpa using hj
      have e2 := tt_inj h (hss _ (List.mem_of_getElem? hk)) (hss _ (List.getElem_mem hj')) this
      rw [← e0] at e2
      have hp := List.pairwise_iff_getElem.1 hn j k hj' hl hjk
      exact absurd e2.symm hp
  · rw [eqTu_iff, List.getElem_map, e0]
theorem md_new (h : EP B w x ts (ss.map tt)) (hE : yN w) (ht : EC ts) (hss : ∀ s ∈ ss, s ∈ allG2) (hs : s ∈ allG2) (hn : s ∉ ss) (hl : ss.length < 24) :
    Calls Tryz.prog 28 #[.pointer (some ⟨x, 0, none⟩), .string s] w fun e w' => e = .returned (.int .i64 0) ∧ EP B w' x ts ((ss ++ [s]).map tt) ∧ Below B w w' ∧ PR w w' := by
  have e : Nv ts (ss.map tt) s = (0, (ss ++ [s]).map tt) := by
    obtain ⟨h1, h2⟩ := ht.lets2 s hs
    unfold Nv
    rw [h1, show rA ts (dw s).1 = 0 from h2, show ou (ss.map tt) (dw s).1 = -1 from idx_out ht hss hs hn]
    rw [if_neg (by simp), if_neg (by simp), if_neg (by decide), if_neg (by simp; omega), List.map_append]
    rfl
  have := KO (RA := ts) (RD := (Nv ts (ss.map tt) s).2) (c := (Nv ts (ss.map tt) s).1) h (fun mv lv gv hu => M7 hu s hE.max (by have := hE.lt; omega) hE.laid (by simp; omega))
  rw [e] at this
  exact this
theorem md_full (h : EP B w x ts (ss.map tt)) (hE : yN w) (ht : EC ts) (hss : ∀ s ∈ ss, s ∈ allG2) (hs : s ∈ allG2) (hn : s ∉ ss) (hl : ss.length = 24) :
    Calls Tryz.prog 28 #[.pointer (some ⟨x, 0, none⟩), .string s] w fun e w' => e = .returned (.int .i64 8) ∧ EP B w' x ts (ss.map tt) ∧ Below B w w' ∧ PR w w' := by
  have e : Nv ts (ss.map tt) s = (8, ss.map tt) := by
    obtain ⟨h1, h2⟩ := ht.lets2 s hs
    unfold Nv
    rw [h1, show rA ts (dw s).1 = 0 from h2, show ou (ss.map tt) (dw s).1 = -1 from idx_out ht hss hs hn]
    rw [if_neg (by simp), if_neg (by simp), if_neg (by decide), if_pos (by simp; omega)]
  have := KO (RA := ts) (RD := (Nv ts (ss.map tt) s).2) (c := (Nv ts (ss.map tt) s).1) h (fun mv lv gv hu => M7 hu s hE.max (by have := hE.lt; omega) hE.laid (by simp; omega))
  rw [e] at this
  exact this
theorem md_twice (h : EP B w x ts (ss.map tt)) (hE : yN w) (ht : EC ts) (hs : s ∈ allG2) (hn : s ∈ ss) (hl : ss.length ≤ 24) :
    Calls Tryz.prog 28 #[.pointer (some ⟨x, 0, none⟩), .string s] w fun e w' => e = .returned (.int .i64 4) ∧ EP B w' x ts (ss.map tt) ∧ Below B w w' ∧ PR w w' := by
  have e : Nv ts (ss.map tt) s = (4, ss.map tt) := by
    obtain ⟨h1, h2⟩ := ht.lets2 s hs
    unfold Nv
    rw [h1, show rA ts (dw s).1 = 0 from h2]
    rw [if_neg (by simp), if_neg (by simp), if_pos (show 0 ≤ ou (ss.map tt) (dw s).1 from idx_in hn)]
  have := KO (RA := ts) (RD := (Nv ts (ss.map tt) s).2) (c := (Nv ts (ss.map tt) s).1) h (fun mv lv gv hu => M7 hu s hE.max (by have := hE.lt; omega) hE.laid (by simp; omega))
  rw [e] at this
  exact this
theorem md_del (h : EP B w x ts (ss.map tt)) (hE : yN w) (ht : EC ts) (hss : ∀ s ∈ ss, s ∈ allG2) (hnd : ss.Nodup) {k : Nat} (hk : ss[k]? = some s) :
    Calls Tryz.prog 35 #[.pointer (some ⟨x, 0, none⟩), .string s] w fun e w' => e = .returned (.int .i64 0) ∧ EP B w' x ts ((ss.eraseIdx k).map tt) ∧ Below B w w' ∧ PR w w' := by
  have e : delP (ss.map tt) s = (0, (ss.eraseIdx k).map tt) := by
    unfold delP
    rw [(ht.lets2 s (hss s (List.mem_of_getElem? hk))).1, show ou (ss.map tt) (dw s).1 = k from idx_at ht hss hnd hk]
    rw [if_neg (by simp), if_neg (by omega)]
    congr 1
    rw [Int.toNat_natCast, List.eraseIdx_eq_take_drop_succ, List.eraseIdx_eq_take_drop_succ, List.map_append, List.map_take, List.map_drop]
  have := KO (RA := ts) (RD := (delP (ss.map tt) s).2) (c := (delP (ss.map tt) s).1) h (fun mv lv gv hu => qdelete hu s hE.max (by have := hE.lt; omega))
  rw [e] at this
  exact this
theorem md_none (h : EP B w x ts (ss.map tt)) (hE : yN w) (ht : EC ts) (hss : ∀ s ∈ ss, s ∈ allG2) (hs : s ∈ allG2) (hn : s ∉ ss) :
    Calls Tryz.prog 35 #[.pointer (some ⟨x, 0, none⟩), .string s] w fun e w' => e = .returned (.int .i64 9) ∧ EP B w' x ts (ss.map tt) ∧ Below B w w' ∧ PR w w' := by
  have e : delP (ss.map tt) s = (9, ss.map tt) := by
    unfold delP
    rw [(ht.lets2 s hs).1, show ou (ss.map tt) (dw s).1 = -1 from idx_out ht hss hs hn]
    rw [if_neg (by simp), if_pos (by decide)]
  have := KO (RA := ts) (RD := (delP (ss.map tt) s).2) (c := (delP (ss.map tt) s).1) h (fun mv lv gv hu => qdelete hu s hE.max (by have := hE.lt; omega))
  rw [e] at this
  exact this
end
def DnPost (B x : Nat) (ts : List Ty) (w : World) (e : Ending) (w' : World) : Prop := ∃ v ss, e = .returned (.tuple #[v, .bool true]) ∧ Below B w w' ∧ EP B w' x ts (ss.map tt) ∧ w'.ownsRow B 9 1 v ss.length (jZ ss) ∧ DnI ss
theorem doneQ_any (B x : Nat) (o : Oq) (v : Value) (ts : List Ty) (ss : List ByteArray) (w : World) (ho : AV o) (h : EP B w x ts (ss.map tt)) (hE : yN w) (hB : 4 < B) (hBw : B ≤ w.heap.size) (ht : EC ts) (hv : w.ownsRow B 9 1 v ss.length (jZ ss)) (hi : DnI ss) :
    Calls Tryz.prog 21 #[.pointer (some ⟨x, 0, none⟩), .agg #[.int .i64 o.kd, .int .i64 o.a, .int .i64 o.b, .bool o.less], v] w (DnPost B x ts w) := by
  obtain ⟨va, vc, rfl⟩ := ak hv
  have b0 := (Below.refl w.heap.size w).alloc (Nat.le_refl _) (.cells #[.int .i64 o.kd, .int .i64 o.a, .int .i64 o.b, .bool o.less] 50)
  have MO := ae (b0.mono hBw)
  have HS0 := ae (h.below b0)
  have HR0 := ae (aF hv b0)
  have HE := ae hE
  have HT := ae ht
  have HI := ae hi
  have hlen := hi.len
  have CG := ae (fun w' => AX o ho w')
  have l1 := mX o.kd (n := 9) (by omega)
  have l2 := mX o.a (n := 4) (by omega)
  have l3 := mX o.b (n := 4) (by omega)
  have RF := ae (Ha l1 l2 l3)
  generalize Io (BV o.kd 9) (BV o.a 4) (BV o.b 4) = T at *
  clear h hE ht hv hi b0 l1 l2 l3 ho
  go_enter Tryz.func21, Tryz.ntmps21
  go_wp2_with fail
  refine (aa CG _).mono ?_
  rintro e w1 ⟨rfl, hb1⟩
  have y3 : w1.cell? ⟨w.heap.size, 3, none⟩ = some (.bool o.less) := af (show (w.alloc (.cells #[.int .i64 o.kd, .int .i64 o.a, .int .i64 o.b, .bool o.less] 50)).cell? ⟨w.heap.size, 3, none⟩ = some (.bool o.less) from by have q := World.news_of_block (B := w.heap.size) (cs := #[.int .i64 o.kd, .int .i64 o.a, .int .i64 o.b, .bool o.less]) (t := 50) (fr := (0, 0)) (ag.new w _ _) 3 _ rfl; exact q) hb1
  have MN := ae ((aa MO).trans (hb1.mono (by simp; omega)))
  have HS1 := ae ((aa HS0).below hb1)
  have Ou := ae (aF (aa HR0) hb1)
  have HE1 := ae ((aa HE).below (aa MN) hB)
  have hs1 := (aa MN).size
  have CP := ae (placeQ_at _ _ ss T w1 (aa Ou) (by omega))
  have HG2 := ae (gr_two (aa HI).gr)
  have HT2 := ae (show T ∈ allG2 from List.mem_append_left _ (aa RF))
  clear hb1 CG MO HS0 HR0
  go_wp2_with fail
  refine (aa CP).mono ?_
  rintro e w2 ⟨r, rfl, hw2, hr⟩
  rw [hw2]
  clear hw2 w2 CP
  cases hles : o.less
  · rw [hles] at y3
    rcases hr with ⟨rfl, hout⟩ | ⟨k, rfl, hk⟩
    · by_cases hfull : ss.length = 24
      · have CW := ae (md_full (aa HS1) (aa HE1) (aa HT) (aa HG2) (aa HT2) hout hfull)
        have hfe : ((ss.length : Int) == 24) = true := by rw [hfull]; rfl
        clear hout hles hfull
        go_wp2_with fail
        refine (aa CW).mono ?_
        rintro e w3 ⟨rfl, hs3, hb3, hk3⟩
        have ww := ae ((aa MN).trans hb3)
        have zJ := ae hs3
        have gD := ae (hk3.row (aa Ou))
        clear hs3 hb3 hk3 CW
        go_wp2
        go_ret2
        exact ⟨_, ss, rfl, aa ww, aa zJ, aa gD, aa HI⟩
      · have CW := ae (md_new (aa HS1) (aa HE1) (aa HT) (aa HG2) (aa HT2) hout (by omega))
        have yC := ae ((aa HI).snoc (aa RF) hout (by omega))
        have hfe : ((ss.length : Int) == 24) = false := by rw [beq_eq_false_iff_ne]; omega
        have hfi : ¬ ((ss.length : Int) = 24) := by omega
        clear hout hles
        go_wp2_with fail
        refine (aa CW).mono ?_
        rintro e w3 ⟨rfl, hs3, hb3, hk3⟩
        have ww := ae ((aa MN).trans hb3)
        have zJ := ae hs3
        have gD := ae (hk3.row (aa Ou))
        have zD := hb3.size
        clear hs3 hb3 hk3 CW
        obtain ⟨i0, hi0, hz0, hz1, hz2⟩ := info_parts Tryz.infoStr
        have HJ := ae hi0
        have jg := ae hz0
        have jh := ae hz1
        have ji := ae hz2
        clear hi0 hz0 hz1 hz2
        go_wp2_with (at_builtin; go_must (refine wpList_append_lies _ rfl _ _ 22 rfl B 9 i0 _ 1 16 Tryz.underlying22 (aa HJ) (aa jg) (aa jh) (aa ji) rfl (by decide) (.slice va ss.length vc) ss.length (jZ ss) rfl ?hownB ⟨w3.heap.size, 0, none⟩ 1 1 [.string T] rfl rfl ?Lt ?honeB (by decide) ?h63B ?Je ?Lu (w3.heap.size + 1) ?hHB ?hrestB))
        case hownB => exact (aa gD).alloc _
        case Lt => exact World.news_of_block (B := w3.heap.size) (cs := #[.string T]) (t := 9) (fr := (0, 0)) (ag.new _ _ _)
        case honeB =>
          intro u hu
          simp at hu
          subst hu
          rfl
        case h63B => unfold maxLen; omega
        case Je => omega
        case Lu => simp; omega
        case hHB => simp
        case hrestB =>
          intro g8 c8 w8 hown8 hgrow8 hat8 hgl8
          have fA := (aa gD).alloc (.cells #[.string T] 9)
          have HB8 := ae (Below.grown ((aa ww).alloc (by omega) (.cells #[.string T] 9)) hgrow8 (by simp; omega) (fun q hq => (fA.lt q hq).1))
          have QP := ae (((aa zJ).below ((Below.refl w3.heap.size w3).alloc (Nat.le_refl _) (.cells #[.string T] 9))).grown fA hgrow8)
          have HR8 := ae (show w8.ownsRow B 9 1 (.slice (some ⟨g8, 0, none⟩) (ss.length + 1) c8) (ss ++ [T]).length (jZ (ss ++ [T])) from by
            rw [show (ss ++ [T]).length = ss.length + 1 by simp, stC_app]
            exact hown8)
          clear fA hown8 hgrow8 hat8 hgl8 ww zJ gD
          go_wp2
          go_ret2
          exact ⟨_, ss ++ [T], rfl, aa HB8, aa QP, aa HR8, aa yC⟩
    · have CW := ae (md_twice (aa HS1) (aa HE1) (aa HT) (aa HT2) (List.mem_of_getElem? hk) hlen)
      clear hk hles
      go_wp2_with fail
      refine (aa CW).mono ?_
      rintro e w3 ⟨rfl, hs3, hb3, hk3⟩
      have ww := ae ((aa MN).trans hb3)
      have zJ := ae hs3
      have gD := ae (hk3.row (aa Ou))
      clear hs3 hb3 hk3 CW
      go_wp2
      go_ret2
      exact ⟨_, ss, rfl, aa ww, aa zJ, aa gD, aa HI⟩
  · rw [hles] at y3
    rcases hr with ⟨rfl, hout⟩ | ⟨k, rfl, hk⟩
    · have CW := ae (md_none (aa HS1) (aa HE1) (aa HT) (aa HG2) (aa HT2) hout)
      clear hout hles
      go_wp2_with fail
      refine (aa CW).mono ?_
      rintro e w3 ⟨rfl, hs3, hb3, hk3⟩
      have ww := ae ((aa MN).trans hb3)
      have zJ := ae hs3
      have gD := ae (hk3.row (aa Ou))
      clear hs3 hb3 hk3 CW
      go_wp2
      go_ret2
      exact ⟨_, ss, rfl, aa ww, aa zJ, aa gD, aa HI⟩
    · have CW := ae (md_del (aa HS1) (aa HE1) (aa HT) (aa HG2) (aa HI).nd hk)
      have hkl : k < ss.length := (List.getElem?_eq_some_iff.1 hk).1
      clear hk hles
      go_wp2_with fail
      refine (aa CW).mono ?_
      rintro e w3 ⟨rfl, hs3, hb3, hk3⟩
      have ww := ae ((aa MN).trans hb3)
      have zJ := ae hs3
      have COzq := ae (withoutQ_any _ _ ss k w3 (hk3.row (aa Ou)) hkl (by omega))
      have zD := hb3.size
      clear hs3 hb3 hk3 CW
      go_wp2_with fail
      refine (aa COzq).mono ?_
      rintro e w4 ⟨v4, rfl, hb4, hr4⟩
      have wy := ae ((aa ww).trans (hb4.mono (by omega)))
      have Nl := ae ((aa zJ).below hb4)
      have lD := ae (own_low hr4 (show B ≤ w3.heap.size by omega))
      clear hb4 hr4 COzq
      go_wp2
      go_ret2
      exact ⟨_, ss.eraseIdx k, rfl, aa wy, aa Nl, aa lD, (aa HI).cut k⟩
end Go.Proofs.YtlbpnlngckgcbaaGreatDoor

namespace Go.Proofs.YtlbpnlngckgcbaaGreatDoor
open Go.RowKit Go.PlainAid
def bNew : ByteArray := ⟨#[110, 101, 119]⟩
end Go.Proofs.YtlbpnlngckgcbaaGreatDoor

namespace Go.Proofs.YtlbpnlngckgcbaaGreatDoor
open Go.RowKit Go.PlainAid
theorem usr_t : (match lM pM with | .ok ts => (cu ts dP).isSome | .error _ => false) = true := by kernel_rfl
theorem user_facts {j : Nat} (h : j < 4) : (ax (gQ j) 58).1 = dP ∧ dR (gQ j) = true ∧ (gQ j).size = 7 := by
  rcases j with _ | _ | _ | _ | d <;> first | omega | (refine ⟨?_, ?_, ?_⟩ <;> kernel_rfl)
def AgPost (gs : List Tu) (q : Sj) (who : Tg) (w : World) (e : Ending) (w' : World) : Prop := ∃ kb, e = .returned (.tuple #[.bool (kb q), .int .i64 0]) ∧ Below w.heap.size w w' ∧ oM who (bF gs) (p9 ++ [vT]) (fun _ => false) kb
theorem agr_check {x : Nat} {mv lv gv : Value} {w : World} {ts : List Ty} {gs : List Tu} (hu : UQ w x mv lv gv ts gs) (hE : yN w) (ht : EC ts) (hg : GdL gs) (hl : gs.length ≤ 24) {d : Nat} (hd : d < 10) {c : ByteArray} (hc : c ∈ [lw, bH, qj, dM, vS]) {W id : ByteArray} (hw : (ax W 58).1 = dP ∧ dR W = true ∧ W.size ≤ 1000) (hid : (ax W 58).2.1 = id) :
    Calls Tryz.prog 26 #[.pointer (some ⟨x, 0, none⟩), .string (ib d), .string c, .string W] w (AgPost gs ⟨eP, qa d, c⟩ ⟨dP, id⟩ w) := by
  obtain ⟨d1, d2, d3⟩ := doc_facts2 hd
  obtain ⟨f1, f2⟩ := rel_fits hc
  obtain ⟨t, r, hf, hq⟩ := ht.rel c hc
  obtain ⟨t', hf'⟩ : ∃ t', cu ts dP = some t' := by
    have := usr_t
    rw [ht.read] at this
    exact Option.isSome_iff_exists.1 this
  refine (check_ok x mv lv gv ts gs w hu (purL ht hg hl) (ib d) c W (by omega) d2 f1 f2 t (by rw [d1]; exact hf) r hq hw.2.2 hw.2.1 t' (by rw [hw.1]; exact hf') hE.max (by have := hE.lt; omega)).mono ?_
  rintro e w' ⟨kb, rfl, hb, hr⟩
  rw [d1, hw.1, hid] at *
  rw [ht.grp] at hr
  exact ⟨kb, rfl, hb, hr⟩
end Go.Proofs.YtlbpnlngckgcbaaGreatDoor

