import Derived.Test.YtlbpnlngckgcbaaGreatDoorM19
import Derived.Deep.Upon
import Derived.Deep.RegionLaw
namespace Go.Proofs.YtlbpnlngckgcbaaGreatDoor
open Go.RowKit Go.PlainAid
set_option linter.unusedSimpArgs false
set_option linter.unusedVariables false
/-! The smallest parts of a part. -/
def leavesF (pl : List PV) : Nat → Nat → List Nat
 | 0, _ => []
 | f + 1, n => match pl[n]? with
  | none => []
  | some p => if p.kind = 4 ∨ p.kind = 5 then p.ps.flatMap (leavesF pl f) else [n]
def leavesE : Ex → List Ex
 | ⟨_, some x, some y⟩ => leavesE x ++ leavesE y
 | ⟨n, none, r⟩ => [⟨n, none, r⟩]
 | ⟨_, some _, none⟩ => []
theorem All2.app {R : Nat → Ex → Prop} {c : List Nat} {cs : List Ex} (k : All2 R c cs) : ∀ (ns : List Nat) (xs : List Ex), All2 R ns xs → All2 R (ns ++ c) (xs ++ cs)
 | [], [], _ => k
 | n :: ns, x :: xs, h => ⟨h.1, All2.app k ns xs h.2⟩
 | [], _ :: _, h => h.elim
 | _ :: _, [], h => h.elim
theorem All2.len {R : Nat → Ex → Prop} : ∀ (ns : List Nat) (xs : List Ex), All2 R ns xs → ns.length = xs.length
 | [], [], _ => rfl
 | n :: ns, x :: xs, h => by simp [All2.len ns xs h.2]
 | [], _ :: _, h => h.elim
 | _ :: _, [], h => h.elim
theorem leavesE_fold : ∀ (rs : List (ByteArray × Nat × Ex)) (x : Ex), leavesE (foldE x rs) = leavesE x ++ (rs.map fun r => r.2.2).flatMap leavesE
 | [], x => by simp [foldE]
 | (t, p, y) :: rs, x => by
  rw [foldE, leavesE_fold rs]
  simp [joinE, leavesE]
theorem leaves_all {pl : List PV} {f : Nat} (ih : ∀ n x, Tr pl f n x → All2 (Tr pl 1) (leavesF pl f n) (leavesE x)) : ∀ (ns : List Nat) (xs : List Ex), All2 (Tr pl f) ns xs → All2 (Tr pl 1) (ns.flatMap (leavesF pl f)) (xs.flatMap leavesE)
 | [], [], _ => trivial
 | n :: ns, x :: xs, h => by
  simp only [List.flatMap_cons]
  exact All2.app (leaves_all ih ns xs h.2) _ _ (ih n x h.1)
 | [], _ :: _, h => h.elim
 | _ :: _, [], h => h.elim
theorem leaves_tr (pl : List PV) : ∀ (f n : Nat) (x : Ex), Tr pl f n x → All2 (Tr pl 1) (leavesF pl f n) (leavesE x)
 | 0, _, _, h => h.elim
 | f + 1, n, x, ⟨p, hp, h⟩ => by
  rw [leavesF, hp]
  rcases h with ⟨h1, hn, h2⟩ | ⟨h1, h0, hn, h2⟩ | ⟨h1, h0, hn, h2⟩ | ⟨h1, h0, n0, ns, x0, rs, h3, h4, h5, h6, h7, h8⟩ | ⟨h1, h0, h0', n0, ns, x0, rs, h3, h4, h5, h6, h7, h8⟩
  ·simp only [h1, Nat.reduceEqDiff, or_self, if_false, h2, leavesE]
   exact ⟨⟨p, hp, .inl ⟨h1, hn, rfl⟩⟩, trivial⟩
  ·simp only [h1, Nat.reduceEqDiff, or_self, if_false, h2, leavesE]
   exact ⟨⟨p, hp, .inr (.inl ⟨h1, h0, hn, rfl⟩)⟩, trivial⟩
  ·simp only [h1, Nat.reduceEqDiff, or_self, if_false, h2, leavesE]
   exact ⟨⟨p, hp, .inr (.inr (.inl ⟨h1, h0, hn, rfl⟩))⟩, trivial⟩
  ·simp only [h1, true_or, if_true, h8, h3, leavesE_fold, List.flatMap_cons]
   exact All2.app (leaves_all (leaves_tr pl f) _ _ h5) _ _ (leaves_tr pl f _ _ h4)
  ·simp only [h1, or_true, if_true, h8, h3, leavesE_fold, List.flatMap_cons]
   exact All2.app (leaves_all (leaves_tr pl f) _ _ h5) _ _ (leaves_tr pl f _ _ h4)
section
variable {w w' : World} {b : Nat} {kv rv pv : Value} {kl : List (ByteArray × Nat)} {rl : List RV} {pl : List PV} {l : List PX}
theorem DM.pat (h : DM w b kv rv pv kl rl pl l) (i : Nat) (p : PV) (hi : pl[i]? = some p) : ∃ g c ga gc pa pc sa sc, pv = .slice (some ⟨g, 0, none⟩) pl.length c ∧ RepP w (p, .slice ga p.gs.length gc, .slice pa p.ps.length pc, .slice sa p.sg.length sc) ∧
  w.cell? ⟨g, i * 8, none⟩ = some (.int .i64 p.kind) ∧ w.cell? ⟨g, i * 8 + 1, none⟩ = some (.slice ga p.gs.length gc) ∧ w.cell? ⟨g, i * 8 + 2, none⟩ = some (.string p.nb) ∧ w.cell? ⟨g, i * 8 + 3, none⟩ = some (.string p.nr) ∧ w.cell? ⟨g, i * 8 + 4, none⟩ = some (.int .i64 p.pa) ∧ w.cell? ⟨g, i * 8 + 5, none⟩ = some (.int .i64 p.pr) ∧ w.cell? ⟨g, i * 8 + 6, none⟩ = some (.slice pa p.ps.length pc) ∧ w.cell? ⟨g, i * 8 + 7, none⟩ = some (.slice sa p.sg.length sc) := by
 have hl : pl.length = l.length := by rw [← h.pt.fst, List.length_map]
 rw [← h.pt.fst, List.getElem?_map] at hi
 obtain ⟨x, hx, rfl⟩ := Option.map_eq_some_iff.1 hi
 have hrow := h.pt.row
 rw [hl] at hrow
 obtain ⟨g, c, e, hc⟩ := flat_cell pCells 8 (fun _ => rfl) hrow i x hx
 have hr := h.pt.rep x (List.mem_of_getElem? hx)
 obtain ⟨p, gv, qv, sv⟩ := x
 obtain ⟨ga, gc, e1⟩ := own_form hr.g
 obtain ⟨pa, pc, e2⟩ := own_form hr.p
 obtain ⟨sa, sc, e3⟩ := own_form hr.s
 simp only at e1 e2 e3
 subst e1 e2 e3
 exact ⟨g, c, ga, gc, pa, pc, sa, sc, by rw [e, hl], hr, hc 0 _ (by omega) rfl, hc 1 _ (by omega) rfl, hc 2 _ (by omega) rfl, hc 3 _ (by omega) rfl, hc 4 _ (by omega) rfl, hc 5 _ (by omega) rfl, hc 6 _ (by omega) rfl, hc 7 _ (by omega) rfl⟩
end
/-- The contract of 'leaves' at a part. -/
def LeavesC (pl : List PV) (n : Nat) (lv : List Nat) : Prop := ∀ (b : Nat) (kv rv pv : Value) (kl : List (ByteArray × Nat)) (rl : List RV) (l : List PX) (w : World), DM w b kv rv pv kl rl pl l →
 Calls Tryz.prog 191 #[.pointer (some ⟨b, 5, none⟩), .int .i64 n] w fun e w' => ∃ sv, e = .returned sv ∧ Below w.heap.size w w' ∧ w'.ownsRow w.heap.size 3 1 sv lv.length (lv.map fun n : Nat => .int .i64 n)
set_option maxHeartbeats 1000000 in
set_option maxRecDepth 100000 in
theorem leaves_leaf (pl : List PV) (n : Nat) (p : PV) (hp : pl[n]? = some p) (h4 : p.kind ≠ 4) (h5 : p.kind ≠ 5) : LeavesC pl n [n] := by
 intro b kv rv pv kl rl l w h
 obtain ⟨g, c, ga, gc, pa, pc, sa, sc, rfl, hr, k0, k1, k2, k3, k4, k5, k6, k7⟩ := h.pat n p hp
 have c7 := h.c7
 have hn := (List.getElem?_eq_some_iff.1 hp).1
 have hpn := h.pn
 have hn' : (n : Int) < (pl.length : Int) := by omega
 have h4' : ¬ ((p.kind : Int) = 4) := by omega
 have h5' : ¬ ((p.kind : Int) = 5) := by omega
 have h4b : ((p.kind : Int) != 4) = true := bne_iff_ne.2 h4'
 have h5b : ((p.kind : Int) != 5) = true := bne_iff_ne.2 h5'
 have glt := lt_of_cell k0
 clear h hr hp
 go_enter Tryz.func191, Tryz.ntmps191
 go_wp2
 go_ret
 refine ⟨_, rfl, ((Below.refl _ w).alloc (Nat.le_refl _) _).alloc (by simp) _, rfl, .inr ⟨w.heap.size + 1, 1, #[.int .i64 n], rfl, by omega, ?_, by omega, by unfold maxLen; omega, rfl, rfl⟩⟩
 exact Blk.new' (w.alloc _) _ _ _ (by simp)
theorem flat_take {α β : Type} (f : α → List β) (l : List α) (k : Nat) (a : α) (h : l[k]? = some a) : (l.take (k + 1)).flatMap f = (l.take k).flatMap f ++ f a := by
 obtain ⟨hk, rfl⟩ := List.getElem?_eq_some_iff.1 h
 rw [List.take_succ_eq_append_getElem hk, List.flatMap_append]
 simp
theorem flat_le {α β : Type} (f : α → List β) (l : List α) (k : Nat) : ((l.take k).flatMap f).length ≤ (l.flatMap f).length := by
 have : l.flatMap f = (l.take k).flatMap f ++ (l.drop k).flatMap f := by rw [← List.flatMap_append, List.take_append_drop]
 rw [this, List.length_append]
 omega
set_option maxHeartbeats 2000000 in
set_option maxRecDepth 100000 in
theorem leaves_node4 (pl : List PV) (n : Nat) (p : PV) (hp : pl[n]? = some p) (hk : p.kind = 4) (lf : Nat → List Nat) (hc : ∀ m ∈ p.ps, LeavesC pl m (lf m) ∧ 0 < (lf m).length) (hl : (p.ps.flatMap lf).length ≤ 1000) (hps : p.ps.length ≤ 1000) : LeavesC pl n (p.ps.flatMap lf) := by
 generalize hG : p.ps.flatMap lf = G at *
 have HG := hide hG
 clear hG
 intro b kv rv pv kl rl l w h
 obtain ⟨iI, hi1, hy0, hy1, hy2⟩ := info_parts Tryz.infoInt
 have II := hide hi1
 have IZ0 := hide hy0
 have IZ1 := hide hy1
 have IZ2 := hide hy2
 clear hi1 hy0 hy1 hy2
 obtain ⟨g, c, ga, gc, pa, pc, sa, sc, rfl, hr, k0, k1, k2, k3, k4, k5, k6, k7⟩ := h.pat n p hp
 have c7 := h.c7
 have hn := (List.getElem?_eq_some_iff.1 hp).1
 have hpn := h.pn
 have hn' : (n : Int) < (pl.length : Int) := by omega
 have hkk : ((p.kind : Int) != 4) = false := by rw [hk]; rfl
 have hk4 : ((p.kind : Int) != 4) = false := by rw [hk]; rfl
 have hkq : ((p.kind : Int) != 4 && (p.kind : Int) != 5) = false := by rw [hk]; rfl
 clear hk
 have glt := lt_of_cell k0
 have HD := hide h
 have RP := hide hr.p
 have HC := hide hc
 have B0 := hide (show Below w.heap.size w (w.alloc (.cells #[.int .i64 p.kind, .slice ga p.gs.length gc, .string p.nb, .string p.nr, .int .i64 p.pa, .int .i64 p.pr, .slice pa p.ps.length pc, .slice sa p.sg.length sc] 255)) from (Below.refl _ w).alloc (Nat.le_refl _) _)
 have PB0 := hide (Blk.new w #[.int .i64 p.kind, .slice ga p.gs.length gc, .string p.nb, .string p.nr, .int .i64 p.pa, .int .i64 p.pr, .slice pa p.ps.length pc, .slice sa p.sg.length sc] 255)
 clear h hr hp hc
 go_enter Tryz.func191, Tryz.ntmps191
 go_wp2_with fail
 clear k0 k1 k2 k3 k4 k5 k6 k7 c7 hkk hkq hk4
 go_loopw [6, 7] (fun u6 u7 wr => ∃ (k : Nat) (fv : List Nat) (fa : Option Addr) (fc : Nat), k ≤ p.ps.length ∧ u7 = .int .i64 k ∧ u6 = .slice fa fv.length fc ∧ Below w.heap.size w wr ∧ Blk wr w.heap.size #[.int .i64 p.kind, .slice ga p.gs.length gc, .string p.nb, .string p.nr, .int .i64 p.pa, .int .i64 p.pr, .slice pa p.ps.length pc, .slice sa p.sg.length sc] 255 ∧ wr.ownsRow w.heap.size 3 1 (.slice fa fv.length fc) fv.length (fv.map fun n : Nat => .int .i64 n) ∧ Hid (fv = (p.ps.take k).flatMap lf)) (fun _ u7 _ => p.ps.length - (intOf u7).toNat)
 case atStart => exact ⟨0, [], none, 0, by omega, rfl, rfl, uh B0, uh PB0, World.ownsRow_nil _ _ _ _, hide (by simp)⟩
 case round =>
  clear B0 PB0
  obtain ⟨k, fv, fa, fc, hk1, rfl, rfl, hb, hpb, hrow, HF⟩ := hrel
  have HB := hide hb
  have HPB := hide hpb
  have HRW := hide hrow
  obtain ⟨p0, p1, p2, p3, p4, p5, p6, p7⟩ := hpb.eight
  have hwr := hb.size
  by_cases hlt : k < p.ps.length
  ·have hm := List.getElem_mem hlt
   obtain ⟨q, cq, e1, kc⟩ := own_cell (row_below (uh RP) hb) k (.int .i64 (p.ps[k] : Nat)) (by simp [List.getElem?_eq_getElem hlt])
   simp only [Value.slice.injEq, true_and] at e1
   obtain ⟨rfl, rfl⟩ := e1
   obtain ⟨hcm, hpos⟩ := uh HC _ hm
   have C := hide (hcm b kv rv _ kl rl l wr ((uh HD).below hb))
   have HF2 := hide (flat_take lf p.ps k _ (List.getElem?_eq_getElem hlt))
   have hle := flat_le lf p.ps (k + 1)
   rw [uh HF2, ← uh HF, List.length_append, uh HG] at hle
   have hkn : (k : Int) < (p.ps.length : Int) := by omega
   generalize p.ps[k] = m at *
   clear hb hpb hrow hcm hm
   go_wp2_with fail
   refine (uh C).mono ?_
   rintro e w1 ⟨sv, rfl, hb1, hs1⟩
   obtain ⟨g1, c1, rfl, nl1, nw1⟩ := own_news hs1 hpos
   have B1 := hide ((uh HB).trans (hb1.mono hwr))
   have PB1 := hide ((uh HPB).below hb1)
   have R1 := hide (row_below (uh HRW) hb1)
   have sz1 := (uh B1).size
   have NL1 := hide nl1
   have NW1 := hide nw1
   have pl1 := (uh PB1).lt
   clear hb1 hs1 C HB HPB HRW nl1 nw1
   go_wp2_with (at_builtin; go_must (refine wpList_append_lies _ rfl _ _ 29 rfl w.heap.size 3 iI _ 1 8 Tryz.underlying29 (uh II) (uh IZ0) (uh IZ1) (uh IZ2) rfl (by decide) (.slice fa fv.length fc) fv.length (fv.map fun n : Nat => .int .i64 n) rfl (uh R1) ⟨g1, 0, none⟩ (lf m).length c1 ((lf m).map fun n : Nat => .int .i64 n) rfl (uh NL1) (uh NW1) ?hone hpos ?h63 ?hbytes sz1 w1.heap.size rfl ?hrest))
   case hone =>
    intro u hu
    obtain ⟨n, _, rfl⟩ := List.mem_map.1 hu
    rfl
   case h63 => unfold maxLen; omega
   case hbytes => omega
   intro g5 cap5 w5 hown5 hgrow5 hat5 hgl5
   have B5 := hide (Below.grown (uh B1) hgrow5 sz1 (fun k hk => ((uh R1).lt k hk).1))
   have PB5 := hide (show Blk w5 w.heap.size _ 255 from (hgrow5.block _ (uh PB1).lt (own_ne (uh R1) (uh PB1) (by decide))).trans (uh PB1))
   have R5 := hide hown5
   clear hown5 hgrow5 hat5 hgl5 B1 PB1 R1 NL1 NW1
   go_wp2
   go_roundw
   case rel => exact ⟨k + 1, fv ++ lf m, some ⟨g5, 0, none⟩, cap5, by omega, by go_num, by simp, uh B5, uh PB5, by simpa using uh R5, hide (by rw [uh HF, uh HF2])⟩
   case measure => simp [intOf]; omega
  ·have hkn : ¬ ((k : Int) < (p.ps.length : Int)) := by omega
   have hfv : fv = G := by rw [uh HF, List.take_of_length_le (by omega), uh HG]
   have HFV := hide hfv
   clear hb hpb hrow hfv
   go_wp2
   go_ret
   rw [← uh HFV]
   exact ⟨_, rfl, uh HB, uh HRW⟩
set_option maxHeartbeats 2000000 in
set_option maxRecDepth 100000 in
theorem leaves_node5 (pl : List PV) (n : Nat) (p : PV) (hp : pl[n]? = some p) (hk : p.kind = 5) (lf : Nat → List Nat) (hc : ∀ m ∈ p.ps, LeavesC pl m (lf m) ∧ 0 < (lf m).length) (hl : (p.ps.flatMap lf).length ≤ 1000) (hps : p.ps.length ≤ 1000) : LeavesC pl n (p.ps.flatMap lf) := by
 generalize hG : p.ps.flatMap lf = G at *
 have HG := hide hG
 clear hG
 intro b kv rv pv kl rl l w h
 obtain ⟨iI, hi1, hy0, hy1, hy2⟩ := info_parts Tryz.infoInt
 have II := hide hi1
 have IZ0 := hide hy0
 have IZ1 := hide hy1
 have IZ2 := hide hy2
 clear hi1 hy0 hy1 hy2
 obtain ⟨g, c, ga, gc, pa, pc, sa, sc, rfl, hr, k0, k1, k2, k3, k4, k5, k6, k7⟩ := h.pat n p hp
 have c7 := h.c7
 have hn := (List.getElem?_eq_some_iff.1 hp).1
 have hpn := h.pn
 have hn' : (n : Int) < (pl.length : Int) := by omega
 have hkk : ((p.kind : Int) != 5) = false := by rw [hk]; rfl
 have hk4 : ((p.kind : Int) != 4) = true := by rw [hk]; rfl
 have hkq : ((p.kind : Int) != 4 && (p.kind : Int) != 5) = false := by rw [hk]; rfl
 clear hk
 have glt := lt_of_cell k0
 have HD := hide h
 have RP := hide hr.p
 have HC := hide hc
 have B0 := hide (show Below w.heap.size w (w.alloc (.cells #[.int .i64 p.kind, .slice ga p.gs.length gc, .string p.nb, .string p.nr, .int .i64 p.pa, .int .i64 p.pr, .slice pa p.ps.length pc, .slice sa p.sg.length sc] 255)) from (Below.refl _ w).alloc (Nat.le_refl _) _)
 have PB0 := hide (Blk.new w #[.int .i64 p.kind, .slice ga p.gs.length gc, .string p.nb, .string p.nr, .int .i64 p.pa, .int .i64 p.pr, .slice pa p.ps.length pc, .slice sa p.sg.length sc] 255)
 clear h hr hp hc
 go_enter Tryz.func191, Tryz.ntmps191
 go_wp2_with fail
 clear k0 k1 k2 k3 k4 k5 k6 k7 c7 hkk hkq hk4
 go_loopw [6, 7] (fun u6 u7 wr => ∃ (k : Nat) (fv : List Nat) (fa : Option Addr) (fc : Nat), k ≤ p.ps.length ∧ u7 = .int .i64 k ∧ u6 = .slice fa fv.length fc ∧ Below w.heap.size w wr ∧ Blk wr w.heap.size #[.int .i64 p.kind, .slice ga p.gs.length gc, .string p.nb, .string p.nr, .int .i64 p.pa, .int .i64 p.pr, .slice pa p.ps.length pc, .slice sa p.sg.length sc] 255 ∧ wr.ownsRow w.heap.size 3 1 (.slice fa fv.length fc) fv.length (fv.map fun n : Nat => .int .i64 n) ∧ Hid (fv = (p.ps.take k).flatMap lf)) (fun _ u7 _ => p.ps.length - (intOf u7).toNat)
 case atStart => exact ⟨0, [], none, 0, by omega, rfl, rfl, uh B0, uh PB0, World.ownsRow_nil _ _ _ _, hide (by simp)⟩
 case round =>
  clear B0 PB0
  obtain ⟨k, fv, fa, fc, hk1, rfl, rfl, hb, hpb, hrow, HF⟩ := hrel
  have HB := hide hb
  have HPB := hide hpb
  have HRW := hide hrow
  obtain ⟨p0, p1, p2, p3, p4, p5, p6, p7⟩ := hpb.eight
  have hwr := hb.size
  by_cases hlt : k < p.ps.length
  ·have hm := List.getElem_mem hlt
   obtain ⟨q, cq, e1, kc⟩ := own_cell (row_below (uh RP) hb) k (.int .i64 (p.ps[k] : Nat)) (by simp [List.getElem?_eq_getElem hlt])
   simp only [Value.slice.injEq, true_and] at e1
   obtain ⟨rfl, rfl⟩ := e1
   obtain ⟨hcm, hpos⟩ := uh HC _ hm
   have C := hide (hcm b kv rv _ kl rl l wr ((uh HD).below hb))
   have HF2 := hide (flat_take lf p.ps k _ (List.getElem?_eq_getElem hlt))
   have hle := flat_le lf p.ps (k + 1)
   rw [uh HF2, ← uh HF, List.length_append, uh HG] at hle
   have hkn : (k : Int) < (p.ps.length : Int) := by omega
   generalize p.ps[k] = m at *
   clear hb hpb hrow hcm hm
   go_wp2_with fail
   refine (uh C).mono ?_
   rintro e w1 ⟨sv, rfl, hb1, hs1⟩
   obtain ⟨g1, c1, rfl, nl1, nw1⟩ := own_news hs1 hpos
   have B1 := hide ((uh HB).trans (hb1.mono hwr))
   have PB1 := hide ((uh HPB).below hb1)
   have R1 := hide (row_below (uh HRW) hb1)
   have sz1 := (uh B1).size
   have NL1 := hide nl1
   have NW1 := hide nw1
   have pl1 := (uh PB1).lt
   clear hb1 hs1 C HB HPB HRW nl1 nw1
   go_wp2_with (at_builtin; go_must (refine wpList_append_lies _ rfl _ _ 29 rfl w.heap.size 3 iI _ 1 8 Tryz.underlying29 (uh II) (uh IZ0) (uh IZ1) (uh IZ2) rfl (by decide) (.slice fa fv.length fc) fv.length (fv.map fun n : Nat => .int .i64 n) rfl (uh R1) ⟨g1, 0, none⟩ (lf m).length c1 ((lf m).map fun n : Nat => .int .i64 n) rfl (uh NL1) (uh NW1) ?hone hpos ?h63 ?hbytes sz1 w1.heap.size rfl ?hrest))
   case hone =>
    intro u hu
    obtain ⟨n, _, rfl⟩ := List.mem_map.1 hu
    rfl
   case h63 => unfold maxLen; omega
   case hbytes => omega
   intro g5 cap5 w5 hown5 hgrow5 hat5 hgl5
   have B5 := hide (Below.grown (uh B1) hgrow5 sz1 (fun k hk => ((uh R1).lt k hk).1))
   have PB5 := hide (show Blk w5 w.heap.size _ 255 from (hgrow5.block _ (uh PB1).lt (own_ne (uh R1) (uh PB1) (by decide))).trans (uh PB1))
   have R5 := hide hown5
   clear hown5 hgrow5 hat5 hgl5 B1 PB1 R1 NL1 NW1
   go_wp2
   go_roundw
   case rel => exact ⟨k + 1, fv ++ lf m, some ⟨g5, 0, none⟩, cap5, by omega, by go_num, by simp, uh B5, uh PB5, by simpa using uh R5, hide (by rw [uh HF, uh HF2])⟩
   case measure => simp [intOf]; omega
  ·have hkn : ¬ ((k : Int) < (p.ps.length : Int)) := by omega
   have hfv : fv = G := by rw [uh HF, List.take_of_length_le (by omega), uh HG]
   have HFV := hide hfv
   clear hb hpb hrow hfv
   go_wp2
   go_ret
   rw [← uh HFV]
   exact ⟨_, rfl, uh HB, uh HRW⟩
/-! A row appended to a row, empty or not. -/
theorem row_src {P : Program} {w : World} {base size : Nat} {E T : TypeId} (hT : P.underlying T = some (.slice E)) {v : Value} {n : Nat} {xs : List Value} (h : w.ownsRow base E size v n xs) (h1 : ∀ u ∈ xs, u.oneCell' = true) : Src P size T v n xs w := by
 rcases h with ⟨h0, ⟨rfl, h2⟩ | ⟨g, cap, cur, rfl, hg, hh, hle, hm, hs, ht⟩⟩
 ·subst h2
  have : xs = [] := List.eq_nil_of_length_eq_zero (by simpa using h0)
  subst this
  exact Src.ofNil w hT 0
 ·refine Src.ofSlice w hT _ _ _ _ h0 ?_ h1
  intro j u hj
  have hlt := (List.getElem?_eq_some_iff.1 hj).1
  rw [← ht, List.getElem?_take] at hj
  split at hj
  ·rw [Addr.add_lit]
   simp [World.cell?, hh] at hj ⊢
   exact hj
  ·simp at hj
theorem row_cap {w : World} {base size : Nat} {E : TypeId} {a : Option Addr} {n c m : Nat} {xs : List Value} (h : w.ownsRow base E size (.slice a m c) n xs) : n ≤ c := by
 rcases h with ⟨_, ⟨e, h2⟩ | ⟨g, cap, cur, e, _, _, hle, _⟩⟩
 ·omega
 ·simp only [Value.slice.injEq] at e
  omega
theorem wpList_append_rows {P : Program} {w : World} {ops : Array Oper} {rest : List Oper} {o : Oper} {a : Act} {Q : Exit → Act → World → Prop} (hgd : o.guard = none) (s x : Operand) (t : TypeId)
  (ho : o.op = .call { callee := .builtin .append, args := #[s, x], argTypes := #[t, t] })
  (base : Nat) (e : TypeId) (i : TypeInfo) (z : Value) (size bytes : Nat) (ht : P.underlying t = some (.slice e)) (hi : P.info? e = some i) (hz : i.zero = some z)
  (hsize : i.size = size) (hby : i.bytes = bytes) (hzs : z.cells.size = size) (hsz : 0 < size)
  (v : Value) (n : Nat) (xs : List Value) (hs : a.eval s = v) (hown : w.ownsRow base e size v n xs)
  (xv : Value) (m : Nat) (news : List Value) (hx : a.eval x = xv) (base2 : Nat) (hnews : w.ownsRow base2 e size xv m news) (h1 : ∀ u ∈ news, u.oneCell' = true)
  (h63 : n + m ≤ maxLen) (hbytes : (n + m) * bytes ≤ 140737488355328) (hbase : base ≤ w.heap.size)
  (h : ∀ av cv w', w'.ownsRow base e size (.slice av (n + m) cv) (n + m) (xs ++ news) → w.grownBy w' v.ownBlock → (∀ g, (Value.slice av (n + m) cv).ownBlock = some g → v.ownBlock = some g ∨ g = w.heap.size) → wpList P ops Q rest (a.put o.dst (.slice av (n + m) cv)) w') : wpList P ops Q (o :: rest) a w := by
 by_cases hm : 0 < m
 ·obtain ⟨g, c, rfl, hl, hn⟩ := own_news' hnews hm
  refine wpList_append_lies w hgd s x t ho base e i z size bytes ht hi hz hsize hby hzs hsz v n xs hs hown ⟨g, 0, none⟩ m c news hx hl hn h1 hm h63 hbytes hbase _ rfl ?_
  intro g5 cap w' h2 h3 h4 h5
  refine h _ cap w' h2 h3 (fun q hq => ?_)
  simp only [Value.ownBlock, Option.some.injEq] at hq
  subst hq
  exact h4
 ·obtain rfl : m = 0 := by omega
  have hnil : news = [] := List.eq_nil_of_length_eq_zero (by simpa using hnews.1)
  subst hnil
  obtain ⟨av, cv, rfl⟩ := own_form hown
  refine wpList_plain hgd fun K hK => ?_
  have hrun := run_append_nothing (P := P) w t t o.type e i ht hi av n cv (row_cap hown) xv (by rw [hsize]; exact row_src ht hnews h1)
  unfold Oper.wp execOp
  simp only [ho, resolve, invoke, builtin, Sem.run_bind, Sem.run_pure, Result.andThen_ok, List.map_toArray, List.map_cons, List.map_nil, hs, hx, hrun]
  exact hK _ _ (h av cv w (by simpa using hown) ⟨rfl, rfl, rfl, Nat.le_refl _, fun _ _ _ => rfl⟩ (fun g hg => .inl hg))
theorem step_append_rows {P : Program} {w : World} {ops : Array Oper} {o : Oper} {a : Act} {K : Act → World → Prop} {Q : Exit → Act → World → Prop} {E : Prop} (hgd : o.guard = none) (s x : Operand) (t : TypeId)
  (ho : o.op = .call { callee := .builtin .append, args := #[s, x], argTypes := #[t, t] })
  (base : Nat) (e : TypeId) (i : TypeInfo) (z : Value) (size bytes : Nat) (ht : P.underlying t = some (.slice e)) (hi : P.info? e = some i) (hz : i.zero = some z)
  (hsize : i.size = size) (hby : i.bytes = bytes) (hzs : z.cells.size = size) (hsz : 0 < size)
  (v : Value) (n : Nat) (xs : List Value) (hs : a.eval s = v) (hown : w.ownsRow base e size v n xs)
  (xv : Value) (m : Nat) (news : List Value) (hx : a.eval x = xv) (base2 : Nat) (hnews : w.ownsRow base2 e size xv m news) (h1 : ∀ u ∈ news, u.oneCell' = true)
  (h63 : n + m ≤ maxLen) (hbytes : (n + m) * bytes ≤ 140737488355328) (hbase : base ≤ w.heap.size)
  (h : ∀ av cv w', w'.ownsRow base e size (.slice av (n + m) cv) (n + m) (xs ++ news) → w.grownBy w' v.ownBlock → K (a.put o.dst (.slice av (n + m) cv)) w') :
  if Region.wanted o (yielded ops a.tmps) = true then Oper.wp P o a w K Q else E := by
 by_cases hm : 0 < m
 ·obtain ⟨g, c, rfl, hl, hn⟩ := own_news' hnews hm
  exact step_append_lies w hgd s x t ho base e i z size bytes ht hi hz hsize hby hzs hsz v n xs hs hown ⟨g, 0, none⟩ m c news hx hl hn h1 hm h63 hbytes hbase _ rfl (fun g5 cap w' h2 h3 h4 h5 => h _ cap w' h2 h3)
 ·obtain rfl : m = 0 := by omega
  have hnil : news = [] := List.eq_nil_of_length_eq_zero (by simpa using hnews.1)
  subst hnil
  obtain ⟨av, cv, rfl⟩ := own_form hown
  have hw : Region.wanted o (yielded ops a.tmps) = true := by simp [Region.wanted, hgd]
  rw [if_pos hw]
  have hrun := run_append_nothing (P := P) w t t o.type e i ht hi av n cv (row_cap hown) xv (by rw [hsize]; exact row_src ht hnews h1)
  unfold Oper.wp execOp
  simp only [ho, resolve, invoke, builtin, Sem.run_bind, Sem.run_pure, Result.andThen_ok, List.map_toArray, List.map_cons, List.map_nil, hs, hx, hrun]
  exact h av cv w (by simpa using hown) ⟨rfl, rfl, rfl, Nat.le_refl _, fun _ _ _ => rfl⟩
theorem row_grown {W w5 : World} {b1 s1 n1 base size n : Nat} {E1 E : TypeId} {v1 v : Value} {xs1 xs : List Value} (h : W.ownsRow b1 E1 s1 v1 n1 xs1) (k : W.ownsRow base E size v n xs) (hg : W.grownBy w5 v.ownBlock) (hne : E1 ≠ E) : w5.ownsRow b1 E1 s1 v1 n1 xs1 := ownsRow_frame h (fun g cs f _ hh => hg.block g (lt_of_some hh) (own_nf k hh hne))
theorem below_grown {w W w5 : World} {size n : Nat} {E : TypeId} {v : Value} {xs : List Value} (hB : Below w.heap.size w W) (k : W.ownsRow w.heap.size E size v n xs) (hg : W.grownBy w5 v.ownBlock) : Below w.heap.size w w5 := Below.grown hB hg hB.size (fun j hj => (k.lt j hj).1)
theorem via2 {Goal : Prop} {P : Option Addr → Nat → World → Prop} {A : Option Addr → Nat → World → Act} {Wf : Option Addr → Nat → World → World} {K : Act → World → Prop} (main : (∀ g c w, P g c w → K (A g c w) (Wf g c w)) → Goal) (key : ∀ g c w, P g c w → K (A g c w) (Wf g c w)) : Goal := main key
/-! Leaves, at every part that stands for an expression. -/
theorem All2.mem {R : Nat → Ex → Prop} : ∀ (ns : List Nat) (xs : List Ex), All2 R ns xs → ∀ n ∈ ns, ∃ x ∈ xs, R n x
 | [], [], _, n, hn => by simp at hn
 | m :: ns, x :: xs, h, n, hn => by
  rcases List.mem_cons.1 hn with rfl | hn
  ·exact ⟨x, by simp, h.1⟩
  ·obtain ⟨y, hy, hr⟩ := All2.mem ns xs h.2 n hn
   exact ⟨y, by simp [hy], hr⟩
 | [], _ :: _, h, _, _ => h.elim
 | _ :: _, [], h, _, _ => h.elim
theorem len_le_flat {α β : Type} (f : α → List β) : ∀ (l : List α), (∀ m ∈ l, 0 < (f m).length) → l.length ≤ (l.flatMap f).length
 | [], _ => by simp
 | a :: l, h => by
  have h1 := h a (by simp)
  have h2 := len_le_flat f l (fun m hm => h m (by simp [hm]))
  simp only [List.flatMap_cons, List.length_append, List.length_cons]
  omega
theorem mem_le_flat {α β : Type} (f : α → List β) (l : List α) (a : α) (h : a ∈ l) : (f a).length ≤ (l.flatMap f).length := by
 obtain ⟨p, q, rfl⟩ := List.append_of_mem h
 simp only [List.flatMap_append, List.flatMap_cons, List.length_append]
 omega
theorem leaves_pos (pl : List PV) : ∀ (f n : Nat) (x : Ex), Tr pl f n x → 0 < (leavesF pl f n).length
 | 0, _, _, h => h.elim
 | f + 1, n, x, ⟨p, hp, h⟩ => by
  rw [leavesF, hp]
  rcases h with ⟨h1, hn, h2⟩ | ⟨h1, h0, hn, h2⟩ | ⟨h1, h0, hn, h2⟩ | ⟨h1, h0, n0, ns, x0, rs, h3, h4, h5, h6, h7, h8⟩ | ⟨h1, h0, h0', n0, ns, x0, rs, h3, h4, h5, h6, h7, h8⟩
  ·simp [h1]
  ·simp [h1]
  ·simp [h1]
  ·have := leaves_pos pl f _ _ h4
   simp only [h1, true_or, if_true, h3, List.flatMap_cons, List.length_append]
   omega
  ·have := leaves_pos pl f _ _ h4
   simp only [h1, or_true, if_true, h3, List.flatMap_cons, List.length_append]
   omega
theorem rleaves_any (pl : List PV) : ∀ (f n : Nat) (x : Ex), Tr pl f n x → (leavesF pl f n).length ≤ 1000 → LeavesC pl n (leavesF pl f n)
 | 0, _, _, h, _ => h.elim
 | f + 1, n, x, ⟨p, hp, h⟩, hl => by
  have ih := rleaves_any pl f
  rw [leavesF, hp] at hl ⊢
  rcases h with ⟨h1, hn, h2⟩ | ⟨h1, h0, hn, h2⟩ | ⟨h1, h0, hn, h2⟩ | ⟨h1, h0, n0, ns, x0, rs, h3, h4, h5, h6, h7, h8⟩ | ⟨h1, h0, h0', n0, ns, x0, rs, h3, h4, h5, h6, h7, h8⟩
  ·simp only [h1, Nat.reduceEqDiff, or_self, if_false]
   exact leaves_leaf pl n p hp (by omega) (by omega)
  ·simp only [h1, Nat.reduceEqDiff, or_self, if_false]
   exact leaves_leaf pl n p hp (by omega) (by omega)
  ·simp only [h1, Nat.reduceEqDiff, or_self, if_false]
   exact leaves_leaf pl n p hp (by omega) (by omega)
  ·simp only [h1, true_or, if_true] at hl ⊢
   have key : ∀ m ∈ p.ps, ∃ y, Tr pl f m y := fun m hm => by
    rw [h3] at hm
    rcases List.mem_cons.1 hm with rfl | hm
    ·exact ⟨x0, h4⟩
    ·obtain ⟨y, _, hy⟩ := All2.mem _ _ h5 m hm
     exact ⟨y, hy⟩
   refine leaves_node4 pl n p hp h1 (leavesF pl f) (fun m hm => ?_) hl ?_
   ·obtain ⟨y, hy⟩ := key m hm
    exact ⟨ih m y hy (Nat.le_trans (mem_le_flat _ _ _ hm) hl), leaves_pos pl f m y hy⟩
   ·exact Nat.le_trans (len_le_flat (leavesF pl f) _ (fun m hm => by obtain ⟨y, hy⟩ := key m hm; exact leaves_pos pl f m y hy)) hl
  ·simp only [h1, or_true, if_true] at hl ⊢
   have key : ∀ m ∈ p.ps, ∃ y, Tr pl f m y := fun m hm => by
    rw [h3] at hm
    rcases List.mem_cons.1 hm with rfl | hm
    ·exact ⟨x0, h4⟩
    ·obtain ⟨y, _, hy⟩ := All2.mem _ _ h5 m hm
     exact ⟨y, hy⟩
   refine leaves_node5 pl n p hp h1 (leavesF pl f) (fun m hm => ?_) hl ?_
   ·obtain ⟨y, hy⟩ := key m hm
    exact ⟨ih m y hy (Nat.le_trans (mem_le_flat _ _ _ hm) hl), leaves_pos pl f m y hy⟩
   ·exact Nat.le_trans (len_le_flat (leavesF pl f) _ (fun m hm => by obtain ⟨y, hy⟩ := key m hm; exact leaves_pos pl f m y hy)) hl
/-! All grants of a relation's expression. -/
def gsAt (pl : List PV) (m : Nat) : List Gr := match pl[m]? with
 | some p => p.gs
 | none => []
theorem rg_one (gs : List Gr) : ∀ u ∈ gs.flatMap rgCells, u.oneCell' = true := by
 intro u hu
 obtain ⟨g, _, hg⟩ := List.mem_flatMap.1 hu
 simp only [rgCells, List.mem_cons, List.not_mem_nil, or_false] at hg
 rcases hg with rfl | rfl | rfl | rfl <;> rfl
set_option maxHeartbeats 2000000 in
set_option maxRecDepth 100000 in
theorem rgrants_any (b : Nat) (kv rv pv : Value) (kl : List (ByteArray × Nat)) (rl : List RV) (pl : List PV) (l : List PX) (r : Nat) (x : RV) (lv : List Nat) (G : List Gr) (w : World) (h : DM w b kv rv pv kl rl pl l) (hx : rl[r]? = some x) (hL : LeavesC pl x.ex lv) (hlv : ∀ m ∈ lv, m < pl.length) (hG : lv.flatMap (gsAt pl) = G) (hGl : G.length ≤ 1000000) (hll : lv.length ≤ 1000) :
  Calls Tryz.prog 196 #[.pointer (some ⟨b, 5, none⟩), .int .i64 r] w fun e w' => ∃ sv, e = .returned sv ∧ Below w.heap.size w w' ∧ w'.ownsRow w.heap.size 257 4 sv G.length (G.flatMap rgCells) := by
 obtain ⟨iG, hi1, hy0, hy1, hy2⟩ := info_parts Tryz.infoGr
 have II := hide hi1
 have IZ0 := hide hy0
 have IZ1 := hide hy1
 have IZ2 := hide hy2
 clear hi1 hy0 hy1 hy2
 obtain ⟨g, c, rfl, k0, k1, k2, k3⟩ := h.rat r x hx
 have c6 := h.c6
 have hr := (List.getElem?_eq_some_iff.1 hx).1
 have hr' : (r : Int) < (rl.length : Int) := by omega
 have hrn := h.rn
 have HD := hide h
 have HG := hide hG
 have HLV := hide hlv
 have C := hide (hL b kv _ pv kl rl l w h)
 clear h hx hL hG hlv
 go_enter Tryz.func196, Tryz.ntmps196
 go_wp2_with fail
 refine (uh C).mono ?_
 rintro e w1 ⟨sv, rfl, hb1, hs1⟩
 obtain ⟨la, lc, rfl⟩ := own_form hs1
 have B1 := hide hb1
 have HS1 := hide hs1
 have sz1 := hb1.size
 simp only [List.length_map] at *
 clear hb1 hs1 C k0 k1 k2 k3 c6
 go_wp2_with fail
 go_loopw [5, 7] (fun u5 u7 wr => ∃ (k : Nat) (fv : List Gr) (fa : Option Addr) (fc : Nat), k ≤ lv.length ∧ u7 = .int .i64 k ∧ u5 = .slice fa fv.length fc ∧ Below w.heap.size w wr ∧ wr.ownsRow w.heap.size 3 1 (.slice la lv.length lc) lv.length (lv.map fun n : Nat => .int .i64 n) ∧ wr.ownsRow w.heap.size 257 4 (.slice fa fv.length fc) fv.length (fv.flatMap rgCells) ∧ Hid (fv = (lv.take k).flatMap (gsAt pl))) (fun _ u7 _ => lv.length - (intOf u7).toNat)
 case atStart => exact ⟨0, [], none, 0, by omega, rfl, rfl, uh B1, uh HS1, World.ownsRow_nil _ _ _ _, hide (by simp)⟩
 case round =>
  clear B1 HS1
  obtain ⟨k, fv, fa, fc, hk1, rfl, rfl, hb, hrow, hgr, HF⟩ := hrel
  have HB := hide hb
  have HRW := hide hrow
  have HGR := hide hgr
  have hwr := hb.size
  by_cases hlt : k < lv.length
  ·have hm := uh HLV _ (List.getElem_mem hlt)
   obtain ⟨q, cq, e1, kc⟩ := own_cell hrow k (.int .i64 (lv[k] : Nat)) (by simp [List.getElem?_eq_getElem hlt])
   simp only [Value.slice.injEq, true_and] at e1
   obtain ⟨rfl, rfl⟩ := e1
   have hd := (uh HD).below hb
   have HF2 := hide (flat_take (gsAt pl) lv k _ (List.getElem?_eq_getElem hlt))
   have hle := flat_le (gsAt pl) lv (k + 1)
   rw [uh HF2, ← uh HF, List.length_append, uh HG] at hle
   have hkn : (k : Int) < (lv.length : Int) := by omega
   generalize lv[k] = m at *
   obtain ⟨gp, cp, ga, gc, pa, pc, sa, sc, rfl, hr, q0, q1, q2, q3, q4, q5, q6, q7⟩ := hd.pat m pl[m] (List.getElem?_eq_getElem hm)
   have hgs : gsAt pl m = pl[m].gs := by unfold gsAt; rw [List.getElem?_eq_getElem hm]
   rw [hgs] at HF2 hle
   have c7 := hd.c7
   have hpn := hd.pn
   have hm' : (m : Int) < (pl.length : Int) := by omega
   have RG := hide hr.g
   generalize pl[m] = p at *
   clear hb hrow hgr hd hr hgs
   go_wp2_with fail
   have H63 := hide (show fv.length + p.gs.length ≤ maxLen from by unfold maxLen; omega)
   have HBY := hide (show (fv.length + p.gs.length) * 48 ≤ 140737488355328 from by omega)
   rename_i K hK
   apply via2 (K := K) (P := fun av cv w5 => wr.drew.grownBy w5 (Value.slice fa fv.length fc).ownBlock ∧ w5.ownsRow w.heap.size 257 4 (.slice av (fv.length + p.gs.length) cv) (fv.length + p.gs.length) (fv.flatMap rgCells ++ p.gs.flatMap rgCells))
   case main =>
    intro key
    have KEY := hide key
    clear key
    go_region_law (refine step_append_rows rfl (.tmp 24) (.tmp 35) 253 rfl w.heap.size 257 iG _ 4 48 Tryz.underlying253 (uh II) (uh IZ0) (uh IZ1) (uh IZ2) rfl (by decide) (.slice fa fv.length fc) fv.length (fv.flatMap rgCells) (by simp [Act.eval, Act.put]) (own_drew (uh HGR)) (.slice ga p.gs.length gc) p.gs.length (p.gs.flatMap rgCells) (by simp [Act.eval, Act.put]) 0 (own_drew (uh RG)) (rg_one _) (uh H63) (uh HBY) hwr ?_; intro av cv w5 hown5 hgrow5; have G5 := hide hgrow5; have O5 := hide hown5; clear hgrow5 hown5)
    all_goals exact uh KEY av cv w5 ⟨uh G5, uh O5⟩
   case key =>
    rintro av cv w5 ⟨hgrow5, hown5⟩
    have B5 := hide (below_grown (uh HB).drew (own_drew (uh HGR)) hgrow5)
    have R5 := hide (row_grown (own_drew (uh HRW)) (own_drew (uh HGR)) hgrow5 (by decide))
    have O5 := hide hown5
    clear hown5 hgrow5 HB HGR HRW RG H63 HBY q0 q1 q2 q3 q4 q5 q6 q7 c7 kc
    refine hK _ _ ?_
    clear hK
    go_wp2
    go_roundw
    case rel => exact ⟨k + 1, fv ++ p.gs, av, cv, by omega, by go_num, by simp, uh B5, uh R5, by simpa using uh O5, hide (by rw [uh HF, uh HF2])⟩
    case measure => simp [intOf]; omega
  ·have hkn : ¬ ((k : Int) < (lv.length : Int)) := by omega
   have hfv : fv = G := by rw [uh HF, List.take_of_length_le (by omega), uh HG]
   have HFV := hide hfv
   clear hb hrow hgr hfv
   go_wp2
   go_ret
   rw [← uh HFV]
   exact ⟨_, rfl, uh HB, uh HGR⟩
theorem eqs_em (a : ByteArray) : eqs a em = (a.toList == []) := by rw [eqs_toList, show em.toList = [] from by rw [toList_lst]; rfl]
/-- The contract of 'Grants' at a relation. -/
def GrC (rl : List RV) (pl : List PV) (r : Nat) (G : List Gr) : Prop := ∀ (b : Nat) (kv rv pv : Value) (kl : List (ByteArray × Nat)) (l : List PX) (w : World), DM w b kv rv pv kl rl pl l →
 Calls Tryz.prog 196 #[.pointer (some ⟨b, 5, none⟩), .int .i64 r] w fun e w' => ∃ sv, e = .returned sv ∧ Below w.heap.size w w' ∧ w'.ownsRow w.heap.size 257 4 sv G.length (G.flatMap rgCells)
theorem findN_cases (k n : ByteArray) : ∀ (l : List RV) (i : Nat), findN k n l i = -1 ∨ ∃ j : Nat, findN k n l i = j ∧ i ≤ j ∧ j < i + l.length
 | [], i => .inl rfl
 | x :: l, i => by
  rw [findN]
  split
  ·exact .inr ⟨i, rfl, by omega, by simp⟩
  ·rcases findN_cases k n l (i + 1) with h | ⟨j, h1, h2, h3⟩
   ·exact .inl h
   ·exact .inr ⟨j, h1, by omega, by simp; omega⟩
/-- The relation of a type that a thing-grant ties, as a list of at most one number. -/
def tieN1 (rl : List RV) (rel : ByteArray) (g : Gr) : List Nat := if eqs (relOf g) em && decide (0 ≤ findN g.ty rel rl 0) then [(findN g.ty rel rl 0).toNat] else []
def tiedN (rl : List RV) (rel : ByteArray) (G : List Gr) : List Nat := G.flatMap (tieN1 rl rel)
theorem tieN1_le (rl : List RV) (rel : ByteArray) (g : Gr) : (tieN1 rl rel g).length ≤ 1 := by unfold tieN1; split <;> simp
theorem tied_le (rl : List RV) (rel : ByteArray) : ∀ (G : List Gr), (tiedN rl rel G).length ≤ G.length
 | [] => by simp [tiedN]
 | g :: G => by
  have h1 := tieN1_le rl rel g
  have h2 := tied_le rl rel G
  unfold tiedN at *
  simp only [List.flatMap_cons, List.length_append, List.length_cons]
  omega
set_option maxHeartbeats 2000000 in
set_option maxRecDepth 100000 in
theorem rtied_any (b : Nat) (kv rv pv : Value) (kl : List (ByteArray × Nat)) (rl : List RV) (pl : List PV) (l : List PX) (r : Nat) (G : List Gr) (y : ByteArray) (w : World) (h : DM w b kv rv pv kl rl pl l) (hG : GrC rl pl r G) (hGl : G.length ≤ 1000000) :
  Calls Tryz.prog 230 #[.pointer (some ⟨b, 5, none⟩), .int .i64 r, .string y] w fun e w' => ∃ sv, e = .returned sv ∧ Below w.heap.size w w' ∧ w'.ownsRow w.heap.size 3 1 sv (tiedN rl y G).length ((tiedN rl y G).map fun n : Nat => .int .i64 n) := by
 obtain ⟨iI, hi1, hy0, hy1, hy2⟩ := info_parts Tryz.infoInt
 have II := hide hi1
 have IZ0 := hide hy0
 have IZ1 := hide hy1
 have IZ2 := hide hy2
 clear hi1 hy0 hy1 hy2
 have HD := hide h
 have hrn := h.rn
 have C := hide (hG b kv rv pv kl l w h)
 generalize hT : tiedN rl y G = T
 have HT := hide (show G.flatMap (tieN1 rl y) = T from hT)
 have hTl : T.length ≤ 1000000 := by rw [← hT]; exact Nat.le_trans (tied_le rl y G) hGl
 clear h hG hT
 go_enter Tryz.func230, Tryz.ntmps230
 go_wp2_with fail
 refine (uh C).mono ?_
 rintro e w1 ⟨sv, rfl, hb1, hs1⟩
 obtain ⟨la, lc, rfl⟩ := own_form hs1
 have B1 := hide hb1
 have HS1 := hide hs1
 clear hb1 hs1 C
 go_wp2_with fail
 go_loopw [7, 9] (fun u7 u9 wr => ∃ (k : Nat) (fv : List Nat) (fa : Option Addr) (fc : Nat), k ≤ G.length ∧ u9 = .int .i64 k ∧ u7 = .slice fa fv.length fc ∧ Below w.heap.size w wr ∧ wr.ownsRow w.heap.size 257 4 (.slice la G.length lc) G.length (G.flatMap rgCells) ∧ wr.ownsRow w.heap.size 3 1 (.slice fa fv.length fc) fv.length (fv.map fun n : Nat => .int .i64 n) ∧ Hid (fv = (G.take k).flatMap (tieN1 rl y))) (fun _ u9 _ => G.length - (intOf u9).toNat)
 case atStart => exact ⟨0, [], none, 0, by omega, rfl, rfl, uh B1, uh HS1, World.ownsRow_nil _ _ _ _, hide (by simp)⟩
 case round =>
  clear B1 HS1
  obtain ⟨k, fv, fa, fc, hk1, rfl, rfl, hb, hgr, hrow, HF⟩ := hrel
  have HB := hide hb
  have HRW := hide hrow
  have HGR := hide hgr
  have hwr := hb.size
  by_cases hlt : k < G.length
  ·obtain ⟨gg, cg, e1, hc⟩ := flat_cell rgCells 4 (fun _ => rfl) hgr k G[k] (List.getElem?_eq_getElem hlt)
   simp only [Value.slice.injEq, true_and] at e1
   obtain ⟨rfl, rfl⟩ := e1
   have HF2 := hide (flat_take (tieN1 rl y) G k _ (List.getElem?_eq_getElem hlt))
   have hle := flat_le (tieN1 rl y) G (k + 1)
   rw [uh HF2, ← uh HF, List.length_append, uh HT] at hle
   have hkn : (k : Int) < (G.length : Int) := by omega
   have HX := hide (List.getElem?_eq_getElem hlt)
   generalize G[k] = x at *
   have k0 : wr.cell? ⟨gg, k * 4, none⟩ = some (.string x.ty) := hc 0 _ (by omega) rfl
   have C := hide (rfind_any b kv rv pv kl rl pl l x.ty y wr ((uh HD).below hb))
   clear hb hgr hrow hc
   go_wp2_with fail
   refine (uh C).mono ?_
   rintro e w2 ⟨rfl, hb2⟩
   have B2 := hide ((uh HB).trans (hb2.mono hwr))
   have G2 := hide (row_below (uh HGR) hb2)
   have R2 := hide (row_below (uh HRW) hb2)
   obtain ⟨gg', cg', e1, hc⟩ := flat_cell rgCells 4 (fun _ => rfl) (uh G2) k x (uh HX)
   simp only [Value.slice.injEq, true_and, Option.some.injEq, Addr.mk.injEq, and_true] at e1
   obtain ⟨rfl, rfl⟩ := e1
   have k1 : w2.cell? ⟨gg, k * 4 + 1, none⟩ = some (.string (relOf x)) := hc 1 _ (by omega) rfl
   have sz2 := (uh B2).size
   clear hb2 C HB HGR HRW hc k0
   cases hre : eqs (relOf x) em
   ·have hre' : ((relOf x).toList == []) = false := by rw [← hre, eqs_em]
    have HF3 := hide (show (G.take (k + 1)).flatMap (tieN1 rl y) = fv from by rw [uh HF2, ← uh HF]; simp [tieN1, hre])
    clear hre
    go_wp2
    go_roundw
    case rel => exact ⟨k + 1, fv, fa, fc, by omega, by go_num, rfl, uh B2, uh G2, uh R2, hide (uh HF3).symm⟩
    case measure => simp [intOf]; omega
   ·have hre' : ((relOf x).toList == []) = true := by rw [← hre, eqs_em]
    rcases findN_cases x.ty y rl 0 with hfi | ⟨j, hfi, hj1, hj2⟩
    ·have HF3 := hide (show (G.take (k + 1)).flatMap (tieN1 rl y) = fv from by rw [uh HF2, ← uh HF]; simp [tieN1, hfi])
     clear hre
     rw [hfi]
     go_wp2
     go_roundw
     case rel => exact ⟨k + 1, fv, fa, fc, by omega, by go_num, rfl, uh B2, uh G2, uh R2, hide (uh HF3).symm⟩
     case measure => simp [intOf]; omega
    ·have ht1 : tieN1 rl y x = [j] := by simp [tieN1, hre, hfi]
     have HF3 := hide (show (G.take (k + 1)).flatMap (tieN1 rl y) = fv ++ [j] from by rw [uh HF2, ← uh HF, ht1])
     rw [ht1] at hle
     simp only [List.length_cons, List.length_nil] at hle
     clear hre ht1
     rw [hfi]
     have hj0 : (0 : Int) ≤ (j : Int) := by omega
     clear hfi
     go_wp2_with (at_builtin; go_must (refine wpList_append_lies _ rfl _ _ 29 rfl w.heap.size 3 iI _ 1 8 Tryz.underlying29 (uh II) (uh IZ0) (uh IZ1) (uh IZ2) rfl (by decide) (.slice fa fv.length fc) fv.length (fv.map fun n : Nat => .int .i64 n) rfl ((uh R2).alloc _) ⟨w2.heap.size, 0, none⟩ 1 1 [.int .i64 j] rfl rfl ?hnews ?hone (by decide) ?h63 ?hbytes ?hbase (w2.heap.size + 1) ?hH ?hrest))
     case hnews => exact World.news_of_block (B := w2.heap.size) (cs := #[.int .i64 j]) (t := 3) (fr := (0, 0)) (Blk.new' _ _ _ _ rfl)
     case hone =>
      intro u hu
      simp only [List.mem_cons, List.not_mem_nil, or_false] at hu
      rcases hu with rfl
      rfl
     case h63 => unfold maxLen; omega
     case hbytes => omega
     case hbase => simp; omega
     case hH => simp
     intro g5 cap5 w5 hown5 hgrow5 hat5 hgl5
     have B5 := hide (below_grown ((uh B2).alloc sz2 _) ((uh R2).alloc _) hgrow5)
     have G5 := hide (row_grown ((uh G2).alloc _) ((uh R2).alloc _) hgrow5 (by decide))
     have O5 := hide hown5
     clear hown5 hgrow5 hat5 hgl5 B2 G2 R2 k1
     go_wp2
     go_roundw
     case rel => exact ⟨k + 1, fv ++ [j], some ⟨g5, 0, none⟩, cap5, by omega, by go_num, by simp, uh B5, uh G5, by simpa using uh O5, hide (uh HF3).symm⟩
     case measure => simp [intOf]; omega
  ·have hkn : ¬ ((k : Int) < (G.length : Int)) := by omega
   have hfv : fv = T := by rw [uh HF, List.take_of_length_le (by omega), uh HT]
   have HFV := hide hfv
   clear hb hgr hrow hfv
   go_wp2
   go_ret
   rw [← uh HFV]
   exact ⟨_, rfl, uh HB, uh HRW⟩
end Go.Proofs.YtlbpnlngckgcbaaGreatDoor
