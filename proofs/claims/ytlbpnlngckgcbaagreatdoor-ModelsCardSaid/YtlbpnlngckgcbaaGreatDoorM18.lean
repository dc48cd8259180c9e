import Derived.Test.YtlbpnlngckgcbaaGreatDoorM17
namespace Go.Proofs.YtlbpnlngckgcbaaGreatDoor
open Go.RowKit Go.PlainAid
set_option linter.unusedSimpArgs false
set_option linter.unusedVariables false
theorem eqs_eq' {a c : ByteArray} (h : eqs a c = true) : a = c := by
 unfold eqs at h
 rw [beq_iff_eq] at h
 rw [← mk_lst a, ← mk_lst c, h]
/-- Where the loop of 'chain' stands, and what the chain will be. -/
def ChC (T : Nat → ByteArray) (P : Nat → Nat) (signs : List ByteArray) (part : Nat → Res Ex) (i a ex n : Nat) (R : Res Ex) (k : Nat) (more : Bool) (j e aa : Nat) (plr : List PV) (ps : List Nat) (sgs : List Tk) (st : ByteArray) (sp : Nat) : Prop :=
 (more = true ∧ e = 0 ∧ a = aa ∧ plr.length + i ≤ n + j ∧ ((i = j ∧ ps = [] ∧ sgs = [] ∧ st = em ∧ sp = 0 ∧ contR T P signs part k none j = R) ∨ (i < j ∧ plr.length + i + 1 ≤ n + j ∧ (st = sg 38 ∨ st = sg 45) ∧ ∃ x, Built plr ps sgs x ∧ contR T P signs part k (some (x, st, sp)) j = R))) ∨
 (more = false ∧ e = 0 ∧ a = aa ∧ plr.length + i ≤ n + j ∧ i < j ∧ (ps.length ≠ 1 → plr.length + i + 1 ≤ n + j) ∧ ∃ x, Built plr ps sgs x ∧ R = .ok (x, j)) ∨
 (more = false ∧ e ≠ 0 ∧ plr.length + i ≤ n + j + ex ∧ i ≤ j ∧ ps ≠ [] ∧ ∃ jj, P jj = aa ∧ R = .error (e, jj))
/-- The loop's memory: the part that is being made, and the sign. -/
structure ChJ (base b : Nat) (s : ByteArray) (tv : Value) (d : Nat) (kv rv pv : Value) (i : Nat) (pl : List PV) (l : List PX) (w : World) (wr : World) (pvr : Value) (j e aa : Nat) (plr : List PV) (lr : List PX) (ps : List Nat) (pa : Option Addr) (pc : Nat) (sgs : List Tk) (sa : Option Addr) (sc : Nat) (st : ByteArray) (sp : Nat) : Prop where
 ch : ChI base b s tv d kv rv pv i pl l w 4 wr pvr j e aa plr lr ps pa pc sgs sa sc
 sb : Blk wr (w.heap.size + 1) #[.string st, .int .i64 sp, .bool false] 259
 ns : (Value.slice sa sgs.length sc).ownBlock ≠ some (w.heap.size + 1)
 lp : e = 0 → ps.length ≤ j
 ls : sgs.length = ps.length
 da : ∀ x ∈ lr, Away (some (w.heap.size + 1)) x
theorem Tryz.infoInt : (Tryz.prog.info? 3).map (fun i => (i.zero, i.size, i.bytes)) = some (some (.int .i64 0), 1, 8) := by kernel_rfl
set_option maxHeartbeats 4000000 in
set_option maxRecDepth 100000 in
theorem rchain_any (base b : Nat) (s : ByteArray) (tv : Value) (i d a : Nat) (kv rv pv : Value) (pl : List PV) (l : List PX) (w : World) (h : RS w b s tv i d 0 a kv rv pv) (ht : PT base w pv pl l) (hbb : base ≤ b) (hbw : base ≤ w.heap.size) (hl : pl.length ≤ i) (room : Bool) (inner : Nat → Res Ex) (ex : Nat) (hex : ex ≤ 900) (hr : room = true → d < 4 ∧ InnerOK s inner (d + 1) ex) (hf : room = false → d = 4) :
  Calls Tryz.prog 251 #[.pointer (some ⟨b, 0, none⟩)] w (RPost base b s tv i d a kv rv pv pl l w (ex + 2) (chainR (TT s) (PP s) room inner i)) := by
 obtain ⟨iI, hi1, hy0, hy1, hy2⟩ := info_parts Tryz.infoInt
 have II := hide hi1
 have IZ0 := hide hy0
 have IZ1 := hide hy1
 have IZ2 := hide hy2
 clear hi1 hy0 hy1 hy2
 obtain ⟨i0, hi0, hz0, hz1, hz2⟩ := info_parts Tryz.infoTk
 have HI0 := hide hi0
 have HZ0 := hide hz0
 have HZ1 := hide hz1
 have HZ2 := hide hz2
 clear hi0 hz0 hz1 hz2
 generalize hR : chainR (TT s) (PP s) room inner i = R
 unfold chainR at hR
 rw [joinR_cont] at hR
 have HR := hide hR
 have H0 := hide h
 have HT0 := hide ht
 obtain ⟨g, c, e0, hi, t0, t1, t2⟩ := h.at
 obtain ⟨r0, r1, r2, r3, r4, r5, r6, r7⟩ := h.blk.eight
 have hz := h.blk.fz
 have hlt := h.lt
 have E0 := hide e0
 rw [e0] at r0
 have gl := lt_of_cell t0
 have m0 := World.new_ne w _ r0
 have m1 := World.new_ne w _ r1
 have m2 := World.new_ne w _ t1
 clear h ht e0 hR
 go_enter Tryz.func251, Tryz.ntmps251
 go_wp2_with fail
 go_region_held3 (fun w' => w'.cell? ⟨b, 0, none⟩ = some (.slice (some ⟨g, 0, none⟩) (toks s).length c) ∧ w'.cell? ⟨b, 1, none⟩ = some (.int .i64 i) ∧ w'.cell? ⟨g, i * 3 + 1, none⟩ = some (.int .i64 (PP s i))) (go_keep) (fail)
 rename_i hh
 clear hh r0 r1 r2 r3 r4 r5 r6 r7 t0 t1 t2 m0 m1 m2 hz
 have b1 : Below w.heap.size w (((w.alloc (.cells #[.int .i64 4, .slice none 0 0, .string ⟨#[]⟩, .string ⟨#[]⟩, .int .i64 (PP s i), .int .i64 0, .slice none 0 0, .slice none 0 0] 255)).alloc (.cells #[.string ⟨#[]⟩, .int .i64 0, .bool false] 259)).drew) := (((Below.refl _ w).alloc (Nat.le_refl _) _).alloc (by simp) _).drew
 have I0 := hide (show ChJ base b s tv d kv rv pv i pl l w (((w.alloc (.cells #[.int .i64 4, .slice none 0 0, .string ⟨#[]⟩, .string ⟨#[]⟩, .int .i64 (PP s i), .int .i64 0, .slice none 0 0, .slice none 0 0] 255)).alloc (.cells #[.string ⟨#[]⟩, .int .i64 0, .bool false] 259)).drew) pv i 0 a pl l [] none 0 [] none 0 em 0 from
  ⟨⟨Fr.of_below b1 hbw, (uh H0).below b1, (uh HT0).but (But.of_below (b := b) b1) (uh H0).blk hbb hbw, ((Blk.new w _ _).alloc _).drew, fun e => by
    have := ((uh HT0).row.lt _ e).2
    omega, World.ownsRow_nil _ _ _ _, World.ownsRow_nil _ _ _ _, fun x hx g hg e => (by cases e), fun x hx g hg e => (by cases e), ⟨[], by simp⟩, ⟨[], by simp⟩, hlt, fun g hg => ((uh H0).tok.lt g hg).2⟩,
   (Blk.new' (w.alloc _) _ _ _ (by simp)).drew, fun e => (by cases e), fun _ => by simp, rfl, fun x hx g hg e => by
    have := ((uh HT0).rep x hx).lt g hg
    simp only [Option.some.injEq] at e
    omega⟩)
 clear b1
 go_wp2_with fail
 go_loopg [5] 512 (fun k vm wr => ∃ (more : Bool) (pvr : Value) (j e aa : Nat) (plr : List PV) (lr : List PX) (ps : List Nat) (pa : Option Addr) (pc : Nat) (sgs : List Tk) (sa : Option Addr) (sc : Nat) (st : ByteArray) (sp : Nat), vm = .bool more ∧ ChJ base b s tv d kv rv pv i pl l w wr pvr j e aa plr lr ps pa pc sgs sa sc st sp ∧ (more = true → 512 ≤ k + j) ∧ Hid (ChC (TT s) (PP s) [sg 38, sg 45] (unitR (TT s) (PP s) room inner) i a (ex + 1) pl.length R k more j e aa plr ps sgs st sp))
 case atStart => exact ⟨true, pv, i, 0, a, pl, l, [], none, 0, [], none, 0, em, 0, rfl, uh I0, (fun _ => by omega), hide (.inl ⟨rfl, rfl, rfl, by omega, .inl ⟨rfl, rfl, rfl, rfl, rfl, uh HR⟩⟩)⟩
 case round =>
  obtain ⟨more, pvr, j, e, aa, plr, lr, ps, pa, pc, sgs, sa, sc, st, sp, rfl, hI, hk, HC⟩ := hrel
  have hle := hI.ch.rs.gd.le
  have hsz := hI.ch.rs.sz
  have hbwr : base ≤ wr.heap.size := Nat.le_trans hbw hI.ch.fr.below.size
  rcases uh HC with ⟨rfl, rfl, rfl, hn, hs⟩ | ⟨rfl, rfl, rfl, hn, hij, hq, x, hbu, hres⟩ | ⟨rfl, he, hn, hij, hps, jj, rfl, hres⟩
  ·have hk := hk rfl
   obtain ⟨fu, rfl⟩ : ∃ f, gk = f + 1 := ⟨gk - 1, by omega⟩
   have HS := hide hs
   have C := hide (runit_any base b s tv j d a kv rv pvr plr lr wr hI.ch.rs hI.ch.pt hbb hbwr (by omega) room inner ex hr hf)
   have HI := hide hI
   have lp := hI.lp rfl
   have hij : i ≤ j := by rcases hs with ⟨h, _⟩ | ⟨h, _⟩ <;> omega
   have LS := hide hI.ls
   have ls := Nat.le_of_eq hI.ls
   clear hI HC hs HR I0
   go_wp2_with fail
   refine (uh C).mono ?_
   rintro e' w1 ⟨m, rfl, pv1, pl1, l1, t, tl, fr, pt, rfl, rfl, hfs, hres⟩
   have SB1 := hide (fr.blk (uh HI).sb (by omega) (own_part (uh HI).ch.pt.row (uh HI).sb (by decide)))
   have NS1 := hide (uh HI).ns
   have DA1 := hide (show ∀ x ∈ lr ++ tl, Away (some (w.heap.size + 1)) x from fun x hx => by
    rw [List.mem_append] at hx
    rcases hx with hx | hx
    ·exact (uh HI).da x hx
    ·intro g hg e
     have := hfs x hx g hg
     have := (uh HI).sb.lt
     simp only [Option.some.injEq] at e
     omega)
   have hbw1 : base ≤ w1.heap.size := Nat.le_trans hbwr fr.below.size
   cases hu : unitR (TT s) (PP s) room inner j with
   | error er =>
    obtain ⟨c0, jj⟩ := er
    rw [hu] at hres
    obtain ⟨hc0, j1, hj1, rs, hn1⟩ := hres
    have CH1 := hide ((uh HI).ch.call fr pt rs hfs (pl1 := []) (l1 := []))
    have HU := hide hu
    clear fr pt rs hfs C HI hu
    have hsz1 := (uh CH1).rs.sz
    have hle1 := (uh CH1).rs.gd.le
    obtain ⟨p0, p1, p2, p3, p4, p5, p6, p7⟩ := (uh CH1).box.eight
    obtain ⟨s0, s1, s2⟩ := (uh SB1).three
    have zp := (uh CH1).box.fz
    have lq1 := (uh CH1).box.lt
    have lq2 := (uh SB1).lt
    have O1 := hide (uh CH1).prow
    go_wp2_with (at_builtin; go_must (refine wpList_append_lies _ rfl _ _ 29 rfl w.heap.size 3 iI _ 1 8 Tryz.underlying29 (uh II) (uh IZ0) (uh IZ1) (uh IZ2) rfl (by decide) (.slice pa ps.length pc) ps.length (ps.map fun n : Nat => .int .i64 n) rfl ?hownA ⟨w1.heap.size, 0, none⟩ 1 1 [.int .i64 m] rfl rfl ?hnewsA ?honeA (by decide) ?h63A ?hbytesA ?hbaseA (w1.heap.size + 1) ?hHA ?hrestA))
    case hownA => exact (uh O1).alloc _
    case hnewsA => exact World.news_of_block (B := w1.heap.size) (cs := #[.int .i64 m]) (t := 3) (fr := (0, 0)) (Blk.new' _ _ _ _ rfl)
    case honeA =>
     intro u hu
     simp only [List.mem_cons, List.not_mem_nil, or_false] at hu
     rcases hu with rfl
     rfl
    case h63A => unfold maxLen; omega
    case hbytesA => omega
    case hbaseA => simp; omega
    case hHA => simp
    intro g5 cap5 w5 hown5 hgrow5 hat5 hgl5
    obtain ⟨bx5, CH5'⟩ := (uh CH1).grownP hbw1 hbb hbw hgrow5 hown5 hat5
    have CH5 := hide CH5'
    have SA := (uh SB1).alloc (.cells #[.int .i64 m] 3)
    have SB5 := hide (show Blk w5 (w.heap.size + 1) _ 259 from (hgrow5.block _ SA.lt (own_ne ((uh O1).alloc _) SA (by decide))).trans SA)
    clear SA
    obtain ⟨s0', s1', s2'⟩ := (uh SB5).three
    have nq1 : ¬ (w.heap.size + 1 = w.heap.size) := by omega
    have nq2 : ¬ (w.heap.size = w.heap.size + 1) := by omega
    have lq6 := (uh SB5).lt
    obtain ⟨q0, q1, q2, q3, q4, q5, q6, q7⟩ := bx5.eight
    have zq := bx5.fz
    have lq5 := bx5.lt
    clear hown5 hgrow5 hat5 bx5 CH5' p0 p1 p2 p3 p4 p5 p6 p7 s0 s1 s2 zp
    have SX := hide (show Blk (w5.setCell ⟨w.heap.size, 6, none⟩ (.slice (some ⟨g5, 0, none⟩) (ps.length + 1) cap5)) (w.heap.size + 1) #[.string st, .int .i64 sp, .bool false] 259 from (uh SB5).other nq1 _)
    have O5 := hide (uh CH5).srow
    have hbw5 : base ≤ (w5.setCell ⟨w.heap.size, 6, none⟩ (.slice (some ⟨g5, 0, none⟩) (ps.length + 1) cap5)).heap.size := Nat.le_trans hbw (uh CH5).fr.below.size
    go_wp2_with (at_builtin; go_must (refine wpList_append_lies _ rfl _ _ 249 rfl w.heap.size 259 i0 _ 3 32 Tryz.underlying249 (uh HI0) (uh HZ0) (uh HZ1) (uh HZ2) rfl (by decide) (.slice sa sgs.length sc) sgs.length (tksCells sgs) rfl ?hownB ⟨w5.heap.size, 0, none⟩ 1 1 (tkCells ⟨lst st, sp, false⟩) rfl rfl ?hnewsB ?honeB (by decide) ?h63B ?hbytesB ?hbaseB (w5.heap.size + 1) ?hHB ?hrestB))
    case hownB => exact (uh O5).alloc _
    case hnewsB => exact World.news_of_block (B := w5.heap.size) (cs := #[.string st, .int .i64 sp, .bool false]) (t := 259) (fr := (0, 0)) (Blk.new' _ _ _ _ (by simp))
    case honeB =>
     intro u hu
     simp only [tkCells, List.mem_cons, List.not_mem_nil, or_false] at hu
     rcases hu with rfl | rfl | rfl <;> rfl
    case h63B => unfold maxLen; omega
    case hbytesB => omega
    case hbaseB => simp; omega
    case hHB => simp
    intro g7 cap7 w7 hown7 hgrow7 hat7 hgl7
    obtain ⟨bx7, CH7'⟩ := (uh CH5).grownS hbw5 hbb hbw hgrow7 hown7 (by simpa using hat7)
    have CH7 := hide CH7'
    have SA := (uh SX).alloc (.cells #[.string st, .int .i64 sp, .bool false] 259)
    have SB7 := hide (show Blk w7 (w.heap.size + 1) _ 259 from (hgrow7.block _ SA.lt (fun e => uh NS1 e.symm)).trans SA)
    obtain ⟨v0, v1, v2, v3, v4, v5, v6, v7⟩ := bx7.eight
    have zv := bx7.fz
    have lv7 := bx7.lt
    have NS7 := hide (show (Value.slice (some ⟨g7, 0, none⟩) (sgs.length + 1) cap7).ownBlock ≠ some (w.heap.size + 1) from fun e => by
     simp only [Value.ownBlock, Option.some.injEq] at e
     subst e
     rcases hat7 with e | e
     ·exact uh NS1 e
     ·omega)
    clear hown7 hgrow7 hat7 bx7 CH7' SA SX q0 q1 q2 q3 q4 q5 q6 q7 zq s0' s1' s2'
    have RE := hide (show R = .error (c0, jj) from by
     rcases uh HS with ⟨_, _, _, _, _, h⟩ | ⟨_, _, _, x, _, h⟩
     ·rw [← h]; exact cont_bad (uh HU)
     ·rw [← h]; exact cont_bad (uh HU))
    have hbw7 : base ≤ (w7.setCell ⟨w.heap.size, 7, none⟩ (.slice (some ⟨g7, 0, none⟩) (sgs.length + 1) cap7)).heap.size := Nat.le_trans hbw (uh CH7).fr.below.size
    go_wp2_with fail
    refine (is_errB b s tv j1 d c0 (PP s jj) kv rv pv1 (sg 38) _ (uh CH7).rs hc0).mono ?_
    rintro e' w8 ⟨rfl, hb8⟩
    have CH8 := hide ((uh CH7).below hb8 hbw7 hbb)
    have SB8 := hide (((uh SB7).other nq1 _).below hb8)
    have hbw8 : base ≤ w8.heap.size := Nat.le_trans hbw7 hb8.size
    clear hb8 CH7 SB7
    go_wp2_with fail
    refine (is_errB b s tv j1 d c0 (PP s jj) kv rv pv1 (sg 45) _ (uh CH8).rs hc0).mono ?_
    rintro e' w9 ⟨rfl, hb9⟩
    have CH9 := hide ((uh CH8).below hb9 hbw8 hbb)
    have SB9 := hide ((uh SB8).below hb9)
    clear hb9 CH8 SB8
    have J9 := hide (show ChJ base b s tv d kv rv pv i pl l w w9 pv1 j1 c0 (PP s jj) (plr ++ t) (lr ++ tl) (ps ++ [m]) (some ⟨g5, 0, none⟩) cap5 (sgs ++ [⟨lst st, sp, false⟩]) (some ⟨g7, 0, none⟩) cap7 st sp from ⟨uh CH9, uh SB9, uh NS7, fun e => absurd e hc0, by have := uh LS; simp [this], uh DA1⟩)
    have PC := hide (show ChC (TT s) (PP s) [sg 38, sg 45] (unitR (TT s) (PP s) room inner) i a (ex + 1) pl.length R fu false j1 c0 (PP s jj) (plr ++ t) (ps ++ [m]) (sgs ++ [⟨lst st, sp, false⟩]) st sp from .inr (.inr ⟨rfl, hc0, by omega, by omega, by simp, jj, rfl, uh RE⟩))
    clear v0 v1 v2 v3 v4 v5 v6 v7 zv
    go_wp2
    go_roundg fu
    case measure => omega
    case rel => exact ⟨false, pv1, j1, c0, PP s jj, plr ++ t, lr ++ tl, ps ++ [m], some ⟨g5, 0, none⟩, cap5, sgs ++ [⟨lst st, sp, false⟩], some ⟨g7, 0, none⟩, cap7, st, sp, rfl, uh J9, (fun h => by cases h), PC⟩
   | ok yy =>
    obtain ⟨y, j1⟩ := yy
    rw [hu] at hres
    obtain ⟨rs, hj1, hn1, f1, htr⟩ := hres
    have CH1 := hide ((uh HI).ch.call fr pt rs hfs (pl1 := []) (l1 := []))
    have HU := hide hu
    have TR := hide htr
    clear fr pt rs hfs C HI hu htr
    have hsz1 := (uh CH1).rs.sz
    have hle1 := (uh CH1).rs.gd.le
    obtain ⟨p0, p1, p2, p3, p4, p5, p6, p7⟩ := (uh CH1).box.eight
    obtain ⟨s0, s1, s2⟩ := (uh SB1).three
    have zp := (uh CH1).box.fz
    have lq1 := (uh CH1).box.lt
    have lq2 := (uh SB1).lt
    have O1 := hide (uh CH1).prow
    go_wp2_with (at_builtin; go_must (refine wpList_append_lies _ rfl _ _ 29 rfl w.heap.size 3 iI _ 1 8 Tryz.underlying29 (uh II) (uh IZ0) (uh IZ1) (uh IZ2) rfl (by decide) (.slice pa ps.length pc) ps.length (ps.map fun n : Nat => .int .i64 n) rfl ?hownC ⟨w1.heap.size, 0, none⟩ 1 1 [.int .i64 m] rfl rfl ?hnewsC ?honeC (by decide) ?h63C ?hbytesC ?hbaseC (w1.heap.size + 1) ?hHC ?hrestC))
    case hownC => exact (uh O1).alloc _
    case hnewsC => exact World.news_of_block (B := w1.heap.size) (cs := #[.int .i64 m]) (t := 3) (fr := (0, 0)) (Blk.new' _ _ _ _ rfl)
    case honeC =>
     intro u hu
     simp only [List.mem_cons, List.not_mem_nil, or_false] at hu
     rcases hu with rfl
     rfl
    case h63C => unfold maxLen; omega
    case hbytesC => omega
    case hbaseC => simp; omega
    case hHC => simp
    intro g5 cap5 w5 hown5 hgrow5 hat5 hgl5
    obtain ⟨bx5, CH5'⟩ := (uh CH1).grownP hbw1 hbb hbw hgrow5 hown5 hat5
    have CH5 := hide CH5'
    have SA := (uh SB1).alloc (.cells #[.int .i64 m] 3)
    have SB5 := hide (show Blk w5 (w.heap.size + 1) _ 259 from (hgrow5.block _ SA.lt (own_ne ((uh O1).alloc _) SA (by decide))).trans SA)
    clear SA
    obtain ⟨s0', s1', s2'⟩ := (uh SB5).three
    have nq1 : ¬ (w.heap.size + 1 = w.heap.size) := by omega
    have nq2 : ¬ (w.heap.size = w.heap.size + 1) := by omega
    have lq6 := (uh SB5).lt
    obtain ⟨q0, q1, q2, q3, q4, q5, q6, q7⟩ := bx5.eight
    have zq := bx5.fz
    have lq5 := bx5.lt
    clear hown5 hgrow5 hat5 bx5 CH5' p0 p1 p2 p3 p4 p5 p6 p7 s0 s1 s2 zp
    have SX := hide (show Blk (w5.setCell ⟨w.heap.size, 6, none⟩ (.slice (some ⟨g5, 0, none⟩) (ps.length + 1) cap5)) (w.heap.size + 1) #[.string st, .int .i64 sp, .bool false] 259 from (uh SB5).other nq1 _)
    have O5 := hide (uh CH5).srow
    have hbw5 : base ≤ (w5.setCell ⟨w.heap.size, 6, none⟩ (.slice (some ⟨g5, 0, none⟩) (ps.length + 1) cap5)).heap.size := Nat.le_trans hbw (uh CH5).fr.below.size
    go_wp2_with (at_builtin; go_must (refine wpList_append_lies _ rfl _ _ 249 rfl w.heap.size 259 i0 _ 3 32 Tryz.underlying249 (uh HI0) (uh HZ0) (uh HZ1) (uh HZ2) rfl (by decide) (.slice sa sgs.length sc) sgs.length (tksCells sgs) rfl ?hownD ⟨w5.heap.size, 0, none⟩ 1 1 (tkCells ⟨lst st, sp, false⟩) rfl rfl ?hnewsD ?honeD (by decide) ?h63D ?hbytesD ?hbaseD (w5.heap.size + 1) ?hHD ?hrestD))
    case hownD => exact (uh O5).alloc _
    case hnewsD => exact World.news_of_block (B := w5.heap.size) (cs := #[.string st, .int .i64 sp, .bool false]) (t := 259) (fr := (0, 0)) (Blk.new' _ _ _ _ (by simp))
    case honeD =>
     intro u hu
     simp only [tkCells, List.mem_cons, List.not_mem_nil, or_false] at hu
     rcases hu with rfl | rfl | rfl <;> rfl
    case h63D => unfold maxLen; omega
    case hbytesD => omega
    case hbaseD => simp; omega
    case hHD => simp
    intro g7 cap7 w7 hown7 hgrow7 hat7 hgl7
    obtain ⟨bx7, CH7'⟩ := (uh CH5).grownS hbw5 hbb hbw hgrow7 hown7 (by simpa using hat7)
    have CH7 := hide CH7'
    have SA := (uh SX).alloc (.cells #[.string st, .int .i64 sp, .bool false] 259)
    have SB7 := hide (show Blk w7 (w.heap.size + 1) _ 259 from (hgrow7.block _ SA.lt (fun e => uh NS1 e.symm)).trans SA)
    obtain ⟨v0, v1, v2, v3, v4, v5, v6, v7⟩ := bx7.eight
    have zv := bx7.fz
    have lv7 := bx7.lt
    have NS7 := hide (show (Value.slice (some ⟨g7, 0, none⟩) (sgs.length + 1) cap7).ownBlock ≠ some (w.heap.size + 1) from fun e => by
     simp only [Value.ownBlock, Option.some.injEq] at e
     subst e
     rcases hat7 with e | e
     ·exact uh NS1 e
     ·omega)
    clear hown7 hgrow7 hat7 bx7 CH7' SA SX q0 q1 q2 q3 q4 q5 q6 q7 zq s0' s1' s2'
    have BU := hide (show ∃ x, Built (plr ++ t) (ps ++ [m]) (sgs ++ [⟨lst st, sp, false⟩]) x ∧ joinL (TT s) (PP s) [sg 38, sg 45] (unitR (TT s) (PP s) room inner) (fu + 1) x j1 = R from by
     rcases uh HS with ⟨_, rfl, rfl, rfl, rfl, h⟩ | ⟨_, _, hst, x, hx, h⟩
     ·rw [cont_ok (uh HU)] at h
      exact ⟨_, Built.one (uh TR), h⟩
     ·rw [cont_ok (uh HU)] at h
      exact ⟨_, hx.snoc (uh TR) st sp hst, h⟩)
    have HQ := hide (show (ps ++ [m]).length ≠ 1 → (plr ++ t).length + i + 1 ≤ pl.length + j1 from fun hne => by
     rcases uh HS with ⟨_, rfl, _⟩ | ⟨_, hq, _⟩
     ·exact absurd rfl hne
     ·omega)
    have hbw7 : base ≤ (w7.setCell ⟨w.heap.size, 7, none⟩ (.slice (some ⟨g7, 0, none⟩) (sgs.length + 1) cap7)).heap.size := Nat.le_trans hbw (uh CH7).fr.below.size
    cases h38 : eqs (TT s j1) (sg 38)
    ·go_wp2_with fail
     refine (is_okB b s tv j1 d a kv rv pv1 (sg 38) _ (uh CH7).rs false h38).mono ?_
     rintro e' w8 ⟨rfl, hb8⟩
     have CH8 := hide ((uh CH7).below hb8 hbw7 hbb)
     have SB8 := hide (((uh SB7).other nq1 _).below hb8)
     have hbw8 : base ≤ w8.heap.size := Nat.le_trans hbw7 hb8.size
     clear hb8 CH7 SB7
     cases h45 : eqs (TT s j1) (sg 45)
     ·have RE := hide (show ∃ x, Built (plr ++ t) (ps ++ [m]) (sgs ++ [⟨lst st, sp, false⟩]) x ∧ R = .ok (x, j1) from by
       obtain ⟨x, hx, hy⟩ := uh BU
       rw [joinL_no (by simp [anyEq, h38, h45])] at hy
       exact ⟨x, hx, hy.symm⟩)
      go_wp2_with fail
      refine (is_okB b s tv j1 d a kv rv pv1 (sg 45) _ (uh CH8).rs false h45).mono ?_
      rintro e' w9 ⟨rfl, hb9⟩
      have CH9 := hide ((uh CH8).below hb9 hbw8 hbb)
      have SB9 := hide ((uh SB8).below hb9)
      clear hb9 CH8 SB8
      have J9 := hide (show ChJ base b s tv d kv rv pv i pl l w w9 pv1 j1 0 a (plr ++ t) (lr ++ tl) (ps ++ [m]) (some ⟨g5, 0, none⟩) cap5 (sgs ++ [⟨lst st, sp, false⟩]) (some ⟨g7, 0, none⟩) cap7 st sp from ⟨uh CH9, uh SB9, uh NS7, fun _ => by simp; omega, by have := uh LS; simp [this], uh DA1⟩)
      have PC := hide (show ChC (TT s) (PP s) [sg 38, sg 45] (unitR (TT s) (PP s) room inner) i a (ex + 1) pl.length R fu false j1 0 a (plr ++ t) (ps ++ [m]) (sgs ++ [⟨lst st, sp, false⟩]) st sp from .inr (.inl ⟨rfl, rfl, rfl, by omega, by omega, uh HQ, uh RE⟩))
      clear v0 v1 v2 v3 v4 v5 v6 v7 zv h38 h45
      go_wp2
      go_roundg fu
      case measure => omega
      case rel => exact ⟨false, pv1, j1, 0, a, plr ++ t, lr ++ tl, ps ++ [m], some ⟨g5, 0, none⟩, cap5, sgs ++ [⟨lst st, sp, false⟩], some ⟨g7, 0, none⟩, cap7, st, sp, rfl, uh J9, (fun h => by cases h), PC⟩
     ·go_wp2_with fail
      refine (is_okB b s tv j1 d a kv rv pv1 (sg 45) _ (uh CH8).rs true h45).mono ?_
      rintro e' w9 ⟨rfl, hb9⟩
      have CH9 := hide ((uh CH8).below hb9 hbw8 hbb)
      have SB9 := hide ((uh SB8).below hb9)
      clear hb9 CH8 SB8
      have HJ := hide ((uh CH9).rs.gd.succ (eqs_pos h45 (by decide)))
      clear v0 v1 v2 v3 v4 v5 v6 v7 zv
      obtain ⟨g9, c9, e9, hi9, t0, t1, t2⟩ := (uh CH9).rs.at
      obtain ⟨r0, r1, r2, r3, r4, _⟩ := (uh CH9).rs.blk.eight
      have zr := (uh CH9).rs.blk.fz
      obtain ⟨s0, s1, s2⟩ := (uh SB9).three
      have zs := (uh SB9).fz
      have l9 := (uh SB9).lt
      have tvl := (uh CH9).tvl g9 (by rw [e9]; rfl)
      rw [e9] at r0
      have E9 := hide e9
      clear e9
      have k1 : ¬ (w.heap.size + 1 = b) := by omega
      have k2 : ¬ (b = w.heap.size + 1) := by omega
      have k3 : ¬ (w.heap.size + 1 = g9) := by omega
      have k4 : ¬ (g9 = w.heap.size + 1) := by omega
      have k5 : ¬ (b = g9) := fun e => by
       have := own_ne (uh CH9).rs.tok (uh CH9).rs.blk (by decide)
       rw [uh E9, e] at this
       exact this rfl
      have k6 : ¬ (g9 = b) := fun e => k5 e.symm
      go_wp2_with fail
      go_region_held3 (fun w' => w'.cell? ⟨b, 0, none⟩ = some (.slice (some ⟨g9, 0, none⟩) (toks s).length c9) ∧ w'.cell? ⟨b, 1, none⟩ = some (.int .i64 j1) ∧ w'.cell? ⟨g9, j1 * 3, none⟩ = some (.string (TT s j1)) ∧ w'.cell? ⟨g9, j1 * 3 + 1, none⟩ = some (.int .i64 (PP s j1)) ∧ w'.cell? ⟨g9, j1 * 3 + 2, none⟩ = some (.bool (wordT (TT s j1)))) (go_keep) (fail)
      rename_i hh
      clear hh
      have WF : wordT (TT s j1) = false := by
       have e := h45
       unfold eqs at e
       rw [beq_iff_eq] at e
       unfold wordT
       rw [e]
       decide
      have e0 := Nat.le_trans hbw (uh CH9).fr.below.size
      have c1 := (uh CH9).sign hbw (uh SB9) (by simpa using uh NS7) (uh DA1) 0 (.string (TT s j1))
      have S1 := (uh SB9).set 0 (.string (TT s j1))
      have c2 := c1.sign hbw S1 (by simpa using uh NS7) (uh DA1) 1 (.int .i64 (PP s j1))
      have S2 := S1.set 1 (.int .i64 (PP s j1))
      have c3 := c2.sign hbw S2 (by simpa using uh NS7) (uh DA1) 2 (.bool (wordT (TT s j1)))
      have S3 := S2.set 2 (.bool (wordT (TT s j1)))
      have c4 := c3.but ((But.refl b _).setCell 1 (.int .i64 ((j1 : Int) + 1))) (Nat.le_trans hbw c3.fr.below.size) hbb (c3.rs.setI (j1 + 1) (uh HJ))
      have c5 := c4.below ((Below.refl _ _).drew) (Nat.le_trans hbw c4.fr.below.size) hbb
      have S5 := (Blk.other S3 (a := ⟨b, 1, none⟩) k1 (.int .i64 ((j1 : Int) + 1))).drew
      have J9 := hide (show ChJ base b s tv d kv rv pv i pl l w _ pv1 (j1 + 1) 0 a (plr ++ t) (lr ++ tl) (ps ++ [m]) (some ⟨g5, 0, none⟩) cap5 (sgs ++ [⟨lst st, sp, false⟩]) (some ⟨g7, 0, none⟩) cap7 (TT s j1) (PP s j1) from ⟨c5, by rw [← WF]; exact S5, uh NS7, fun _ => by simp; omega, by have := uh LS; simp [this], uh DA1⟩)
      have PC := hide (show ChC (TT s) (PP s) [sg 38, sg 45] (unitR (TT s) (PP s) room inner) i a (ex + 1) pl.length R fu true (j1 + 1) 0 a (plr ++ t) (ps ++ [m]) (sgs ++ [⟨lst st, sp, false⟩]) (TT s j1) (PP s j1) from .inl ⟨rfl, rfl, rfl, by omega, .inr ⟨by omega, by omega, (by first | exact .inl (eqs_eq' h45) | exact .inr (eqs_eq' h45)), by
       obtain ⟨x, hx, hy⟩ := uh BU
       rw [joinL_yes (by simp [anyEq, h45])] at hy
       exact ⟨x, hx, hy⟩⟩⟩)
      have hk9 : 512 ≤ fu + (j1 + 1) := by omega
      clear c1 c2 c3 c4 c5 S1 S2 S3 S5 WF
      go_wp2
      go_roundg fu
      case measure => omega
      case rel => exact ⟨true, pv1, j1 + 1, 0, a, plr ++ t, lr ++ tl, ps ++ [m], some ⟨g5, 0, none⟩, cap5, sgs ++ [⟨lst st, sp, false⟩], some ⟨g7, 0, none⟩, cap7, TT s j1, PP s j1, rfl, uh J9, (fun _ => hk9), PC⟩
    ·have h45 : eqs (TT s j1) (sg 45) = false := by
      unfold eqs at h38 ⊢
      rw [beq_iff_eq] at h38
      rw [h38]; decide
     go_wp2_with fail
     refine (is_okB b s tv j1 d a kv rv pv1 (sg 38) _ (uh CH7).rs true h38).mono ?_
     rintro e' w8 ⟨rfl, hb8⟩
     have CH8 := hide ((uh CH7).below hb8 hbw7 hbb)
     have SB8 := hide (((uh SB7).other nq1 _).below hb8)
     have hbw8 : base ≤ w8.heap.size := Nat.le_trans hbw7 hb8.size
     clear hb8 CH7 SB7
     go_wp2_with fail
     refine (is_okB b s tv j1 d a kv rv pv1 (sg 45) _ (uh CH8).rs false h45).mono ?_
     rintro e' w9 ⟨rfl, hb9⟩
     have CH9 := hide ((uh CH8).below hb9 hbw8 hbb)
     have SB9 := hide ((uh SB8).below hb9)
     clear hb9 CH8 SB8
     have HJ := hide ((uh CH9).rs.gd.succ (eqs_pos h38 (by decide)))
     clear v0 v1 v2 v3 v4 v5 v6 v7 zv
     obtain ⟨g9, c9, e9, hi9, t0, t1, t2⟩ := (uh CH9).rs.at
     obtain ⟨r0, r1, r2, r3, r4, _⟩ := (uh CH9).rs.blk.eight
     have zr := (uh CH9).rs.blk.fz
     obtain ⟨s0, s1, s2⟩ := (uh SB9).three
     have zs := (uh SB9).fz
     have l9 := (uh SB9).lt
     have tvl := (uh CH9).tvl g9 (by rw [e9]; rfl)
     rw [e9] at r0
     have E9 := hide e9
     clear e9
     have k1 : ¬ (w.heap.size + 1 = b) := by omega
     have k2 : ¬ (b = w.heap.size + 1) := by omega
     have k3 : ¬ (w.heap.size + 1 = g9) := by omega
     have k4 : ¬ (g9 = w.heap.size + 1) := by omega
     have k5 : ¬ (b = g9) := fun e => by
      have := own_ne (uh CH9).rs.tok (uh CH9).rs.blk (by decide)
      rw [uh E9, e] at this
      exact this rfl
     have k6 : ¬ (g9 = b) := fun e => k5 e.symm
     go_wp2_with fail
     go_region_held3 (fun w' => w'.cell? ⟨b, 0, none⟩ = some (.slice (some ⟨g9, 0, none⟩) (toks s).length c9) ∧ w'.cell? ⟨b, 1, none⟩ = some (.int .i64 j1) ∧ w'.cell? ⟨g9, j1 * 3, none⟩ = some (.string (TT s j1)) ∧ w'.cell? ⟨g9, j1 * 3 + 1, none⟩ = some (.int .i64 (PP s j1)) ∧ w'.cell? ⟨g9, j1 * 3 + 2, none⟩ = some (.bool (wordT (TT s j1)))) (go_keep) (fail)
     rename_i hh
     clear hh
     have WF : wordT (TT s j1) = false := by
      have e := h38
      unfold eqs at e
      rw [beq_iff_eq] at e
      unfold wordT
      rw [e]
      decide
     have e0 := Nat.le_trans hbw (uh CH9).fr.below.size
     have c1 := (uh CH9).sign hbw (uh SB9) (by simpa using uh NS7) (uh DA1) 0 (.string (TT s j1))
     have S1 := (uh SB9).set 0 (.string (TT s j1))
     have c2 := c1.sign hbw S1 (by simpa using uh NS7) (uh DA1) 1 (.int .i64 (PP s j1))
     have S2 := S1.set 1 (.int .i64 (PP s j1))
     have c3 := c2.sign hbw S2 (by simpa using uh NS7) (uh DA1) 2 (.bool (wordT (TT s j1)))
     have S3 := S2.set 2 (.bool (wordT (TT s j1)))
     have c4 := c3.but ((But.refl b _).setCell 1 (.int .i64 ((j1 : Int) + 1))) (Nat.le_trans hbw c3.fr.below.size) hbb (c3.rs.setI (j1 + 1) (uh HJ))
     have c5 := c4.below ((Below.refl _ _).drew) (Nat.le_trans hbw c4.fr.below.size) hbb
     have S5 := (Blk.other S3 (a := ⟨b, 1, none⟩) k1 (.int .i64 ((j1 : Int) + 1))).drew
     have J9 := hide (show ChJ base b s tv d kv rv pv i pl l w _ pv1 (j1 + 1) 0 a (plr ++ t) (lr ++ tl) (ps ++ [m]) (some ⟨g5, 0, none⟩) cap5 (sgs ++ [⟨lst st, sp, false⟩]) (some ⟨g7, 0, none⟩) cap7 (TT s j1) (PP s j1) from ⟨c5, by rw [← WF]; exact S5, uh NS7, fun _ => by simp; omega, by have := uh LS; simp [this], uh DA1⟩)
     have PC := hide (show ChC (TT s) (PP s) [sg 38, sg 45] (unitR (TT s) (PP s) room inner) i a (ex + 1) pl.length R fu true (j1 + 1) 0 a (plr ++ t) (ps ++ [m]) (sgs ++ [⟨lst st, sp, false⟩]) (TT s j1) (PP s j1) from .inl ⟨rfl, rfl, rfl, by omega, .inr ⟨by omega, by omega, (by first | exact .inl (eqs_eq' h38) | exact .inr (eqs_eq' h38)), by
      obtain ⟨x, hx, hy⟩ := uh BU
      rw [joinL_yes (by simp [anyEq, h38])] at hy
      exact ⟨x, hx, hy⟩⟩⟩)
     have hk9 : 512 ≤ fu + (j1 + 1) := by omega
     clear c1 c2 c3 c4 c5 S1 S2 S3 S5 WF
     go_wp2
     go_roundg fu
     case measure => omega
     case rel => exact ⟨true, pv1, j1 + 1, 0, a, plr ++ t, lr ++ tl, ps ++ [m], some ⟨g5, 0, none⟩, cap5, sgs ++ [⟨lst st, sp, false⟩], some ⟨g7, 0, none⟩, cap7, TT s j1, PP s j1, rfl, uh J9, (fun _ => hk9), PC⟩
  ·have HB := hide hbu
   have HRS := hide hres
   have HQ := hide hq
   have CHX := hide hI.ch
   have LSX := hide hI.ls
   clear hI HC HR I0 hbu hres hq hk
   by_cases h1 : ps.length = 1
   ·obtain ⟨m, rfl⟩ := List.length_eq_one_iff.1 h1
    obtain ⟨p0, p1, p2, p3, p4, p5, p6, p7⟩ := (uh CHX).box.eight
    obtain ⟨gp, gcp, ep, cp⟩ := own_cell (uh CHX).prow 0 (.int .i64 m) rfl
    simp only [Value.slice.injEq] at ep
    obtain ⟨rfl, _, rfl⟩ := ep
    clear h1
    go_wp2
    go_ret
    rw [uh HRS]
    obtain ⟨t, rfl⟩ := (uh CHX).sfx
    obtain ⟨tl, rfl, hnew⟩ := (uh CHX).new
    exact ⟨m, rfl, pvr, _, _, t, tl, (uh CHX).fr, (uh CHX).pt, rfl, rfl, hnew, (uh CHX).rs, hij, hn, (uh HB).alone⟩
   ·skip
    have H1 := hide h1
    have h1' : ¬ ((ps.length : Int) = 1) := by omega
    have h1b : ((ps.length : Int) == 1) = false := beq_eq_false_iff_ne.2 h1'
    have hq := uh HQ h1
    clear h1
    obtain ⟨p0, p1, p2, p3, p4, p5, p6, p7⟩ := (uh CHX).box.eight
    have X4 := hide (show RepP wr (⟨4, [], em, em, PP s i, 0, ps, sgs⟩, .slice none 0 0, .slice pa ps.length pc, .slice sa sgs.length sc) from ⟨World.ownsRow_nil _ _ _ _, own_zero (uh CHX).prow, own_zero (uh CHX).srow⟩)
    have FX := hide (show Fresh w.heap.size (⟨4, [], em, em, PP s i, 0, ps, sgs⟩, .slice none 0 0, .slice pa ps.length pc, .slice sa sgs.length sc) from fun g hg => by
     rcases hg with hg | hg | hg
     ·cases hg
     ·exact ((uh CHX).prow.lt g hg).1
     ·exact ((uh CHX).srow.lt g hg).1)
    go_wp2_with fail
    refine (part_any base b s tv j d 0 (a) kv rv pvr plr lr ⟨4, [], em, em, PP s i, 0, ps, sgs⟩ none 0 pa pc sa sc wr (uh CHX).rs (uh CHX).pt (uh X4) (by omega) hbwr hbb).mono ?_
    rintro e' wf ⟨pv', rfl, fr, rs6, pt6⟩
    have F6 := hide ((uh CHX).fr.trans fr)
    have R6 := hide rs6
    have P6 := hide pt6
    clear fr rs6 pt6 p0 p1 p2 p3 p4 p5 p6 p7
    go_wp2
    go_ret
    rw [uh HRS]
    obtain ⟨t, rfl⟩ := (uh CHX).sfx
    obtain ⟨tl, rfl, hnew⟩ := (uh CHX).new
    exact ⟨_, rfl, pv', _, _, t ++ [_], tl ++ [_], uh F6, uh P6, by rw [List.append_assoc], by rw [List.append_assoc], fun x hx => by
     rw [List.mem_append, List.mem_singleton] at hx
     rcases hx with hx | rfl
     ·exact hnew x hx
     ·exact uh FX, uh R6, hij, by simp at hq ⊢; omega, (uh HB).chain (by simpa using uh H1) _⟩
  ·have HRS := hide hres
   have HPS := hide hps
   have CHX := hide hI.ch
   have LSX := hide hI.ls
   clear hI HC HR I0 hres hps hk
   by_cases h1 : ps.length = 1
   ·obtain ⟨m, rfl⟩ := List.length_eq_one_iff.1 h1
    obtain ⟨p0, p1, p2, p3, p4, p5, p6, p7⟩ := (uh CHX).box.eight
    obtain ⟨gp, gcp, ep, cp⟩ := own_cell (uh CHX).prow 0 (.int .i64 m) rfl
    simp only [Value.slice.injEq] at ep
    obtain ⟨rfl, _, rfl⟩ := ep
    clear h1
    go_wp2
    go_ret
    rw [uh HRS]
    obtain ⟨t, rfl⟩ := (uh CHX).sfx
    obtain ⟨tl, rfl, hnew⟩ := (uh CHX).new
    exact ⟨m, rfl, pvr, _, _, t, tl, (uh CHX).fr, (uh CHX).pt, rfl, rfl, hnew, he, j, hij, (uh CHX).rs, by omega⟩
   ·skip
    have H1 := hide h1
    have h1' : ¬ ((ps.length : Int) = 1) := by omega
    have h1b : ((ps.length : Int) == 1) = false := beq_eq_false_iff_ne.2 h1'
    clear h1
    obtain ⟨p0, p1, p2, p3, p4, p5, p6, p7⟩ := (uh CHX).box.eight
    have X4 := hide (show RepP wr (⟨4, [], em, em, PP s i, 0, ps, sgs⟩, .slice none 0 0, .slice pa ps.length pc, .slice sa sgs.length sc) from ⟨World.ownsRow_nil _ _ _ _, own_zero (uh CHX).prow, own_zero (uh CHX).srow⟩)
    have FX := hide (show Fresh w.heap.size (⟨4, [], em, em, PP s i, 0, ps, sgs⟩, .slice none 0 0, .slice pa ps.length pc, .slice sa sgs.length sc) from fun g hg => by
     rcases hg with hg | hg | hg
     ·cases hg
     ·exact ((uh CHX).prow.lt g hg).1
     ·exact ((uh CHX).srow.lt g hg).1)
    go_wp2_with fail
    refine (part_any base b s tv j d e (PP s jj) kv rv pvr plr lr ⟨4, [], em, em, PP s i, 0, ps, sgs⟩ none 0 pa pc sa sc wr (uh CHX).rs (uh CHX).pt (uh X4) (by omega) hbwr hbb).mono ?_
    rintro e' wf ⟨pv', rfl, fr, rs6, pt6⟩
    have F6 := hide ((uh CHX).fr.trans fr)
    have R6 := hide rs6
    have P6 := hide pt6
    clear fr rs6 pt6 p0 p1 p2 p3 p4 p5 p6 p7
    go_wp2
    go_ret
    rw [uh HRS]
    obtain ⟨t, rfl⟩ := (uh CHX).sfx
    obtain ⟨tl, rfl, hnew⟩ := (uh CHX).new
    exact ⟨_, rfl, pv', _, _, t ++ [_], tl ++ [_], uh F6, uh P6, by rw [List.append_assoc], by rw [List.append_assoc], fun x hx => by
     rw [List.mem_append, List.mem_singleton] at hx
     rcases hx with hx | rfl
     ·exact hnew x hx
     ·exact uh FX, he, j, hij, uh R6, by simp at hn ⊢; omega⟩
end Go.Proofs.YtlbpnlngckgcbaaGreatDoor
