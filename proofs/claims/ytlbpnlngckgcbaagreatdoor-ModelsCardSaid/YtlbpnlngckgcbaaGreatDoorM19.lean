import Derived.Test.YtlbpnlngckgcbaaGreatDoorM18
namespace Go.Proofs.YtlbpnlngckgcbaaGreatDoor
open Go.RowKit Go.PlainAid
set_option linter.unusedSimpArgs false
set_option linter.unusedVariables false
theorem eqs_eq {a c : ByteArray} (h : eqs a c = true) : a = c := by
 unfold eqs at h
 rw [beq_iff_eq] at h
 rw [← mk_lst a, ← mk_lst c, h]
/-- The parts ps, with | between, stand for the expression. -/
def BuiltS (pl : List PV) (ps : List Nat) (x : Ex) : Prop :=
 ∃ n0 ns x0 rs f, ps = n0 :: ns ∧ Tr pl f n0 x0 ∧ All2 (Tr pl f) ns (rs.map fun r => r.2.2) ∧ (∀ r ∈ rs, r.1 = sg 124) ∧ x = foldE x0 rs
theorem BuiltS.one {pl : List PV} {f m : Nat} {y : Ex} (h : Tr pl f m y) : BuiltS pl [m] y := ⟨m, [], y, [], f, rfl, h, trivial, by simp, rfl⟩
theorem BuiltS.snoc {pl t : List PV} {ps : List Nat} {x : Ex} (h : BuiltS pl ps x) {f m : Nat} {y : Ex} (k : Tr (pl ++ t) f m y) (p : Nat) : BuiltS (pl ++ t) (ps ++ [m]) (joinE (sg 124) p x y) := by
 obtain ⟨n0, ns, x0, rs, g, rfl, h1, h2, h3, rfl⟩ := h
 refine ⟨n0, ns ++ [m], x0, rs ++ [(sg 124, p, y)], g + f, rfl, Tr.le _ (by omega) (Tr.more pl t g _ _ h1), ?_, ?_, ?_⟩
 ·rw [List.map_append]
  exact All2.snoc (Tr.le _ (by omega) k) _ _ (All2.mono (fun n x hx => Tr.le _ (by omega) (Tr.more pl t g _ _ hx)) _ _ h2)
 ·intro r hr
  rw [List.mem_append, List.mem_singleton] at hr
  rcases hr with hr | rfl
  ·exact h3 r hr
  ·rfl
 ·rw [foldE_snoc]
theorem BuiltS.some {pl : List PV} {ps : List Nat} {x : Ex} (h : BuiltS pl ps x) (hn : ps.length ≠ 1) (p : Nat) : ∃ f, Tr (pl ++ [⟨5, [], em, em, p, 0, ps, []⟩]) f pl.length x := by
 obtain ⟨n0, ns, x0, rs, g, rfl, h1, h2, h3, rfl⟩ := h
 refine ⟨g + 1, _, List.getElem?_concat_length, .inr (.inr (.inr (.inr ⟨rfl, rfl, rfl, n0, ns, x0, rs, rfl, Tr.more pl _ g _ _ h1, All2.mono (Tr.more pl _ g) _ _ h2, h3, ?_, rfl⟩)))⟩
 rintro rfl
 cases ns with
 | nil => exact hn rfl
 | cons n ns => exact h2.elim
theorem BuiltS.alone {pl : List PV} {m : Nat} {x : Ex} (h : BuiltS pl [m] x) : ∃ f, Tr pl f m x := by
 obtain ⟨n0, ns, x0, rs, g, e, h1, h2, h3, rfl⟩ := h
 simp only [List.cons.injEq] at e
 obtain ⟨rfl, rfl⟩ := e
 cases rs with
 | nil => exact ⟨g, h1⟩
 | cons r rs => exact h2.elim
/-- Where the loop of 'expr' stands. -/
def ExC (T : Nat → ByteArray) (P : Nat → Nat) (part : Nat → Res Ex) (i a ex n : Nat) (R : Res Ex) (k : Nat) (more : Bool) (j e aa : Nat) (plr : List PV) (ps : List Nat) : Prop :=
 (more = true ∧ e = 0 ∧ a = aa ∧ plr.length + i ≤ n + j ∧ ((i = j ∧ ps = [] ∧ contR T P [sg 124] part k none j = R) ∨ (i < j ∧ plr.length + i + 1 ≤ n + j ∧ ∃ x p, BuiltS plr ps x ∧ contR T P [sg 124] part k (some (x, sg 124, p)) j = R))) ∨
 (more = false ∧ e = 0 ∧ a = aa ∧ plr.length + i ≤ n + j ∧ i < j ∧ (ps.length ≠ 1 → plr.length + i + 1 ≤ n + j) ∧ ∃ x, BuiltS plr ps x ∧ R = .ok (x, j)) ∨
 (more = false ∧ e ≠ 0 ∧ plr.length + i ≤ n + j + ex ∧ i ≤ j ∧ ps ≠ [] ∧ ∃ jj, P jj = aa ∧ R = .error (e, jj))
set_option maxHeartbeats 4000000 in
set_option maxRecDepth 100000 in
theorem rexpr_any (base b : Nat) (s : ByteArray) (tv : Value) (i d a : Nat) (kv rv pv : Value) (pl : List PV) (l : List PX) (w : World) (h : RS w b s tv i d 0 a kv rv pv) (ht : PT base w pv pl l) (hbb : base ≤ b) (hbw : base ≤ w.heap.size) (hl : pl.length ≤ i) (room : Bool) (inner : Nat → Res Ex) (ex : Nat) (hex : ex ≤ 800) (hr : room = true → d < 4 ∧ InnerOK s inner (d + 1) ex) (hf : room = false → d = 4) :
  Calls Tryz.prog 229 #[.pointer (some ⟨b, 0, none⟩)] w (RPost base b s tv i d a kv rv pv pl l w (ex + 3) (joinR (TT s) (PP s) [sg 124] (chainR (TT s) (PP s) room inner) i)) := by
 obtain ⟨iI, hi1, hy0, hy1, hy2⟩ := info_parts Tryz.infoInt
 have II := hide hi1
 have IZ0 := hide hy0
 have IZ1 := hide hy1
 have IZ2 := hide hy2
 clear hi1 hy0 hy1 hy2
 generalize hR : joinR (TT s) (PP s) [sg 124] (chainR (TT s) (PP s) room inner) i = R
 rw [joinR_cont] at hR
 have HR := hide hR
 have H0 := hide h
 have HT0 := hide ht
 obtain ⟨g, c, e0, hi, t0, t1, t2⟩ := h.at
 obtain ⟨r0, r1, r2, r3, r4, r5, r6, r7⟩ := h.blk.eight
 have hz := h.blk.fz
 have hlt := h.lt
 have E0 := hide e0
 rw [e0] at r0
 have gl := lt_of_cell t0
 have m0 := World.new_ne w _ r0
 have m1 := World.new_ne w _ r1
 have m2 := World.new_ne w _ t1
 clear h ht e0 hR
 go_enter Tryz.func229, Tryz.ntmps229
 go_wp2_with fail
 go_region_held3 (fun w' => w'.cell? ⟨b, 0, none⟩ = some (.slice (some ⟨g, 0, none⟩) (toks s).length c) ∧ w'.cell? ⟨b, 1, none⟩ = some (.int .i64 i) ∧ w'.cell? ⟨g, i * 3 + 1, none⟩ = some (.int .i64 (PP s i))) (go_keep) (fail)
 rename_i hh
 clear hh r0 r1 r2 r3 r4 r5 r6 r7 t0 t1 t2 m0 m1 m2 hz
 have b1 : Below w.heap.size w ((w.alloc (.cells #[.int .i64 5, .slice none 0 0, .string ⟨#[]⟩, .string ⟨#[]⟩, .int .i64 (PP s i), .int .i64 0, .slice none 0 0, .slice none 0 0] 255)).drew) := ((Below.refl _ w).alloc (Nat.le_refl _) _).drew
 have I0 := hide (show ChI base b s tv d kv rv pv i pl l w 5 ((w.alloc (.cells #[.int .i64 5, .slice none 0 0, .string ⟨#[]⟩, .string ⟨#[]⟩, .int .i64 (PP s i), .int .i64 0, .slice none 0 0, .slice none 0 0] 255)).drew) pv i 0 a pl l [] none 0 [] none 0 from
  ⟨Fr.of_below b1 hbw, (uh H0).below b1, (uh HT0).but (But.of_below (b := b) b1) (uh H0).blk hbb hbw, (Blk.new w _ _).drew, fun e => by
    have := ((uh HT0).row.lt _ e).2
    omega, World.ownsRow_nil _ _ _ _, World.ownsRow_nil _ _ _ _, fun x hx g hg e => (by cases e), fun x hx g hg e => (by cases e), ⟨[], by simp⟩, ⟨[], by simp⟩, hlt, fun g hg => ((uh H0).tok.lt g hg).2⟩)
 clear b1
 go_wp2_with fail
 go_loopg [4] 512 (fun k vm wr => ∃ (more : Bool) (pvr : Value) (j e aa : Nat) (plr : List PV) (lr : List PX) (ps : List Nat) (pa : Option Addr) (pc : Nat), vm = .bool more ∧ ChI base b s tv d kv rv pv i pl l w 5 wr pvr j e aa plr lr ps pa pc [] none 0 ∧ (e = 0 → ps.length ≤ j) ∧ (more = true → 512 ≤ k + j) ∧ Hid (ExC (TT s) (PP s) (chainR (TT s) (PP s) room inner) i a (ex + 2) pl.length R k more j e aa plr ps))
 case atStart => exact ⟨true, pv, i, 0, a, pl, l, [], none, 0, rfl, uh I0, (fun _ => by simp), (fun _ => by omega), hide (.inl ⟨rfl, rfl, rfl, by omega, .inl ⟨rfl, rfl, uh HR⟩⟩)⟩
 case round =>
  obtain ⟨more, pvr, j, e, aa, plr, lr, ps, pa, pc, rfl, hI, hlp, hk, HC⟩ := hrel
  have hle := hI.rs.gd.le
  have hsz := hI.rs.sz
  have hbwr : base ≤ wr.heap.size := Nat.le_trans hbw hI.fr.below.size
  rcases uh HC with ⟨rfl, rfl, rfl, hn, hs⟩ | ⟨rfl, rfl, rfl, hn, hij, hq, x, hbu, hres⟩ | ⟨rfl, he, hn, hij, hps, jj, rfl, hres⟩
  ·have hk := hk rfl
   obtain ⟨fu, rfl⟩ : ∃ f, gk = f + 1 := ⟨gk - 1, by omega⟩
   have HS := hide hs
   have C := hide (rchain_any base b s tv j d a kv rv pvr plr lr wr hI.rs hI.pt hbb hbwr (by omega) room inner ex (by omega) hr hf)
   have HI := hide hI
   have lp := hlp rfl
   have hij : i ≤ j := by rcases hs with ⟨h, _⟩ | ⟨h, _⟩ <;> omega
   clear hI HC hs HR I0 hlp
   go_wp2_with fail
   refine (uh C).mono ?_
   rintro e' w1 ⟨m, rfl, pv1, pl1, l1, t, tl, fr, pt, rfl, rfl, hfs, hres⟩
   have hbw1 : base ≤ w1.heap.size := Nat.le_trans hbwr fr.below.size
   cases hu : chainR (TT s) (PP s) room inner j with
   | error er =>
    obtain ⟨c0, jj⟩ := er
    rw [hu] at hres
    obtain ⟨hc0, j1, hj1, rs, hn1⟩ := hres
    have CH1 := hide ((uh HI).call fr pt rs hfs (pl1 := []) (l1 := []))
    have RE := hide (show R = .error (c0, jj) from by
     rcases uh HS with ⟨_, _, h⟩ | ⟨_, _, x, p, _, h⟩
     ·rw [← h]; exact cont_bad hu
     ·rw [← h]; exact cont_bad hu)
    clear fr pt rs hfs C HI hu
    have hsz1 := (uh CH1).rs.sz
    have hle1 := (uh CH1).rs.gd.le
    obtain ⟨p0, p1, p2, p3, p4, p5, p6, p7⟩ := (uh CH1).box.eight
    have zp := (uh CH1).box.fz
    have lq1 := (uh CH1).box.lt
    have O1 := hide (uh CH1).prow
    go_wp2_with (at_builtin; go_must (refine wpList_append_lies _ rfl _ _ 29 rfl w.heap.size 3 iI _ 1 8 Tryz.underlying29 (uh II) (uh IZ0) (uh IZ1) (uh IZ2) rfl (by decide) (.slice pa ps.length pc) ps.length (ps.map fun n : Nat => .int .i64 n) rfl ?hownA ⟨w1.heap.size, 0, none⟩ 1 1 [.int .i64 m] rfl rfl ?hnewsA ?honeA (by decide) ?h63A ?hbytesA ?hbaseA (w1.heap.size + 1) ?hHA ?hrestA))
    case hownA => exact (uh O1).alloc _
    case hnewsA => exact World.news_of_block (B := w1.heap.size) (cs := #[.int .i64 m]) (t := 3) (fr := (0, 0)) (Blk.new' _ _ _ _ rfl)
    case honeA =>
     intro u hu
     simp only [List.mem_cons, List.not_mem_nil, or_false] at hu
     rcases hu with rfl
     rfl
    case h63A => unfold maxLen; omega
    case hbytesA => omega
    case hbaseA => simp; omega
    case hHA => simp
    intro g5 cap5 w5 hown5 hgrow5 hat5 hgl5
    obtain ⟨bx5, CH5'⟩ := (uh CH1).grownP hbw1 hbb hbw hgrow5 hown5 hat5
    have CH5 := hide CH5'
    obtain ⟨q0, q1, q2, q3, q4, q5, q6, q7⟩ := bx5.eight
    have zq := bx5.fz
    have lq5 := bx5.lt
    clear hown5 hgrow5 hat5 bx5 CH5' p0 p1 p2 p3 p4 p5 p6 p7  zp
    have hbw5 : base ≤ (w5.setCell ⟨w.heap.size, 6, none⟩ (.slice (some ⟨g5, 0, none⟩) (ps.length + 1) cap5)).heap.size := Nat.le_trans hbw (uh CH5).fr.below.size
    go_wp2_with fail
    refine (is_errB b s tv j1 d c0 (PP s jj) kv rv pv1 (sg 124) _ (uh CH5).rs hc0).mono ?_
    rintro e' w8 ⟨rfl, hb8⟩
    have CH8 := hide ((uh CH5).below hb8 hbw5 hbb)
    clear hb8 CH5
    have PC := hide (show ExC (TT s) (PP s) (chainR (TT s) (PP s) room inner) i a (ex + 2) pl.length R fu false j1 c0 (PP s jj) (plr ++ t) (ps ++ [m]) from .inr (.inr ⟨rfl, hc0, by omega, by omega, by simp, jj, rfl, uh RE⟩))
    go_wp2
    go_roundg fu
    case measure => omega
    case rel => exact ⟨false, pv1, j1, c0, PP s jj, plr ++ t, lr ++ tl, ps ++ [m], some ⟨g5, 0, none⟩, cap5, rfl, uh CH8, (fun e => absurd e hc0), (fun h => by cases h), PC⟩
   | ok yy =>
    obtain ⟨y, j1⟩ := yy
    rw [hu] at hres
    obtain ⟨rs, hj1, hn1, f1, htr⟩ := hres
    have CH1 := hide ((uh HI).call fr pt rs hfs (pl1 := []) (l1 := []))
    have BU := hide (show ∃ x, BuiltS (plr ++ t) (ps ++ [m]) x ∧ joinL (TT s) (PP s) [sg 124] (chainR (TT s) (PP s) room inner) (fu + 1) x j1 = R from by
     rcases uh HS with ⟨_, rfl, h⟩ | ⟨_, _, x, p, hx, h⟩
     ·rw [cont_ok hu] at h
      exact ⟨_, BuiltS.one htr, h⟩
     ·rw [cont_ok hu] at h
      exact ⟨_, hx.snoc htr p, h⟩)
    have HQ := hide (show (ps ++ [m]).length ≠ 1 → (plr ++ t).length + i + 1 ≤ pl.length + j1 from fun hne => by
     rcases uh HS with ⟨_, rfl, _⟩ | ⟨_, hq, _⟩
     ·exact absurd rfl hne
     ·omega)
    clear fr pt rs hfs C HI hu htr
    have hsz1 := (uh CH1).rs.sz
    have hle1 := (uh CH1).rs.gd.le
    obtain ⟨p0, p1, p2, p3, p4, p5, p6, p7⟩ := (uh CH1).box.eight
    have zp := (uh CH1).box.fz
    have lq1 := (uh CH1).box.lt
    have O1 := hide (uh CH1).prow
    go_wp2_with (at_builtin; go_must (refine wpList_append_lies _ rfl _ _ 29 rfl w.heap.size 3 iI _ 1 8 Tryz.underlying29 (uh II) (uh IZ0) (uh IZ1) (uh IZ2) rfl (by decide) (.slice pa ps.length pc) ps.length (ps.map fun n : Nat => .int .i64 n) rfl ?hownC ⟨w1.heap.size, 0, none⟩ 1 1 [.int .i64 m] rfl rfl ?hnewsC ?honeC (by decide) ?h63C ?hbytesC ?hbaseC (w1.heap.size + 1) ?hHC ?hrestC))
    case hownC => exact (uh O1).alloc _
    case hnewsC => exact World.news_of_block (B := w1.heap.size) (cs := #[.int .i64 m]) (t := 3) (fr := (0, 0)) (Blk.new' _ _ _ _ rfl)
    case honeC =>
     intro u hu
     simp only [List.mem_cons, List.not_mem_nil, or_false] at hu
     rcases hu with rfl
     rfl
    case h63C => unfold maxLen; omega
    case hbytesC => omega
    case hbaseC => simp; omega
    case hHC => simp
    intro g5 cap5 w5 hown5 hgrow5 hat5 hgl5
    obtain ⟨bx5, CH5'⟩ := (uh CH1).grownP hbw1 hbb hbw hgrow5 hown5 hat5
    have CH5 := hide CH5'
    obtain ⟨q0, q1, q2, q3, q4, q5, q6, q7⟩ := bx5.eight
    have zq := bx5.fz
    have lq5 := bx5.lt
    clear hown5 hgrow5 hat5 bx5 CH5' p0 p1 p2 p3 p4 p5 p6 p7  zp
    have hbw5 : base ≤ (w5.setCell ⟨w.heap.size, 6, none⟩ (.slice (some ⟨g5, 0, none⟩) (ps.length + 1) cap5)).heap.size := Nat.le_trans hbw (uh CH5).fr.below.size
    cases h124 : eqs (TT s j1) (sg 124)
    ·go_wp2_with fail
     refine (is_okB b s tv j1 d a kv rv pv1 (sg 124) _ (uh CH5).rs false h124).mono ?_
     rintro e' w8 ⟨rfl, hb8⟩
     have CH8 := hide ((uh CH5).below hb8 hbw5 hbb)
     clear hb8 CH5
     have PC := hide (show ExC (TT s) (PP s) (chainR (TT s) (PP s) room inner) i a (ex + 2) pl.length R fu false j1 0 a (plr ++ t) (ps ++ [m]) from .inr (.inl ⟨rfl, rfl, rfl, by omega, by omega, uh HQ, by
      obtain ⟨x, hx, hy⟩ := uh BU
      rw [joinL_no (by simp [anyEq, h124])] at hy
      exact ⟨x, hx, hy.symm⟩⟩))
     clear h124
     go_wp2
     go_roundg fu
     case measure => omega
     case rel => exact ⟨false, pv1, j1, 0, a, plr ++ t, lr ++ tl, ps ++ [m], some ⟨g5, 0, none⟩, cap5, rfl, uh CH8, (fun _ => by simp; omega), (fun h => by cases h), PC⟩
    ·go_wp2_with fail
     refine (is_okB b s tv j1 d a kv rv pv1 (sg 124) _ (uh CH5).rs true h124).mono ?_
     rintro e' w8 ⟨rfl, hb8⟩
     have CH8 := hide ((uh CH5).below hb8 hbw5 hbb)
     have hbw8 : base ≤ w8.heap.size := Nat.le_trans hbw5 hb8.size
     clear hb8 CH5
     have HJ := hide ((uh CH8).rs.gd.succ (eqs_pos h124 (by decide)))
     obtain ⟨r0, r1, r2, r3, r4, _⟩ := (uh CH8).rs.blk.eight
     have zr := (uh CH8).rs.blk.fz
     have CH9 := hide ((uh CH8).but ((But.refl b w8).setCell 1 (.int .i64 ((j1 : Int) + 1))) hbw8 hbb ((uh CH8).rs.setI (j1 + 1) (uh HJ)))
     have PC := hide (show ExC (TT s) (PP s) (chainR (TT s) (PP s) room inner) i a (ex + 2) pl.length R fu true (j1 + 1) 0 a (plr ++ t) (ps ++ [m]) from .inl ⟨rfl, rfl, rfl, by omega, .inr ⟨by omega, by omega, by
      obtain ⟨x, hx, hy⟩ := uh BU
      rw [joinL_yes (by simp [anyEq, h124])] at hy
      have e : TT s j1 = sg 124 := eqs_eq h124
      rw [e] at hy
      exact ⟨x, PP s j1, hx, hy⟩⟩⟩)
     have hk9 : 512 ≤ fu + (j1 + 1) := by omega
     clear h124
     go_wp2
     go_roundg fu
     case measure => omega
     case rel => exact ⟨true, pv1, j1 + 1, 0, a, plr ++ t, lr ++ tl, ps ++ [m], some ⟨g5, 0, none⟩, cap5, rfl, uh CH9, (fun _ => by simp; omega), (fun _ => hk9), PC⟩
  ·have HB := hide hbu
   have HRS := hide hres
   have HQ := hide hq
   have CHX := hide hI
   clear hI HC HR I0 hbu hres hq hk hlp
   by_cases h1 : ps.length = 1
   ·obtain ⟨m, rfl⟩ := List.length_eq_one_iff.1 h1
    obtain ⟨p0, p1, p2, p3, p4, p5, p6, p7⟩ := (uh CHX).box.eight
    obtain ⟨gp, gcp, ep, cp⟩ := own_cell (uh CHX).prow 0 (.int .i64 m) rfl
    simp only [Value.slice.injEq] at ep
    obtain ⟨rfl, _, rfl⟩ := ep
    clear h1
    go_wp2
    go_ret
    rw [uh HRS]
    obtain ⟨t, rfl⟩ := (uh CHX).sfx
    obtain ⟨tl, rfl, hnew⟩ := (uh CHX).new
    exact ⟨m, rfl, pvr, _, _, t, tl, (uh CHX).fr, (uh CHX).pt, rfl, rfl, hnew, (uh CHX).rs, hij, hn, (uh HB).alone⟩
   ·skip
    have H1 := hide h1
    have h1' : ¬ ((ps.length : Int) = 1) := by omega
    have h1b : ((ps.length : Int) == 1) = false := beq_eq_false_iff_ne.2 h1'
    have hq := uh HQ h1
    clear h1
    obtain ⟨p0, p1, p2, p3, p4, p5, p6, p7⟩ := (uh CHX).box.eight
    have X4 := hide (show RepP wr (⟨5, [], em, em, PP s i, 0, ps, []⟩, .slice none 0 0, .slice pa ps.length pc, .slice none 0 0) from ⟨World.ownsRow_nil _ _ _ _, own_zero (uh CHX).prow, World.ownsRow_nil _ _ _ _⟩)
    have FX := hide (show Fresh w.heap.size (⟨5, [], em, em, PP s i, 0, ps, []⟩, .slice none 0 0, .slice pa ps.length pc, .slice none 0 0) from fun g hg => by
     rcases hg with hg | hg | hg
     ·cases hg
     ·exact ((uh CHX).prow.lt g hg).1
     ·cases hg)
    go_wp2_with fail
    refine (part_any base b s tv j d 0 (a) kv rv pvr plr lr ⟨5, [], em, em, PP s i, 0, ps, []⟩ none 0 pa pc none 0 wr (uh CHX).rs (uh CHX).pt (uh X4) (by omega) hbwr hbb).mono ?_
    rintro e' wf ⟨pv', rfl, fr, rs6, pt6⟩
    have F6 := hide ((uh CHX).fr.trans fr)
    have R6 := hide rs6
    have P6 := hide pt6
    clear fr rs6 pt6 p0 p1 p2 p3 p4 p5 p6 p7
    go_wp2
    go_ret
    rw [uh HRS]
    obtain ⟨t, rfl⟩ := (uh CHX).sfx
    obtain ⟨tl, rfl, hnew⟩ := (uh CHX).new
    exact ⟨_, rfl, pv', _, _, t ++ [_], tl ++ [_], uh F6, uh P6, by rw [List.append_assoc], by rw [List.append_assoc], fun x hx => by
     rw [List.mem_append, List.mem_singleton] at hx
     rcases hx with hx | rfl
     ·exact hnew x hx
     ·exact uh FX, uh R6, hij, by simp at hq ⊢; omega, (uh HB).some (by simpa using uh H1) _⟩
  ·have HRS := hide hres
   have CHX := hide hI
   clear hI HC HR I0 hres hps hk hlp
   by_cases h1 : ps.length = 1
   ·obtain ⟨m, rfl⟩ := List.length_eq_one_iff.1 h1
    obtain ⟨p0, p1, p2, p3, p4, p5, p6, p7⟩ := (uh CHX).box.eight
    obtain ⟨gp, gcp, ep, cp⟩ := own_cell (uh CHX).prow 0 (.int .i64 m) rfl
    simp only [Value.slice.injEq] at ep
    obtain ⟨rfl, _, rfl⟩ := ep
    clear h1
    go_wp2
    go_ret
    rw [uh HRS]
    obtain ⟨t, rfl⟩ := (uh CHX).sfx
    obtain ⟨tl, rfl, hnew⟩ := (uh CHX).new
    exact ⟨m, rfl, pvr, _, _, t, tl, (uh CHX).fr, (uh CHX).pt, rfl, rfl, hnew, he, j, hij, (uh CHX).rs, by omega⟩
   ·skip
    have H1 := hide h1
    have h1' : ¬ ((ps.length : Int) = 1) := by omega
    have h1b : ((ps.length : Int) == 1) = false := beq_eq_false_iff_ne.2 h1'
    clear h1
    obtain ⟨p0, p1, p2, p3, p4, p5, p6, p7⟩ := (uh CHX).box.eight
    have X4 := hide (show RepP wr (⟨5, [], em, em, PP s i, 0, ps, []⟩, .slice none 0 0, .slice pa ps.length pc, .slice none 0 0) from ⟨World.ownsRow_nil _ _ _ _, own_zero (uh CHX).prow, World.ownsRow_nil _ _ _ _⟩)
    have FX := hide (show Fresh w.heap.size (⟨5, [], em, em, PP s i, 0, ps, []⟩, .slice none 0 0, .slice pa ps.length pc, .slice none 0 0) from fun g hg => by
     rcases hg with hg | hg | hg
     ·cases hg
     ·exact ((uh CHX).prow.lt g hg).1
     ·cases hg)
    go_wp2_with fail
    refine (part_any base b s tv j d e (PP s jj) kv rv pvr plr lr ⟨5, [], em, em, PP s i, 0, ps, []⟩ none 0 pa pc none 0 wr (uh CHX).rs (uh CHX).pt (uh X4) (by omega) hbwr hbb).mono ?_
    rintro e' wf ⟨pv', rfl, fr, rs6, pt6⟩
    have F6 := hide ((uh CHX).fr.trans fr)
    have R6 := hide rs6
    have P6 := hide pt6
    clear fr rs6 pt6 p0 p1 p2 p3 p4 p5 p6 p7
    go_wp2
    go_ret
    rw [uh HRS]
    obtain ⟨t, rfl⟩ := (uh CHX).sfx
    obtain ⟨tl, rfl, hnew⟩ := (uh CHX).new
    exact ⟨_, rfl, pv', _, _, t ++ [_], tl ++ [_], uh F6, uh P6, by rw [List.append_assoc], by rw [List.append_assoc], fun x hx => by
     rw [List.mem_append, List.mem_singleton] at hx
     rcases hx with hx | rfl
     ·exact hnew x hx
     ·exact uh FX, he, j, hij, uh R6, by simp at hn ⊢; omega⟩
/-- Every expression within d brackets. -/
theorem rexpr_inner (s : ByteArray) : ∀ (n d : Nat), d + n = 4 → InnerOK s (exprR (TT s) (PP s) n) d (3 * (n + 1))
 | 0, d, h => fun base b tv i a kv rv pv pl l w h1 h2 h3 h4 h5 =>
  rexpr_any base b s tv i d a kv rv pv pl l w h1 h2 h3 h4 h5 false (fun _ => .error (0, 0)) 0 (by omega) (fun e => by cases e) (fun _ => by omega)
 | n + 1, d, h => fun base b tv i a kv rv pv pl l w h1 h2 h3 h4 h5 => by
  have := rexpr_any base b s tv i d a kv rv pv pl l w h1 h2 h3 h4 h5 true (exprR (TT s) (PP s) n) (3 * (n + 1)) (by omega) (fun _ => ⟨by omega, rexpr_inner s n (d + 1) (by omega)⟩) (fun e => by cases e)
  rw [show 3 * (n + 1 + 1) = 3 * (n + 1) + 3 by omega]
  exact this
/-! The reader with all its tables: types, relations, parts. -/
/-- How 'name' leaves the state: the token at hand, the error, its place. -/
def nmS (s : ByteArray) (rm : Bool) (i a : Nat) : Nat × Nat × Nat := if isNm (TT s i) then (if (TT s i).size ≤ 8 ∧ rm = true then (i + 1, 0, a) else (i, 3, PP s i)) else (i, 2, PP s i)
/-- How 'sign' leaves it. -/
def sgS (s x : ByteArray) (i e a : Nat) : Nat × Nat × Nat := if e = 0 then (if eqs (TT s i) x then (i + 1, 0, a) else (i, 2, PP s i)) else (i, e, a)
theorem rname_any (b : Nat) (s : ByteArray) (tv : Value) (i d a : Nat) (kv rv pv : Value) (rm : Bool) (w : World) (h : RS w b s tv i d 0 a kv rv pv) :
  Calls Tryz.prog 228 #[.pointer (some ⟨b, 0, none⟩), .bool rm] w fun e w' => e = .returned (tkv s i) ∧ But b w w' ∧ ∃ i' e' a', (i', e', a') = nmS s rm i a ∧ RS w' b s tv i' d e' a' kv rv pv := by
 unfold nmS
 cases hn : isNm (TT s i)
 ·exact (rname_text b s tv i d a kv rv pv rm w h hn).mono (fun e w' ⟨h1, h2, h3⟩ => ⟨h1, h2, _, _, _, rfl, h3⟩)
 ·by_cases hl : (TT s i).size ≤ 8
  ·cases hr : rm
   ·exact (rname_full b s tv i d a kv rv pv false w h hn hl rfl).mono (fun e w' ⟨h1, h2, h3⟩ => ⟨h1, h2, _, _, _, by simp, h3⟩)
   ·exact (rname_ok b s tv i d a kv rv pv w h hn hl).mono (fun e w' ⟨h1, h2, h3⟩ => ⟨h1, h2, _, _, _, by simp [hl], h3⟩)
  ·exact (rname_big b s tv i d a kv rv pv rm w h hn (by omega)).mono (fun e w' ⟨h1, h2, h3⟩ => ⟨h1, h2, _, _, _, by simp [hl], h3⟩)
theorem rsign_any (b : Nat) (s : ByteArray) (tv : Value) (i d e0 a : Nat) (kv rv pv : Value) (x : ByteArray) (w : World) (h : RS w b s tv i d e0 a kv rv pv) (hx : 0 < (lst x).length) :
  Calls Tryz.prog 188 #[.pointer (some ⟨b, 0, none⟩), .string x] w fun e w' => e = .returned (.tuple #[]) ∧ But b w w' ∧ ∃ i' e' a', (i', e', a') = sgS s x i e0 a ∧ RS w' b s tv i' d e' a' kv rv pv := by
 unfold sgS
 by_cases h0 : e0 = 0
 ·subst h0
  cases hn : eqs (TT s i) x
  ·exact (sign_no b s tv i d a kv rv pv x w h hn).mono (fun e w' ⟨h1, h2, h3⟩ => ⟨h1, h2, _, _, _, by simp, h3⟩)
  ·exact (sign_yes b s tv i d a kv rv pv x w h hn hx).mono (fun e w' ⟨h1, h2, h3⟩ => ⟨h1, h2, _, _, _, by simp, h3⟩)
 ·exact (sign_err b s tv i d e0 a kv rv pv x w h h0).mono (fun e w' ⟨h1, h2⟩ => ⟨h1, But.of_below h2, _, _, _, by simp [h0], h.below h2⟩)
structure RV where
 kd : ByteArray
 nm : ByteArray
 pl : Nat
 ex : Nat
def kC (k : ByteArray × Nat) : List Value := [.string k.1, .int .i64 k.2]
def rC (r : RV) : List Value := [.string r.kd, .string r.nm, .int .i64 r.pl, .int .i64 r.ex]
structure RM (base : Nat) (w : World) (b : Nat) (s : ByteArray) (tv : Value) (i d e a : Nat) (kv rv pv : Value) (kl : List (ByteArray × Nat)) (rl : List RV) (pl : List PV) (l : List PX) : Prop where
 rs : RS w b s tv i d e a kv rv pv
 pt : PT base w pv pl l
 kt : w.ownsRow base 170 2 kv kl.length (kl.flatMap kC)
 rt : w.ownsRow base 172 4 rv rl.length (rl.flatMap rC)
/-- All blocks but those of the type T, and the reader's, are as they were. -/
def NX (T : TypeId) (w w' : World) : Prop := ∀ (g : Nat) (cs : Array Value) (T' : TypeId) (f : Nat × Nat), w.heap[g]? = some (Obj.cells cs T' f) → T' ≠ T → T' ≠ 252 → w'.heap[g]? = w.heap[g]?
theorem NX.row {T : TypeId} {w w' : World} (k : NX T w w') {base : Nat} {e : TypeId} {size : Nat} {v : Value} {n : Nat} {xs : List Value} (h : w.ownsRow base e size v n xs) (h1 : e ≠ T) (h2 : e ≠ 252) : w'.ownsRow base e size v n xs := ownsRow_frame h (fun g cs f _ hh => k g cs _ f hh h1 h2)
theorem NX.pt {T : TypeId} {w w' : World} (k : NX T w w') {base : Nat} {pv : Value} {pl : List PV} {l : List PX} (h : PT base w pv pl l) (h1 : 255 ≠ T) (h2 : 257 ≠ T) (h3 : 3 ≠ T) (h4 : 259 ≠ T) : PT base w' pv pl l :=
 ⟨h.fst, k.row h.row h1 (by decide), fun x hx => ⟨k.row (h.rep x hx).g h2 (by decide), k.row (h.rep x hx).p h3 (by decide), k.row (h.rep x hx).s h4 (by decide)⟩⟩
theorem NX.grown {T : TypeId} {w W w5 : World} {v : Value} {base : Nat} {size n : Nat} {xs : List Value} (h : w.ownsRow base T size v n xs) (k : Below w.heap.size w W) (hg : W.grownBy w5 v.ownBlock) (b : Nat) {cs : Array Value} (hb : Blk w b cs 252) (o : Nat) (u : Value) : NX T w (w5.setCell ⟨b, o, none⟩ u) := by
 intro g cs' T' f hh h1 h2
 refine (Below.heap_setCell _ _ _ _ ?_).trans ((hg.block g (Nat.lt_of_lt_of_le (lt_of_some hh) k.size) (fun e => own_nf h hh h1 e)).trans (k.block g (lt_of_some hh)))
 intro e
 subst e
 unfold Blk at hb
 rw [hb] at hh
 simp only [Option.some.injEq, Obj.cells.injEq] at hh
 exact h2 hh.2.1.symm
section
variable {base b : Nat} {w w' : World} {s : ByteArray} {tv : Value} {i d e a : Nat} {kv rv pv : Value} {kl : List (ByteArray × Nat)} {rl : List RV} {pl : List PV} {l : List PX}
theorem RM.below (h : RM base w b s tv i d e a kv rv pv kl rl pl l) (k : Below w.heap.size w w') (hbb : base ≤ b) (hbw : base ≤ w.heap.size) : RM base w' b s tv i d e a kv rv pv kl rl pl l :=
 ⟨h.rs.below k, h.pt.but (But.of_below (b := b) k) h.rs.blk hbb hbw, ownsRow_frame h.kt (fun g cs f _ hh => k.block g (lt_of_some hh)), ownsRow_frame h.rt (fun g cs f _ hh => k.block g (lt_of_some hh))⟩
theorem But.row {v : Value} {T : TypeId} {size n : Nat} {xs : List Value} {bs : Nat} (k : But b w w') {cs : Array Value} (hb : Blk w b cs 252) (h : w.ownsRow bs T size v n xs) (h1 : T ≠ 252) : w'.ownsRow bs T size v n xs :=
 ownsRow_frame h (fun g cs f _ hh => k.block g (lt_of_some hh) (fun e => by
  subst e
  unfold Blk at hb
  rw [hb] at hh
  simp only [Option.some.injEq, Obj.cells.injEq] at hh
  exact h1 hh.2.1.symm))
theorem RM.but (h : RM base w b s tv i d e a kv rv pv kl rl pl l) (k : But b w w') (hbb : base ≤ b) (hbw : base ≤ w.heap.size) {i' d' e' a' : Nat} (r : RS w' b s tv i' d' e' a' kv rv pv) : RM base w' b s tv i' d' e' a' kv rv pv kl rl pl l :=
 ⟨r, h.pt.but k h.rs.blk hbb hbw, k.row h.rs.blk h.kt (by decide), k.row h.rs.blk h.rt (by decide)⟩
theorem RM.fr (h : RM base w b s tv i d e a kv rv pv kl rl pl l) {pv' : Value} (k : Fr base b w w' pv pv') {pl' : List PV} {l' : List PX} (p : PT base w' pv' pl' l') {i' d' e' a' : Nat} (r : RS w' b s tv i' d' e' a' kv rv pv') : RM base w' b s tv i' d' e' a' kv rv pv' kl rl pl' l' :=
 ⟨r, p, k.row h.kt h.rs.blk h.pt.row (by decide) (by decide), k.row h.rt h.rs.blk h.pt.row (by decide) (by decide)⟩
theorem RM.kinds (h : RM base w b s tv i d e a kv rv pv kl rl pl l) (hbb : base ≤ b) (hbw : base ≤ w.heap.size) {W w5 : World} {g5 cap5 : Nat} {x : ByteArray × Nat} (hB : Below w.heap.size w W) (G5 : W.grownBy w5 kv.ownBlock) (O5 : w5.ownsRow base 170 2 (.slice (some ⟨g5, 0, none⟩) (kl.length + 1) cap5) (kl.length + 1) (kl.flatMap kC ++ kC x)) :
  RM base (w5.setCell ⟨b, 5, none⟩ (.slice (some ⟨g5, 0, none⟩) (kl.length + 1) cap5)) b s tv i d e a (.slice (some ⟨g5, 0, none⟩) (kl.length + 1) cap5) rv pv (kl ++ [x]) rl pl l ∧ Below base w (w5.setCell ⟨b, 5, none⟩ (.slice (some ⟨g5, 0, none⟩) (kl.length + 1) cap5)) ∧ NX 170 w (w5.setCell ⟨b, 5, none⟩ (.slice (some ⟨g5, 0, none⟩) (kl.length + 1) cap5)) := by
 have nx := NX.grown h.kt hB G5 b h.rs.blk 5 (.slice (some ⟨g5, 0, none⟩) (kl.length + 1) cap5)
 have K5 : Blk w5 b _ 252 := (G5.block b (Nat.lt_of_lt_of_le h.rs.lt hB.size) (fun e => own_nf h.kt h.rs.blk (by decide) e)).trans ((hB.block b h.rs.lt).trans h.rs.blk)
 refine ⟨⟨⟨K5.set 5 _, nx.row h.rs.tok (by decide) (by decide), h.rs.gd, ⟨⟨_, _, _, rfl⟩, h.rs.fm.2⟩, h.rs.sz⟩, nx.pt h.pt (by decide) (by decide) (by decide) (by decide), ?_, nx.row h.rt (by decide) (by decide)⟩, ?_, nx⟩
 ·have := own_set O5 K5 (by decide) 5 (.slice (some ⟨g5, 0, none⟩) (kl.length + 1) cap5)
  rw [List.flatMap_append, List.length_append]
  simpa using this
 ·exact (Below.grown (hB.mono hbw) G5 (Nat.le_trans hbw hB.size) (fun k hk => (h.kt.lt k hk).1)).setCell hbb _
theorem RM.rels (h : RM base w b s tv i d e a kv rv pv kl rl pl l) (hbb : base ≤ b) (hbw : base ≤ w.heap.size) {W w5 : World} {g5 cap5 : Nat} {x : RV} (hB : Below w.heap.size w W) (G5 : W.grownBy w5 rv.ownBlock) (O5 : w5.ownsRow base 172 4 (.slice (some ⟨g5, 0, none⟩) (rl.length + 1) cap5) (rl.length + 1) (rl.flatMap rC ++ rC x)) :
  RM base (w5.setCell ⟨b, 6, none⟩ (.slice (some ⟨g5, 0, none⟩) (rl.length + 1) cap5)) b s tv i d e a kv (.slice (some ⟨g5, 0, none⟩) (rl.length + 1) cap5) pv kl (rl ++ [x]) pl l ∧ Below base w (w5.setCell ⟨b, 6, none⟩ (.slice (some ⟨g5, 0, none⟩) (rl.length + 1) cap5)) ∧ NX 172 w (w5.setCell ⟨b, 6, none⟩ (.slice (some ⟨g5, 0, none⟩) (rl.length + 1) cap5)) := by
 have nx := NX.grown h.rt hB G5 b h.rs.blk 6 (.slice (some ⟨g5, 0, none⟩) (rl.length + 1) cap5)
 have K5 : Blk w5 b _ 252 := (G5.block b (Nat.lt_of_lt_of_le h.rs.lt hB.size) (fun e => own_nf h.rt h.rs.blk (by decide) e)).trans ((hB.block b h.rs.lt).trans h.rs.blk)
 refine ⟨⟨⟨K5.set 6 _, nx.row h.rs.tok (by decide) (by decide), h.rs.gd, ⟨h.rs.fm.1, ⟨_, _, _, rfl⟩, h.rs.fm.2.2⟩, h.rs.sz⟩, nx.pt h.pt (by decide) (by decide) (by decide) (by decide), nx.row h.kt (by decide) (by decide), ?_⟩, ?_, nx⟩
 ·have := own_set O5 K5 (by decide) 6 (.slice (some ⟨g5, 0, none⟩) (rl.length + 1) cap5)
  rw [List.flatMap_append, List.length_append]
  simpa using this
 ·exact (Below.grown (hB.mono hbw) G5 (Nat.le_trans hbw hB.size) (fun k hk => (h.rt.lt k hk).1)).setCell hbb _
end
theorem NX.blk {T : TypeId} {w w' : World} (k : NX T w w') {g : Nat} {cs : Array Value} {T' : TypeId} (h : Blk w g cs T') (h1 : T' ≠ T) (h2 : T' ≠ 252) : Blk w' g cs T' := (k g cs T' (0, 0) h h1 h2).trans h
theorem Tryz.infoKd : (Tryz.prog.info? 170).map (fun i => (i.zero, i.size, i.bytes)) = some (some (.agg #[.string ⟨#[]⟩, .int .i64 0]), 2, 24) := by kernel_rfl
theorem Tryz.infoRl : (Tryz.prog.info? 172).map (fun i => (i.zero, i.size, i.bytes)) = some (some (.agg #[.string ⟨#[]⟩, .string ⟨#[]⟩, .int .i64 0, .int .i64 0]), 4, 48) := by kernel_rfl
/-! The document's model in memory, from behind its reading on: nothing of it is written any more. -/
structure DM (w : World) (b : Nat) (kv rv pv : Value) (kl : List (ByteArray × Nat)) (rl : List RV) (pl : List PV) (l : List PX) : Prop where
 c5 : w.cell? ⟨b, 5, none⟩ = some kv
 c6 : w.cell? ⟨b, 6, none⟩ = some rv
 c7 : w.cell? ⟨b, 7, none⟩ = some pv
 kt : w.ownsRow 0 170 2 kv kl.length (kl.flatMap kC)
 rt : w.ownsRow 0 172 4 rv rl.length (rl.flatMap rC)
 pt : PT 0 w pv pl l
 kn : kl.length ≤ 5
 rn : rl.length ≤ 500
 pn : pl.length ≤ 500
theorem row_below {w w' : World} {base : Nat} {e : TypeId} {size : Nat} {v : Value} {n : Nat} {xs : List Value} (h : w.ownsRow base e size v n xs) (k : Below w.heap.size w w') : w'.ownsRow base e size v n xs := ownsRow_frame h (fun g cs f _ hh => k.block g (lt_of_some hh))
theorem cell_below {w w' : World} {a : Addr} {v : Value} (h : w.cell? a = some v) (k : Below w.heap.size w w') : w'.cell? a = some v := (World.cell?_of_block (k.block a.block (World.block_lt_of_cell? w a h))).trans h
theorem PT.below {base : Nat} {w w' : World} {pv : Value} {pl : List PV} {l : List PX} (h : PT base w pv pl l) (k : Below w.heap.size w w') : PT base w' pv pl l :=
 ⟨h.fst, row_below h.row k, fun x hx => ⟨row_below (h.rep x hx).g k, row_below (h.rep x hx).p k, row_below (h.rep x hx).s k⟩⟩
section
variable {w w' : World} {b : Nat} {kv rv pv : Value} {kl : List (ByteArray × Nat)} {rl : List RV} {pl : List PV} {l : List PX}
theorem DM.below (h : DM w b kv rv pv kl rl pl l) (k : Below w.heap.size w w') : DM w' b kv rv pv kl rl pl l :=
 ⟨cell_below h.c5 k, cell_below h.c6 k, cell_below h.c7 k, row_below h.kt k, row_below h.rt k, h.pt.below k, h.kn, h.rn, h.pn⟩
theorem flat_get {α : Type} (f : α → List Value) (k : Nat) (hf : ∀ a, (f a).length = k) (a : α) (j : Nat) (hj : j < k) : ∀ (l : List α) (i : Nat), l[i]? = some a → (l.flatMap f)[i * k + j]? = (f a)[j]?
 | [], i, h => by simp at h
 | x :: l, 0, h => by
  simp only [List.getElem?_cons_zero, Option.some.injEq] at h
  subst h
  rw [List.flatMap_cons, Nat.zero_mul, Nat.zero_add, List.getElem?_append_left (by rw [hf]; exact hj)]
 | x :: l, i + 1, h => by
  rw [List.getElem?_cons_succ] at h
  rw [List.flatMap_cons, List.getElem?_append_right (by rw [hf, Nat.add_mul]; omega), hf, show (i + 1) * k + j - k = i * k + j by rw [Nat.add_mul]; omega]
  exact flat_get f k hf a j hj l i h
theorem flat_cell {T : TypeId} {α : Type} (f : α → List Value) (k : Nat) (hf : ∀ a, (f a).length = k) {v : Value} {l : List α} {base : Nat} (h : w.ownsRow base T k v l.length (l.flatMap f)) (i : Nat) (a : α) (hi : l[i]? = some a) :
  ∃ g c, v = .slice (some ⟨g, 0, none⟩) l.length c ∧ ∀ j u, j < k → (f a)[j]? = some u → w.cell? ⟨g, i * k + j, none⟩ = some u := by
 obtain ⟨g, c, e, _⟩ := h.form (n := l.length) (by have := (List.getElem?_eq_some_iff.1 hi).1; omega)
 refine ⟨g, c, e, fun j u hj hu => ?_⟩
 obtain ⟨g', c', e', hc⟩ := own_cell h (i * k + j) u (by rw [flat_get f k hf a j hj l i hi]; exact hu)
 rw [e] at e'
 simp only [Value.slice.injEq, Option.some.injEq, Addr.mk.injEq] at e'
 rw [e'.1.1]
 exact hc
theorem DM.kat (h : DM w b kv rv pv kl rl pl l) (i : Nat) (x : ByteArray × Nat) (hi : kl[i]? = some x) : ∃ g c, kv = .slice (some ⟨g, 0, none⟩) kl.length c ∧ w.cell? ⟨g, i * 2, none⟩ = some (.string x.1) ∧ w.cell? ⟨g, i * 2 + 1, none⟩ = some (.int .i64 x.2) := by
 obtain ⟨g, c, e, hc⟩ := flat_cell kC 2 (fun _ => rfl) h.kt i x hi
 exact ⟨g, c, e, hc 0 _ (by omega) rfl, hc 1 _ (by omega) rfl⟩
theorem DM.rat (h : DM w b kv rv pv kl rl pl l) (i : Nat) (x : RV) (hi : rl[i]? = some x) : ∃ g c, rv = .slice (some ⟨g, 0, none⟩) rl.length c ∧ w.cell? ⟨g, i * 4, none⟩ = some (.string x.kd) ∧ w.cell? ⟨g, i * 4 + 1, none⟩ = some (.string x.nm) ∧ w.cell? ⟨g, i * 4 + 2, none⟩ = some (.int .i64 x.pl) ∧ w.cell? ⟨g, i * 4 + 3, none⟩ = some (.int .i64 x.ex) := by
 obtain ⟨g, c, e, hc⟩ := flat_cell rC 4 (fun _ => rfl) h.rt i x hi
 exact ⟨g, c, e, hc 0 _ (by omega) rfl, hc 1 _ (by omega) rfl, hc 2 _ (by omega) rfl, hc 3 _ (by omega) rfl⟩
end
theorem eqs_toList (a c : ByteArray) : eqs a c = (a.toList == c.toList) := by unfold eqs; rw [toList_lst, toList_lst]
set_option maxHeartbeats 1000000 in
set_option maxRecDepth 100000 in
theorem hasKind_any (b : Nat) (kv rv pv : Value) (kl : List (ByteArray × Nat)) (rl : List RV) (pl : List PV) (l : List PX) (x : ByteArray) (w : World) (h : DM w b kv rv pv kl rl pl l) :
  Calls Tryz.prog 137 #[.pointer (some ⟨b, 5, none⟩), .string x] w fun e w' => e = .returned (.bool (kl.any fun k => eqs k.1 x)) ∧ Below w.heap.size w w' := by
 obtain ⟨ka, kc, rfl⟩ := own_form h.kt
 have H := hide h
 have hkn := h.kn
 generalize hR : (kl.any fun k => eqs k.1 x) = R
 have HR := hide (show ((kl.drop 0).any fun k => eqs k.1 x) = R from hR)
 clear h hR
 go_enter Tryz.func137, Tryz.ntmps137
 go_wp2_with fail
 go_loopw [5] (fun u wr => ∃ k : Nat, k ≤ kl.length ∧ u = .int .i64 k ∧ Below w.heap.size w wr ∧ Hid (((kl.drop k).any fun q => eqs q.1 x) = R)) (fun u _ => kl.length - (intOf u).toNat)
 case atStart => exact ⟨0, by omega, rfl, Below.refl _ _, HR⟩
 case round =>
  obtain ⟨k, hk, rfl, hb, HQ⟩ := hrel
  have c5 := ((uh H).below hb).c5
  have HB := hide hb
  by_cases hlt : k < kl.length
  ·obtain ⟨g, c, e1, k0, k1⟩ := ((uh H).below hb).kat k kl[k] (List.getElem?_eq_getElem hlt)
   simp only [Value.slice.injEq, true_and] at e1
   obtain ⟨rfl, rfl⟩ := e1
   have hR := uh HQ
   rw [List.drop_eq_getElem_cons hlt, List.any_cons] at hR
   generalize kl[k] = q at *
   have hkn' : (k : Int) < (kl.length : Int) := by omega
   cases he : eqs q.1 x
   ·rw [he, Bool.false_or] at hR
    rw [eqs_toList] at he
    have HR2 := hide hR
    clear hb HQ hR
    go_wp2
    go_roundw
    case rel => exact ⟨k + 1, by omega, by go_num, uh HB, HR2⟩
    case measure => simp [intOf]; omega
   ·rw [he, Bool.true_or] at hR
    rw [eqs_toList] at he
    have HRF := hide hR
    clear hb HQ hR
    go_wp2
    go_ret
    exact ⟨by rw [← uh HRF]; rfl, uh HB⟩
  ·have hkn' : ¬ ((k : Int) < (kl.length : Int)) := by omega
   have hR := uh HQ
   rw [List.drop_of_length_le (by omega), List.any_nil] at hR
   have HRF := hide hR
   clear hb HQ hR
   go_wp2
   go_ret
   exact ⟨by rw [← uh HRF]; rfl, uh HB⟩
/-- The number of a type's relation; -1: there is none. -/
def findN (k n : ByteArray) : List RV → Nat → Int
 | [], _ => -1
 | x :: xs, i => if eqs x.kd k && eqs x.nm n then i else findN k n xs (i + 1)
set_option maxHeartbeats 1000000 in
set_option maxRecDepth 100000 in
theorem rfind_any (b : Nat) (kv rv pv : Value) (kl : List (ByteArray × Nat)) (rl : List RV) (pl : List PV) (l : List PX) (x y : ByteArray) (w : World) (h : DM w b kv rv pv kl rl pl l) :
  Calls Tryz.prog 132 #[.pointer (some ⟨b, 5, none⟩), .string x, .string y] w fun e w' => e = .returned (.int .i64 (findN x y rl 0)) ∧ Below w.heap.size w w' := by
 obtain ⟨ra, rc, rfl⟩ := own_form h.rt
 have H := hide h
 have hrn := h.rn
 generalize hR : findN x y rl 0 = R
 have HR := hide (show findN x y (rl.drop 0) 0 = R from hR)
 clear h hR
 go_enter Tryz.func132, Tryz.ntmps132
 go_wp2_with fail
 go_loopw [7] (fun u wr => ∃ k : Nat, k ≤ rl.length ∧ u = .int .i64 k ∧ Below w.heap.size w wr ∧ Hid (findN x y (rl.drop k) k = R)) (fun u _ => rl.length - (intOf u).toNat)
 case atStart => exact ⟨0, by omega, rfl, Below.refl _ _, HR⟩
 case round =>
  obtain ⟨k, hk, rfl, hb, HQ⟩ := hrel
  have c6 := ((uh H).below hb).c6
  have HB := hide hb
  by_cases hlt : k < rl.length
  ·obtain ⟨g, c, e1, k0, k1, k2, k3⟩ := ((uh H).below hb).rat k rl[k] (List.getElem?_eq_getElem hlt)
   simp only [Value.slice.injEq, true_and] at e1
   obtain ⟨rfl, rfl⟩ := e1
   have hR := uh HQ
   rw [List.drop_eq_getElem_cons hlt, findN] at hR
   generalize rl[k] = q at *
   have hkn' : (k : Int) < (rl.length : Int) := by omega
   cases he : eqs q.kd x
   ·rw [he, Bool.false_and] at hR
    simp only [Bool.false_eq_true, if_false] at hR
    rw [eqs_toList] at he
    have HR2 := hide hR
    clear hb HQ hR
    go_wp2
    go_roundw
    case rel => exact ⟨k + 1, by omega, by go_num, uh HB, HR2⟩
    case measure => simp [intOf]; omega
   ·rw [he, Bool.true_and] at hR
    rw [eqs_toList] at he
    cases he2 : eqs q.nm y
    ·rw [he2] at hR
     simp only [Bool.false_eq_true, if_false] at hR
     rw [eqs_toList] at he2
     have HR2 := hide hR
     clear hb HQ hR
     go_wp2
     go_roundw
     case rel => exact ⟨k + 1, by omega, by go_num, uh HB, HR2⟩
     case measure => simp [intOf]; omega
    ·rw [he2] at hR
     simp only [if_true] at hR
     rw [eqs_toList] at he2
     have HRF := hide hR
     clear hb HQ hR
     go_wp2
     go_ret
     exact ⟨by rw [← uh HRF]; rfl, uh HB⟩
  ·have hkn' : ¬ ((k : Int) < (rl.length : Int)) := by omega
   have hR := uh HQ
   rw [List.drop_of_length_le (by omega), findN] at hR
   have HRF := hide hR
   clear hb HQ hR
   go_wp2
   go_ret
   exact ⟨by rw [← uh HRF]; rfl, uh HB⟩
end Go.Proofs.YtlbpnlngckgcbaaGreatDoor
