import Derived.Test.YtlbpnlngckgcbaaGreatDoorM09
namespace Go.Proofs.YtlbpnlngckgcbaaGreatDoor
open Go.RowKit Go.PlainAid
set_option linter.unusedSimpArgs false
set_option linter.unusedVariables false
def sd0 : Array Value := #[.int .i64 0, .nilIface, .nilIface]
set_option maxHeartbeats 1000000 in
set_option maxRecDepth 100000 in
theorem sides_Either (p : Nat) (ta : TypeId) (va : Value) (tb : TypeId) (vb : Value) (w : World) :
  Calls Tryz.prog 212 #[.iface 244 (.agg #[.int .i64 p, .iface ta va, .iface tb vb])] w fun e w' => e = .returned (.tuple #[.agg #[.int .i64 p, .iface ta va, .iface tb vb], .bool true]) ∧ Below w.heap.size w w' := by
 have B0 := hide (Below.refl w.heap.size w)
 have f0 := ta_Either_Either
 go_enter Tryz.func212, Tryz.ntmps212
 go_wp2
 refine bodyPost_ret (v := .tuple #[.agg #[.int .i64 p, .iface ta va, .iface tb vb], .bool true]) (res_cc Tryz.results212 _ _ w.heap.size _ 242 _ _ rfl rfl ?hB Tryz.underlying242 rfl (by kernel_rfl)) rfl ?post
 case hB => exact ⟨_, (by first | exact Blk.alloc (Blk.new _ _ _) _ | exact Blk.new _ _ _), by rfl⟩
 case post => exact ⟨rfl, (by repeat (first | with_reducible exact uh B0 | with_reducible refine Below.drew ?_ | (with_reducible refine Below.setCell ?_ ?_ _; rotate_left; exact (by first | omega | (simp; omega) | simp | (simp; done))) | (with_reducible refine Below.alloc ?_ ?_ _; rotate_left; exact (by first | omega | (simp; omega) | simp | (simp; done)))))⟩
set_option maxHeartbeats 1000000 in
set_option maxRecDepth 100000 in
theorem sides_Both (p : Nat) (ta : TypeId) (va : Value) (tb : TypeId) (vb : Value) (w : World) :
  Calls Tryz.prog 212 #[.iface 245 (.agg #[.int .i64 p, .iface ta va, .iface tb vb])] w fun e w' => e = .returned (.tuple #[.agg #[.int .i64 p, .iface ta va, .iface tb vb], .bool true]) ∧ Below w.heap.size w w' := by
 have B0 := hide (Below.refl w.heap.size w)
 have f0 := ta_Both_Either
 have f1 := ta_Both_Both
 go_enter Tryz.func212, Tryz.ntmps212
 go_wp2
 refine bodyPost_ret (v := .tuple #[.agg #[.int .i64 p, .iface ta va, .iface tb vb], .bool true]) (res_cc Tryz.results212 _ _ w.heap.size _ 242 _ _ rfl rfl ?hB Tryz.underlying242 rfl (by kernel_rfl)) rfl ?post
 case hB => exact ⟨_, (by first | exact Blk.alloc (Blk.new _ _ _) _ | exact Blk.new _ _ _), by rfl⟩
 case post => exact ⟨rfl, (by repeat (first | with_reducible exact uh B0 | with_reducible refine Below.drew ?_ | (with_reducible refine Below.setCell ?_ ?_ _; rotate_left; exact (by first | omega | (simp; omega) | simp | (simp; done))) | (with_reducible refine Below.alloc ?_ ?_ _; rotate_left; exact (by first | omega | (simp; omega) | simp | (simp; done)))))⟩
set_option maxHeartbeats 1000000 in
set_option maxRecDepth 100000 in
theorem sides_Less (p : Nat) (ta : TypeId) (va : Value) (tb : TypeId) (vb : Value) (w : World) :
  Calls Tryz.prog 212 #[.iface 246 (.agg #[.int .i64 p, .iface ta va, .iface tb vb])] w fun e w' => e = .returned (.tuple #[.agg #[.int .i64 p, .iface ta va, .iface tb vb], .bool true]) ∧ Below w.heap.size w w' := by
 have B0 := hide (Below.refl w.heap.size w)
 have f0 := ta_Less_Either
 have f1 := ta_Less_Both
 have f2 := ta_Less_Less
 go_enter Tryz.func212, Tryz.ntmps212
 go_wp2
 refine bodyPost_ret (v := .tuple #[.agg #[.int .i64 p, .iface ta va, .iface tb vb], .bool true]) (res_cc Tryz.results212 _ _ w.heap.size _ 242 _ _ rfl rfl ?hB Tryz.underlying242 rfl (by kernel_rfl)) rfl ?post
 case hB => exact ⟨_, (by first | exact Blk.alloc (Blk.new _ _ _) _ | exact Blk.new _ _ _), by rfl⟩
 case post => exact ⟨rfl, (by repeat (first | with_reducible exact uh B0 | with_reducible refine Below.drew ?_ | (with_reducible refine Below.setCell ?_ ?_ _; rotate_left; exact (by first | omega | (simp; omega) | simp | (simp; done))) | (with_reducible refine Below.alloc ?_ ?_ _; rotate_left; exact (by first | omega | (simp; omega) | simp | (simp; done)))))⟩
set_option maxHeartbeats 1000000 in
set_option maxRecDepth 100000 in
theorem sides_List (x : Value) (w : World) :
  Calls Tryz.prog 212 #[.iface 236 x] w fun e w' => e = .returned (.tuple #[.agg sd0, .bool false]) ∧ Below w.heap.size w w' := by
 have B0 := hide (Below.refl w.heap.size w)
 have f0 := ta_List_Either
 have f1 := ta_List_Both
 have f2 := ta_List_Less
 go_enter Tryz.func212, Tryz.ntmps212
 go_wp2
 refine bodyPost_ret (v := .tuple #[.agg sd0, .bool false]) (res_cc Tryz.results212 _ _ w.heap.size _ 242 _ _ rfl rfl ?hB Tryz.underlying242 rfl (by kernel_rfl)) rfl ?post
 case hB => exact ⟨_, (by first | exact Blk.alloc (Blk.new _ _ _) _ | exact Blk.new _ _ _), by rfl⟩
 case post => exact ⟨rfl, (by repeat (first | with_reducible exact uh B0 | with_reducible refine Below.drew ?_ | (with_reducible refine Below.setCell ?_ ?_ _; rotate_left; exact (by first | omega | (simp; omega) | simp | (simp; done))) | (with_reducible refine Below.alloc ?_ ?_ _; rotate_left; exact (by first | omega | (simp; omega) | simp | (simp; done)))))⟩
set_option maxHeartbeats 1000000 in
set_option maxRecDepth 100000 in
theorem sides_Own (x : Value) (w : World) :
  Calls Tryz.prog 212 #[.iface 238 x] w fun e w' => e = .returned (.tuple #[.agg sd0, .bool false]) ∧ Below w.heap.size w w' := by
 have B0 := hide (Below.refl w.heap.size w)
 have f0 := ta_Own_Either
 have f1 := ta_Own_Both
 have f2 := ta_Own_Less
 go_enter Tryz.func212, Tryz.ntmps212
 go_wp2
 refine bodyPost_ret (v := .tuple #[.agg sd0, .bool false]) (res_cc Tryz.results212 _ _ w.heap.size _ 242 _ _ rfl rfl ?hB Tryz.underlying242 rfl (by kernel_rfl)) rfl ?post
 case hB => exact ⟨_, (by first | exact Blk.alloc (Blk.new _ _ _) _ | exact Blk.new _ _ _), by rfl⟩
 case post => exact ⟨rfl, (by repeat (first | with_reducible exact uh B0 | with_reducible refine Below.drew ?_ | (with_reducible refine Below.setCell ?_ ?_ _; rotate_left; exact (by first | omega | (simp; omega) | simp | (simp; done))) | (with_reducible refine Below.alloc ?_ ?_ _; rotate_left; exact (by first | omega | (simp; omega) | simp | (simp; done)))))⟩
set_option maxHeartbeats 1000000 in
set_option maxRecDepth 100000 in
theorem sides_Tie (x : Value) (w : World) :
  Calls Tryz.prog 212 #[.iface 240 x] w fun e w' => e = .returned (.tuple #[.agg sd0, .bool false]) ∧ Below w.heap.size w w' := by
 have B0 := hide (Below.refl w.heap.size w)
 have f0 := ta_Tie_Either
 have f1 := ta_Tie_Both
 have f2 := ta_Tie_Less
 go_enter Tryz.func212, Tryz.ntmps212
 go_wp2
 refine bodyPost_ret (v := .tuple #[.agg sd0, .bool false]) (res_cc Tryz.results212 _ _ w.heap.size _ 242 _ _ rfl rfl ?hB Tryz.underlying242 rfl (by kernel_rfl)) rfl ?post
 case hB => exact ⟨_, (by first | exact Blk.alloc (Blk.new _ _ _) _ | exact Blk.new _ _ _), by rfl⟩
 case post => exact ⟨rfl, (by repeat (first | with_reducible exact uh B0 | with_reducible refine Below.drew ?_ | (with_reducible refine Below.setCell ?_ ?_ _; rotate_left; exact (by first | omega | (simp; omega) | simp | (simp; done))) | (with_reducible refine Below.alloc ?_ ?_ _; rotate_left; exact (by first | omega | (simp; omega) | simp | (simp; done)))))⟩
/-- An expression and all parts within it, in the order of the text. -/
def partsE : Ex → List Ex
 | ⟨n, some x, some y⟩ => partsE x ++ [⟨n, some x, some y⟩] ++ partsE y
 | ⟨n, none, r⟩ => [⟨n, none, r⟩]
 | ⟨_, some _, none⟩ => []
theorem partsE_pos {b : Nat} {w : World} : ∀ (e : Ex) (v : Value), RepEx b w e v → 0 < (partsE e).length
 | ⟨n, some x, some y⟩, v, h => by simp [partsE]; omega
 | ⟨n, none, r⟩, v, h => by simp [partsE]
 | ⟨_, some _, none⟩, v, h => h.elim
def RepPs (base b : Nat) (w : World) (sv : Value) (es : List Ex) : Prop :=
 ∃ l : List (Ex × Value), l.map Prod.fst = es ∧ (∀ p ∈ l, RepEx b w p.1 p.2) ∧ w.ownsRow base 157 1 sv es.length (l.map Prod.snd)
theorem Tryz.info157 : (Tryz.prog.info? 157).map (fun i => (i.zero, i.size, i.bytes)) = some (some .nilIface, 1, 16) := by kernel_rfl
/-- The contract of 'parts' at an expression. -/
def PartsC (e : Ex) : Prop := ∀ (b : Nat) (v : Value) (w : World), b < w.heap.size → RepEx b w e v → (partsE e).length ≤ 1000 →
 Calls Tryz.prog 156 #[v] w fun e' w' => ∃ sv, e' = .returned sv ∧ Below w.heap.size w w' ∧ RepPs w.heap.size b w' sv (partsE e)
theorem cell_new1' (W : World) (x : Value) (T n : Nat) (hn : n = W.heap.size) : ∀ j u, [x][j]? = some u → (W.alloc (.cells #[x] T)).cell? ((⟨n, 0, none⟩ : Addr).add j) = some u :=
 World.news_of_block (cs := #[x]) (fr := (0, 0)) (Blk.new' W #[x] T n hn)
theorem own_news {w : World} {base : Nat} {e : TypeId} {v : Value} {n : Nat} {xs : List Value} (h : w.ownsRow base e 1 v n xs) (hn : 0 < n) :
  ∃ g c, v = .slice (some ⟨g, 0, none⟩) n c ∧ xs.length = n * 1 ∧ ∀ j u, xs[j]? = some u → w.cell? ((⟨g, 0, none⟩ : Addr).add j) = some u := by
 obtain ⟨g, c, hv, _⟩ := h.form hn
 refine ⟨g, c, hv, h.1, fun j u hu => ?_⟩
 obtain ⟨g', c', hv', hc⟩ := own_cell h j u hu
 rw [hv] at hv'
 simp only [Value.slice.injEq, Option.some.injEq, Addr.mk.injEq] at hv'
 obtain ⟨⟨rfl, _⟩, _⟩ := hv'
 have hadd : (⟨g, 0, none⟩ : Addr).add j = ⟨g, j, none⟩ := by unfold Addr.add; split <;> simp_all
 rw [hadd]; exact hc
theorem RepPs.frame {base b : Nat} {w w' : World} {sv : Value} {es : List Ex} (h : RepPs base b w sv es) (k : Below w.heap.size w w') : RepPs base b w' sv es := by
 obtain ⟨l, h1, h2, h3⟩ := h
 exact ⟨l, h1, fun p hp => (h2 p hp).but (But.of_below k), ownsRow_frame h3 fun g cs f _ hh => k.block g (lt_of_some hh)⟩
set_option maxHeartbeats 1000000 in
set_option maxRecDepth 100000 in
theorem parts_List (x : Value) (w : World) :
  Calls Tryz.prog 156 #[.iface 236 x] w fun e' w' => ∃ sv, e' = .returned sv ∧ Below w.heap.size w w' ∧ w'.ownsRow w.heap.size 157 1 sv 1 [.iface 236 x] := by
 go_enter Tryz.func156, Tryz.ntmps156
 go_wp2_with fail
 refine (sides_List x w).mono ?_
 rintro e w1 ⟨rfl, hb⟩
 have B1 := hide hb
 have sz := hb.size
 clear hb
 unfold sd0
 go_wp2
 go_ret
 refine ⟨_, rfl, (by repeat (first | with_reducible exact uh B1 | with_reducible refine Below.drew ?_ | (with_reducible refine Below.setCell ?_ ?_ _; rotate_left; exact (by first | omega | (simp; omega) | simp | (simp; done))) | (with_reducible refine Below.alloc ?_ ?_ _; rotate_left; exact (by first | omega | (simp; omega) | simp | (simp; done))))), rfl, .inr ⟨w1.heap.size + 1, 1, #[.iface 236 x], rfl, by omega, ?_, by omega, by unfold maxLen; omega, rfl, rfl⟩⟩
 exact Blk.new' (w1.alloc _) _ _ _ (by simp)
set_option maxHeartbeats 1000000 in
set_option maxRecDepth 100000 in
theorem parts_Own (x : Value) (w : World) :
  Calls Tryz.prog 156 #[.iface 238 x] w fun e' w' => ∃ sv, e' = .returned sv ∧ Below w.heap.size w w' ∧ w'.ownsRow w.heap.size 157 1 sv 1 [.iface 238 x] := by
 go_enter Tryz.func156, Tryz.ntmps156
 go_wp2_with fail
 refine (sides_Own x w).mono ?_
 rintro e w1 ⟨rfl, hb⟩
 have B1 := hide hb
 have sz := hb.size
 clear hb
 unfold sd0
 go_wp2
 go_ret
 refine ⟨_, rfl, (by repeat (first | with_reducible exact uh B1 | with_reducible refine Below.drew ?_ | (with_reducible refine Below.setCell ?_ ?_ _; rotate_left; exact (by first | omega | (simp; omega) | simp | (simp; done))) | (with_reducible refine Below.alloc ?_ ?_ _; rotate_left; exact (by first | omega | (simp; omega) | simp | (simp; done))))), rfl, .inr ⟨w1.heap.size + 1, 1, #[.iface 238 x], rfl, by omega, ?_, by omega, by unfold maxLen; omega, rfl, rfl⟩⟩
 exact Blk.new' (w1.alloc _) _ _ _ (by simp)
set_option maxHeartbeats 1000000 in
set_option maxRecDepth 100000 in
theorem parts_Tie (x : Value) (w : World) :
  Calls Tryz.prog 156 #[.iface 240 x] w fun e' w' => ∃ sv, e' = .returned sv ∧ Below w.heap.size w w' ∧ w'.ownsRow w.heap.size 157 1 sv 1 [.iface 240 x] := by
 go_enter Tryz.func156, Tryz.ntmps156
 go_wp2_with fail
 refine (sides_Tie x w).mono ?_
 rintro e w1 ⟨rfl, hb⟩
 have B1 := hide hb
 have sz := hb.size
 clear hb
 unfold sd0
 go_wp2
 go_ret
 refine ⟨_, rfl, (by repeat (first | with_reducible exact uh B1 | with_reducible refine Below.drew ?_ | (with_reducible refine Below.setCell ?_ ?_ _; rotate_left; exact (by first | omega | (simp; omega) | simp | (simp; done))) | (with_reducible refine Below.alloc ?_ ?_ _; rotate_left; exact (by first | omega | (simp; omega) | simp | (simp; done))))), rfl, .inr ⟨w1.heap.size + 1, 1, #[.iface 240 x], rfl, by omega, ?_, by omega, by unfold maxLen; omega, rfl, rfl⟩⟩
 exact Blk.new' (w1.alloc _) _ _ _ (by simp)
set_option maxHeartbeats 2000000 in
set_option maxRecDepth 100000 in
theorem parts_Either (p : Nat) (x y : Ex) (hx : PartsC x) (hy : PartsC y) (b : Nat) (vx vy : Value) (w : World) (hb : b < w.heap.size) (rx : RepEx b w x vx) (ry : RepEx b w y vy) (hn : (partsE x).length + 1 + (partsE y).length ≤ 1000) :
  Calls Tryz.prog 156 #[.iface 244 (.agg #[.int .i64 p, vx, vy])] w fun e' w' => ∃ sv, e' = .returned sv ∧ Below w.heap.size w w' ∧
   ∃ lx ly : List (Ex × Value), lx.map Prod.fst = partsE x ∧ ly.map Prod.fst = partsE y ∧ (∀ p ∈ lx, RepEx b w' p.1 p.2) ∧ (∀ p ∈ ly, RepEx b w' p.1 p.2) ∧
    w'.ownsRow w.heap.size 157 1 sv ((partsE x).length + 1 + (partsE y).length) (lx.map Prod.snd ++ [.iface 244 (.agg #[.int .i64 p, vx, vy])] ++ ly.map Prod.snd) := by
 obtain ⟨i0, hi, hz0, hz1, hz2⟩ := info_parts Tryz.info157
 have HI := hide hi
 have HZ0 := hide hz0
 have HZ1 := hide hz1
 have HZ2 := hide hz2
 clear hi hz0 hz1 hz2
 have py := partsE_pos _ _ ry
 obtain ⟨ta, va, rfl⟩ := rx.isI
 obtain ⟨tb, vb, rfl⟩ := ry.isI
 have Hx := hide hx
 have Hy := hide hy
 have RX := hide rx
 have RY := hide ry
 clear hx hy rx ry
 go_enter Tryz.func156, Tryz.ntmps156
 go_wp2_with fail
 refine (sides_Either p ta va tb vb w).mono ?_
 rintro e w1 ⟨rfl, hb1⟩
 have b1 : Below w.heap.size w (w1.alloc (.cells #[.int .i64 p, .iface ta va, .iface tb vb] 242)) := hb1.alloc hb1.size _
 have B1 := hide b1
 have S1 := hide (Blk.new w1 #[.int .i64 p, .iface ta va, .iface tb vb] 242)
 have X1 := hide ((uh RX).but (But.of_below b1))
 have Y1 := hide ((uh RY).but (But.of_below b1))
 have sz1 := hb1.size
 clear hb1 b1
 go_wp2_with fail
 refine (uh Hx b _ _ (by simp; omega) (uh X1) (by omega)).mono ?_
 rintro e w2 ⟨sv2, rfl, hb2, lx, lx1, lx2, lx3⟩
 have B2 := hide ((uh B1).trans (hb2.mono (uh B1).size))
 have S2 := (uh S1).below hb2
 have HS2 := hide S2
 obtain ⟨s0, s1, s2⟩ := S2.three
 have sl := S2.lt
 have Y2 := hide ((uh Y1).but (But.of_below hb2))
 have LX1 := hide lx1
 have LX2 := hide lx2
 have O2 := hide (ownsRow_base lx3 (show w.heap.size ≤ _ by simp; omega))
 have sz2 := (uh B2).size
 clear hb2 S2 lx1 lx2 lx3
 go_wp2_with (at_builtin; go_must (refine wpList_append_lies _ rfl _ _ 301 rfl w.heap.size 157 i0 _ 1 16 Tryz.underlying301 (uh HI) (uh HZ0) (uh HZ1) (uh HZ2) rfl (by decide) sv2 (partsE x).length (lx.map Prod.snd) rfl ?hown ⟨w2.heap.size, 0, none⟩ 1 1 [.iface 244 (.agg #[.int .i64 p, .iface ta va, .iface tb vb])] rfl rfl ?hnews ?hone (by decide) ?h63 ?hbytes ?hbase (w2.heap.size + 1) ?hH ?hrest))
 case hown => exact (uh O2).alloc _
 case hnews => exact cell_new1' w2 _ _ _ rfl
 case hone => intro u hu; simp at hu; subst hu; rfl
 case h63 => unfold maxLen; omega
 case hbytes => omega
 case hbase => simp; omega
 case hH => simp
 case hrest =>
  intro g3 cap3 w3 hown3 hgrow3 hat3 hgl3
  have O2' := (uh O2).alloc (.cells #[.iface 244 (.agg #[.int .i64 p, .iface ta va, .iface tb vb])] 157)
  have b2 : Below w2.heap.size w2 (w2.alloc (.cells #[.iface 244 (.agg #[.int .i64 p, .iface ta va, .iface tb vb])] 157)) := (Below.refl _ _).alloc (Nat.le_refl _) _
  have gk3 : GKept b w2 w3 := fun g cs f hg hh => (hgrow3.block g (Nat.lt_of_lt_of_le (lt_of_some hh) b2.size) (own_nf O2' ((b2.block g (lt_of_some hh)).trans hh) (by decide))).trans (b2.block g (lt_of_some hh))
  have B3 := hide (Below.grown ((uh B2).trans (b2.mono sz2)) hgrow3 (by simp; omega) (fun k hk => (O2'.lt k hk).1))
  have S2' := (uh HS2).below b2
  have S3 := (hgrow3.block _ S2'.lt (own_ne O2' S2' (by decide))).trans S2'
  have HS3 := hide (show Blk w3 w1.heap.size #[.int .i64 p, .iface ta va, .iface tb vb] 242 from S3)
  obtain ⟨t0, t1, t2⟩ := (uh HS3).three
  have tl := (uh HS3).lt
  have Y3 := hide (RepEx.frame gk3 _ _ (uh Y2))
  have LX3 := hide (show ∀ p ∈ lx, RepEx b w3 p.1 p.2 from fun p hp => RepEx.frame gk3 _ _ (uh LX2 p hp))
  have O3 := hide hown3
  have sz3 := (uh B3).size
  clear O2' b2 gk3 S2' S3 hown3 hgrow3 hat3 s0 s1 s2
  go_wp2_with fail
  refine (uh Hy b _ _ (by omega) (uh Y3) (by omega)).mono ?_
  rintro e w4 ⟨sv4, rfl, hb4, ly, ly1, ly2, ly3⟩
  obtain ⟨g4, c4, rfl, nl4, nw4⟩ := own_news ly3 py
  have B4 := hide ((uh B3).trans (hb4.mono (uh B3).size))
  have LY1 := hide ly1
  have LY2 := hide ly2
  have LX4 := hide (show ∀ p ∈ lx, RepEx b w4 p.1 p.2 from fun p hp => (uh LX3 p hp).but (But.of_below hb4))
  have O4 := hide (ownsRow_frame (w' := w4) (uh O3) (fun g cs f _ hh => hb4.block g (lt_of_some hh)))
  have NL4 := hide nl4
  have NW4 := hide nw4
  have sz4 := (uh B4).size
  clear hb4 ly1 ly2 ly3 nl4 nw4
  go_wp2_with (at_builtin; go_must (refine wpList_append_lies _ rfl _ _ 301 rfl w.heap.size 157 i0 _ 1 16 Tryz.underlying301 (uh HI) (uh HZ0) (uh HZ1) (uh HZ2) rfl (by decide) _ _ _ rfl (uh O4) ⟨g4, 0, none⟩ (partsE y).length c4 (ly.map Prod.snd) rfl (uh NL4) (uh NW4) ?hone py ?h63 ?hbytes ?hbase w4.heap.size rfl ?hrest))
  case hone =>
   intro u hu
   rw [List.mem_map] at hu
   obtain ⟨q, hq, rfl⟩ := hu
   obtain ⟨t, z, e⟩ := (uh LY2 q hq).isI
   rw [e]; rfl
  case h63 => unfold maxLen; omega
  case hbytes => omega
  case hbase => omega
  case hrest =>
   intro g5 cap5 w5 hown5 hgrow5 hat5 hgl5
   have gk5 : GKept b w4 w5 := fun g cs f hg hh => hgrow5.block g (lt_of_some hh) (own_nf (uh O4) hh (by decide))
   have B5 := hide (Below.grown (uh B4) hgrow5 sz4 (fun k hk => ((uh O4).lt k hk).1))
   have LX5 := hide (show ∀ p ∈ lx, RepEx b w5 p.1 p.2 from fun p hp => RepEx.frame gk5 _ _ (uh LX4 p hp))
   have LY5 := hide (show ∀ p ∈ ly, RepEx b w5 p.1 p.2 from fun p hp => RepEx.frame gk5 _ _ (uh LY2 p hp))
   have O5 := hide hown5
   clear gk5 hown5 hgrow5 hat5
   go_wp2
   go_ret
   exact ⟨.slice (some ⟨g5, 0, none⟩) ((partsE x).length + 1 + (partsE y).length) cap5, rfl, uh B5, lx, ly, uh LX1, uh LY1, uh LX5, uh LY5, by rw [List.append_assoc]; exact uh O5⟩
set_option maxHeartbeats 2000000 in
set_option maxRecDepth 100000 in
theorem parts_Both (p : Nat) (x y : Ex) (hx : PartsC x) (hy : PartsC y) (b : Nat) (vx vy : Value) (w : World) (hb : b < w.heap.size) (rx : RepEx b w x vx) (ry : RepEx b w y vy) (hn : (partsE x).length + 1 + (partsE y).length ≤ 1000) :
  Calls Tryz.prog 156 #[.iface 245 (.agg #[.int .i64 p, vx, vy])] w fun e' w' => ∃ sv, e' = .returned sv ∧ Below w.heap.size w w' ∧
   ∃ lx ly : List (Ex × Value), lx.map Prod.fst = partsE x ∧ ly.map Prod.fst = partsE y ∧ (∀ p ∈ lx, RepEx b w' p.1 p.2) ∧ (∀ p ∈ ly, RepEx b w' p.1 p.2) ∧
    w'.ownsRow w.heap.size 157 1 sv ((partsE x).length + 1 + (partsE y).length) (lx.map Prod.snd ++ [.iface 245 (.agg #[.int .i64 p, vx, vy])] ++ ly.map Prod.snd) := by
 obtain ⟨i0, hi, hz0, hz1, hz2⟩ := info_parts Tryz.info157
 have HI := hide hi
 have HZ0 := hide hz0
 have HZ1 := hide hz1
 have HZ2 := hide hz2
 clear hi hz0 hz1 hz2
 have py := partsE_pos _ _ ry
 obtain ⟨ta, va, rfl⟩ := rx.isI
 obtain ⟨tb, vb, rfl⟩ := ry.isI
 have Hx := hide hx
 have Hy := hide hy
 have RX := hide rx
 have RY := hide ry
 clear hx hy rx ry
 go_enter Tryz.func156, Tryz.ntmps156
 go_wp2_with fail
 refine (sides_Both p ta va tb vb w).mono ?_
 rintro e w1 ⟨rfl, hb1⟩
 have b1 : Below w.heap.size w (w1.alloc (.cells #[.int .i64 p, .iface ta va, .iface tb vb] 242)) := hb1.alloc hb1.size _
 have B1 := hide b1
 have S1 := hide (Blk.new w1 #[.int .i64 p, .iface ta va, .iface tb vb] 242)
 have X1 := hide ((uh RX).but (But.of_below b1))
 have Y1 := hide ((uh RY).but (But.of_below b1))
 have sz1 := hb1.size
 clear hb1 b1
 go_wp2_with fail
 refine (uh Hx b _ _ (by simp; omega) (uh X1) (by omega)).mono ?_
 rintro e w2 ⟨sv2, rfl, hb2, lx, lx1, lx2, lx3⟩
 have B2 := hide ((uh B1).trans (hb2.mono (uh B1).size))
 have S2 := (uh S1).below hb2
 have HS2 := hide S2
 obtain ⟨s0, s1, s2⟩ := S2.three
 have sl := S2.lt
 have Y2 := hide ((uh Y1).but (But.of_below hb2))
 have LX1 := hide lx1
 have LX2 := hide lx2
 have O2 := hide (ownsRow_base lx3 (show w.heap.size ≤ _ by simp; omega))
 have sz2 := (uh B2).size
 clear hb2 S2 lx1 lx2 lx3
 go_wp2_with (at_builtin; go_must (refine wpList_append_lies _ rfl _ _ 301 rfl w.heap.size 157 i0 _ 1 16 Tryz.underlying301 (uh HI) (uh HZ0) (uh HZ1) (uh HZ2) rfl (by decide) sv2 (partsE x).length (lx.map Prod.snd) rfl ?hown ⟨w2.heap.size, 0, none⟩ 1 1 [.iface 245 (.agg #[.int .i64 p, .iface ta va, .iface tb vb])] rfl rfl ?hnews ?hone (by decide) ?h63 ?hbytes ?hbase (w2.heap.size + 1) ?hH ?hrest))
 case hown => exact (uh O2).alloc _
 case hnews => exact cell_new1' w2 _ _ _ rfl
 case hone => intro u hu; simp at hu; subst hu; rfl
 case h63 => unfold maxLen; omega
 case hbytes => omega
 case hbase => simp; omega
 case hH => simp
 case hrest =>
  intro g3 cap3 w3 hown3 hgrow3 hat3 hgl3
  have O2' := (uh O2).alloc (.cells #[.iface 245 (.agg #[.int .i64 p, .iface ta va, .iface tb vb])] 157)
  have b2 : Below w2.heap.size w2 (w2.alloc (.cells #[.iface 245 (.agg #[.int .i64 p, .iface ta va, .iface tb vb])] 157)) := (Below.refl _ _).alloc (Nat.le_refl _) _
  have gk3 : GKept b w2 w3 := fun g cs f hg hh => (hgrow3.block g (Nat.lt_of_lt_of_le (lt_of_some hh) b2.size) (own_nf O2' ((b2.block g (lt_of_some hh)).trans hh) (by decide))).trans (b2.block g (lt_of_some hh))
  have B3 := hide (Below.grown ((uh B2).trans (b2.mono sz2)) hgrow3 (by simp; omega) (fun k hk => (O2'.lt k hk).1))
  have S2' := (uh HS2).below b2
  have S3 := (hgrow3.block _ S2'.lt (own_ne O2' S2' (by decide))).trans S2'
  have HS3 := hide (show Blk w3 w1.heap.size #[.int .i64 p, .iface ta va, .iface tb vb] 242 from S3)
  obtain ⟨t0, t1, t2⟩ := (uh HS3).three
  have tl := (uh HS3).lt
  have Y3 := hide (RepEx.frame gk3 _ _ (uh Y2))
  have LX3 := hide (show ∀ p ∈ lx, RepEx b w3 p.1 p.2 from fun p hp => RepEx.frame gk3 _ _ (uh LX2 p hp))
  have O3 := hide hown3
  have sz3 := (uh B3).size
  clear O2' b2 gk3 S2' S3 hown3 hgrow3 hat3 s0 s1 s2
  go_wp2_with fail
  refine (uh Hy b _ _ (by omega) (uh Y3) (by omega)).mono ?_
  rintro e w4 ⟨sv4, rfl, hb4, ly, ly1, ly2, ly3⟩
  obtain ⟨g4, c4, rfl, nl4, nw4⟩ := own_news ly3 py
  have B4 := hide ((uh B3).trans (hb4.mono (uh B3).size))
  have LY1 := hide ly1
  have LY2 := hide ly2
  have LX4 := hide (show ∀ p ∈ lx, RepEx b w4 p.1 p.2 from fun p hp => (uh LX3 p hp).but (But.of_below hb4))
  have O4 := hide (ownsRow_frame (w' := w4) (uh O3) (fun g cs f _ hh => hb4.block g (lt_of_some hh)))
  have NL4 := hide nl4
  have NW4 := hide nw4
  have sz4 := (uh B4).size
  clear hb4 ly1 ly2 ly3 nl4 nw4
  go_wp2_with (at_builtin; go_must (refine wpList_append_lies _ rfl _ _ 301 rfl w.heap.size 157 i0 _ 1 16 Tryz.underlying301 (uh HI) (uh HZ0) (uh HZ1) (uh HZ2) rfl (by decide) _ _ _ rfl (uh O4) ⟨g4, 0, none⟩ (partsE y).length c4 (ly.map Prod.snd) rfl (uh NL4) (uh NW4) ?hone py ?h63 ?hbytes ?hbase w4.heap.size rfl ?hrest))
  case hone =>
   intro u hu
   rw [List.mem_map] at hu
   obtain ⟨q, hq, rfl⟩ := hu
   obtain ⟨t, z, e⟩ := (uh LY2 q hq).isI
   rw [e]; rfl
  case h63 => unfold maxLen; omega
  case hbytes => omega
  case hbase => omega
  case hrest =>
   intro g5 cap5 w5 hown5 hgrow5 hat5 hgl5
   have gk5 : GKept b w4 w5 := fun g cs f hg hh => hgrow5.block g (lt_of_some hh) (own_nf (uh O4) hh (by decide))
   have B5 := hide (Below.grown (uh B4) hgrow5 sz4 (fun k hk => ((uh O4).lt k hk).1))
   have LX5 := hide (show ∀ p ∈ lx, RepEx b w5 p.1 p.2 from fun p hp => RepEx.frame gk5 _ _ (uh LX4 p hp))
   have LY5 := hide (show ∀ p ∈ ly, RepEx b w5 p.1 p.2 from fun p hp => RepEx.frame gk5 _ _ (uh LY2 p hp))
   have O5 := hide hown5
   clear gk5 hown5 hgrow5 hat5
   go_wp2
   go_ret
   exact ⟨.slice (some ⟨g5, 0, none⟩) ((partsE x).length + 1 + (partsE y).length) cap5, rfl, uh B5, lx, ly, uh LX1, uh LY1, uh LX5, uh LY5, by rw [List.append_assoc]; exact uh O5⟩
set_option maxHeartbeats 2000000 in
set_option maxRecDepth 100000 in
theorem parts_Less (p : Nat) (x y : Ex) (hx : PartsC x) (hy : PartsC y) (b : Nat) (vx vy : Value) (w : World) (hb : b < w.heap.size) (rx : RepEx b w x vx) (ry : RepEx b w y vy) (hn : (partsE x).length + 1 + (partsE y).length ≤ 1000) :
  Calls Tryz.prog 156 #[.iface 246 (.agg #[.int .i64 p, vx, vy])] w fun e' w' => ∃ sv, e' = .returned sv ∧ Below w.heap.size w w' ∧
   ∃ lx ly : List (Ex × Value), lx.map Prod.fst = partsE x ∧ ly.map Prod.fst = partsE y ∧ (∀ p ∈ lx, RepEx b w' p.1 p.2) ∧ (∀ p ∈ ly, RepEx b w' p.1 p.2) ∧
    w'.ownsRow w.heap.size 157 1 sv ((partsE x).length + 1 + (partsE y).length) (lx.map Prod.snd ++ [.iface 246 (.agg #[.int .i64 p, vx, vy])] ++ ly.map Prod.snd) := by
 obtain ⟨i0, hi, hz0, hz1, hz2⟩ := info_parts Tryz.info157
 have HI := hide hi
 have HZ0 := hide hz0
 have HZ1 := hide hz1
 have HZ2 := hide hz2
 clear hi hz0 hz1 hz2
 have py := partsE_pos _ _ ry
 obtain ⟨ta, va, rfl⟩ := rx.isI
 obtain ⟨tb, vb, rfl⟩ := ry.isI
 have Hx := hide hx
 have Hy := hide hy
 have RX := hide rx
 have RY := hide ry
 clear hx hy rx ry
 go_enter Tryz.func156, Tryz.ntmps156
 go_wp2_with fail
 refine (sides_Less p ta va tb vb w).mono ?_
 rintro e w1 ⟨rfl, hb1⟩
 have b1 : Below w.heap.size w (w1.alloc (.cells #[.int .i64 p, .iface ta va, .iface tb vb] 242)) := hb1.alloc hb1.size _
 have B1 := hide b1
 have S1 := hide (Blk.new w1 #[.int .i64 p, .iface ta va, .iface tb vb] 242)
 have X1 := hide ((uh RX).but (But.of_below b1))
 have Y1 := hide ((uh RY).but (But.of_below b1))
 have sz1 := hb1.size
 clear hb1 b1
 go_wp2_with fail
 refine (uh Hx b _ _ (by simp; omega) (uh X1) (by omega)).mono ?_
 rintro e w2 ⟨sv2, rfl, hb2, lx, lx1, lx2, lx3⟩
 have B2 := hide ((uh B1).trans (hb2.mono (uh B1).size))
 have S2 := (uh S1).below hb2
 have HS2 := hide S2
 obtain ⟨s0, s1, s2⟩ := S2.three
 have sl := S2.lt
 have Y2 := hide ((uh Y1).but (But.of_below hb2))
 have LX1 := hide lx1
 have LX2 := hide lx2
 have O2 := hide (ownsRow_base lx3 (show w.heap.size ≤ _ by simp; omega))
 have sz2 := (uh B2).size
 clear hb2 S2 lx1 lx2 lx3
 go_wp2_with (at_builtin; go_must (refine wpList_append_lies _ rfl _ _ 301 rfl w.heap.size 157 i0 _ 1 16 Tryz.underlying301 (uh HI) (uh HZ0) (uh HZ1) (uh HZ2) rfl (by decide) sv2 (partsE x).length (lx.map Prod.snd) rfl ?hown ⟨w2.heap.size, 0, none⟩ 1 1 [.iface 246 (.agg #[.int .i64 p, .iface ta va, .iface tb vb])] rfl rfl ?hnews ?hone (by decide) ?h63 ?hbytes ?hbase (w2.heap.size + 1) ?hH ?hrest))
 case hown => exact (uh O2).alloc _
 case hnews => exact cell_new1' w2 _ _ _ rfl
 case hone => intro u hu; simp at hu; subst hu; rfl
 case h63 => unfold maxLen; omega
 case hbytes => omega
 case hbase => simp; omega
 case hH => simp
 case hrest =>
  intro g3 cap3 w3 hown3 hgrow3 hat3 hgl3
  have O2' := (uh O2).alloc (.cells #[.iface 246 (.agg #[.int .i64 p, .iface ta va, .iface tb vb])] 157)
  have b2 : Below w2.heap.size w2 (w2.alloc (.cells #[.iface 246 (.agg #[.int .i64 p, .iface ta va, .iface tb vb])] 157)) := (Below.refl _ _).alloc (Nat.le_refl _) _
  have gk3 : GKept b w2 w3 := fun g cs f hg hh => (hgrow3.block g (Nat.lt_of_lt_of_le (lt_of_some hh) b2.size) (own_nf O2' ((b2.block g (lt_of_some hh)).trans hh) (by decide))).trans (b2.block g (lt_of_some hh))
  have B3 := hide (Below.grown ((uh B2).trans (b2.mono sz2)) hgrow3 (by simp; omega) (fun k hk => (O2'.lt k hk).1))
  have S2' := (uh HS2).below b2
  have S3 := (hgrow3.block _ S2'.lt (own_ne O2' S2' (by decide))).trans S2'
  have HS3 := hide (show Blk w3 w1.heap.size #[.int .i64 p, .iface ta va, .iface tb vb] 242 from S3)
  obtain ⟨t0, t1, t2⟩ := (uh HS3).three
  have tl := (uh HS3).lt
  have Y3 := hide (RepEx.frame gk3 _ _ (uh Y2))
  have LX3 := hide (show ∀ p ∈ lx, RepEx b w3 p.1 p.2 from fun p hp => RepEx.frame gk3 _ _ (uh LX2 p hp))
  have O3 := hide hown3
  have sz3 := (uh B3).size
  clear O2' b2 gk3 S2' S3 hown3 hgrow3 hat3 s0 s1 s2
  go_wp2_with fail
  refine (uh Hy b _ _ (by omega) (uh Y3) (by omega)).mono ?_
  rintro e w4 ⟨sv4, rfl, hb4, ly, ly1, ly2, ly3⟩
  obtain ⟨g4, c4, rfl, nl4, nw4⟩ := own_news ly3 py
  have B4 := hide ((uh B3).trans (hb4.mono (uh B3).size))
  have LY1 := hide ly1
  have LY2 := hide ly2
  have LX4 := hide (show ∀ p ∈ lx, RepEx b w4 p.1 p.2 from fun p hp => (uh LX3 p hp).but (But.of_below hb4))
  have O4 := hide (ownsRow_frame (w' := w4) (uh O3) (fun g cs f _ hh => hb4.block g (lt_of_some hh)))
  have NL4 := hide nl4
  have NW4 := hide nw4
  have sz4 := (uh B4).size
  clear hb4 ly1 ly2 ly3 nl4 nw4
  go_wp2_with (at_builtin; go_must (refine wpList_append_lies _ rfl _ _ 301 rfl w.heap.size 157 i0 _ 1 16 Tryz.underlying301 (uh HI) (uh HZ0) (uh HZ1) (uh HZ2) rfl (by decide) _ _ _ rfl (uh O4) ⟨g4, 0, none⟩ (partsE y).length c4 (ly.map Prod.snd) rfl (uh NL4) (uh NW4) ?hone py ?h63 ?hbytes ?hbase w4.heap.size rfl ?hrest))
  case hone =>
   intro u hu
   rw [List.mem_map] at hu
   obtain ⟨q, hq, rfl⟩ := hu
   obtain ⟨t, z, e⟩ := (uh LY2 q hq).isI
   rw [e]; rfl
  case h63 => unfold maxLen; omega
  case hbytes => omega
  case hbase => omega
  case hrest =>
   intro g5 cap5 w5 hown5 hgrow5 hat5 hgl5
   have gk5 : GKept b w4 w5 := fun g cs f hg hh => hgrow5.block g (lt_of_some hh) (own_nf (uh O4) hh (by decide))
   have B5 := hide (Below.grown (uh B4) hgrow5 sz4 (fun k hk => ((uh O4).lt k hk).1))
   have LX5 := hide (show ∀ p ∈ lx, RepEx b w5 p.1 p.2 from fun p hp => RepEx.frame gk5 _ _ (uh LX4 p hp))
   have LY5 := hide (show ∀ p ∈ ly, RepEx b w5 p.1 p.2 from fun p hp => RepEx.frame gk5 _ _ (uh LY2 p hp))
   have O5 := hide hown5
   clear gk5 hown5 hgrow5 hat5
   go_wp2
   go_ret
   exact ⟨.slice (some ⟨g5, 0, none⟩) ((partsE x).length + 1 + (partsE y).length) cap5, rfl, uh B5, lx, ly, uh LX1, uh LY1, uh LX5, uh LY5, by rw [List.append_assoc]; exact uh O5⟩
theorem parts_any (e : Ex) : PartsC e := by
 induction e using Ex.ind with
 | h0 n r =>
  intro b v w hb h hn
  have key : ∀ {v : Value}, (Calls Tryz.prog 156 #[v] w fun e' w' => ∃ sv, e' = .returned sv ∧ Below w.heap.size w w' ∧ w'.ownsRow w.heap.size 157 1 sv 1 [v]) → RepEx b w ⟨n, none, r⟩ v → Calls Tryz.prog 156 #[v] w fun e' w' => ∃ sv, e' = .returned sv ∧ Below w.heap.size w w' ∧ RepPs w.heap.size b w' sv (partsE ⟨n, none, r⟩) := by
   intro v hc hr
   refine hc.mono ?_
   rintro e' w' ⟨sv, h1, h2, h3⟩
   exact ⟨sv, h1, h2, [(⟨n, none, r⟩, v)], rfl, fun p hp => by simp at hp; subst hp; exact hr.but (But.of_below h2), h3⟩
  have h' := h
  rcases h with ⟨h1, sv, rfl, h3⟩ | ⟨h1, rfl⟩ | ⟨h1, rfl⟩
  ·exact key (parts_List _ w) h'
  ·exact key (parts_Own _ w) h'
  ·exact key (parts_Tie _ w) h'
 | h1 n a => intro b v w hb h hn; exact h.elim
 | h2 n x y hx hy =>
  intro b v w hb h hn
  obtain ⟨vx, vy, rfl, rx, ry⟩ := h
  have hn' : (partsE x).length + 1 + (partsE y).length ≤ 1000 := by simp [partsE] at hn; omega
  have key : (Calls Tryz.prog 156 #[.iface (tyOf n.kind) (.agg #[.int .i64 n.place, vx, vy])] w fun e' w' => ∃ sv, e' = .returned sv ∧ Below w.heap.size w w' ∧
   ∃ lx ly : List (Ex × Value), lx.map Prod.fst = partsE x ∧ ly.map Prod.fst = partsE y ∧ (∀ p ∈ lx, RepEx b w' p.1 p.2) ∧ (∀ p ∈ ly, RepEx b w' p.1 p.2) ∧
    w'.ownsRow w.heap.size 157 1 sv ((partsE x).length + 1 + (partsE y).length) (lx.map Prod.snd ++ [.iface (tyOf n.kind) (.agg #[.int .i64 n.place, vx, vy])] ++ ly.map Prod.snd)) := by
   unfold tyOf
   split
   ·exact parts_Either _ x y hx hy b vx vy w hb rx ry hn'
   ·split
    ·exact parts_Both _ x y hx hy b vx vy w hb rx ry hn'
    ·exact parts_Less _ x y hx hy b vx vy w hb rx ry hn'
  refine key.mono ?_
  rintro e' w' ⟨sv, h1, h2, lx, ly, h3, h4, h5, h6, h7⟩
  refine ⟨sv, h1, h2, lx ++ [(⟨n, some x, some y⟩, .iface (tyOf n.kind) (.agg #[.int .i64 n.place, vx, vy]))] ++ ly, ?_, ?_, ?_⟩
  ·simp [partsE, h3, h4]
  ·intro p hp
   simp only [List.mem_append, List.mem_singleton] at hp
   rcases hp with (hp | rfl) | hp
   ·exact h5 p hp
   ·exact ⟨vx, vy, rfl, rx.but (But.of_below h2), ry.but (But.of_below h2)⟩
   ·exact h6 p hp
  ·have e1 : (partsE ⟨n, some x, some y⟩).length = (partsE x).length + 1 + (partsE y).length := by simp [partsE]; omega
   rw [e1]
   simpa using h7
theorem own_news' {w : World} {base : Nat} {e : TypeId} {size : Nat} {v : Value} {n : Nat} {xs : List Value} (h : w.ownsRow base e size v n xs) (hn : 0 < n) :
  ∃ g c, v = .slice (some ⟨g, 0, none⟩) n c ∧ xs.length = n * size ∧ ∀ j u, xs[j]? = some u → w.cell? ((⟨g, 0, none⟩ : Addr).add j) = some u := by
 obtain ⟨g, c, hv, _⟩ := h.form hn
 refine ⟨g, c, hv, h.1, fun j u hu => ?_⟩
 obtain ⟨g', c', hv', hc⟩ := own_cell h j u hu
 rw [hv] at hv'
 simp only [Value.slice.injEq, Option.some.injEq, Addr.mk.injEq] at hv'
 obtain ⟨⟨rfl, _⟩, _⟩ := hv'
 have hadd : (⟨g, 0, none⟩ : Addr).add j = ⟨g, j, none⟩ := by unfold Addr.add; split <;> simp_all
 rw [hadd]; exact hc
/-- The grants of a part that is a list. -/
def gsOf (e : Ex) : List Gr := match e.l with
 | none => if e.nd.kind = 0 then e.nd.gs else []
 | some _ => []
/-- Every list has a grant. -/
def WF (e : Ex) : Prop := ∀ p ∈ partsE e, p.l = none → p.nd.kind = 0 → p.nd.gs ≠ []
def allG (e : Ex) : List Gr := (partsE e).flatMap gsOf
def GK (e : Ex) (k : Nat) : List Gr := ((partsE e).take k).flatMap gsOf
theorem gk_some {e : Ex} {k : Nat} {p : Ex} {gs : List Gr} (h : gsOf p = gs) (hk : (partsE e)[k]? = some p) : GK e (k + 1) = GK e k ++ gs := by
 unfold GK
 have hlt : k < (partsE e).length := by
  rcases Nat.lt_or_ge k (partsE e).length with h | h
  ·exact h
  ·rw [List.getElem?_eq_none h] at hk; cases hk
 rw [List.take_succ_eq_append_getElem hlt, List.flatMap_append]
 rw [List.getElem?_eq_getElem hlt] at hk
 simp only [Option.some.injEq] at hk
 simp [hk, h]
theorem gk_none {e : Ex} {k : Nat} {p : Ex} (h : gsOf p = []) (hk : (partsE e)[k]? = some p) : GK e (k + 1) = GK e k := by
 rw [gk_some h hk]; simp
theorem gk_le (e : Ex) (k : Nat) : (GK e k).length ≤ (allG e).length := by
 unfold GK allG
 conv => rhs; rw [← List.take_append_drop k (partsE e), List.flatMap_append, List.length_append]
 omega
theorem gs_one (l : List Gr) : ∀ u ∈ gsCells l, u.oneCell' = true := by
 intro u hu
 unfold gsCells at hu
 rw [List.mem_flatMap] at hu
 obtain ⟨g, _, hu⟩ := hu
 exact gr_one g u hu
theorem gsCells_append (a c : List Gr) : gsCells (a ++ c) = gsCells a ++ gsCells c := by simp [gsCells]
theorem gsCells_length (a : List Gr) : (gsCells a).length = a.length * 5 := by
 induction a with
 | nil => rfl
 | cons g r ih => simp [gsCells, grCells] at *; omega
set_option maxHeartbeats 4000000 in
set_option maxRecDepth 100000 in
theorem grants_any (p0 : Nat) (n0 : ByteArray) (b : Nat) (e : Ex) (v : Value) (w : World) (hb : b < w.heap.size) (h : RepEx b w e v) (hp : (partsE e).length ≤ 1000) (hg : (allG e).length ≤ 1000) (hwf : WF e) :
  Calls Tryz.prog 106 #[.agg #[.int .i64 p0, .string n0, v]] w fun e' w' => ∃ sv, e' = .returned sv ∧ Below w.heap.size w w' ∧ w'.ownsRow w.heap.size 207 5 sv (allG e).length (gsCells (allG e)) := by
 obtain ⟨i0, hi, hz0, hz1, hz2⟩ := info_parts Tryz.info207
 have HI := hide hi
 have HZ0 := hide hz0
 have HZ1 := hide hz1
 have HZ2 := hide hz2
 clear hi hz0 hz1 hz2
 obtain ⟨tv, xv, rfl⟩ := h.isI
 have H := hide h
 have HWF := hide hwf
 clear h hwf
 go_enter Tryz.func106, Tryz.ntmps106
 go_wp2_with fail
 refine (parts_any e b _ _ (by simp; omega) ((uh H).but ((But.refl b w).alloc _)) hp).mono ?_
 rintro e1 w2 ⟨sv2, rfl, hb2, l, l1, l2, l3⟩
 obtain ⟨oa, oc, rfl⟩ := own_form l3
 have ll : l.length = (partsE e).length := by rw [← l1]; simp
 have B2 := hide (((Below.refl _ w).alloc (Nat.le_refl _) (.cells #[.int .i64 p0, .string n0, .iface tv xv] 159)).trans (hb2.mono (by simp)))
 have L1 := hide l1
 have L2 := hide l2
 have L3 := hide l3
 have sz2 := (uh B2).size
 clear hb2 l1 l2 l3
 have f0 := ta_List_List
 have f1 := ta_Own_List
 have f2 := ta_Tie_List
 have f3 := ta_Either_List
 have f4 := ta_Both_List
 have f5 := ta_Less_List
 go_wp2_with fail
 go_loopw [3, 11] (fun u3 u11 wr => ∃ (k : Nat) (sv : Value), k ≤ (partsE e).length ∧ u11 = .int .i64 k ∧ u3 = sv ∧ Below w2.heap.size w2 wr ∧ wr.ownsRow w2.heap.size 207 5 sv (GK e k).length (gsCells (GK e k))) (fun _ u _ => (partsE e).length - (intOf u).toNat)
 case atStart => exact ⟨0, _, by omega, rfl, rfl, Below.refl _ _, World.ownsRow_nil _ _ _ _⟩
 case round =>
  obtain ⟨k, sv, hk, rfl, rfl, hbr, ho⟩ := hrel
  obtain ⟨sa, sc, rfl⟩ := own_form ho
  have HB := hide hbr
  have HO := hide ho
  by_cases hlt : k < (partsE e).length
  ·have hkl : k < l.length := by omega
   obtain ⟨g1, c1, e1, kc⟩ := own_cell (ownsRow_frame (w' := wr) (uh L3) (fun g cs f _ hh => hbr.block g (lt_of_some hh))) k l[k].2 (by simp [List.getElem?_eq_getElem hkl])
   simp only [Value.slice.injEq] at e1
   obtain ⟨rfl, _, rfl⟩ := e1
   have hrep := (uh L2 l[k] (List.getElem_mem hkl)).but (b := b) (But.of_below hbr)
   have hk' : (partsE e)[k]? = some l[k].1 := by rw [← uh L1]; simp [List.getElem?_eq_getElem hkl]
   generalize l[k] = q at *
   obtain ⟨q1, qv⟩ := q
   simp only at kc hrep hk'
   have hkn : (k : Int) < ((partsE e).length : Int) := by omega
   clear hbr ho
   match q1, hrep, hk' with
   | ⟨nq, some xq, some yq⟩, ⟨vx, vy, hv, rx, ry⟩, hk' =>
    have he' : gsOf ⟨nq, some xq, some yq⟩ = [] := rfl
    subst hv
    clear rx ry
    have ht : tyOf nq.kind = 244 ∨ tyOf nq.kind = 245 ∨ tyOf nq.kind = 246 := by
     unfold tyOf
     split
     ·exact .inl rfl
     ·split
      ·exact .inr (.inl rfl)
      ·exact .inr (.inr rfl)
    rcases ht with ht | ht | ht
    all_goals
     rw [ht] at kc
     clear ht
     go_wp2
     go_roundw
     case rel => exact ⟨k + 1, .slice sa (GK e k).length sc, by omega, by go_num, rfl, uh HB, by rw [gk_none he' hk']; exact uh HO⟩
     case measure => simp [intOf]; omega
   | ⟨nq, none, rq⟩, hrep, hk' =>
    rcases hrep with ⟨hkd, gv, hv, hrow⟩ | ⟨hkd, hv⟩ | ⟨hkd, hv⟩
    ·have he' : gsOf ⟨nq, none, rq⟩ = nq.gs := by simp [gsOf, hkd]
     have hne : 0 < nq.gs.length := List.length_pos_iff.2 (uh HWF _ (List.mem_of_getElem? hk') rfl hkd)
     have hle := gk_le e (k + 1)
     rw [gk_some he' hk', List.length_append] at hle
     obtain ⟨gg, gc, rfl, nl, nw⟩ := own_news' hrow hne
     subst hv
     have NL := hide nl
     have NW := hide nw
     have ggl : gg < wr.heap.size := by
      obtain ⟨g', c', e1, h1⟩ := hrow.form hne
      simp only [Value.slice.injEq, Option.some.injEq, Addr.mk.injEq] at e1
      obtain ⟨⟨rfl, _⟩, _⟩ := e1
      exact h1.2
     have wrs := (uh HB).size
     clear nl nw hrow hkd
     go_wp2_with (at_builtin; go_must (refine wpList_append_lies _ rfl _ _ 211 rfl w2.heap.size 207 i0 _ 5 56 Tryz.underlying211 (uh HI) (uh HZ0) (uh HZ1) (uh HZ2) rfl (by decide) _ _ _ rfl ((uh HO).alloc _) ⟨gg, 0, none⟩ nq.gs.length gc (gsCells nq.gs) rfl (uh NL) ?hnews (gs_one _) hne ?h63 ?hbytes ?hbase (wr.heap.size + 1) ?hH ?hrest))
     case hnews =>
      intro j u hu
      have hadd : (⟨gg, 0, none⟩ : Addr).add j = ⟨gg, j, none⟩ := by unfold Addr.add; split <;> simp_all
      have := uh NW j u hu
      rw [hadd] at this ⊢
      rw [Below.cell ((Below.refl wr.heap.size wr).alloc (Nat.le_refl _) _) ggl]
      exact this
     case h63 => unfold maxLen; omega
     case hbytes => omega
     case hbase => simp; omega
     case hH => simp
     case hrest =>
      intro g5 cap5 w5 hown5 hgrow5 hat5 hgl5
      have O1 := (uh HO).alloc (.cells #[.int .i64 nq.place, .slice (some ⟨gg, 0, none⟩) nq.gs.length gc] 236)
      have B5 := hide (Below.grown ((uh HB).alloc wrs (.cells #[.int .i64 nq.place, .slice (some ⟨gg, 0, none⟩) nq.gs.length gc] 236)) hgrow5 (by simp; omega) (fun k hk => (O1.lt k hk).1))
      have O5 := hide hown5
      clear hown5 hgrow5 hat5 O1
      go_wp2
      go_roundw
      case rel => exact ⟨k + 1, .slice (some ⟨g5, 0, none⟩) ((GK e k).length + nq.gs.length) cap5, by omega, by go_num, rfl, uh B5, by rw [gk_some he' hk', List.length_append, gsCells_append]; exact uh O5⟩
      case measure => simp [intOf]; omega
    ·have he' : gsOf ⟨nq, none, rq⟩ = [] := by simp [gsOf, hkd]
     subst hv
     clear hkd
     go_wp2
     go_roundw
     case rel => exact ⟨k + 1, .slice sa (GK e k).length sc, by omega, by go_num, rfl, uh HB, by rw [gk_none he' hk']; exact uh HO⟩
     case measure => simp [intOf]; omega
    ·have he' : gsOf ⟨nq, none, rq⟩ = [] := by simp [gsOf, hkd]
     subst hv
     clear hkd
     go_wp2
     go_roundw
     case rel => exact ⟨k + 1, .slice sa (GK e k).length sc, by omega, by go_num, rfl, uh HB, by rw [gk_none he' hk']; exact uh HO⟩
     case measure => simp [intOf]; omega
   | ⟨nq, some xq, none⟩, hrep, hk' => exact hrep.elim
  ·have hall : GK e k = allG e := by
    unfold GK allG
    rw [List.take_of_length_le (by omega)]
   have HO2 : Hid (wr.ownsRow w.heap.size 207 5 (.slice sa (GK e k).length sc) (allG e).length (gsCells (allG e))) := by
    have := ownsRow_base (uh HO) sz2
    rw [hall] at this ⊢
    exact this
   clear hall
   have hkn : ¬ ((k : Int) < ((partsE e).length : Int)) := by omega
   clear hbr ho
   go_wp2
   go_ret
   exact ⟨.slice sa (GK e k).length sc, rfl, (uh B2).trans ((uh HB).mono sz2), uh HO2⟩
end Go.Proofs.YtlbpnlngckgcbaaGreatDoor
