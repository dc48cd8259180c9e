import Derived.Test.YtlbpnlngckgcbaaGreatDoorSides
namespace Go.Proofs.YtlbpnlngckgcbaaGreatDoor
open Go.RowKit Go.PlainAid
set_option linter.unusedSimpArgs false
set_option linter.unusedVariables false

/-- An expression and all parts within it, in the order of the text. -/
def partsE : Ex → List Ex
  | ⟨n, some x, some y⟩ => partsE x ++ [⟨n, some x, some y⟩] ++ partsE y
  | ⟨n, none, r⟩ => [⟨n, none, r⟩]
  | ⟨_, some _, none⟩ => []
theorem partsE_pos {b : Nat} {w : World} : ∀ (e : Ex) (v : Value), RepEx b w e v → 0 < (partsE e).length
  | ⟨n, some x, some y⟩, v, h => by simp [partsE]; omega
  | ⟨n, none, r⟩, v, h => by simp [partsE]
  | ⟨_, some _, none⟩, v, h => h.elim
def RepPs (base b : Nat) (w : World) (sv : Value) (es : List Ex) : Prop :=
  ∃ l : List (Ex × Value), l.map Prod.fst = es ∧ (∀ p ∈ l, RepEx b w p.1 p.2) ∧ w.ownsRow base 157 1 sv es.length (l.map Prod.snd)
theorem Tryz.info157 : (Tryz.prog.info? 157).map (fun i => (i.zero, i.size, i.bytes)) = some (some .nilIface, 1, 16) := by kernel_rfl
/-- The contract of 'parts' at an expression. -/
def PartsC (e : Ex) : Prop := ∀ (b : Nat) (v : Value) (w : World), b < w.heap.size → RepEx b w e v → (partsE e).length ≤ 1000 →
  Calls Tryz.prog 156 #[v] w fun e' w' => ∃ sv, e' = .returned sv ∧ Below w.heap.size w w' ∧ RepPs w.heap.size b w' sv (partsE e)
theorem cell_new1' (W : World) (x : Value) (T n : Nat) (hn : n = W.heap.size) : ∀ j u, [x][j]? = some u → (W.alloc (.cells #[x] T)).cell? ((⟨n, 0, none⟩ : Addr).add j) = some u :=
  World.news_of_block (cs := #[x]) (fr := (0, 0)) (Blk.new' W #[x] T n hn)
theorem own_news {w : World} {base : Nat} {e : TypeId} {v : Value} {n : Nat} {xs : List Value} (h : w.ownsRow base e 1 v n xs) (hn : 0 < n) :
    ∃ g c, v = .slice (some ⟨g, 0, none⟩) n c ∧ xs.length = n * 1 ∧ ∀ j u, xs[j]? = some u → w.cell? ((⟨g, 0, none⟩ : Addr).add j) = some u := by
  obtain ⟨g, c, hv, _⟩ := h.form hn
  refine ⟨g, c, hv, h.1, fun j u hu => ?_⟩
  obtain ⟨g', c', hv', hc⟩ := own_cell h j u hu
  rw [hv] at hv'
  simp only [Value.slice.injEq, Option.some.injEq, Addr.mk.injEq] at hv'
  obtain ⟨⟨rfl, _⟩, _⟩ := hv'
  have hadd : (⟨g, 0, none⟩ : Addr).add j = ⟨g, j, none⟩ := by unfold Addr.add; split <;> simp_all
  rw [hadd]; exact hc
theorem RepPs.frame {base b : Nat} {w w' : World} {sv : Value} {es : List Ex} (h : RepPs base b w sv es) (k : Below w.heap.size w w') : RepPs base b w' sv es := by
  obtain ⟨l, h1, h2, h3⟩ := h
  exact ⟨l, h1, fun p hp => (h2 p hp).but (But.of_below k), ownsRow_frame h3 fun g cs f _ hh => k.block g (lt_of_some hh)⟩

set_option maxHeartbeats 1000000 in
set_option maxRecDepth 100000 in
theorem parts_List (x : Value) (w : World) :
    Calls Tryz.prog 156 #[.iface 236 x] w fun e' w' => ∃ sv, e' = .returned sv ∧ Below w.heap.size w w' ∧ w'.ownsRow w.heap.size 157 1 sv 1 [.iface 236 x] := by
  go_enter Tryz.func156, Tryz.ntmps156
  go_wp2_with fail
  refine (sides_List x w).mono ?_
  rintro e w1 ⟨rfl, hb⟩
  have B1 := hide hb
  have sz := hb.size
  clear hb
  unfold sd0
  go_wp2
  go_ret
  refine ⟨_, rfl, (by repeat (first | with_reducible exact unhide B1 | with_reducible refine Below.drew ?_ | (with_reducible refine Below.setCell ?_ ?_ _; rotate_left; exact (by first | omega | (simp; omega) | simp | (simp; done))) | (with_reducible refine Below.alloc ?_ ?_ _; rotate_left; exact (by first | omega | (simp; omega) | simp | (simp; done))))), rfl, .inr ⟨w1.heap.size + 1, 1, #[.iface 236 x], rfl, by omega, ?_, by omega, by unfold maxLen; omega, rfl, rfl⟩⟩
  exact Blk.new' (w1.alloc _) _ _ _ (by simp)

set_option maxHeartbeats 1000000 in
set_option maxRecDepth 100000 in
theorem parts_Own (x : Value) (w : World) :
    Calls Tryz.prog 156 #[.iface 238 x] w fun e' w' => ∃ sv, e' = .returned sv ∧ Below w.heap.size w w' ∧ w'.ownsRow w.heap.size 157 1 sv 1 [.iface 238 x] := by
  go_enter Tryz.func156, Tryz.ntmps156
  go_wp2_with fail
  refine (sides_Own x w).mono ?_
  rintro e w1 ⟨rfl, hb⟩
  have B1 := hide hb
  have sz := hb.size
  clear hb
  unfold sd0
  go_wp2
  go_ret
  refine ⟨_, rfl, (by repeat (first | with_reducible exact unhide B1 | with_reducible refine Below.drew ?_ | (with_reducible refine Below.setCell ?_ ?_ _; rotate_left; exact (by first | omega | (simp; omega) | simp | (simp; done))) | (with_reducible refine Below.alloc ?_ ?_ _; rotate_left; exact (by first | omega | (simp; omega) | simp | (simp; done))))), rfl, .inr ⟨w1.heap.size + 1, 1, #[.iface 238 x], rfl, by omega, ?_, by omega, by unfold maxLen; omega, rfl, rfl⟩⟩
  exact Blk.new' (w1.alloc _) _ _ _ (by simp)

set_option maxHeartbeats 1000000 in
set_option maxRecDepth 100000 in
theorem parts_Tie (x : Value) (w : World) :
    Calls Tryz.prog 156 #[.iface 240 x] w fun e' w' => ∃ sv, e' = .returned sv ∧ Below w.heap.size w w' ∧ w'.ownsRow w.heap.size 157 1 sv 1 [.iface 240 x] := by
  go_enter Tryz.func156, Tryz.ntmps156
  go_wp2_with fail
  refine (sides_Tie x w).mono ?_
  rintro e w1 ⟨rfl, hb⟩
  have B1 := hide hb
  have sz := hb.size
  clear hb
  unfold sd0
  go_wp2
  go_ret
  refine ⟨_, rfl, (by repeat (first | with_reducible exact unhide B1 | with_reducible refine Below.drew ?_ | (with_reducible refine Below.setCell ?_ ?_ _; rotate_left; exact (by first | omega | (simp; omega) | simp | (simp; done))) | (with_reducible refine Below.alloc ?_ ?_ _; rotate_left; exact (by first | omega | (simp; omega) | simp | (simp; done))))), rfl, .inr ⟨w1.heap.size + 1, 1, #[.iface 240 x], rfl, by omega, ?_, by omega, by unfold maxLen; omega, rfl, rfl⟩⟩
  exact Blk.new' (w1.alloc _) _ _ _ (by simp)

set_option maxHeartbeats 2000000 in
set_option maxRecDepth 100000 in
theorem parts_Either (p : Nat) (x y : Ex) (hx : PartsC x) (hy : PartsC y) (b : Nat) (vx vy : Value) (w : World) (hb : b < w.heap.size) (rx : RepEx b w x vx) (ry : RepEx b w y vy) (hn : (partsE x).length + 1 + (partsE y).length ≤ 1000) :
    Calls Tryz.prog 156 #[.iface 244 (.agg #[.int .i64 p, vx, vy])] w fun e' w' => ∃ sv, e' = .returned sv ∧ Below w.heap.size w w' ∧
      ∃ lx ly : List (Ex × Value), lx.map Prod.fst = partsE x ∧ ly.map Prod.fst = partsE y ∧ (∀ p ∈ lx, RepEx b w' p.1 p.2) ∧ (∀ p ∈ ly, RepEx b w' p.1 p.2) ∧
        w'.ownsRow w.heap.size 157 1 sv ((partsE x).length + 1 + (partsE y).length) (lx.map Prod.snd ++ [.iface 244 (.agg #[.int .i64 p, vx, vy])] ++ ly.map Prod.snd) := by
  obtain ⟨i0, hi, hz0, hz1, hz2⟩ := info_parts Tryz.info157
  have HI := hide hi
  have HZ0 := hide hz0
  have HZ1 := hide hz1
  have HZ2 := hide hz2
  clear hi hz0 hz1 hz2
  have py := partsE_pos _ _ ry
  obtain ⟨ta, va, rfl⟩ := rx.isI
  obtain ⟨tb, vb, rfl⟩ := ry.isI
  have Hx := hide hx
  have Hy := hide hy
  have RX := hide rx
  have RY := hide ry
  clear hx hy rx ry
  go_enter Tryz.func156, Tryz.ntmps156
  go_wp2_with fail
  refine (sides_Either p ta va tb vb w).mono ?_
  rintro e w1 ⟨rfl, hb1⟩
  have b1 : Below w.heap.size w (w1.alloc (.cells #[.int .i64 p, .iface ta va, .iface tb vb] 242)) := hb1.alloc hb1.size _
  have B1 := hide b1
  have S1 := hide (Blk.new w1 #[.int .i64 p, .iface ta va, .iface tb vb] 242)
  have X1 := hide ((unhide RX).but (But.of_below b1))
  have Y1 := hide ((unhide RY).but (But.of_below b1))
  have sz1 := hb1.size
  clear hb1 b1
  go_wp2_with fail
  refine (unhide Hx b _ _ (by simp; omega) (unhide X1) (by omega)).mono ?_
  rintro e w2 ⟨sv2, rfl, hb2, lx, lx1, lx2, lx3⟩
  have B2 := hide ((unhide B1).trans (hb2.mono (unhide B1).size))
  have S2 := (unhide S1).below hb2
  have HS2 := hide S2
  obtain ⟨s0, s1, s2⟩ := S2.three
  have sl := S2.lt
  have Y2 := hide ((unhide Y1).but (But.of_below hb2))
  have LX1 := hide lx1
  have LX2 := hide lx2
  have O2 := hide (ownsRow_base lx3 (show w.heap.size ≤ _ by simp; omega))
  have sz2 := (unhide B2).size
  clear hb2 S2 lx1 lx2 lx3
  go_wp2_with (at_builtin; go_must (refine wpList_append_lies _ rfl _ _ 301 rfl w.heap.size 157 i0 _ 1 16 Tryz.underlying301 (unhide HI) (unhide HZ0) (unhide HZ1) (unhide HZ2) rfl (by decide) sv2 (partsE x).length (lx.map Prod.snd) rfl ?hown ⟨w2.heap.size, 0, none⟩ 1 1 [.iface 244 (.agg #[.int .i64 p, .iface ta va, .iface tb vb])] rfl rfl ?hnews ?hone (by decide) ?h63 ?hbytes ?hbase (w2.heap.size + 1) ?hH ?hrest))
  case hown => exact (unhide O2).alloc _
  case hnews => exact cell_new1' w2 _ _ _ rfl
  case hone => intro u hu; simp at hu; subst hu; rfl
  case h63 => unfold maxLen; omega
  case hbytes => omega
  case hbase => simp; omega
  case hH => simp
  case hrest =>
    intro g3 cap3 w3 hown3 hgrow3 hat3 hgl3
    have O2' := (unhide O2).alloc (.cells #[.iface 244 (.agg #[.int .i64 p, .iface ta va, .iface tb vb])] 157)
    have b2 : Below w2.heap.size w2 (w2.alloc (.cells #[.iface 244 (.agg #[.int .i64 p, .iface ta va, .iface tb vb])] 157)) := (Below.refl _ _).alloc (Nat.le_refl _) _
    have gk3 : GKept b w2 w3 := fun g cs f hg hh => (hgrow3.block g (Nat.lt_of_lt_of_le (lt_of_some hh) b2.size) (own_nf O2' ((b2.block g (lt_of_some hh)).trans hh) (by decide))).trans (b2.block g (lt_of_some hh))
    have B3 := hide (Below.grown ((unhide B2).trans (b2.mono sz2)) hgrow3 (by simp; omega) (fun k hk => (O2'.lt k hk).1))
    have S2' := (unhide HS2).below b2
    have S3 := (hgrow3.block _ S2'.lt (own_ne O2' S2' (by decide))).trans S2'
    have HS3 := hide (show Blk w3 w1.heap.size #[.int .i64 p, .iface ta va, .iface tb vb] 242 from S3)
    obtain ⟨t0, t1, t2⟩ := (unhide HS3).three
    have tl := (unhide HS3).lt
    have Y3 := hide (RepEx.frame gk3 _ _ (unhide Y2))
    have LX3 := hide (show ∀ p ∈ lx, RepEx b w3 p.1 p.2 from fun p hp => RepEx.frame gk3 _ _ (unhide LX2 p hp))
    have O3 := hide hown3
    have sz3 := (unhide B3).size
    clear O2' b2 gk3 S2' S3 hown3 hgrow3 hat3 s0 s1 s2
    go_wp2_with fail
    refine (unhide Hy b _ _ (by omega) (unhide Y3) (by omega)).mono ?_
    rintro e w4 ⟨sv4, rfl, hb4, ly, ly1, ly2, ly3⟩
    obtain ⟨g4, c4, rfl, nl4, nw4⟩ := own_news ly3 py
    have B4 := hide ((unhide B3).trans (hb4.mono (unhide B3).size))
    have LY1 := hide ly1
    have LY2 := hide ly2
    have LX4 := hide (show ∀ p ∈ lx, RepEx b w4 p.1 p.2 from fun p hp => (unhide LX3 p hp).but (But.of_below hb4))
    have O4 := hide (ownsRow_frame (w' := w4) (unhide O3) (fun g cs f _ hh => hb4.block g (lt_of_some hh)))
    have NL4 := hide nl4
    have NW4 := hide nw4
    have sz4 := (unhide B4).size
    clear hb4 ly1 ly2 ly3 nl4 nw4
    go_wp2_with (at_builtin; go_must (refine wpList_append_lies _ rfl _ _ 301 rfl w.heap.size 157 i0 _ 1 16 Tryz.underlying301 (unhide HI) (unhide HZ0) (unhide HZ1) (unhide HZ2) rfl (by decide) _ _ _ rfl (unhide O4) ⟨g4, 0, none⟩ (partsE y).length c4 (ly.map Prod.snd) rfl (unhide NL4) (unhide NW4) ?hone py ?h63 ?hbytes ?hbase w4.heap.size rfl ?hrest))
    case hone =>
      intro u hu
      rw [List.mem_map] at hu
      obtain ⟨q, hq, rfl⟩ := hu
      obtain ⟨t, z, e⟩ := (unhide LY2 q hq).isI
      rw [e]; rfl
    case h63 => unfold maxLen; omega
    case hbytes => omega
    case hbase => omega
    case hrest =>
      intro g5 cap5 w5 hown5 hgrow5 hat5 hgl5
      have gk5 : GKept b w4 w5 := fun g cs f hg hh => hgrow5.block g (lt_of_some hh) (own_nf (unhide O4) hh (by decide))
      have B5 := hide (Below.grown (unhide B4) hgrow5 sz4 (fun k hk => ((unhide O4).lt k hk).1))
      have LX5 := hide (show ∀ p ∈ lx, RepEx b w5 p.1 p.2 from fun p hp => RepEx.frame gk5 _ _ (unhide LX4 p hp))
      have LY5 := hide (show ∀ p ∈ ly, RepEx b w5 p.1 p.2 from fun p hp => RepEx.frame gk5 _ _ (unhide LY2 p hp))
      have O5 := hide hown5
      clear gk5 hown5 hgrow5 hat5
      go_wp2
      go_ret
      exact ⟨.slice (some ⟨g5, 0, none⟩) ((partsE x).length + 1 + (partsE y).length) cap5, rfl, unhide B5, lx, ly, unhide LX1, unhide LY1, unhide LX5, unhide LY5, by rw [List.append_assoc]; exact unhide O5⟩

set_option maxHeartbeats 2000000 in
set_option maxRecDepth 100000 in
theorem parts_Both (p : Nat) (x y : Ex) (hx : PartsC x) (hy : PartsC y) (b : Nat) (vx vy : Value) (w : World) (hb : b < w.heap.size) (rx : RepEx b w x vx) (ry : RepEx b w y vy) (hn : (partsE x).length + 1 + (partsE y).length ≤ 1000) :
    Calls Tryz.prog 156 #[.iface 245 (.agg #[.int .i64 p, vx, vy])] w fun e' w' => ∃ sv, e' = .returned sv ∧ Below w.heap.size w w' ∧
      ∃ lx ly : List (Ex × Value), lx.map Prod.fst = partsE x ∧ ly.map Prod.fst = partsE y ∧ (∀ p ∈ lx, RepEx b w' p.1 p.2) ∧ (∀ p ∈ ly, RepEx b w' p.1 p.2) ∧
        w'.ownsRow w.heap.size 157 1 sv ((partsE x).length + 1 + (partsE y).length) (lx.map Prod.snd ++ [.iface 245 (.agg #[.int .i64 p, vx, vy])] ++ ly.map Prod.snd) := by
  obtain ⟨i0, hi, hz0, hz1, hz2⟩ := info_parts Tryz.info157
  have HI := hide hi
  have HZ0 := hide hz0
  have HZ1 := hide hz1
  have HZ2 := hide hz2
  clear hi hz0 hz1 hz2
  have py := partsE_pos _ _ ry
  obtain ⟨ta, va, rfl⟩ := rx.isI
  obtain ⟨tb, vb, rfl⟩ := ry.isI
  have Hx := hide hx
  have Hy := hide hy
  have RX := hide rx
  have RY := hide ry
  clear hx hy rx ry
  go_enter Tryz.func156, Tryz.ntmps156
  go_wp2_with fail
  refine (sides_Both p ta va tb vb w).mono ?_
  rintro e w1 ⟨rfl, hb1⟩
  have b1 : Below w.heap.size w (w1.alloc (.cells #[.int .i64 p, .iface ta va, .iface tb vb] 242)) := hb1.alloc hb1.size _
  have B1 := hide b1
  have S1 := hide (Blk.new w1 #[.int .i64 p, .iface ta va, .iface tb vb] 242)
  have X1 := hide ((unhide RX).but (But.of_below b1))
  have Y1 := hide ((unhide RY).but (But.of_below b1))
  have sz1 := hb1.size
  clear hb1 b1
  go_wp2_with fail
  refine (unhide Hx b _ _ (by simp; omega) (unhide X1) (by omega)).mono ?_
  rintro e w2 ⟨sv2, rfl, hb2, lx, lx1, lx2, lx3⟩
  have B2 := hide ((unhide B1).trans (hb2.mono (unhide B1).size))
  have S2 := (unhide S1).below hb2
  have HS2 := hide S2
  obtain ⟨s0, s1, s2⟩ := S2.three
  have sl := S2.lt
  have Y2 := hide ((unhide Y1).but (But.of_below hb2))
  have LX1 := hide lx1
  have LX2 := hide lx2
  have O2 := hide (ownsRow_base lx3 (show w.heap.size ≤ _ by simp; omega))
  have sz2 := (unhide B2).size
  clear hb2 S2 lx1 lx2 lx3
  go_wp2_with (at_builtin; go_must (refine wpList_append_lies _ rfl _ _ 301 rfl w.heap.size 157 i0 _ 1 16 Tryz.underlying301 (unhide HI) (unhide HZ0) (unhide HZ1) (unhide HZ2) rfl (by decide) sv2 (partsE x).length (lx.map Prod.snd) rfl ?hown ⟨w2.heap.size, 0, none⟩ 1 1 [.iface 245 (.agg #[.int .i64 p, .iface ta va, .iface tb vb])] rfl rfl ?hnews ?hone (by decide) ?h63 ?hbytes ?hbase (w2.heap.size + 1) ?hH ?hrest))
  case hown => exact (unhide O2).alloc _
  case hnews => exact cell_new1' w2 _ _ _ rfl
  case hone => intro u hu; simp at hu; subst hu; rfl
  case h63 => unfold maxLen; omega
  case hbytes => omega
  case hbase => simp; omega
  case hH => simp
  case hrest =>
    intro g3 cap3 w3 hown3 hgrow3 hat3 hgl3
    have O2' := (unhide O2).alloc (.cells #[.iface 245 (.agg #[.int .i64 p, .iface ta va, .iface tb vb])] 157)
    have b2 : Below w2.heap.size w2 (w2.alloc (.cells #[.iface 245 (.agg #[.int .i64 p, .iface ta va, .iface tb vb])] 157)) := (Below.refl _ _).alloc (Nat.le_refl _) _
    have gk3 : GKept b w2 w3 := fun g cs f hg hh => (hgrow3.block g (Nat.lt_of_lt_of_le (lt_of_some hh) b2.size) (own_nf O2' ((b2.block g (lt_of_some hh)).trans hh) (by decide))).trans (b2.block g (lt_of_some hh))
    have B3 := hide (Below.grown ((unhide B2).trans (b2.mono sz2)) hgrow3 (by simp; omega) (fun k hk => (O2'.lt k hk).1))
    have S2' := (unhide HS2).below b2
    have S3 := (hgrow3.block _ S2'.lt (own_ne O2' S2' (by decide))).trans S2'
    have HS3 := hide (show Blk w3 w1.heap.size #[.int .i64 p, .iface ta va, .iface tb vb] 242 from S3)
    obtain ⟨t0, t1, t2⟩ := (unhide HS3).three
    have tl := (unhide HS3).lt
    have Y3 := hide (RepEx.frame gk3 _ _ (unhide Y2))
    have LX3 := hide (show ∀ p ∈ lx, RepEx b w3 p.1 p.2 from fun p hp => RepEx.frame gk3 _ _ (unhide LX2 p hp))
    have O3 := hide hown3
    have sz3 := (unhide B3).size
    clear O2' b2 gk3 S2' S3 hown3 hgrow3 hat3 s0 s1 s2
    go_wp2_with fail
    refine (unhide Hy b _ _ (by omega) (unhide Y3) (by omega)).mono ?_
    rintro e w4 ⟨sv4, rfl, hb4, ly, ly1, ly2, ly3⟩
    obtain ⟨g4, c4, rfl, nl4, nw4⟩ := own_news ly3 py
    have B4 := hide ((unhide B3).trans (hb4.mono (unhide B3).size))
    have LY1 := hide ly1
    have LY2 := hide ly2
    have LX4 := hide (show ∀ p ∈ lx, RepEx b w4 p.1 p.2 from fun p hp => (unhide LX3 p hp).but (But.of_below hb4))
    have O4 := hide (ownsRow_frame (w' := w4) (unhide O3) (fun g cs f _ hh => hb4.block g (lt_of_some hh)))
    have NL4 := hide nl4
    have NW4 := hide nw4
    have sz4 := (unhide B4).size
    clear hb4 ly1 ly2 ly3 nl4 nw4
    go_wp2_with (at_builtin; go_must (refine wpList_append_lies _ rfl _ _ 301 rfl w.heap.size 157 i0 _ 1 16 Tryz.underlying301 (unhide HI) (unhide HZ0) (unhide HZ1) (unhide HZ2) rfl (by decide) _ _ _ rfl (unhide O4) ⟨g4, 0, none⟩ (partsE y).length c4 (ly.map Prod.snd) rfl (unhide NL4) (unhide NW4) ?hone py ?h63 ?hbytes ?hbase w4.heap.size rfl ?hrest))
    case hone =>
      intro u hu
      rw [List.mem_map] at hu
      obtain ⟨q, hq, rfl⟩ := hu
      obtain ⟨t, z, e⟩ := (unhide LY2 q hq).isI
      rw [e]; rfl
    case h63 => unfold maxLen; omega
    case hbytes => omega
    case hbase => omega
    case hrest =>
      intro g5 cap5 w5 hown5 hgrow5 hat5 hgl5
      have gk5 : GKept b w4 w5 := fun g cs f hg hh => hgrow5.block g (lt_of_some hh) (own_nf (unhide O4) hh (by decide))
      have B5 := hide (Below.grown (unhide B4) hgrow5 sz4 (fun k hk => ((unhide O4).lt k hk).1))
      have LX5 := hide (show ∀ p ∈ lx, RepEx b w5 p.1 p.2 from fun p hp => RepEx.frame gk5 _ _ (unhide LX4 p hp))
      have LY5 := hide (show ∀ p ∈ ly, RepEx b w5 p.1 p.2 from fun p hp => RepEx.frame gk5 _ _ (unhide LY2 p hp))
      have O5 := hide hown5
      clear gk5 hown5 hgrow5 hat5
      go_wp2
      go_ret
      exact ⟨.slice (some ⟨g5, 0, none⟩) ((partsE x).length + 1 + (partsE y).length) cap5, rfl, unhide B5, lx, ly, unhide LX1, unhide LY1, unhide LX5, unhide LY5, by rw [List.append_assoc]; exact unhide O5⟩

set_option maxHeartbeats 2000000 in
set_option maxRecDepth 100000 in
theorem parts_Less (p : Nat) (x y : Ex) (hx : PartsC x) (hy : PartsC y) (b : Nat) (vx vy : Value) (w : World) (hb : b < w.heap.size) (rx : RepEx b w x vx) (ry : RepEx b w y vy) (hn : (partsE x).length + 1 + (partsE y).length ≤ 1000) :
    Calls Tryz.prog 156 #[.iface 246 (.agg #[.int .i64 p, vx, vy])] w fun e' w' => ∃ sv, e' = .returned sv ∧ Below w.heap.size w w' ∧
      ∃ lx ly : List (Ex × Value), lx.map Prod.fst = partsE x ∧ ly.map Prod.fst = partsE y ∧ (∀ p ∈ lx, RepEx b w' p.1 p.2) ∧ (∀ p ∈ ly, RepEx b w' p.1 p.2) ∧
        w'.ownsRow w.heap.size 157 1 sv ((partsE x).length + 1 + (partsE y).length) (lx.map Prod.snd ++ [.iface 246 (.agg #[.int .i64 p, vx, vy])] ++ ly.map Prod.snd) := by
  obtain ⟨i0, hi, hz0, hz1, hz2⟩ := info_parts Tryz.info157
  have HI := hide hi
  have HZ0 := hide hz0
  have HZ1 := hide hz1
  have HZ2 := hide hz2
  clear hi hz0 hz1 hz2
  have py := partsE_pos _ _ ry
  obtain ⟨ta, va, rfl⟩ := rx.isI
  obtain ⟨tb, vb, rfl⟩ := ry.isI
  have Hx := hide hx
  have Hy := hide hy
  have RX := hide rx
  have RY := hide ry
  clear hx hy rx ry
  go_enter Tryz.func156, Tryz.ntmps156
  go_wp2_with fail
  refine (sides_Less p ta va tb vb w).mono ?_
  rintro e w1 ⟨rfl, hb1⟩
  have b1 : Below w.heap.size w (w1.alloc (.cells #[.int .i64 p, .iface ta va, .iface tb vb] 242)) := hb1.alloc hb1.size _
  have B1 := hide b1
  have S1 := hide (Blk.new w1 #[.int .i64 p, .iface ta va, .iface tb vb] 242)
  have X1 := hide ((unhide RX).but (But.of_below b1))
  have Y1 := hide ((unhide RY).but (But.of_below b1))
  have sz1 := hb1.size
  clear hb1 b1
  go_wp2_with fail
  refine (unhide Hx b _ _ (by simp; omega) (unhide X1) (by omega)).mono ?_
  rintro e w2 ⟨sv2, rfl, hb2, lx, lx1, lx2, lx3⟩
  have B2 := hide ((unhide B1).trans (hb2.mono (unhide B1).size))
  have S2 := (unhide S1).below hb2
  have HS2 := hide S2
  obtain ⟨s0, s1, s2⟩ := S2.three
  have sl := S2.lt
  have Y2 := hide ((unhide Y1).but (But.of_below hb2))
  have LX1 := hide lx1
  have LX2 := hide lx2
  have O2 := hide (ownsRow_base lx3 (show w.heap.size ≤ _ by simp; omega))
  have sz2 := (unhide B2).size
  clear hb2 S2 lx1 lx2 lx3
  go_wp2_with (at_builtin; go_must (refine wpList_append_lies _ rfl _ _ 301 rfl w.heap.size 157 i0 _ 1 16 Tryz.underlying301 (unhide HI) (unhide HZ0) (unhide HZ1) (unhide HZ2) rfl (by decide) sv2 (partsE x).length (lx.map Prod.snd) rfl ?hown ⟨w2.heap.size, 0, none⟩ 1 1 [.iface 246 (.agg #[.int .i64 p, .iface ta va, .iface tb vb])] rfl rfl ?hnews ?hone (by decide) ?h63 ?hbytes ?hbase (w2.heap.size + 1) ?hH ?hrest))
  case hown => exact (unhide O2).alloc _
  case hnews => exact cell_new1' w2 _ _ _ rfl
  case hone => intro u hu; simp at hu; subst hu; rfl
  case h63 => unfold maxLen; omega
  case hbytes => omega
  case hbase => simp; omega
  case hH => simp
  case hrest =>
    intro g3 cap3 w3 hown3 hgrow3 hat3 hgl3
    have O2' := (unhide O2).alloc (.cells #[.iface 246 (.agg #[.int .i64 p, .iface ta va, .iface tb vb])] 157)
    have b2 : Below w2.heap.size w2 (w2.alloc (.cells #[.iface 246 (.agg #[.int .i64 p, .iface ta va, .iface tb vb])] 157)) := (Below.refl _ _).alloc (Nat.le_refl _) _
    have gk3 : GKept b w2 w3 := fun g cs f hg hh => (hgrow3.block g (Nat.lt_of_lt_of_le (lt_of_some hh) b2.size) (own_nf O2' ((b2.block g (lt_of_some hh)).trans hh) (by decide))).trans (b2.block g (lt_of_some hh))
    have B3 := hide (Below.grown ((unhide B2).trans (b2.mono sz2)) hgrow3 (by simp; omega) (fun k hk => (O2'.lt k hk).1))
    have S2' := (unhide HS2).below b2
    have S3 := (hgrow3.block _ S2'.lt (own_ne O2' S2' (by decide))).trans S2'
    have HS3 := hide (show Blk w3 w1.heap.size #[.int .i64 p, .iface ta va, .iface tb vb] 242 from S3)
    obtain ⟨t0, t1, t2⟩ := (unhide HS3).three
    have tl := (unhide HS3).lt
    have Y3 := hide (RepEx.frame gk3 _ _ (unhide Y2))
    have LX3 := hide (show ∀ p ∈ lx, RepEx b w3 p.1 p.2 from fun p hp => RepEx.frame gk3 _ _ (unhide LX2 p hp))
    have O3 := hide hown3
    have sz3 := (unhide B3).size
    clear O2' b2 gk3 S2' S3 hown3 hgrow3 hat3 s0 s1 s2
    go_wp2_with fail
    refine (unhide Hy b _ _ (by omega) (unhide Y3) (by omega)).mono ?_
    rintro e w4 ⟨sv4, rfl, hb4, ly, ly1, ly2, ly3⟩
    obtain ⟨g4, c4, rfl, nl4, nw4⟩ := own_news ly3 py
    have B4 := hide ((unhide B3).trans (hb4.mono (unhide B3).size))
    have LY1 := hide ly1
    have LY2 := hide ly2
    have LX4 := hide (show ∀ p ∈ lx, RepEx b w4 p.1 p.2 from fun p hp => (unhide LX3 p hp).but (But.of_below hb4))
    have O4 := hide (ownsRow_frame (w' := w4) (unhide O3) (fun g cs f _ hh => hb4.block g (lt_of_some hh)))
    have NL4 := hide nl4
    have NW4 := hide nw4
    have sz4 := (unhide B4).size
    clear hb4 ly1 ly2 ly3 nl4 nw4
    go_wp2_with (at_builtin; go_must (refine wpList_append_lies _ rfl _ _ 301 rfl w.heap.size 157 i0 _ 1 16 Tryz.underlying301 (unhide HI) (unhide HZ0) (unhide HZ1) (unhide HZ2) rfl (by decide) _ _ _ rfl (unhide O4) ⟨g4, 0, none⟩ (partsE y).length c4 (ly.map Prod.snd) rfl (unhide NL4) (unhide NW4) ?hone py ?h63 ?hbytes ?hbase w4.heap.size rfl ?hrest))
    case hone =>
      intro u hu
      rw [List.mem_map] at hu
      obtain ⟨q, hq, rfl⟩ := hu
      obtain ⟨t, z, e⟩ := (unhide LY2 q hq).isI
      rw [e]; rfl
    case h63 => unfold maxLen; omega
    case hbytes => omega
    case hbase => omega
    case hrest =>
      intro g5 cap5 w5 hown5 hgrow5 hat5 hgl5
      have gk5 : GKept b w4 w5 := fun g cs f hg hh => hgrow5.block g (lt_of_some hh) (own_nf (unhide O4) hh (by decide))
      have B5 := hide (Below.grown (unhide B4) hgrow5 sz4 (fun k hk => ((unhide O4).lt k hk).1))
      have LX5 := hide (show ∀ p ∈ lx, RepEx b w5 p.1 p.2 from fun p hp => RepEx.frame gk5 _ _ (unhide LX4 p hp))
      have LY5 := hide (show ∀ p ∈ ly, RepEx b w5 p.1 p.2 from fun p hp => RepEx.frame gk5 _ _ (unhide LY2 p hp))
      have O5 := hide hown5
      clear gk5 hown5 hgrow5 hat5
      go_wp2
      go_ret
      exact ⟨.slice (some ⟨g5, 0, none⟩) ((partsE x).length + 1 + (partsE y).length) cap5, rfl, unhide B5, lx, ly, unhide LX1, unhide LY1, unhide LX5, unhide LY5, by rw [List.append_assoc]; exact unhide O5⟩

theorem parts_any (e : Ex) : PartsC e := by
  induction e using Ex.ind with
  | h0 n r =>
    intro b v w hb h hn
    have key : ∀ {v : Value}, (Calls Tryz.prog 156 #[v] w fun e' w' => ∃ sv, e' = .returned sv ∧ Below w.heap.size w w' ∧ w'.ownsRow w.heap.size 157 1 sv 1 [v]) → RepEx b w ⟨n, none, r⟩ v → Calls Tryz.prog 156 #[v] w fun e' w' => ∃ sv, e' = .returned sv ∧ Below w.heap.size w w' ∧ RepPs w.heap.size b w' sv (partsE ⟨n, none, r⟩) := by
      intro v hc hr
      refine hc.mono ?_
      rintro e' w' ⟨sv, h1, h2, h3⟩
      exact ⟨sv, h1, h2, [(⟨n, none, r⟩, v)], rfl, fun p hp => by simp at hp; subst hp; exact hr.but (But.of_below h2), h3⟩
    have h' := h
    rcases h with ⟨h1, sv, rfl, h3⟩ | ⟨h1, rfl⟩ | ⟨h1, rfl⟩
    · exact key (parts_List _ w) h'
    · exact key (parts_Own _ w) h'
    · exact key (parts_Tie _ w) h'
  | h1 n a => intro b v w hb h hn; exact h.elim
  | h2 n x y hx hy =>
    intro b v w hb h hn
    obtain ⟨vx, vy, rfl, rx, ry⟩ := h
    have hn' : (partsE x).length + 1 + (partsE y).length ≤ 1000 := by simp [partsE] at hn; omega
    have key : (Calls Tryz.prog 156 #[.iface (tyOf n.kind) (.agg #[.int .i64 n.place, vx, vy])] w fun e' w' => ∃ sv, e' = .returned sv ∧ Below w.heap.size w w' ∧
      ∃ lx ly : List (Ex × Value), lx.map Prod.fst = partsE x ∧ ly.map Prod.fst = partsE y ∧ (∀ p ∈ lx, RepEx b w' p.1 p.2) ∧ (∀ p ∈ ly, RepEx b w' p.1 p.2) ∧
        w'.ownsRow w.heap.size 157 1 sv ((partsE x).length + 1 + (partsE y).length) (lx.map Prod.snd ++ [.iface (tyOf n.kind) (.agg #[.int .i64 n.place, vx, vy])] ++ ly.map Prod.snd)) := by
      unfold tyOf
      split
      · exact parts_Either _ x y hx hy b vx vy w hb rx ry hn'
      · split
        · exact parts_Both _ x y hx hy b vx vy w hb rx ry hn'
        · exact parts_Less _ x y hx hy b vx vy w hb rx ry hn'
    refine key.mono ?_
    rintro e' w' ⟨sv, h1, h2, lx, ly, h3, h4, h5, h6, h7⟩
    refine ⟨sv, h1, h2, lx ++ [(⟨n, some x, some y⟩, .iface (tyOf n.kind) (.agg #[.int .i64 n.place, vx, vy]))] ++ ly, ?_, ?_, ?_⟩
    · simp [partsE, h3, h4]
    · intro p hp
      simp only [List.mem_append, List.mem_singleton] at hp
      rcases hp with (hp | rfl) | hp
      · exact h5 p hp
      · exact ⟨vx, vy, rfl, rx.but (But.of_below h2), ry.but (But.of_below h2)⟩
      · exact h6 p hp
    · have e1 : (partsE ⟨n, some x, some y⟩).length = (partsE x).length + 1 + (partsE y).length := by simp [partsE]; omega
      rw [e1]
      simpa using h7
end Go.Proofs.YtlbpnlngckgcbaaGreatDoor
