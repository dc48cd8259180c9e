import Derived.Test.YtlbpnlngckgcbaaGreatDoorM43
namespace Go.Proofs.YtlbpnlngckgcbaaGreatDoor
open Go.RowKit Go.PlainAid
set_option linter.unusedSimpArgs false
set_option linter.unusedVariables false

theorem Tryz.info9' : (Tryz.prog.info? 9).map (fun i => (i.zero, i.size, i.bytes)) = some (some (.string ⟨#[]⟩), 1, 16) := by kernel_rfl
def GOk (g : Gr) : Prop := g.ty.size ≤ 8 ∧ g.rel.size ≤ 8
theorem size_app (a c : ByteArray) : (a ++ c).size = a.size + c.size := ByteArray.size_append
theorem grantW_le (g : Gr) (h : GOk g) : (grantW g).size ≤ 17 := by
 obtain ⟨h1, h2⟩ := h
 have e1 : (sg 42).size = 1 := rfl
 have e2 : (sg 35).size = 1 := rfl
 unfold grantW
 split
 ·rw [size_app]; omega
 ·split
  ·rw [size_app, size_app]; omega
  ·omega
def joinG (gs : List Gr) : List UInt8 := Lib.join ((gs.map grantW).map (·.data.toList)) [44, 32]
theorem joinG_le : ∀ (gs : List Gr), (∀ g ∈ gs, GOk g) → (joinG gs).length ≤ 19 * gs.length
 | [], _ => by simp [joinG, Lib.join_nil]
 | g :: gs, h => by
  unfold joinG
  rw [List.map_cons, List.map_cons, Lib.join_length]
  have key : ∀ (l : List Gr), (∀ g ∈ l, GOk g) → Lib.lens ((l.map grantW).map (·.data.toList)) ≤ 17 * l.length := by
   intro l
   induction l with
   | nil => intro _; simp [Lib.lens]
   | cons a r ih =>
    intro hl
    have h1 := grantW_le a (hl a (by simp))
    have h2 := ih (fun g hg => hl g (by simp [hg]))
    simp only [List.map_cons, Lib.lens, List.sum_cons, List.length_cons] at *
    have h3 : (grantW a).data.toList.length = (grantW a).size := rfl
    omega
  have := key (g :: gs) h
  simp only [List.map_cons, List.length_cons, List.length_map, List.length_nil] at *
  omega
/-- P5: what is written of a list. -/
def listW (gs : List Gr) : ByteArray := (sg 91 ++ mk (joinG gs)) ++ sg 93
def strs (l : List ByteArray) : List Value := l.map Value.string
def gwK (k : Nat) (gs : List Gr) : List Value := strs ((gs.take k).map grantW)

set_option maxHeartbeats 2000000 in
set_option maxRecDepth 100000 in
theorem listW_any (p : Nat) (sv : Value) (gs : List Gr) (w : World) (h : w.ownsRow 0 207 5 sv gs.length (gsCells gs)) (hn : gs.length ≤ 1000) (h0 : gs ≠ []) (hok : ∀ g ∈ gs, GOk g) :
  Calls Tryz.prog 124 #[.agg #[.int .i64 p, sv]] w fun e w' => e = .returned (.string (listW gs)) ∧ Below w.heap.size w w' := by
 obtain ⟨i0, hi, hz0, hz1, hz2⟩ := info_parts Tryz.info9'
 have HI := hide hi
 have HZ0 := hide hz0
 have HZ1 := hide hz1
 have HZ2 := hide hz2
 clear hi hz0 hz1 hz2
 obtain ⟨ga, gc, rfl⟩ := own_form h
 have H := hide h
 have HOK := hide hok
 have HJ := hide (joinG_le gs hok)
 have hpos : 0 < gs.length := List.length_pos_iff.2 h0
 clear h hok h0
 go_enter Tryz.func124, Tryz.ntmps124
 go_wp2_with fail
 go_loopw [3, 9] (fun u3 u9 wr => ∃ (k : Nat) (sa : Option Addr) (sc : Nat), k ≤ gs.length ∧ u9 = .int .i64 k ∧ u3 = .slice sa k sc ∧ Below w.heap.size w wr ∧ wr.ownsRow w.heap.size 9 1 (.slice sa k sc) k (gwK k gs)) (fun _ u _ => gs.length - (intOf u).toNat)
 case atStart => exact ⟨0, none, 0, by omega, rfl, rfl, (Below.refl _ _).alloc (Nat.le_refl _) _, World.ownsRow_nil _ _ _ _⟩
 case round =>
  obtain ⟨k, sa, sc, hk, rfl, rfl, hb, ho⟩ := hrel
  have HB := hide hb
  have HO := hide ho
  have wrs := hb.size
  by_cases hlt : k < gs.length
  ·have hkn : (k : Int) < (gs.length : Int) := by omega
   obtain ⟨q, c, e1, k0, k1, k2, k3, k4⟩ := Row5.cell (ownsRow_frame (w' := wr) (uh H) (fun g cs f _ hh => hb.block g (lt_of_some hh))) k gs[k] (List.getElem?_eq_getElem hlt)
   simp only [Value.slice.injEq] at e1
   obtain ⟨rfl, _, rfl⟩ := e1
   have HST := hide (show gwK (k + 1) gs = gwK k gs ++ [.string (grantW gs[k])] from by
    unfold gwK strs
    rw [List.take_succ_eq_append_getElem hlt, List.map_append, List.map_append]; rfl)
   have hg := uh HOK gs[k] (List.getElem_mem hlt)
   generalize gs[k] = g at *
   have bx : Below wr.heap.size wr (wr.alloc (.cells #[.int .i64 g.tp, .string g.ty, .int .i64 g.reach, .int .i64 g.rp, .string g.rel] 207)) := (Below.refl _ _).alloc (Nat.le_refl _) _
   have HBX := hide ((uh HB).trans (bx.mono wrs))
   have C := hide (grantW_any g (wr.alloc (.cells #[.int .i64 g.tp, .string g.ty, .int .i64 g.reach, .int .i64 g.rp, .string g.rel] 207)) (by have := hg.1; omega) (by have := hg.2; omega))
   have OX := hide ((uh HO).alloc (.cells #[.int .i64 g.tp, .string g.ty, .int .i64 g.reach, .int .i64 g.rp, .string g.rel] 207))
   clear hb ho bx hg
   go_wp2_with fail
   refine (uh C).mono ?_
   rintro e w3 ⟨rfl, hb3⟩
   have B3 := hide ((uh HBX).trans (hb3.mono (uh HBX).size))
   have O3 := hide (ownsRow_frame (w' := w3) (uh OX) (fun g cs f _ hh => hb3.block g (lt_of_some hh)))
   have sz3 := (uh B3).size
   clear hb3 C k0 k1 k2 k3 k4
   go_wp2_with (at_builtin; go_must (refine wpList_append_lies _ rfl _ _ 22 rfl w.heap.size 9 i0 _ 1 16 Tryz.underlying22 (uh HI) (uh HZ0) (uh HZ1) (uh HZ2) rfl (by decide) (.slice sa k sc) k (gwK k gs) rfl ?hown ⟨w3.heap.size, 0, none⟩ 1 1 [.string (grantW g)] rfl rfl ?hnews ?hone (by decide) ?h63 ?hbytes ?hbase (w3.heap.size + 1) ?hH ?hrest))
   case hown => exact (uh O3).alloc _
   case hnews => exact World.news_of_block (B := w3.heap.size) (cs := #[.string (grantW g)]) (t := 9) (fr := (0, 0)) (Blk.new w3 _ _)
   case hone =>
    intro z hz
    simp at hz
    subst hz
    rfl
   case h63 => unfold maxLen; omega
   case hbytes => omega
   case hbase => simp; omega
   case hH => simp
   case hrest =>
    intro g6 cap6 w6 hown6 hgrow6 hat6 hgl6
    have O5' := (uh O3).alloc (.cells #[.string (grantW g)] 9)
    have B6 := hide (Below.grown ((uh B3).alloc sz3 (.cells #[.string (grantW g)] 9)) hgrow6 (by simp; omega) (fun k hk => (O5'.lt k hk).1))
    have O6 := hide hown6
    clear hown6 hgrow6 hat6 O5'
    go_wp2
    go_roundw
    case rel => exact ⟨k + 1, some ⟨g6, 0, none⟩, cap6, by omega, by go_num, rfl, uh B6, by rw [uh HST]; exact uh O6⟩
    case measure => simp [intOf]; omega
  ·have hkn : ¬ ((k : Int) < (gs.length : Int)) := by omega
   obtain rfl : k = gs.length := by omega
   unfold gwK at ho
   rw [List.take_length] at ho
   have hcap : gs.length ≤ sc ∧ ∃ q, sa = some ⟨q, 0, none⟩ ∧ q < wr.heap.size := by
    rcases ho.2 with ⟨_, h0⟩ | ⟨g, cap, cur, hv, _, hh, h5, _⟩
    ·omega
    ·simp only [Value.slice.injEq] at hv
     obtain ⟨rfl, _, rfl⟩ := hv
     exact ⟨h5, g, rfl, lt_of_some hh⟩
   obtain ⟨hc1, q, rfl, hq⟩ := hcap
   have hl : (gs.map grantW).length = gs.length := List.length_map _
   have C := Tryz.strings_Join q 0 sc (gs.map grantW) ⟨#[44, 32]⟩ wr (by
    intro j x hx
    obtain ⟨g', c', e', hc⟩ := own_cell ho j (.string x) (by unfold strs; rw [List.getElem?_map, hx]; rfl)
    simp only [Value.slice.injEq, Option.some.injEq, Addr.mk.injEq] at e'
    obtain ⟨⟨rfl, _⟩, _⟩ := e'
    rw [Nat.zero_add]
    exact hc) hq (by omega) (by omega) (by have := uh HJ; unfold joinG at this; simp only at *; omega)
   rw [hl] at C
   have hjs : (mk (joinG gs)).size ≤ 20000 := by
    have h1 := uh HJ
    have h2 : (mk (joinG gs)).size = (joinG gs).length := rfl
    omega
   have CC := hide (show Calls Tryz.prog 183 #[.slice (some ⟨q, 0, none⟩) gs.length sc, .string ⟨#[44, 32]⟩] wr fun e w' => e = .returned (.string (mk (joinG gs))) ∧ Below wr.heap.size wr w' from C)
   obtain ⟨jj, hjj⟩ : ∃ jj, jj = mk (joinG gs) := ⟨_, rfl⟩
   rw [← hjj] at hjs CC
   have HJJ := hide hjj
   clear hjj
   clear hb ho C hkn
   have hkn : ¬ ((gs.length : Int) < (gs.length : Int)) := by omega
   go_wp2_with (go_at_call 183; refine (uh CC).mono ?_; rintro e w3 ⟨rfl, hb3⟩; have B3 := hide ((uh HB).trans (hb3.mono wrs)); clear hb3)
   go_ret
   exact ⟨by unfold listW; rw [← uh HJJ]; rfl, uh B3⟩
end Go.Proofs.YtlbpnlngckgcbaaGreatDoor

namespace Go.Proofs.YtlbpnlngckgcbaaGreatDoor
open Go.RowKit Go.PlainAid
set_option linter.unusedSimpArgs false
set_option linter.unusedVariables false

def sEither : ByteArray := ⟨#[32, 124, 32]⟩
def sBoth : ByteArray := ⟨#[32, 38, 32]⟩
def sLess : ByteArray := ⟨#[32, 45, 32]⟩
def heldB (e : Ex) (s : ByteArray) (least : Nat) : ByteArray := if bindN e < least then (sg 40 ++ s) ++ sg 41 else s
/-- P5: what is written of an expression. -/
def writtenE : Ex → ByteArray
 | ⟨n, some x, some y⟩ => if n.kind = 3 then (writtenE x ++ sEither) ++ writtenE y
  else (heldB x (writtenE x) 1 ++ (if n.kind = 4 then sBoth else sLess)) ++ heldB y (writtenE y) 2
 | ⟨n, none, _⟩ => if n.kind = 0 then listW n.gs else if n.kind = 1 then n.n1 else (n.n1 ++ sg 46) ++ n.n2
 | ⟨_, some _, none⟩ => em
/-- All names of an expression are short. -/
def Sz (e : Ex) : Prop := ∀ p ∈ partsE e, p.l = none → p.nd.n1.size ≤ 8 ∧ p.nd.n2.size ≤ 8 ∧ ∀ g ∈ p.nd.gs, GOk g
theorem heldB_le (e : Ex) (s : ByteArray) (n : Nat) : (heldB e s n).size ≤ s.size + 2 := by
 have e1 : (sg 40).size = 1 := rfl
 have e2 : (sg 41).size = 1 := rfl
 unfold heldB
 split
 ·rw [size_app, size_app]; omega
 ·omega
theorem listW_le (gs : List Gr) (h : ∀ g ∈ gs, GOk g) : (listW gs).size ≤ 19 * gs.length + 2 := by
 have e1 : (sg 91).size = 1 := rfl
 have e2 : (sg 93).size = 1 := rfl
 have e3 : (mk (joinG gs)).size = (joinG gs).length := rfl
 have := joinG_le gs h
 unfold listW
 rw [size_app, size_app]
 omega
theorem writtenE_le (e : Ex) : Sz e → (writtenE e).size ≤ 20 * (partsE e).length + 19 * (allG e).length := by
 induction e using Ex.ind with
 | h0 n r =>
  intro h
  obtain ⟨h1, h2, h3⟩ := h ⟨n, none, r⟩ (by simp [partsE]) rfl
  simp only at h1 h2 h3
  have e1 : (sg 46).size = 1 := rfl
  simp only [writtenE, partsE, allG, List.flatMap_cons, List.flatMap_nil, List.append_nil, gsOf, List.length_cons, List.length_nil]
  by_cases k0 : n.kind = 0
  ·rw [if_pos k0, if_pos k0]
   have := listW_le n.gs h3
   omega
  ·rw [if_neg k0, if_neg k0]
   split
   ·omega
   ·rw [size_app, size_app]; simp only [List.length_nil]; omega
 | h1 n a => intro _; exact Nat.zero_le _
 | h2 n a c iha ihc =>
  intro h
  have ia := iha (fun p hp => h p (by simp [partsE, hp]))
  have ic := ihc (fun p hp => h p (by simp [partsE, hp]))
  have e1 : sEither.size = 3 := rfl
  have e2 : sBoth.size = 3 := rfl
  have e3 : sLess.size = 3 := rfl
  have ha := heldB_le a (writtenE a) 1
  have hc := heldB_le c (writtenE c) 2
  have hg : (allG ⟨n, some a, some c⟩).length = (allG a).length + (allG c).length := by
   unfold allG
   simp [partsE, gsOf]
  have hp : (partsE ⟨n, some a, some c⟩).length = (partsE a).length + 1 + (partsE c).length := by simp [partsE]; omega
  rw [hg, hp]
  simp only [writtenE]
  split
  ·rw [size_app, size_app]; omega
  ·rw [size_app, size_app]
   split <;> omega
/-- What is written of an expression in memory. -/
def WrC (b : Nat) (e : Ex) : Prop := ∀ v w, RepEx b w e v → Calls Tryz.prog 78 #[v] w fun e' w' => e' = .returned (.string (writtenE e)) ∧ Below w.heap.size w w'

set_option maxHeartbeats 1000000 in
set_option maxRecDepth 100000 in
theorem held_of (b : Nat) (e : Ex) (hw : WrC b e) (hs : (writtenE e).size ≤ 100000) (v : Value) (n : Nat) (hn : n ≤ 2) (w : World) (h : RepEx b w e v) :
  Calls Tryz.prog 184 #[v, .int .i64 n] w fun e' w' => e' = .returned (.string (heldB e (writtenE e) n)) ∧ Below w.heap.size w w' := by
 have C1 := hide (binding_any b e v w h)
 have C2 := hide (hw v w h)
 obtain ⟨va, vv, rfl⟩ := h.isI
 clear h hw
 unfold heldB
 generalize bindN e = m at *
 generalize writtenE e = s at *
 by_cases hm : m < n
 ·have hm' : (m : Int) < (n : Int) := by omega
  rw [if_pos hm]
  go_enter Tryz.func184, Tryz.ntmps184
  go_wp2_with (first | (go_at_call 227; refine (uh C1).mono ?_; rintro e w2 ⟨rfl, rfl⟩) | (go_at_call 78; refine (uh C2).mono ?_; rintro e w3 ⟨rfl, hb3⟩; have B3 := hide hb3; clear hb3))
  go_ret
  exact ⟨rfl, uh B3⟩
 ·have hm' : ¬ ((m : Int) < (n : Int)) := by omega
  rw [if_neg hm]
  go_enter Tryz.func184, Tryz.ntmps184
  go_wp2_with (first | (go_at_call 227; refine (uh C1).mono ?_; rintro e w2 ⟨rfl, rfl⟩) | (go_at_call 78; refine (uh C2).mono ?_; rintro e w3 ⟨rfl, hb3⟩; have B3 := hide hb3; clear hb3))
  go_ret
  exact ⟨rfl, uh B3⟩

set_option maxHeartbeats 300000 in
set_option maxRecDepth 100000 in
theorem chained_of (b : Nat) (x y : Ex) (hx : WrC b x) (hy : WrC b y) (sx : (writtenE x).size ≤ 90000) (sy : (writtenE y).size ≤ 90000) (p : Nat) (vx vy : Value) (sign : ByteArray) (hsg : sign.size ≤ 10) (w : World) (rx : RepEx b w x vx) (ry : RepEx b w y vy) :
  Calls Tryz.prog 125 #[.agg #[.int .i64 p, vx, vy], .string sign] w fun e' w' => e' = .returned (.string ((heldB x (writtenE x) 1 ++ sign) ++ heldB y (writtenE y) 2)) ∧ Below w.heap.size w w' := by
 have C1 := hide (show ∀ w', Below w.heap.size w w' → Calls Tryz.prog 184 #[vx, .int .i64 1] w' fun e' w'' => e' = .returned (.string (heldB x (writtenE x) 1)) ∧ Below w'.heap.size w' w'' from fun w' k => held_of b x hx (by omega) vx 1 (by omega) w' (rx.but (But.of_below k)))
 have C2 := hide (show ∀ w', Below w.heap.size w w' → Calls Tryz.prog 184 #[vy, .int .i64 2] w' fun e' w'' => e' = .returned (.string (heldB y (writtenE y) 2)) ∧ Below w'.heap.size w' w'' from fun w' k => held_of b y hy (by omega) vy 2 (by omega) w' (ry.but (But.of_below k)))
 have l1 := heldB_le x (writtenE x) 1
 have l2 := heldB_le y (writtenE y) 2
 have m1 : (heldB x (writtenE x) 1).size ≤ 100000 := by omega
 have m2 : (heldB y (writtenE y) 2).size ≤ 100000 := by omega
 obtain ⟨xa, xv, rfl⟩ := rx.isI
 obtain ⟨ya, yv, rfl⟩ := ry.isI
 clear rx ry hx hy l1 l2 sx sy
 generalize heldB x (writtenE x) 1 = s1 at *
 generalize heldB y (writtenE y) 2 = s2 at *
 have W0 : Below w.heap.size w (w.alloc (.cells #[.int .i64 p, .iface xa xv, .iface ya yv] 242)) := (Below.refl _ _).alloc (Nat.le_refl _) _
 have HW0 := hide W0
 have SB := hide (Blk.new w #[.int .i64 p, .iface xa xv, .iface ya yv] 242)
 clear W0
 go_enter Tryz.func125, Tryz.ntmps125
 go_wp2_with fail
 generalize (w.alloc (.cells #[.int .i64 p, .iface xa xv, .iface ya yv] 242)) = W at *
 obtain ⟨q0, q1, q2⟩ := (uh SB).three
 have ql := (uh SB).lt
 have c1 : ¬ 9223372036854775807 < s1.size + sign.size := by omega
 have c2 : ¬ 9223372036854775807 < s1.size + sign.size + s2.size := by omega
 go_region_held3 (fun w' => w'.cell? ⟨w.heap.size, 1, none⟩ = some (.iface xa xv) ∧ w'.cell? ⟨w.heap.size, 2, none⟩ = some (.iface ya yv)) (go_keep)
  (first
  | (go_at_call 184; have BW3' := BW3; refine (uh C2 w3 ((uh HW0).trans ((uh BW3).mono (uh HW0).size))).mono ?_; rintro e w4 ⟨rfl, hb4⟩; have BW4 := hide (show Below W.heap.size W w4 from (uh BW3).trans (hb4.mono (uh BW3).size)); clear hb4 BW3'; obtain ⟨t0, t1, t2⟩ := ((uh SB).below (uh BW4)).three)
  | (go_at_call 184; refine (uh C1 _ (uh HW0).drew).mono ?_; rintro e w3 ⟨rfl, hb3⟩; have BW3 := hide (show Below W.heap.size W w3 from (Below.refl _ W).drew.trans hb3); clear hb3; obtain ⟨r0, r1, r2⟩ := ((uh SB).below (uh BW3)).three))
 go_wp2
 go_ret
 exact ⟨rfl, (uh HW0).trans ((uh BW4).mono (uh HW0).size)⟩
end Go.Proofs.YtlbpnlngckgcbaaGreatDoor

namespace Go.Proofs.YtlbpnlngckgcbaaGreatDoor
open Go.RowKit Go.PlainAid
set_option linter.unusedSimpArgs false
set_option linter.unusedVariables false

set_option maxHeartbeats 400000 in
set_option maxRecDepth 100000 in
theorem written_list (p : Nat) (sv : Value) (gs : List Gr) (w : World) (h : w.ownsRow 0 207 5 sv gs.length (gsCells gs)) (hn : gs.length ≤ 1000) (h0 : gs ≠ []) (hok : ∀ g ∈ gs, GOk g) :
  Calls Tryz.prog 78 #[.iface 236 (.agg #[.int .i64 p, sv])] w fun e w' => e = .returned (.string (listW gs)) ∧ Below w.heap.size w w' := by
 have f0 := ta_List_List
 have f1 := ta_Own_List
 have f2 := ta_Tie_List
 have f3 := ta_Either_List
 have f4 := ta_Both_List
 have f5 := ta_Less_List
 have g1 := ta_Own_Own
 have g2 := ta_Tie_Own
 have g3 := ta_Either_Own
 have g4 := ta_Both_Own
 have g5 := ta_Less_Own
 have h2 := ta_Tie_Tie
 have h3 := ta_Either_Tie
 have h4 := ta_Both_Tie
 have h5 := ta_Less_Tie
 have i3 := ta_Either_Either
 have i4 := ta_Both_Either
 have i5 := ta_Less_Either
 have j4 := ta_Both_Both
 have j5 := ta_Less_Both
 have k5 := ta_Less_Less
 obtain ⟨ga, gc, rfl⟩ := own_form h
 have bx : Below w.heap.size w (w.alloc (.cells #[.int .i64 p, .slice ga gs.length gc] 236)) := (Below.refl _ _).alloc (Nat.le_refl _) _
 have HBX := hide bx
 have C := hide (listW_any p _ gs _ (ownsRow_frame h (fun g cs f _ hh => bx.block g (lt_of_some hh))) hn h0 hok)
 clear h bx hok h0
 go_enter Tryz.func78, Tryz.ntmps78
 go_wp2_with (go_at_call 124; refine (uh C).mono ?_; rintro e w3 ⟨rfl, hb3⟩; have B3 := hide ((uh HBX).trans (hb3.mono (uh HBX).size)); clear hb3)
 go_ret
 exact ⟨rfl, uh B3⟩
set_option maxHeartbeats 400000 in
set_option maxRecDepth 100000 in
theorem written_own (p : Nat) (s : ByteArray) (w : World) :
  Calls Tryz.prog 78 #[.iface 238 (.agg #[.int .i64 p, .string s])] w fun e w' => e = .returned (.string s) ∧ Below w.heap.size w w' := by
 have f0 := ta_List_List
 have f1 := ta_Own_List
 have f2 := ta_Tie_List
 have f3 := ta_Either_List
 have f4 := ta_Both_List
 have f5 := ta_Less_List
 have g1 := ta_Own_Own
 have g2 := ta_Tie_Own
 have g3 := ta_Either_Own
 have g4 := ta_Both_Own
 have g5 := ta_Less_Own
 have h2 := ta_Tie_Tie
 have h3 := ta_Either_Tie
 have h4 := ta_Both_Tie
 have h5 := ta_Less_Tie
 have i3 := ta_Either_Either
 have i4 := ta_Both_Either
 have i5 := ta_Less_Either
 have j4 := ta_Both_Both
 have j5 := ta_Less_Both
 have k5 := ta_Less_Less
 go_enter Tryz.func78, Tryz.ntmps78
 go_wp2
 go_ret
 exact ⟨rfl, (Below.refl _ _).alloc (Nat.le_refl _) _⟩
set_option maxHeartbeats 400000 in
set_option maxRecDepth 100000 in
theorem written_tie (p p1 p2 : Nat) (s t : ByteArray) (w : World) (hs : s.size ≤ 1000) (ht : t.size ≤ 1000) :
  Calls Tryz.prog 78 #[.iface 240 (.agg #[.int .i64 p, .int .i64 p1, .string s, .int .i64 p2, .string t])] w fun e w' => e = .returned (.string ((s ++ sg 46) ++ t)) ∧ Below w.heap.size w w' := by
 have f0 := ta_List_List
 have f1 := ta_Own_List
 have f2 := ta_Tie_List
 have f3 := ta_Either_List
 have f4 := ta_Both_List
 have f5 := ta_Less_List
 have g1 := ta_Own_Own
 have g2 := ta_Tie_Own
 have g3 := ta_Either_Own
 have g4 := ta_Both_Own
 have g5 := ta_Less_Own
 have h2 := ta_Tie_Tie
 have h3 := ta_Either_Tie
 have h4 := ta_Both_Tie
 have h5 := ta_Less_Tie
 have i3 := ta_Either_Either
 have i4 := ta_Both_Either
 have i5 := ta_Less_Either
 have j4 := ta_Both_Both
 have j5 := ta_Less_Both
 have k5 := ta_Less_Less
 go_enter Tryz.func78, Tryz.ntmps78
 go_wp2
 go_ret
 exact ⟨rfl, (Below.refl _ _).alloc (Nat.le_refl _) _⟩
set_option maxHeartbeats 400000 in
set_option maxRecDepth 100000 in
theorem written_both (b : Nat) (x y : Ex) (hx : WrC b x) (hy : WrC b y) (sx : (writtenE x).size ≤ 90000) (sy : (writtenE y).size ≤ 90000) (p : Nat) (vx vy : Value) (w : World) (rx : RepEx b w x vx) (ry : RepEx b w y vy) :
  Calls Tryz.prog 78 #[.iface 245 (.agg #[.int .i64 p, vx, vy])] w fun e w' => e = .returned (.string ((heldB x (writtenE x) 1 ++ sBoth) ++ heldB y (writtenE y) 2)) ∧ Below w.heap.size w w' := by
 have f0 := ta_List_List
 have f1 := ta_Own_List
 have f2 := ta_Tie_List
 have f3 := ta_Either_List
 have f4 := ta_Both_List
 have f5 := ta_Less_List
 have g1 := ta_Own_Own
 have g2 := ta_Tie_Own
 have g3 := ta_Either_Own
 have g4 := ta_Both_Own
 have g5 := ta_Less_Own
 have h2 := ta_Tie_Tie
 have h3 := ta_Either_Tie
 have h4 := ta_Both_Tie
 have h5 := ta_Less_Tie
 have i3 := ta_Either_Either
 have i4 := ta_Both_Either
 have i5 := ta_Less_Either
 have j4 := ta_Both_Both
 have j5 := ta_Less_Both
 have k5 := ta_Less_Less
 obtain ⟨xa, xv, rfl⟩ := rx.isI
 obtain ⟨ya, yv, rfl⟩ := ry.isI
 have bx : Below w.heap.size w (w.alloc (.cells #[.int .i64 p, .iface xa xv, .iface ya yv] 245)) := (Below.refl _ _).alloc (Nat.le_refl _) _
 have HBX := hide bx
 have C := hide (chained_of b x y hx hy sx sy p _ _ sBoth (by decide) _ (rx.but (But.of_below bx)) (ry.but (But.of_below bx)))
 unfold sBoth at C ⊢
 clear rx ry bx hx hy
 go_enter Tryz.func78, Tryz.ntmps78
 go_wp2_with (go_at_call 125; refine (uh C).mono ?_; rintro e w3 ⟨rfl, hb3⟩; have B3 := hide ((uh HBX).trans (hb3.mono (uh HBX).size)); clear hb3)
 go_ret
 exact ⟨rfl, uh B3⟩
set_option maxHeartbeats 400000 in
set_option maxRecDepth 100000 in
theorem written_less (b : Nat) (x y : Ex) (hx : WrC b x) (hy : WrC b y) (sx : (writtenE x).size ≤ 90000) (sy : (writtenE y).size ≤ 90000) (p : Nat) (vx vy : Value) (w : World) (rx : RepEx b w x vx) (ry : RepEx b w y vy) :
  Calls Tryz.prog 78 #[.iface 246 (.agg #[.int .i64 p, vx, vy])] w fun e w' => e = .returned (.string ((heldB x (writtenE x) 1 ++ sLess) ++ heldB y (writtenE y) 2)) ∧ Below w.heap.size w w' := by
 have f0 := ta_List_List
 have f1 := ta_Own_List
 have f2 := ta_Tie_List
 have f3 := ta_Either_List
 have f4 := ta_Both_List
 have f5 := ta_Less_List
 have g1 := ta_Own_Own
 have g2 := ta_Tie_Own
 have g3 := ta_Either_Own
 have g4 := ta_Both_Own
 have g5 := ta_Less_Own
 have h2 := ta_Tie_Tie
 have h3 := ta_Either_Tie
 have h4 := ta_Both_Tie
 have h5 := ta_Less_Tie
 have i3 := ta_Either_Either
 have i4 := ta_Both_Either
 have i5 := ta_Less_Either
 have j4 := ta_Both_Both
 have j5 := ta_Less_Both
 have k5 := ta_Less_Less
 obtain ⟨xa, xv, rfl⟩ := rx.isI
 obtain ⟨ya, yv, rfl⟩ := ry.isI
 have bx : Below w.heap.size w (w.alloc (.cells #[.int .i64 p, .iface xa xv, .iface ya yv] 246)) := (Below.refl _ _).alloc (Nat.le_refl _) _
 have HBX := hide bx
 have C := hide (chained_of b x y hx hy sx sy p _ _ sLess (by decide) _ (rx.but (But.of_below bx)) (ry.but (But.of_below bx)))
 unfold sLess at C ⊢
 clear rx ry bx hx hy
 go_enter Tryz.func78, Tryz.ntmps78
 go_wp2_with (go_at_call 125; refine (uh C).mono ?_; rintro e w3 ⟨rfl, hb3⟩; have B3 := hide ((uh HBX).trans (hb3.mono (uh HBX).size)); clear hb3)
 go_ret
 exact ⟨rfl, uh B3⟩
set_option maxHeartbeats 400000 in
set_option maxRecDepth 100000 in
theorem written_either (b : Nat) (x y : Ex) (hx : WrC b x) (hy : WrC b y) (sx : (writtenE x).size ≤ 90000) (sy : (writtenE y).size ≤ 90000) (p : Nat) (vx vy : Value) (w : World) (rx : RepEx b w x vx) (ry : RepEx b w y vy) :
  Calls Tryz.prog 78 #[.iface 244 (.agg #[.int .i64 p, vx, vy])] w fun e w' => e = .returned (.string ((writtenE x ++ sEither) ++ writtenE y)) ∧ Below w.heap.size w w' := by
 have f0 := ta_List_List
 have f1 := ta_Own_List
 have f2 := ta_Tie_List
 have f3 := ta_Either_List
 have f4 := ta_Both_List
 have f5 := ta_Less_List
 have g1 := ta_Own_Own
 have g2 := ta_Tie_Own
 have g3 := ta_Either_Own
 have g4 := ta_Both_Own
 have g5 := ta_Less_Own
 have h2 := ta_Tie_Tie
 have h3 := ta_Either_Tie
 have h4 := ta_Both_Tie
 have h5 := ta_Less_Tie
 have i3 := ta_Either_Either
 have i4 := ta_Both_Either
 have i5 := ta_Less_Either
 have j4 := ta_Both_Both
 have j5 := ta_Less_Both
 have k5 := ta_Less_Less
 have C1 := hide (fun w' (k : Below w.heap.size w w') => hx vx w' (rx.but (But.of_below k)))
 have C2 := hide (fun w' (k : Below w.heap.size w w') => hy vy w' (ry.but (But.of_below k)))
 obtain ⟨xa, xv, rfl⟩ := rx.isI
 obtain ⟨ya, yv, rfl⟩ := ry.isI
 clear rx ry hx hy
 generalize writtenE x = s1 at *
 generalize writtenE y = s2 at *
 have W0 : Below w.heap.size w (w.alloc (.cells #[.int .i64 p, .iface xa xv, .iface ya yv] 244)) := (Below.refl _ _).alloc (Nat.le_refl _) _
 have HW0 := hide W0
 have SB := hide (Blk.new w #[.int .i64 p, .iface xa xv, .iface ya yv] 244)
 unfold sEither
 clear W0
 go_enter Tryz.func78, Tryz.ntmps78
 go_wp2_with fail
 generalize (w.alloc (.cells #[.int .i64 p, .iface xa xv, .iface ya yv] 244)) = W at *
 obtain ⟨q0, q1, q2⟩ := (uh SB).three
 have ql := (uh SB).lt
 have c1 : ¬ 9223372036854775807 < s1.size + 3 := by omega
 have c2 : ¬ 9223372036854775807 < s1.size + 3 + s2.size := by omega
 go_region_held3 (fun w' => w'.cell? ⟨w.heap.size, 1, none⟩ = some (.iface xa xv) ∧ w'.cell? ⟨w.heap.size, 2, none⟩ = some (.iface ya yv)) (go_keep)
  (first
  | (go_at_call 78; have BW3' := BW3; refine (uh C2 w3 ((uh HW0).trans ((uh BW3).mono (uh HW0).size))).mono ?_; rintro e w4 ⟨rfl, hb4⟩; have BW4 := hide (show Below W.heap.size W w4 from (uh BW3).trans (hb4.mono (uh BW3).size)); clear hb4 BW3'; obtain ⟨t0, t1, t2⟩ := ((uh SB).below (uh BW4)).three)
  | (go_at_call 78; refine (uh C1 _ (uh HW0).drew).mono ?_; rintro e w3 ⟨rfl, hb3⟩; have BW3 := hide (show Below W.heap.size W w3 from (Below.refl _ W).drew.trans hb3); clear hb3; obtain ⟨r0, r1, r2⟩ := ((uh SB).below (uh BW3)).three))
 go_wp2
 go_ret
 exact ⟨rfl, (uh HW0).trans ((uh BW4).mono (uh HW0).size)⟩

theorem written_any (b : Nat) (e : Ex) : (partsE e).length ≤ 1000 → (allG e).length ≤ 1000 → WF e → Sz e → WrC b e := by
 induction e using Ex.ind with
 | h0 n r =>
  intro hp hg hwf hsz v w h
  obtain ⟨z1, z2, z3⟩ := hsz ⟨n, none, r⟩ (by simp [partsE]) rfl
  simp only at z1 z2 z3
  rcases h with ⟨hk, sv, rfl, hrow⟩ | ⟨hk, rfl⟩ | ⟨hk, rfl⟩
  ·have he : writtenE ⟨n, none, r⟩ = listW n.gs := by simp [writtenE, hk]
   rw [he]
   have hl : n.gs.length ≤ 1000 := by
    have := gs_le_all (e := ⟨n, none, r⟩) (p := ⟨n, none, r⟩) (by simp [partsE]) rfl hk
    simp only at this
    omega
   exact written_list _ _ _ _ (ownsRow_base hrow (Nat.zero_le _)) hl (hwf ⟨n, none, r⟩ (by simp [partsE]) rfl hk) z3
  ·have he : writtenE ⟨n, none, r⟩ = n.n1 := by simp [writtenE, hk]
   rw [he]
   exact written_own _ _ _
  ·have he : writtenE ⟨n, none, r⟩ = (n.n1 ++ sg 46) ++ n.n2 := by simp [writtenE, hk]
   rw [he]
   exact written_tie _ _ _ _ _ _ (by omega) (by omega)
 | h1 n a => intro _ _ _ _ v w h; exact h.elim
 | h2 n a c iha ihc =>
  intro hp hg hwf hsz v w h
  have hpl : (partsE ⟨n, some a, some c⟩).length = (partsE a).length + 1 + (partsE c).length := by simp [partsE]; omega
  have hgl : (allG ⟨n, some a, some c⟩).length = (allG a).length + (allG c).length := by
   unfold allG
   simp [partsE, gsOf]
  have za : Sz a := fun p hp => hsz p (by simp [partsE, hp])
  have zc : Sz c := fun p hp => hsz p (by simp [partsE, hp])
  have wa := iha (by omega) (by omega) (fun p hp => hwf p (by simp [partsE, hp])) za
  have wc := ihc (by omega) (by omega) (fun p hp => hwf p (by simp [partsE, hp])) zc
  have la := writtenE_le a za
  have lc := writtenE_le c zc
  obtain ⟨vx, vy, rfl, rx, ry⟩ := h
  by_cases k3 : n.kind = 3
  ·have he : writtenE ⟨n, some a, some c⟩ = (writtenE a ++ sEither) ++ writtenE c := by simp [writtenE, k3]
   have ht : tyOf n.kind = 244 := by simp [tyOf, k3]
   rw [he, ht]
   exact written_either b a c wa wc (by omega) (by omega) _ _ _ _ rx ry
  ·by_cases k4 : n.kind = 4
   ·have he : writtenE ⟨n, some a, some c⟩ = (heldB a (writtenE a) 1 ++ sBoth) ++ heldB c (writtenE c) 2 := by simp [writtenE, k4]
    have ht : tyOf n.kind = 245 := by simp [tyOf, k4]
    rw [he, ht]
    exact written_both b a c wa wc (by omega) (by omega) _ _ _ _ rx ry
   ·have he : writtenE ⟨n, some a, some c⟩ = (heldB a (writtenE a) 1 ++ sLess) ++ heldB c (writtenE c) 2 := by simp [writtenE, k3, k4]
    have ht : tyOf n.kind = 246 := by simp [tyOf, k3, k4]
    rw [he, ht]
    exact written_less b a c wa wc (by omega) (by omega) _ _ _ _ rx ry
end Go.Proofs.YtlbpnlngckgcbaaGreatDoor
