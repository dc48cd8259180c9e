import Derived.Test.YtlbpnlngckgcbaaGreatDoorM44
import Derived.Shelf.Strings.BuilderK
import Derived.Test.YtlbpnlngckgcbaaGreatDoorM22
import Derived.Test.YtlbpnlngckgcbaaGreatDoorM37
namespace Go.Proofs.YtlbpnlngckgcbaaGreatDoor
open Go.RowKit Go.PlainAid
set_option linter.unusedSimpArgs false
set_option linter.unusedVariables false
theorem writeK (b : Nat) (l : List UInt8) (s : ByteArray) (w : World) (h : Lib.IsBuilderF 153 5 b b (Lib.byteCells l) w) (hlen : l.length + s.size ≤ 140737488355328) (hBw : b ≤ w.heap.size) :
  Calls Tryz.prog 77 #[.pointer (some ⟨b, 0, none⟩), .string s] w fun e w' => e = .returned (.tuple #[.int .i64 s.size, .nilIface]) ∧ Lib.IsBuilderF 153 5 b b (Lib.byteCells (l ++ lst s)) w' ∧ Below b w w' ∧ Lib.OthersKept 5 (some b) w w' := by
 refine (Any.Builder_WriteString_k { Tryz.lays156 with } Tryz.Builder_Extra_156 b b (Lib.byteCells l) s w h (by rw [Lib.byteCells_length]; exact hlen) hBw).mono ?_
 rintro e w' ⟨rfl, h1, h2, h3⟩
 refine ⟨rfl, .inr ?_, h2, h3⟩
 rw [Lib.byteCells_append]
 exact h1
theorem bf_below {T e : TypeId} {B b : Nat} {bs : List Value} {w w' : World} (h : Lib.IsBuilderF T e B b bs w) (k : Below w.heap.size w w') : Lib.IsBuilderF T e B b bs w' := by
 have key : ∀ p, Lib.BuilderAtF T e B b p bs w → Lib.BuilderAtF T e B b p bs w' := by
  rintro p ⟨h1, v, h2, h3, h4⟩
  refine ⟨h1, v, (k.block b (lt_of_some h2)).trans h2, ?_, h4⟩
  obtain ⟨h5, h6 | ⟨g, cap, cur, fz, h7, h8, h9, hr⟩⟩ := h3
  ·exact ⟨h5, .inl h6⟩
  ·exact ⟨h5, .inr ⟨g, cap, cur, fz, h7, h8, (k.block g (lt_of_some h9)).trans h9, hr⟩⟩
 rcases h with h | h
 ·exact .inl (key _ h)
 ·exact .inr (key _ h)
theorem Blk.kept {w w' : World} {b g : Nat} {cs : Array Value} {T e : TypeId} (h : Blk w g cs T) (k : Lib.OthersKept e (some b) w w') (hg : g ≠ b) (hT : T ≠ e) : Blk w' g cs T :=
 k g _ h (fun e' => hg (Option.some.inj e')) (fun c fz e' => hT (by simp only [Obj.cells.injEq] at e'; exact e'.2.1))
def sTab : ByteArray := ⟨#[9]⟩
def sColon : ByteArray := ⟨#[58, 32]⟩
def sSemi : ByteArray := ⟨#[59, 10]⟩
def sTypeB : ByteArray := ⟨#[116, 121, 112, 101, 32]⟩
def sOpen : ByteArray := ⟨#[32, 123, 10]⟩
def sClose : ByteArray := ⟨#[125, 10]⟩
/-- P5: what is written of a relation, of a type, of a model. -/
def relW (r : Rl) : ByteArray := (((sTab ++ r.name) ++ sColon) ++ writtenE r.body) ++ sSemi
def headW (t : Ty) : ByteArray := (sTypeB ++ t.name) ++ sOpen
def relsT (rs : List Rl) : List UInt8 := rs.flatMap fun r => lst (relW r)
def typeT (t : Ty) : List UInt8 := lst (headW t) ++ relsT t.rels ++ lst sClose
def modelT (ts : List Ty) : List UInt8 := ts.flatMap typeT
/-- All names of a model are short. -/
def SzT (t : Ty) : Prop := t.name.size ≤ 8 ∧ ∀ r ∈ t.rels, r.name.size ≤ 8 ∧ Sz r.body
theorem lst_len (s : ByteArray) : (lst s).length = s.size := rfl
set_option maxHeartbeats 4000000 in
set_option maxRecDepth 100000 in
theorem string_any (b : Nat) (sv : Value) (ts : List Ty) (tl : List (Ty × Value)) (w : World) (h : MC b w sv ts tl) (hz : ∀ t ∈ ts, SzT t) :
  Calls Tryz.prog 42 #[.agg #[sv]] w fun e w' => e = .returned (.string (mk (modelT ts))) ∧ Below w.heap.size w w' := by
 obtain ⟨ma, mn, mc, rfl⟩ := h.form
 have hmn : mn = tl.length := by
  obtain ⟨a', c', e⟩ := own_form h.row
  simp only [Value.slice.injEq, List.length_map] at e
  exact e.2.1
 have hm1 : mn ≤ tl.length := by omega
 have hm2 : tl.length ≤ mn := by omega
 clear hmn
 have htl : tl.length ≤ 1000 := by have := h.llen; simpa using this
 have H := hide h
 have HZ := hide hz
 have W0 : Below w.heap.size w (w.alloc (.cells #[.slice ma mn mc] 75)) := (Below.refl _ _).alloc (Nat.le_refl _) _
 have HF := hide (Lib.IsBuilderF.of (Lib.fresh_isBuilder 153 5 (w.alloc (.cells #[.slice ma mn mc] 75))))
 have HW0 := hide (W0.alloc W0.size (.cells #[.pointer none, .slice none 0 0] 153))
 clear h hz W0
 go_enter Tryz.func42, Tryz.ntmps42
 go_wp2_with fail
 go_loopw [11] (fun u wr => ∃ (k : Nat) (bs : List UInt8), k ≤ mn ∧ u = .int .i64 k ∧ Below w.heap.size w wr ∧ w.heap.size + 1 < wr.heap.size ∧ bs.length ≤ k * 50000000 ∧ Hid (bs = (ts.take k).flatMap typeT ∧ Lib.IsBuilderF 153 5 (w.heap.size + 1) (w.heap.size + 1) (Lib.byteCells bs) wr)) (fun u _ => mn - (intOf u).toNat)
 case atStart => exact ⟨0, [], by omega, rfl, uh HW0, by simp, by simp, hide ⟨rfl, by simpa [Lib.byteCells] using uh HF⟩⟩
 case round =>
  obtain ⟨k, bs, hk, rfl, hb, hsz, hbl, HQ⟩ := hrel
  have HB := hide hb
  by_cases hlt : k < mn
  ·have hlt' : k < tl.length := by omega
   have hk' : ts[k]? = some tl[k].1 := by rw [← (uh H).fst]; simp [List.getElem?_eq_getElem hlt']
   obtain ⟨g, c', e1, k0, k1, k2⟩ := ((uh H).row.below hb).cell k (by simpa using hlt')
   simp only [Value.slice.injEq] at e1
   obtain ⟨rfl, hxx, rfl⟩ := e1
   clear hxx
   simp only [List.getElem_map, t3] at k0 k1 k2
   obtain ⟨rl, hrc⟩ := (uh H).rels tl[k] (List.getElem_mem hlt')
   generalize tl[k] = p at *
   obtain ⟨t, tv⟩ := p
   simp only at k0 k1 k2 hrc hk'
   obtain ⟨va, vn, vc, rfl⟩ := hrc.form
   have hvn : vn = rl.length := by
    obtain ⟨a', c', e⟩ := own_form hrc.row
    simp only [Value.slice.injEq, List.length_map] at e
    exact e.2.1
   have hv1 : vn ≤ rl.length := by omega
   have hv2 : rl.length ≤ vn := by omega
   clear hvn
   have hrl : rl.length ≤ 1000 := by have := hrc.llen; simpa using this
   have hzt := uh HZ t (List.mem_of_getElem? hk')
   have hz1 := hzt.1
   have HZR := hide hzt.2
   have HRC := hide hrc
   have HK' := hide hk'
   have bx : Below wr.heap.size wr (wr.alloc (.cells #[.int .i64 t.place, .string t.name, .slice va vn vc] 110)) := (Below.refl _ _).alloc (Nat.le_refl _) _
   have HBX := hide ((uh HB).trans (bx.mono (by omega)))
   have TB := hide (Blk.new wr #[.int .i64 t.place, .string t.name, .slice va vn vc] 110)
   have hs1 : (headW t).size ≤ 16 := by
    have e1 : sTypeB.size = 5 := rfl
    have e2 : sOpen.size = 3 := rfl
    unfold headW
    rw [size_app, size_app]
    omega
   have C := hide (writeK (w.heap.size + 1) bs (headW t) _ (bf_below (uh HQ).2 bx) (by omega) (by simp; omega))
   unfold headW sTypeB sOpen at C
   have hkn : (k : Int) < (mn : Int) := by omega
   clear hb hrc bx hzt hk' hs1
   go_wp2_with fail
   refine (uh C).mono ?_
   rintro e w3 ⟨rfl, hf3, hb3, hk3⟩
   have TB3 := (uh TB).kept hk3 (by omega) (by decide)
   obtain ⟨t0, t1, t2⟩ := TB3.three
   have tl3 := TB3.lt
   have B3 := hide ((uh HBX).trans (hb3.mono (by omega)))
   have F3 := hide (show Lib.IsBuilderF 153 5 (w.heap.size + 1) (w.heap.size + 1) (Lib.byteCells (bs ++ lst (headW t))) w3 from hf3)
   have sz3 := hb3.size
   clear hf3 hb3 hk3 TB3 C
   have szx : w.heap.size + 1 < w3.heap.size := by simp at sz3; omega
   go_wp2_with fail
   go_loopw [24] (fun u wi => ∃ (j : Nat) (bt : List UInt8), j ≤ vn ∧ u = .int .i64 j ∧ Below w.heap.size w wi ∧ w.heap.size + 1 < wi.heap.size ∧ bt.length ≤ k * 50000000 + 16 + j * 40000 ∧ Hid (bt = bs ++ lst (headW t) ++ relsT (t.rels.take j) ∧ Lib.IsBuilderF 153 5 (w.heap.size + 1) (w.heap.size + 1) (Lib.byteCells bt) wi)) (fun u _ => vn - (intOf u).toNat)
   case atStart => exact ⟨0, bs ++ lst (headW t), by omega, rfl, uh B3, szx, by
    have e1 : sTypeB.size = 5 := rfl
    have e2 : sOpen.size = 3 := rfl
    rw [List.length_append, lst_len]
    unfold headW
    rw [size_app, size_app]
    omega, hide ⟨by simp [relsT], uh F3⟩⟩
   case round =>
    obtain ⟨j, bt, hj, rfl, hb, hszi, hbl', HQ'⟩ := hrel
    have HBI := hide hb
    by_cases hjt : j < vn
    ·have hjt' : j < rl.length := by omega
     have hj' : t.rels[j]? = some rl[j].1 := by rw [← (uh HRC).fst]; simp [List.getElem?_eq_getElem hjt']
     have hmem := List.mem_of_getElem? hj'
     obtain ⟨g, c', e1, x0, x1, x2⟩ := ((uh HRC).row.below hb).cell j (by simpa using hjt')
     simp only [Value.slice.injEq] at e1
     obtain ⟨rfl, hxx, rfl⟩ := e1
     clear hxx
     simp only [List.getElem_map, r3] at x0 x1 x2
     have hex := ((uh HRC).ex rl[j] (List.getElem_mem hjt')).but (b := b) (But.of_below hb)
     generalize rl[j] = p at *
     obtain ⟨r, bv⟩ := p
     simp only at x0 x1 x2 hex hmem hj'
     obtain ⟨ra, rv, rfl⟩ := hex.isI
     obtain ⟨z1, z2⟩ := uh HZR r hmem
     have okp := (uh HRC).okp r hmem
     have okg := (uh HRC).okg r hmem
     have hwl := writtenE_le r.body z2
     have hws : (writtenE r.body).size ≤ 39000 := by omega
     have bx : Below wr.heap.size wr (wr.alloc (.cells #[.int .i64 r.place, .string r.name, .iface ra rv] 159)) := (Below.refl _ _).alloc (Nat.le_refl _) _
     have HBX' := hide ((uh HBI).trans (bx.mono (by omega)))
     have RB := hide (Blk.new wr #[.int .i64 r.place, .string r.name, .iface ra rv] 159)
     have FX := hide (bf_below (uh HQ').2 bx)
     have HRX := hide (hex.but (b := b) (But.of_below bx))
     have WC := hide (written_any b r.body okp okg ((uh HRC).wf r hmem) z2)
     have HST := hide (show bs ++ lst (headW t) ++ relsT (t.rels.take (j + 1)) = (bs ++ lst (headW t) ++ relsT (t.rels.take j)) ++ lst (relW r) from by
      have hlt2 : j < t.rels.length := by
       rcases Nat.lt_or_ge j t.rels.length with h | h
       ·exact h
       ·rw [List.getElem?_eq_none h] at hj'; cases hj'
      rw [List.getElem?_eq_getElem hlt2] at hj'
      simp only [Option.some.injEq] at hj'
      unfold relsT
      rw [List.take_succ_eq_append_getElem hlt2, List.flatMap_append, hj']
      simp)
     have hjn : (j : Int) < (vn : Int) := by omega
     have hrw : (relW r).size ≤ 39100 := by
      have e1 : sTab.size = 1 := rfl
      have e2 : sColon.size = 2 := rfl
      have e3 : sSemi.size = 2 := rfl
      unfold relW
      rw [size_app, size_app, size_app, size_app]
      omega
     have HRW := hide (show relW r = (((⟨#[9]⟩ ++ r.name) ++ ⟨#[58, 32]⟩) ++ writtenE r.body) ++ ⟨#[59, 10]⟩ from rfl)
     unfold WrC at WC
     generalize hwse : writtenE r.body = ws at *
     clear hb hex bx hmem hj' hwl z2 hwse
     go_wp2_with fail
     have hWs : wr.heap.size < (wr.alloc (.cells #[.int .i64 r.place, .string r.name, .iface ra rv] 159)).heap.size := by simp
     generalize (wr.alloc (.cells #[.int .i64 r.place, .string r.name, .iface ra rv] 159)) = W at *
     generalize hwz : wr.heap.size = wz at *
     clear hwz
     obtain ⟨q0, q1, q2⟩ := (uh RB).three
     have ql := (uh RB).lt
     have c1 : ¬ 9223372036854775807 < 1 + r.name.size := by omega
     have c2 : ¬ 9223372036854775807 < 1 + r.name.size + 2 := by omega
     have c3 : ¬ 9223372036854775807 < 1 + r.name.size + 2 + ws.size := by omega
     have c4 : ¬ 9223372036854775807 < 1 + r.name.size + 2 + ws.size + 2 := by omega
     go_region_held3 (fun w' => w'.cell? ⟨wz, 1, none⟩ = some (.string r.name) ∧ w'.cell? ⟨wz, 2, none⟩ = some (.iface ra rv)) (go_keep)
      (first
      | (go_at_call 78; refine (uh WC _ W.drew ((uh HRX).but (But.refl _ _).drew)).mono ?_; rintro e w4 ⟨rfl, hb4⟩; have BW4 := hide (show Below W.heap.size W w4 from (Below.refl _ W).drew.trans hb4); clear hb4; obtain ⟨r0, r1, r2⟩ := ((uh RB).below (uh BW4)).three)
      | (go_at_call 77; refine (writeK (w.heap.size + 1) bt _ w4 (bf_below (uh FX) (uh BW4)) (by rw [← uh HRW]; omega) (by have := (uh BW4).size; omega)).mono ?_; rintro e w5 ⟨rfl, hf5, hb5, hk5⟩; have RB5 := ((uh RB).below (uh BW4)).kept hk5 (by omega) (by decide); obtain ⟨s0, s1, s2⟩ := RB5.three; have F5 := hide hf5; have B5 := hide ((uh HBX').trans ((uh BW4).mono (by omega)) |>.trans (hb5.mono (by omega))); have sz5 : w.heap.size + 1 < w5.heap.size := (by have h1 := hb5.size; have h2 := (uh BW4).size; omega); clear hf5 hb5 hk5 RB5))
     go_wp2
     go_roundw
     case rel => exact ⟨j + 1, bt ++ lst (relW r), by omega, by go_num, uh B5, sz5, by rw [List.length_append, lst_len]; omega, hide ⟨by rw [uh HST, ← (uh HQ').1], by rw [uh HRW]; exact uh F5⟩⟩
     case measure => simp [intOf]; omega
    ·have hjn : ¬ ((j : Int) < (vn : Int)) := by omega
     have hjl : t.rels.length ≤ j := by have := congrArg List.length (uh HRC).fst; rw [List.length_map] at this; omega
     have hbt := (uh HQ').1
     rw [List.take_of_length_le hjl] at hbt
     have HST := hide (show (ts.take (k + 1)).flatMap typeT = bt ++ lst sClose from by
      have hk' := uh HK'
      have hlt2 : k < ts.length := by
       rcases Nat.lt_or_ge k ts.length with h | h
       ·exact h
       ·rw [List.getElem?_eq_none h] at hk'; cases hk'
      rw [List.getElem?_eq_getElem hlt2] at hk'
      simp only [Option.some.injEq] at hk'
      rw [List.take_succ_eq_append_getElem hlt2, List.flatMap_append, hk', hbt, ← (uh HQ).1]
      simp [typeT])
     have e1 : sClose.size = 2 := rfl
     have C := hide (writeK (w.heap.size + 1) bt sClose wr (uh HQ').2 (by omega) (by omega))
     unfold sClose at C
     clear hb hbt e1
     go_wp2_with fail
     refine (uh C).mono ?_
     rintro e w4 ⟨rfl, hf4, hb4, _⟩
     have F4 := hide hf4
     have B4 := hide ((uh HBI).trans (hb4.mono (by omega)))
     have sz4 : w.heap.size + 1 < w4.heap.size := by have := hb4.size; omega
     clear hf4 hb4
     go_wp2
     go_roundw
     case rel => exact ⟨k + 1, bt ++ lst sClose, by omega, by go_num, uh B4, sz4, by have e1 : sClose.size = 2 := rfl; rw [List.length_append, lst_len]; omega, hide ⟨(uh HST).symm, uh F4⟩⟩
     case measure => simp [intOf]; omega
  ·have hkn : ¬ ((k : Int) < (mn : Int)) := by omega
   have hkl : ts.length ≤ k := by have := congrArg List.length (uh H).fst; rw [List.length_map] at this; omega
   have hbs := (uh HQ).1
   rw [List.take_of_length_le hkl] at hbs
   have HBS := hide hbs
   have C := hide (Tryz.Builder_String_any_f (w.heap.size + 1) (w.heap.size + 1) bs wr (uh HQ).2 (by omega))
   clear hb hbs
   go_wp2_with fail
   refine (uh C).mono ?_
   rintro e w4 ⟨rfl, _, hb4⟩
   have B4 := hide ((uh HB).trans (hb4.mono (by omega)))
   clear hb4
   go_wp2
   go_ret
   exact ⟨by unfold mk modelT; rw [← uh HBS]; rfl, uh B4⟩
theorem nameR_sz (T : Nat → ByteArray) (i j : Nat) (u : Unit) (h : nameR T i = .ok (u, j)) : (T i).size ≤ 8 := by
 unfold nameR at h
 split at h
 ·split at h
  ·simp at h
  ·omega
 ·simp at h
theorem nameThenR_sz (T : Nat → ByteArray) (y : ByteArray) (i j : Nat) (u : Unit) (h : nameThenR T y i = .ok (u, j)) : (T i).size ≤ 8 := by
 unfold nameThenR at h
 split at h
 ·simp at h
 ·rename_i hm
  exact nameR_sz T _ _ _ hm
theorem em_sz : em.size = 0 := rfl
theorem grantR_sz (T : Nat → ByteArray) (P : Nat → Nat) (i j : Nat) (g : Gr) (h : grantR T P i = .ok (g, j)) : GOk g := by
 unfold grantR at h
 split at h
 ·simp at h
 ·rename_i hm
  have h1 := nameR_sz T _ _ _ hm
  split at h
  ·simp at h; rw [← h.1]; exact ⟨h1, by simp only [em_sz]; omega⟩
  ·split at h
   ·split at h
    ·simp at h
    ·rename_i hk
     have h2 := nameR_sz T _ _ _ hk
     simp at h; rw [← h.1]; exact ⟨h1, h2⟩
   ·simp at h; rw [← h.1]; exact ⟨h1, by simp only [em_sz]; omega⟩
theorem listL_sz (T : Nat → ByteArray) (P : Nat → Nat) : ∀ f acc i gs j, (∀ g ∈ acc, GOk g) → listL T P f acc i = .ok (gs, j) → ∀ g ∈ gs, GOk g
 | 0, _, i, x, j, _, h => by simp [listL] at h
 | f + 1, acc, i, x, j, ha, h => by
  unfold listL at h
  split at h
  ·simp at h
  ·rename_i g0 j0 hm
   have hg := grantR_sz T P _ _ _ hm
   have ha' : ∀ g ∈ acc ++ [g0], GOk g := by
    intro g hx
    rw [List.mem_append, List.mem_singleton] at hx
    rcases hx with hx | rfl
    ·exact ha g hx
    ·exact hg
   split at h
   ·exact listL_sz T P f _ _ _ _ ha' h
   ·split at h <;> simp at h
    rw [← h.1]
    exact ha'
def SZ (r : Nat → Res Ex) : Prop := ∀ i x j, r i = .ok (x, j) → Sz x
theorem Sz.leaf (nd : Nd) (r : Option Ex) (h1 : nd.n1.size ≤ 8) (h2 : nd.n2.size ≤ 8) (h3 : ∀ g ∈ nd.gs, GOk g) : Sz ⟨nd, none, r⟩ := by
 intro p hp _
 simp only [partsE, List.mem_singleton] at hp
 subst hp
 exact ⟨h1, h2, h3⟩
theorem Sz.join {x y : Ex} (t : ByteArray) (p : Nat) (hx : Sz x) (hy : Sz y) : Sz (joinE t p x y) := by
 intro q hq hl
 simp only [joinE, partsE, List.mem_append, List.mem_singleton] at hq
 rcases hq with (hq | hq) | hq
 ·exact hx q hq hl
 ·subst hq; simp at hl
 ·exact hy q hq hl
theorem listR_sz (T : Nat → ByteArray) (P : Nat → Nat) : SZ (listR T P) := by
 intro i x j h
 unfold listR at h
 split at h
 ·simp at h
 ·rename_i hm
  have := listL_sz T P _ _ _ _ _ (by simp) hm
  simp at h
  rw [← h.1]
  exact Sz.leaf _ _ (by simp only [em_sz]; omega) (by simp only [em_sz]; omega) this
theorem ownTie_sz (T : Nat → ByteArray) (P : Nat → Nat) : SZ (ownTie T P) := by
 intro i x j h
 unfold ownTie at h
 split at h
 ·simp at h
 ·rename_i hm
  have h1 := nameR_sz T _ _ _ hm
  split at h
  ·split at h
   ·simp at h
   ·rename_i hk
    have h2 := nameR_sz T _ _ _ hk
    simp at h
    rw [← h.1]
    exact Sz.leaf _ _ h1 h2 (by simp)
  ·simp at h
   rw [← h.1]
   exact Sz.leaf _ _ h1 (by simp only [em_sz]; omega) (by simp)
theorem unitR_sz (T : Nat → ByteArray) (P : Nat → Nat) (room : Bool) (inner : Nat → Res Ex) (hi : SZ inner) : SZ (unitR T P room inner) := by
 intro i x j h
 unfold unitR at h
 split at h
 ·exact listR_sz T P _ _ _ h
 ·split at h
  ·split at h
   ·split at h
    ·simp at h
    ·rename_i hm
     have := hi _ _ _ hm
     split at h <;> simp at h
     rw [← h.1]
     exact this
   ·simp at h
  ·exact ownTie_sz T P _ _ _ h
theorem joinL_sz (T : Nat → ByteArray) (P : Nat → Nat) (l : List ByteArray) (part : Nat → Res Ex) (hp : SZ part) : ∀ f y i x j, Sz y → joinL T P l part f y i = .ok (x, j) → Sz x
 | 0, _, i, x, j, hb, h => by simp [joinL] at h
 | f + 1, y, i, x, j, hb, h => by
  unfold joinL at h
  split at h
  ·split at h
   ·simp at h
   ·rename_i hm
    exact joinL_sz T P l part hp f _ _ _ _ (hb.join _ _ (hp _ _ _ hm)) h
  ·simp at h
   rw [← h.1]
   exact hb
theorem joinR_sz (T : Nat → ByteArray) (P : Nat → Nat) (l : List ByteArray) (part : Nat → Res Ex) (hp : SZ part) : SZ (joinR T P l part) := by
 intro i x j h
 unfold joinR at h
 split at h
 ·simp at h
 ·rename_i hm
  exact joinL_sz T P l part hp _ _ _ _ _ (hp _ _ _ hm) h
theorem exprR_sz (T : Nat → ByteArray) (P : Nat → Nat) : ∀ n, SZ (exprR T P n)
 | 0 => joinR_sz T P _ _ (joinR_sz T P _ _ (unitR_sz T P false _ (fun i x j h => by simp at h)))
 | n + 1 => joinR_sz T P _ _ (joinR_sz T P _ _ (unitR_sz T P true _ (exprR_sz T P n)))
def RSz (r : Rl) : Prop := r.name.size ≤ 8 ∧ Sz r.body
theorem relR_sz (T : Nat → ByteArray) (P : Nat → Nat) (i : Nat) (r : Rl) (j : Nat) (h : relR T P i = .ok (r, j)) : RSz r := by
 unfold relR at h
 split at h
 ·simp at h
 ·rename_i hm
  have h1 := nameThenR_sz T _ _ _ _ hm
  split at h
  ·simp at h
  ·rename_i hk
   have h2 := exprR_sz T P _ _ _ _ hk
   split at h <;> simp at h
   rw [← h.1]
   exact ⟨h1, h2⟩
theorem relsL_sz (T : Nat → ByteArray) (P : Nat → Nat) : ∀ f acc i rs j, (∀ r ∈ acc, RSz r) → relsL T P f acc i = .ok (rs, j) → ∀ r ∈ rs, RSz r
 | 0, _, i, x, j, _, h => by simp [relsL] at h
 | f + 1, acc, i, x, j, ha, h => by
  unfold relsL at h
  split at h
  ·simp at h
   rw [← h.1]
   exact ha
  ·split at h
   ·simp at h
   ·split at h
    ·simp at h
    ·rename_i hm
     have h2 := relR_sz T P _ _ _ hm
     refine relsL_sz T P f _ _ _ _ ?_ h
     intro r hr
     rw [List.mem_append, List.mem_singleton] at hr
     rcases hr with hr | rfl
     ·exact ha r hr
     ·exact h2
theorem typeR_sz (T : Nat → ByteArray) (P : Nat → Nat) (i : Nat) (t : Ty) (j : Nat) (h : typeR T P i = .ok (t, j)) : SzT t := by
 unfold typeR at h
 split at h
 ·split at h
  ·simp at h
  ·rename_i hm
   have h1 := nameThenR_sz T _ _ _ _ hm
   split at h
   ·simp at h
   ·rename_i hk
    have := relsL_sz T P _ _ _ _ _ (by simp) hk
    simp at h
    rw [← h.1]
    exact ⟨h1, this⟩
 ·simp at h
theorem modelL_sz (T : Nat → ByteArray) (P : Nat → Nat) : ∀ f acc i ts j, (∀ t ∈ acc, SzT t) → modelL T P f acc i = .ok (ts, j) → ∀ t ∈ ts, SzT t
 | 0, _, i, x, j, _, h => by simp [modelL] at h
 | f + 1, acc, i, x, j, ha, h => by
  unfold modelL at h
  split at h
  ·simp at h
   rw [← h.1]
   exact ha
  ·split at h
   ·simp at h
   ·split at h
    ·simp at h
    ·rename_i hm
     have h2 := typeR_sz T P _ _ _ hm
     refine modelL_sz T P f _ _ _ _ ?_ h
     intro r hr
     rw [List.mem_append, List.mem_singleton] at hr
     rcases hr with hr | rfl
     ·exact ha r hr
     ·exact h2
theorem readP_sz (s : ByteArray) (ts : List Ty) (h : readP s = .ok ts) : ∀ t ∈ ts, SzT t := by
 unfold readP at h
 split at h
 ·simp at h
 ·split at h
  ·simp at h
  ·rename_i hm
   split at h
   ·simp at h
   ·simp at h
    rw [← h]
    exact modelL_sz _ _ _ _ _ _ _ (by simp) hm
set_option maxHeartbeats 1000000 in
set_option maxRecDepth 100000 in
theorem print_ok (s : ByteArray) (ts : List Ty) (hr : readP s = .ok ts) (w : World) (hg : Laid w) :
  Calls Tryz.prog 14 #[.string s] w fun e w' => e = .returned (.tuple #[.string (mk (modelT ts)), .int .i64 0, .int .i64 0]) ∧ Below w.heap.size w w' := by
 have HSZ := hide (readP_sz s ts hr)
 have C := hide (read_any s w)
 rw [hr] at C
 have HG := hide hg
 clear hr hg
 go_enter Tryz.func14, Tryz.ntmps14
 go_wp2_with fail
 refine (uh C).mono ?_
 rintro e w2 ⟨hb2, sv, tl, b, rfl, hmc⟩
 obtain ⟨ma, mn, mc, rfl⟩ := hmc.form
 have B2 := hide hb2
 have MB := hide (Blk.new w2 #[.slice ma mn mc] 75)
 have M2 := hide (hmc.below ((Below.refl _ _).alloc (Nat.le_refl _) (.cells #[.slice ma mn mc] 75)))
 have B2x := hide (hb2.alloc hb2.size (.cells #[.slice ma mn mc] 75))
 clear hb2 hmc C
 go_wp2_with fail
 refine (told_nil _).mono ?_
 rintro e w3 ⟨rfl, hb3⟩
 have B3 := hide ((uh B2x).trans (hb3.mono (uh B2x).size))
 have k0 : w3.cell? ⟨w2.heap.size, 0, none⟩ = some (.slice ma mn mc) := ((uh MB).below hb3).cell rfl
 have M3 := hide ((uh M2).below hb3)
 clear hb3
 go_wp2_with fail
 refine (string_any b _ ts tl _ (uh M3) (uh HSZ)).mono ?_
 rintro e w4 ⟨rfl, hb4⟩
 have B4 := hide ((uh B3).trans (hb4.mono (uh B3).size))
 clear hb4
 go_wp2
 go_ret3
 exact ⟨rfl, uh B4⟩
set_option maxHeartbeats 1000000 in
set_option maxRecDepth 100000 in
theorem print_bad (s : ByteArray) (p c : Nat) (hr : readP s = .error (some p, c)) (hc : c ≠ 0) (w : World) (hg : Laid w) :
  Calls Tryz.prog 14 #[.string s] w fun e w' => e = .returned (.tuple #[.string ⟨#[]⟩, .int .i64 c, .int .i64 p]) ∧ Below w.heap.size w w' := by
 have C := hide (read_any s w)
 rw [hr] at C
 have HG := hide hg
 have hl := hg.lt
 have hc' : ((c : Int) == 0) = false := by rw [beq_eq_false_iff_ne]; omega
 clear hr hg
 go_enter Tryz.func14, Tryz.ntmps14
 go_wp2_with fail
 refine (uh C).mono ?_
 rintro e w2 ⟨hb2, rfl⟩
 have B2x := hide (hb2.alloc hb2.size (.cells #[.slice none 0 0] 75))
 have L2 := hide ((uh HG).below (uh B2x) hl)
 clear hb2 C
 unfold errR placed errv
 go_wp2_with fail
 refine (told_placed p c _ (uh L2)).mono ?_
 rintro e w3 ⟨rfl, hb3⟩
 have B3 := hide ((uh B2x).trans (hb3.mono (uh B2x).size))
 clear hb3
 go_wp2
 go_ret3
 exact ⟨rfl, uh B3⟩
/-! P5: both sides write the same. -/
theorem lst_cat (a b : ByteArray) : lst (a ++ b) = lst a ++ lst b := by
 show (a ++ b).data.toList = a.data.toList ++ b.data.toList
 rw [ByteArray.data_append, Array.toList_append]
theorem lst_inj {a b : ByteArray} (h : lst a = lst b) : a = b := by rw [← mk_lst a, ← mk_lst b, h]
theorem grW_eq (s : ByteArray) (i : Nat) (g : Gr) (h : GrOK g) : lst (grW s i g) = lst (commaW s i) ++ lst (grantW g) := by
 unfold grW hashW grantW
 rcases h with ⟨h1, h2⟩ | h1 | ⟨h1, h2⟩
 ·have e : relOf g = em := by unfold relOf; rw [if_neg (by omega), h2]
  rw [e, (eqs_iff em em).2 rfl, if_neg (show ¬ g.reach = 1 by omega), if_neg (show ¬ g.reach = 2 by omega)]
  simp only [Bool.true_or, if_true, lst_cat, List.append_assoc]
  simp [em, lst]
 ·have e : relOf g = sg 42 := by unfold relOf; rw [if_pos h1]
  rw [e, (eqs_iff (sg 42) (sg 42)).2 rfl, if_pos h1]
  simp only [Bool.or_true, if_true, lst_cat, List.append_assoc]
 ·have e1 : eqs g.rel em = false := by
   cases e : eqs g.rel em
   ·rfl
   ·rw [(eqs_iff _ _).1 e, isNm_em] at h2; cases h2
  have e2 : eqs g.rel (sg 42) = false := by
   cases e : eqs g.rel (sg 42)
   ·rfl
   ·rw [(eqs_iff _ _).1 e, isNm_star] at h2; cases h2
  rw [relOf_two h1, e1, e2, if_neg (show ¬ g.reach = 1 by omega), if_pos h1]
  simp only [Bool.or_self, Bool.false_eq_true, if_false, lst_cat, List.append_assoc]
theorem grsW_pos : ∀ (gs : List Gr) (i : Nat) (s : ByteArray), 0 < i → (∀ g ∈ gs, GrOK g) → lst (grsW gs i s) = lst s ++ gs.flatMap fun g => [44, 32] ++ lst (grantW g)
 | [], i, s, _, _ => by simp [grsW]
 | g :: gs, i, s, hi, h => by
  rw [grsW, grsW_pos gs (i + 1) _ (by omega) (fun g hg => h g (by simp [hg])), grW_eq s i g (h g (by simp)), commaW, if_pos hi, lst_cat, List.flatMap_cons]
  simp [sComma, lst]
/-- A part's writing, by what it stands for. -/
def leastN (u d : Bool) : Nat := if d then 2 else if u then 1 else 0
theorem written_fold3 : ∀ (rs : List (ByteArray × Nat × Ex)) (x : Ex), (∀ r ∈ rs, r.1 = sg 124) → lst (writtenE (foldE x rs)) = lst (writtenE x) ++ rs.flatMap fun r => lst sEither ++ lst (writtenE r.2.2)
 | [], x, _ => by simp [foldE]
 | (t, p, y) :: rs, x, h => by
  have e : t = sg 124 := h (t, p, y) (by simp)
  rw [foldE, written_fold3 rs _ (fun r hr => h r (by simp [hr]))]
  simp only [joinE, writtenE, e, show kindOf (sg 124) = 3 from by decide, if_true, lst_cat, List.flatMap_cons, List.append_assoc]
def sgnW (t : ByteArray) : ByteArray := if kindOf t = 4 then sBoth else sLess
theorem written_fold4 : ∀ (rs : List (ByteArray × Nat × Ex)) (x : Ex), (∀ r ∈ rs, r.1 = sg 38 ∨ r.1 = sg 45) → rs ≠ [] → lst (writtenE (foldE x rs)) = lst (heldB x (writtenE x) 1) ++ rs.flatMap fun r => lst (sgnW r.1) ++ lst (heldB r.2.2 (writtenE r.2.2) 2)
 | [], x, _, h => absurd rfl h
 | [(t, p, y)], x, h, _ => by
  have e : t = sg 38 ∨ t = sg 45 := h (t, p, y) (by simp)
  have k : ¬ kindOf t = 3 := by rcases e with rfl | rfl <;> decide
  simp only [foldE, joinE, writtenE, if_neg k, lst_cat, List.flatMap_cons, List.flatMap_nil, List.append_nil, List.append_assoc, sgnW]
 | (t, p, y) :: r2 :: rs, x, h, _ => by
  have e : t = sg 38 ∨ t = sg 45 := h (t, p, y) (by simp)
  have k : ¬ kindOf t = 3 := by rcases e with rfl | rfl <;> decide
  rw [foldE, written_fold4 (r2 :: rs) _ (fun r hr => h r (by simp [hr])) (by simp), List.flatMap_cons (x := (t, p, y))]
  have hb : heldB (joinE t p x y) (writtenE (joinE t p x y)) 1 = writtenE (joinE t p x y) := by
   unfold heldB
   rw [if_neg]
   simp [bindN, joinE, k]
  rw [hb]
  simp only [joinE, writtenE, if_neg k, lst_cat, List.append_assoc, sgnW]
/-! P5: what the document's model writes of a part is what the program writes of the expression. -/
def wrF (pl : List PV) : Nat → Nat → Bool → Bool → ByteArray
 | 0, _, _, _ => em
 | f + 1, n, u, d => match pl[n]? with
  | none => em
  | some p => if p.kind = 1 then (sg 91 ++ grsW p.gs 0 em) ++ sg 93 else if p.kind = 2 then p.nr else if p.kind = 3 then (p.nb ++ sg 46) ++ p.nr else if p.kind = 4 then brW d (chW (wrF pl f) p.ps p.sg 0 em) else brW u (someW (wrF pl f) p.ps 0 em)
def wof (y : Ex) (u d : Bool) : ByteArray := brW (match y.l with
 | none => false
 | some _ => if y.nd.kind = 3 then u else d) (writtenE y)
theorem wof_two (y : Ex) : wof y true true = heldB y (writtenE y) 2 := by
 unfold wof heldB brW bindN
 cases y.l with
 | none => simp
 | some z => by_cases h : y.nd.kind = 3 <;> simp [h]
theorem wof_one (y : Ex) : wof y true false = heldB y (writtenE y) 1 := by
 unfold wof heldB brW bindN
 cases y.l with
 | none => simp
 | some z => by_cases h : y.nd.kind = 3 <;> simp [h]
theorem wof_zero (y : Ex) : wof y false false = writtenE y := by
 unfold wof brW
 cases y.l with
 | none => simp
 | some z => by_cases h : y.nd.kind = 3 <;> simp [h]
theorem list_eq (gs : List Gr) (h : ∀ g ∈ gs, GrOK g) : (sg 91 ++ grsW gs 0 em) ++ sg 93 = listW gs := by
 unfold listW
 congr 2
 refine lst_inj ?_
 rw [lst_mk]
 cases gs with
 | nil => rfl
 | cons g gs =>
  rw [grsW, grsW_pos gs 1 _ (by omega) (fun g hg => h g (by simp [hg])), grW_eq em 0 g (h g (by simp))]
  unfold joinG
  rw [List.map_cons, List.map_cons, Lib.join_cons]
  unfold Lib.joinTail commaW
  simp only [Nat.lt_irrefl, if_false, List.map_map, List.flatMap]
  simp [em, lst, Function.comp_def]
theorem some_pos {R : Nat → Ex → Prop} (W : Nat → Bool → Bool → ByteArray) (hW : ∀ n y, R n y → W n false false = writtenE y) : ∀ (rs : List (ByteArray × Nat × Ex)) (ns : List Nat) (k : Nat) (s : ByteArray), 0 < k → All2 R ns (rs.map fun r => r.2.2) → lst (someW W ns k s) = lst s ++ rs.flatMap fun r => lst sEither ++ lst (writtenE r.2.2)
 | [], [], k, s, _, _ => by simp [someW]
 | r :: rs, n :: ns, k, s, hk, h => by
  have e : W n false false = writtenE r.2.2 := hW n _ h.1
  rw [someW, some_pos W hW rs ns (k + 1) _ (by omega) h.2, lst_cat, barW, if_pos hk, lst_cat, e, List.flatMap_cons]
  simp only [List.append_assoc]
  rfl
 | [], _ :: _, _, _, _, h => h.elim
 | _ :: _, [], _, _, _, h => h.elim
theorem sign_eq (t : ByteArray) (h : t = sg 38 ∨ t = sg 45) : lst (sg 32) ++ (lst t ++ lst (sg 32)) = lst (sgnW t) := by
 rcases h with rfl | rfl <;> rfl
theorem chain_pos {R : Nat → Ex → Prop} (W : Nat → Bool → Bool → ByteArray) (hW : ∀ n y, R n y → W n true true = heldB y (writtenE y) 2) : ∀ (rs : List (ByteArray × Nat × Ex)) (ns : List Nat) (k : Nat) (s : ByteArray), 0 < k → (∀ r ∈ rs, r.1 = sg 38 ∨ r.1 = sg 45) → All2 R ns (rs.map fun r => r.2.2) → lst (chW W ns (rs.map fun r => ⟨lst r.1, r.2.1, false⟩) k s) = lst s ++ rs.flatMap fun r => lst (sgnW r.1) ++ lst (heldB r.2.2 (writtenE r.2.2) 2)
 | [], [], k, s, _, _, _ => by simp [chW]
 | r :: rs, n :: ns, k, s, hk, hs, h => by
  have e : W n true true = heldB r.2.2 (writtenE r.2.2) 2 := hW n _ h.1
  rw [List.map_cons, chW, chain_pos W hW rs ns (k + 1) _ (by omega) (fun r hr => hs r (by simp [hr])) h.2, lst_cat, signW, if_pos hk, decide_eq_true hk, e, List.flatMap_cons, ← sign_eq r.1 (hs r (by simp))]
  simp only [lst_cat, List.append_assoc, mk_lst]
 | [], _ :: _, _, _, _, _, h => h.elim
 | _ :: _, [], _, _, _, _, h => h.elim
/-! P5: 'written' of the document, whole. -/
/-- An expression that can be written. -/
structure Wri (y : Ex) : Prop where
 z : Sz y
 g : ∀ e ∈ leavesE y, ∀ g ∈ gsOf e, GrOK g
 p : (partsE y).length ≤ 1000
 a : (allG y).length ≤ 1000
theorem partsE_foldmem : ∀ (rs : List (ByteArray × Nat × Ex)) (x : Ex), (∀ p ∈ partsE x, p ∈ partsE (foldE x rs)) ∧ ∀ r ∈ rs, ∀ p ∈ partsE r.2.2, p ∈ partsE (foldE x rs)
 | [], x => ⟨fun p hp => hp, by simp⟩
 | (t, q, y) :: rs, x => by
  obtain ⟨h1, h2⟩ := partsE_foldmem rs (joinE t q x y)
  refine ⟨fun p hp => h1 p (by simp [joinE, partsE, hp]), fun r hr p hp => ?_⟩
  rcases List.mem_cons.1 hr with rfl | hr
  ·exact h1 p (by simp [joinE, partsE, hp])
  ·exact h2 r hr p hp
theorem allG_fold : ∀ (rs : List (ByteArray × Nat × Ex)) (x : Ex), (allG (foldE x rs)).length = (allG x).length + (rs.map fun r => (allG r.2.2).length).sum
 | [], x => by simp [foldE]
 | (t, q, y) :: rs, x => by
  rw [foldE, allG_fold rs]
  simp only [allG_leaves, joinE, leavesE, List.flatMap_append, List.length_append, List.map_cons, List.sum_cons]
  omega
theorem sum_memr (z : ByteArray × Nat × Ex → Nat) : ∀ (l : List (ByteArray × Nat × Ex)), ∀ m ∈ l, z m ≤ (l.map z).sum
 | a :: l, m, hm => by
  simp only [List.map_cons, List.sum_cons]
  rcases List.mem_cons.1 hm with rfl | hm
  ·omega
  ·have := sum_memr z l m hm; omega
theorem Wri.kids {x : Ex} {rs : List (ByteArray × Nat × Ex)} (h : Wri (foldE x rs)) : Wri x ∧ ∀ r ∈ rs, Wri r.2.2 := by
 obtain ⟨h1, h2⟩ := partsE_foldmem rs x
 have h3 := h.p
 have h4 := h.a
 have h5 := h.g
 rw [parts_fold] at h3
 rw [allG_fold] at h4
 rw [leavesE_fold] at h5
 refine ⟨⟨fun p hp => h.z p (h1 p hp), fun e he => h5 e (by simp [he]), by omega, by omega⟩, fun r hr => ⟨fun p hp => h.z p (h2 r hr p hp), fun e he => h5 e ?_, ?_, ?_⟩⟩
 ·rw [List.mem_append, List.mem_flatMap]
  exact .inr ⟨r.2.2, List.mem_map.2 ⟨r, hr, rfl⟩, he⟩
 ·have := sum_memr (fun r => (partsE r.2.2).length + 1) rs r hr
  omega
 ·have := sum_memr (fun r => (allG r.2.2).length) rs r hr
  omega
theorem all2_with {R : Nat → Ex → Prop} {G : Ex → Prop} : ∀ (ns : List Nat) (rs : List (ByteArray × Nat × Ex)), All2 R ns (rs.map fun r => r.2.2) → (∀ r ∈ rs, G r.2.2) → All2 (fun n y => R n y ∧ G y) ns (rs.map fun r => r.2.2)
 | [], [], _, _ => trivial
 | n :: ns, r :: rs, h, k => ⟨⟨h.1, k r (by simp)⟩, all2_with ns rs h.2 (fun r hr => k r (by simp [hr]))⟩
 | [], _ :: _, h, _ => h.elim
 | _ :: _, [], h, _ => h.elim
theorem fold_node : ∀ (rs : List (ByteArray × Nat × Ex)) (x : Ex) (K : Nat), rs ≠ [] → (∀ r ∈ rs, (kindOf r.1 = 3) = (K = 3)) → (foldE x rs).l.isSome = true ∧ ((foldE x rs).nd.kind = 3) = (K = 3)
 | [], x, K, h, _ => absurd rfl h
 | [(t, q, y)], x, K, _, h => by
  have := h (t, q, y) (by simp)
  exact ⟨rfl, this⟩
 | (t, q, y) :: r2 :: rs, x, K, _, h => fold_node (r2 :: rs) (joinE t q x y) K (by simp) (fun r hr => h r (by simp [hr]))
theorem wr_some {pl : List PV} {f : Nat} (ih : ∀ n y, Tr pl f n y → Wri y → ∀ u d, wrF pl f n u d = wof y u d) (n0 : Nat) (ns : List Nat) (x0 : Ex) (rs : List (ByteArray × Nat × Ex)) (h4 : Tr pl f n0 x0) (h5 : All2 (Tr pl f) ns (rs.map fun r => r.2.2)) (h6 : ∀ r ∈ rs, r.1 = sg 124) (hw : Wri (foldE x0 rs)) : someW (wrF pl f) (n0 :: ns) 0 em = writtenE (foldE x0 rs) := by
 obtain ⟨w0, wr⟩ := hw.kids
 refine lst_inj ?_
 rw [someW, some_pos (R := fun n y => Tr pl f n y ∧ Wri y) (wrF pl f) (fun n y h => by rw [ih n y h.1 h.2, wof_zero]) rs ns 1 _ (by omega) (all2_with ns rs h5 wr), written_fold3 rs x0 h6, lst_cat, ih n0 x0 h4 w0, wof_zero]
 rfl
theorem wr_chain {pl : List PV} {f : Nat} (ih : ∀ n y, Tr pl f n y → Wri y → ∀ u d, wrF pl f n u d = wof y u d) (n0 : Nat) (ns : List Nat) (x0 : Ex) (rs : List (ByteArray × Nat × Ex)) (h4 : Tr pl f n0 x0) (h5 : All2 (Tr pl f) ns (rs.map fun r => r.2.2)) (h6 : ∀ r ∈ rs, r.1 = sg 38 ∨ r.1 = sg 45) (hne : rs ≠ []) (hw : Wri (foldE x0 rs)) : chW (wrF pl f) (n0 :: ns) (⟨[], 0, false⟩ :: rs.map fun r => ⟨lst r.1, r.2.1, false⟩) 0 em = writtenE (foldE x0 rs) := by
 obtain ⟨w0, wr⟩ := hw.kids
 refine lst_inj ?_
 rw [chW, chain_pos (R := fun n y => Tr pl f n y ∧ Wri y) (wrF pl f) (fun n y h => by rw [ih n y h.1 h.2, wof_two]) rs ns 1 _ (by omega) h6 (all2_with ns rs h5 wr), written_fold4 rs x0 h6 hne, lst_cat, ih n0 x0 h4 w0, show decide (0 < 0) = false from rfl, wof_one]
 rfl
theorem wr_eq (pl : List PV) : ∀ (f n : Nat) (y : Ex), Tr pl f n y → Wri y → ∀ u d, wrF pl f n u d = wof y u d
 | 0, _, _, h, _, _, _ => h.elim
 | f + 1, n, y, ⟨p, hp, h⟩, hw, u, d => by
  rw [wrF, hp]
  simp only
  rcases h with ⟨h1, hn, rfl⟩ | ⟨h1, h0, hn, rfl⟩ | ⟨h1, h0, hn, rfl⟩ | ⟨h1, h0, n0, ns, x0, rs, h3, h4, h5, h6, h7, rfl⟩ | ⟨h1, h0, h0', n0, ns, x0, rs, h3, h4, h5, h6, h7, rfl⟩
  ·rw [if_pos h1, list_eq p.gs (fun g hg => hw.g ⟨⟨0, p.pa, em, 0, em, 0, p.gs⟩, none, none⟩ (by simp [leavesE]) g (by simpa [gsOf] using hg))]
   rfl
  ·rw [if_neg (by omega), if_pos h1]
   rfl
  ·rw [if_neg (by omega), if_neg (by omega), if_pos h1]
   rfl
  ·rw [if_neg (by omega), if_neg (by omega), if_neg (by omega), if_pos h1, h3, h6, wr_chain (wr_eq pl f) n0 ns x0 rs h4 h5 h7.1 h7.2 hw]
   obtain ⟨e1, e2⟩ := fold_node rs x0 4 h7.2 (fun r hr => by rcases h7.1 r hr with e | e <;> rw [e] <;> decide)
   unfold wof
   cases hl : (foldE x0 rs).l with
   | none => rw [hl] at e1; simp at e1
   | some z =>
    have : ¬ (foldE x0 rs).nd.kind = 3 := by rw [e2]; decide
    simp only [if_neg this]
  ·rw [if_neg (by omega), if_neg (by omega), if_neg (by omega), if_neg (by omega), h3, wr_some (wr_eq pl f) n0 ns x0 rs h4 h5 h6 hw]
   obtain ⟨e1, e2⟩ := fold_node rs x0 3 h7 (fun r hr => by rw [h6 r hr]; decide)
   unfold wof
   cases hl : (foldE x0 rs).l with
   | none => rw [hl] at e1; simp at e1
   | some z =>
    have : (foldE x0 rs).nd.kind = 3 := by rw [e2]
    simp only [if_pos this]
theorem Wri.size {y : Ex} (h : Wri y) : (writtenE y).size ≤ 40000 := by
 have := writtenE_le y h.z
 have := h.p
 have := h.a
 omega
/-- P5: 'written' of the document at every part that stands for an expression. -/
theorem rwritten_any (pl : List PV) : ∀ (f n : Nat) (y : Ex), Tr pl f n y → Wri y → WrN pl n (wrF pl f n)
 | 0, _, _, h, _ => h.elim
 | f + 1, n, y, ⟨p, hp, h⟩, hw => by
  have hsz := hw.size
  rcases h with ⟨h1, hn, rfl⟩ | ⟨h1, h0, hn, rfl⟩ | ⟨h1, h0, hn, rfl⟩ | ⟨h1, h0, n0, ns, x0, rs, h3, h4, h5, h6, h7, rfl⟩ | ⟨h1, h0, h0', n0, ns, x0, rs, h3, h4, h5, h6, h7, rfl⟩
  ·have e : wrF pl (f + 1) n = fun _ _ => (sg 91 ++ grsW p.gs 0 em) ++ sg 93 := by
    funext u d
    rw [wrF, hp]
    simp only [if_pos h1]
   have hg : ∀ g ∈ p.gs, GrOK g := fun g hg => hw.g ⟨⟨0, p.pa, em, 0, em, 0, p.gs⟩, none, none⟩ (by simp [leavesE]) g (by simpa [gsOf] using hg)
   have hl := hw.a
   simp only [allG_leaves, leavesE, List.flatMap_cons, List.flatMap_nil, List.append_nil, gsOf, if_true] at hl
   have hs : (writtenE ⟨⟨0, p.pa, em, 0, em, 0, p.gs⟩, none, none⟩) = (sg 91 ++ grsW p.gs 0 em) ++ sg 93 := by rw [list_eq p.gs hg]; rfl
   rw [hs, bsize_app, bsize_app] at hsz
   rw [e]
   exact rwritten_list pl n p hp h1 (by omega) (by omega)
  ·have e : wrF pl (f + 1) n = fun _ _ => p.nr := by
    funext u d
    rw [wrF, hp]
    simp only [if_neg (show ¬ p.kind = 1 by omega), if_pos h1]
   rw [e]
   exact rwritten_own pl n p hp h1
  ·have e : wrF pl (f + 1) n = fun _ _ => (p.nb ++ sg 46) ++ p.nr := by
    funext u d
    rw [wrF, hp]
    simp only [if_neg (show ¬ p.kind = 1 by omega), if_neg (show ¬ p.kind = 2 by omega), if_pos h1]
   have hs : (writtenE ⟨⟨2, p.pa, p.nb, p.pa, p.nr, p.pr, []⟩, none, none⟩) = (p.nb ++ sg 46) ++ p.nr := rfl
   rw [hs, bsize_app, bsize_app] at hsz
   rw [e]
   exact rwritten_tie pl n p hp h1 (by omega)
  ·have e : wrF pl (f + 1) n = fun _ d => brW d (chW (wrF pl f) p.ps p.sg 0 em) := by
    funext u d
    rw [wrF, hp]
    simp only [if_neg (show ¬ p.kind = 1 by omega), if_neg (show ¬ p.kind = 2 by omega), if_neg (show ¬ p.kind = 3 by omega), if_pos h1]
   have hq : chW (wrF pl f) p.ps p.sg 0 em = writtenE (foldE x0 rs) := by rw [h3, h6]; exact wr_chain (wr_eq pl f) n0 ns x0 rs h4 h5 h7.1 h7.2 hw
   have hpl := hw.p
   have hlen := All2.len _ _ h5
   have hsum := sum_all2 (R := Tr pl f) (fun _ => 0) (fun n x h => Nat.zero_le _) ns rs h5
   rw [parts_fold] at hpl
   obtain ⟨w0, wr⟩ := hw.kids
   have hpos : 0 < (partsE x0).length := by
    have := szF_parts pl f _ _ h4
    cases f with
    | zero => exact h4.elim
    | succ g =>
     obtain ⟨q, hq', _⟩ := id h4
     rw [szF, hq'] at this
     simp only at this
     omega
   rw [List.length_map] at hlen
   rw [e]
   refine rwritten_chain pl n p hp h1 (wrF pl f) (fun m hm => ?_) (by rw [hq]; omega) (by rw [h3, h6]; simp [hlen]) (by rw [h3, List.length_cons]; omega)
   rw [h3] at hm
   rcases List.mem_cons.1 hm with rfl | hm
   ·exact rwritten_any pl f _ x0 h4 w0
   ·obtain ⟨z, _, hz⟩ := All2.mem _ _ (all2_with ns rs h5 wr) m hm
    exact rwritten_any pl f _ z hz.1 hz.2
  ·have e : wrF pl (f + 1) n = fun u _ => brW u (someW (wrF pl f) p.ps 0 em) := by
    funext u d
    rw [wrF, hp]
    simp only [if_neg (show ¬ p.kind = 1 by omega), if_neg (show ¬ p.kind = 2 by omega), if_neg (show ¬ p.kind = 3 by omega), if_neg (show ¬ p.kind = 4 by omega)]
   have hq : someW (wrF pl f) p.ps 0 em = writtenE (foldE x0 rs) := by rw [h3]; exact wr_some (wr_eq pl f) n0 ns x0 rs h4 h5 h6 hw
   have hpl := hw.p
   have hlen := All2.len _ _ h5
   have hsum := sum_all2 (R := Tr pl f) (fun _ => 0) (fun n x h => Nat.zero_le _) ns rs h5
   rw [parts_fold] at hpl
   obtain ⟨w0, wr⟩ := hw.kids
   have hpos : 0 < (partsE x0).length := by
    have := szF_parts pl f _ _ h4
    cases f with
    | zero => exact h4.elim
    | succ g =>
     obtain ⟨q, hq', _⟩ := id h4
     rw [szF, hq'] at this
     simp only at this
     omega
   rw [List.length_map] at hlen
   rw [e]
   refine rwritten_some pl n p hp h1 (wrF pl f) (fun m hm => ?_) (by rw [hq]; omega) (by rw [h3, List.length_cons]; omega)
   rw [h3] at hm
   rcases List.mem_cons.1 hm with rfl | hm
   ·exact rwritten_any pl f _ x0 h4 w0
   ·obtain ⟨z, _, hz⟩ := All2.mem _ _ (all2_with ns rs h5 wr) m hm
    exact rwritten_any pl f _ z hz.1 hz.2
end Go.Proofs.YtlbpnlngckgcbaaGreatDoor
