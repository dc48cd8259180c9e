import Derived.Test.YtlbpnlngckgcbaaGreatDoorLW
import Derived.Shelf.Strings.BuilderK
namespace Go.Proofs.YtlbpnlngckgcbaaGreatDoor
open Go.RowKit Go.PlainAid
set_option linter.unusedSimpArgs false
set_option linter.unusedVariables false

theorem writeK (b : Nat) (l : List UInt8) (s : ByteArray) (w : World) (h : Lib.IsBuilderF 153 5 b b (Lib.byteCells l) w) (hlen : l.length + s.size ≤ 140737488355328) (hBw : b ≤ w.heap.size) :
    Calls Tryz.prog 77 #[.pointer (some ⟨b, 0, none⟩), .string s] w fun e w' => e = .returned (.tuple #[.int .i64 s.size, .nilIface]) ∧ Lib.IsBuilderF 153 5 b b (Lib.byteCells (l ++ lst s)) w' ∧ Below b w w' ∧ Lib.OthersKept 5 (some b) w w' := by
  refine (Any.Builder_WriteString_k { Tryz.lays156 with } Tryz.Builder_Extra_156 b b (Lib.byteCells l) s w h (by rw [Lib.byteCells_length]; exact hlen) hBw).mono ?_
  rintro e w' ⟨rfl, h1, h2, h3⟩
  refine ⟨rfl, .inr ?_, h2, h3⟩
  rw [Lib.byteCells_append]
  exact h1
theorem bf_below {T e : TypeId} {B b : Nat} {bs : List Value} {w w' : World} (h : Lib.IsBuilderF T e B b bs w) (k : Below w.heap.size w w') : Lib.IsBuilderF T e B b bs w' := by
  have key : ∀ p, Lib.BuilderAtF T e B b p bs w → Lib.BuilderAtF T e B b p bs w' := by
    rintro p ⟨h1, v, h2, h3, h4⟩
    refine ⟨h1, v, (k.block b (lt_of_some h2)).trans h2, ?_, h4⟩
    obtain ⟨h5, h6 | ⟨g, cap, cur, fz, h7, h8, h9, hr⟩⟩ := h3
    · exact ⟨h5, .inl h6⟩
    · exact ⟨h5, .inr ⟨g, cap, cur, fz, h7, h8, (k.block g (lt_of_some h9)).trans h9, hr⟩⟩
  rcases h with h | h
  · exact .inl (key _ h)
  · exact .inr (key _ h)
theorem Blk.kept {w w' : World} {b g : Nat} {cs : Array Value} {T e : TypeId} (h : Blk w g cs T) (k : Lib.OthersKept e (some b) w w') (hg : g ≠ b) (hT : T ≠ e) : Blk w' g cs T :=
  k g _ h (fun e' => hg (Option.some.inj e')) (fun c fz e' => hT (by simp only [Obj.cells.injEq] at e'; exact e'.2.1))

def sTab : ByteArray := ⟨#[9]⟩
def sColon : ByteArray := ⟨#[58, 32]⟩
def sSemi : ByteArray := ⟨#[59, 10]⟩
def sTypeB : ByteArray := ⟨#[116, 121, 112, 101, 32]⟩
def sOpen : ByteArray := ⟨#[32, 123, 10]⟩
def sClose : ByteArray := ⟨#[125, 10]⟩
/-- P5: what is written of a relation, of a type, of a model. -/
def relW (r : Rl) : ByteArray := (((sTab ++ r.name) ++ sColon) ++ writtenE r.body) ++ sSemi
def headW (t : Ty) : ByteArray := (sTypeB ++ t.name) ++ sOpen
def relsT (rs : List Rl) : List UInt8 := rs.flatMap fun r => lst (relW r)
def typeT (t : Ty) : List UInt8 := lst (headW t) ++ relsT t.rels ++ lst sClose
def modelT (ts : List Ty) : List UInt8 := ts.flatMap typeT
/-- All names of a model are short. -/
def SzT (t : Ty) : Prop := t.name.size ≤ 8 ∧ ∀ r ∈ t.rels, r.name.size ≤ 8 ∧ Sz r.body
theorem lst_len (s : ByteArray) : (lst s).length = s.size := rfl

set_option maxHeartbeats 4000000 in
set_option maxRecDepth 100000 in
theorem string_any (b : Nat) (sv : Value) (ts : List Ty) (tl : List (Ty × Value)) (w : World) (h : MC b w sv ts tl) (hz : ∀ t ∈ ts, SzT t) :
    Calls Tryz.prog 42 #[.agg #[sv]] w fun e w' => e = .returned (.string (mk (modelT ts))) ∧ Below w.heap.size w w' := by
  obtain ⟨ma, mn, mc, rfl⟩ := h.form
  have hmn : mn = tl.length := by
    obtain ⟨a', c', e⟩ := own_form h.row
    simp only [Value.slice.injEq, List.length_map] at e
    exact e.2.1
  have hm1 : mn ≤ tl.length := by omega
  have hm2 : tl.length ≤ mn := by omega
  clear hmn
  have htl : tl.length ≤ 1000 := by have := h.llen; simpa using this
  have H := hide h
  have HZ := hide hz
  have W0 : Below w.heap.size w (w.alloc (.cells #[.slice ma mn mc] 75)) := (Below.refl _ _).alloc (Nat.le_refl _) _
  have HF := hide (Lib.IsBuilderF.of (Lib.fresh_isBuilder 153 5 (w.alloc (.cells #[.slice ma mn mc] 75))))
  have HW0 := hide (W0.alloc W0.size (.cells #[.pointer none, .slice none 0 0] 153))
  clear h hz W0
  go_enter Tryz.func42, Tryz.ntmps42
  go_wp2_with fail
  go_loopw [11] (fun u wr => ∃ (k : Nat) (bs : List UInt8), k ≤ mn ∧ u = .int .i64 k ∧ Below w.heap.size w wr ∧ w.heap.size + 1 < wr.heap.size ∧ bs.length ≤ k * 50000000 ∧ Hid (bs = (ts.take k).flatMap typeT ∧ Lib.IsBuilderF 153 5 (w.heap.size + 1) (w.heap.size + 1) (Lib.byteCells bs) wr)) (fun u _ => mn - (intOf u).toNat)
  case atStart => exact ⟨0, [], by omega, rfl, unhide HW0, by simp, by simp, hide ⟨rfl, by simpa [Lib.byteCells] using unhide HF⟩⟩
  case round =>
    obtain ⟨k, bs, hk, rfl, hb, hsz, hbl, HQ⟩ := hrel
    have HB := hide hb
    by_cases hlt : k < mn
    · have hlt' : k < tl.length := by omega
      have hk' : ts[k]? = some tl[k].1 := by rw [← (unhide H).fst]; simp [List.getElem?_eq_getElem hlt']
      obtain ⟨g, c', e1, k0, k1, k2⟩ := ((unhide H).row.below hb).cell k (by simpa using hlt')
      simp only [Value.slice.injEq] at e1
      obtain ⟨rfl, hxx, rfl⟩ := e1
      clear hxx
      simp only [List.getElem_map, t3] at k0 k1 k2
      obtain ⟨rl, hrc⟩ := (unhide H).rels tl[k] (List.getElem_mem hlt')
      generalize tl[k] = p at *
      obtain ⟨t, tv⟩ := p
      simp only at k0 k1 k2 hrc hk'
      obtain ⟨va, vn, vc, rfl⟩ := hrc.form
      have hvn : vn = rl.length := by
        obtain ⟨a', c', e⟩ := own_form hrc.row
        simp only [Value.slice.injEq, List.length_map] at e
        exact e.2.1
      have hv1 : vn ≤ rl.length := by omega
      have hv2 : rl.length ≤ vn := by omega
      clear hvn
      have hrl : rl.length ≤ 1000 := by have := hrc.llen; simpa using this
      have hzt := unhide HZ t (List.mem_of_getElem? hk')
      have hz1 := hzt.1
      have HZR := hide hzt.2
      have HRC := hide hrc
      have HK' := hide hk'
      have bx : Below wr.heap.size wr (wr.alloc (.cells #[.int .i64 t.place, .string t.name, .slice va vn vc] 110)) := (Below.refl _ _).alloc (Nat.le_refl _) _
      have HBX := hide ((unhide HB).trans (bx.mono (by omega)))
      have TB := hide (Blk.new wr #[.int .i64 t.place, .string t.name, .slice va vn vc] 110)
      have hs1 : (headW t).size ≤ 16 := by
        have e1 : sTypeB.size = 5 := rfl
        have e2 : sOpen.size = 3 := rfl
        unfold headW
        rw [size_app, size_app]
        omega
      have C := hide (writeK (w.heap.size + 1) bs (headW t) _ (bf_below (unhide HQ).2 bx) (by omega) (by simp; omega))
      unfold headW sTypeB sOpen at C
      have hkn : (k : Int) < (mn : Int) := by omega
      clear hb hrc bx hzt hk' hs1
      go_wp2_with fail
      refine (unhide C).mono ?_
      rintro e w3 ⟨rfl, hf3, hb3, hk3⟩
      have TB3 := (unhide TB).kept hk3 (by omega) (by decide)
      obtain ⟨t0, t1, t2⟩ := TB3.three
      have tl3 := TB3.lt
      have B3 := hide ((unhide HBX).trans (hb3.mono (by omega)))
      have F3 := hide (show Lib.IsBuilderF 153 5 (w.heap.size + 1) (w.heap.size + 1) (Lib.byteCells (bs ++ lst (headW t))) w3 from hf3)
      have sz3 := hb3.size
      clear hf3 hb3 hk3 TB3 C
      have szx : w.heap.size + 1 < w3.heap.size := by simp at sz3; omega
      go_wp2_with fail
      go_loopw [24] (fun u wi => ∃ (j : Nat) (bt : List UInt8), j ≤ vn ∧ u = .int .i64 j ∧ Below w.heap.size w wi ∧ w.heap.size + 1 < wi.heap.size ∧ bt.length ≤ k * 50000000 + 16 + j * 40000 ∧ Hid (bt = bs ++ lst (headW t) ++ relsT (t.rels.take j) ∧ Lib.IsBuilderF 153 5 (w.heap.size + 1) (w.heap.size + 1) (Lib.byteCells bt) wi)) (fun u _ => vn - (intOf u).toNat)
      case atStart => exact ⟨0, bs ++ lst (headW t), by omega, rfl, unhide B3, szx, by
        have e1 : sTypeB.size = 5 := rfl
        have e2 : sOpen.size = 3 := rfl
        rw [List.length_append, lst_len]
        unfold headW
        rw [size_app, size_app]
        omega, hide ⟨by simp [relsT], unhide F3⟩⟩
      case round =>
        obtain ⟨j, bt, hj, rfl, hb, hszi, hbl', HQ'⟩ := hrel
        have HBI := hide hb
        by_cases hjt : j < vn
        · have hjt' : j < rl.length := by omega
          have hj' : t.rels[j]? = some rl[j].1 := by rw [← (unhide HRC).fst]; simp [List.getElem?_eq_getElem hjt']
          have hmem := List.mem_of_getElem? hj'
          obtain ⟨g, c', e1, x0, x1, x2⟩ := ((unhide HRC).row.below hb).cell j (by simpa using hjt')
          simp only [Value.slice.injEq] at e1
          obtain ⟨rfl, hxx, rfl⟩ := e1
          clear hxx
          simp only [List.getElem_map, r3] at x0 x1 x2
          have hex := ((unhide HRC).ex rl[j] (List.getElem_mem hjt')).but (b := b) (But.of_below hb)
          generalize rl[j] = p at *
          obtain ⟨r, bv⟩ := p
          simp only at x0 x1 x2 hex hmem hj'
          obtain ⟨ra, rv, rfl⟩ := hex.isI
          obtain ⟨z1, z2⟩ := unhide HZR r hmem
          have okp := (unhide HRC).okp r hmem
          have okg := (unhide HRC).okg r hmem
          have hwl := writtenE_le r.body z2
          have hws : (writtenE r.body).size ≤ 39000 := by omega
          have bx : Below wr.heap.size wr (wr.alloc (.cells #[.int .i64 r.place, .string r.name, .iface ra rv] 159)) := (Below.refl _ _).alloc (Nat.le_refl _) _
          have HBX' := hide ((unhide HBI).trans (bx.mono (by omega)))
          have RB := hide (Blk.new wr #[.int .i64 r.place, .string r.name, .iface ra rv] 159)
          have FX := hide (bf_below (unhide HQ').2 bx)
          have HRX := hide (hex.but (b := b) (But.of_below bx))
          have WC := hide (written_any b r.body okp okg ((unhide HRC).wf r hmem) z2)
          have HST := hide (show bs ++ lst (headW t) ++ relsT (t.rels.take (j + 1)) = (bs ++ lst (headW t) ++ relsT (t.rels.take j)) ++ lst (relW r) from by
            have hlt2 : j < t.rels.length := by
              rcases Nat.lt_or_ge j t.rels.length with h | h
              · exact h
              · rw [List.getElem?_eq_none h] at hj'; cases hj'
            rw [List.getElem?_eq_getElem hlt2] at hj'
            simp only [Option.some.injEq] at hj'
            unfold relsT
            rw [List.take_succ_eq_append_getElem hlt2, List.flatMap_append, hj']
            simp)
          have hjn : (j : Int) < (vn : Int) := by omega
          have hrw : (relW r).size ≤ 39100 := by
            have e1 : sTab.size = 1 := rfl
            have e2 : sColon.size = 2 := rfl
            have e3 : sSemi.size = 2 := rfl
            unfold relW
            rw [size_app, size_app, size_app, size_app]
            omega
          have HRW := hide (show relW r = (((⟨#[9]⟩ ++ r.name) ++ ⟨#[58, 32]⟩) ++ writtenE r.body) ++ ⟨#[59, 10]⟩ from rfl)
          unfold WrC at WC
          generalize hwse : writtenE r.body = ws at *
          clear hb hex bx hmem hj' hwl z2 hwse
          go_wp2_with fail
          have hWs : wr.heap.size < (wr.alloc (.cells #[.int .i64 r.place, .string r.name, .iface ra rv] 159)).heap.size := by simp
          generalize (wr.alloc (.cells #[.int .i64 r.place, .string r.name, .iface ra rv] 159)) = W at *
          generalize hwz : wr.heap.size = wz at *
          clear hwz
          obtain ⟨q0, q1, q2⟩ := (unhide RB).three
          have ql := (unhide RB).lt
          have c1 : ¬ 9223372036854775807 < 1 + r.name.size := by omega
          have c2 : ¬ 9223372036854775807 < 1 + r.name.size + 2 := by omega
          have c3 : ¬ 9223372036854775807 < 1 + r.name.size + 2 + ws.size := by omega
          have c4 : ¬ 9223372036854775807 < 1 + r.name.size + 2 + ws.size + 2 := by omega
          go_region_held3 (fun w' => w'.cell? ⟨wz, 1, none⟩ = some (.string r.name) ∧ w'.cell? ⟨wz, 2, none⟩ = some (.iface ra rv)) (go_keep)
            (first
            | (go_at_call 78; refine (unhide WC _ W.drew ((unhide HRX).but (But.refl _ _).drew)).mono ?_; rintro e w4 ⟨rfl, hb4⟩; have BW4 := hide (show Below W.heap.size W w4 from (Below.refl _ W).drew.trans hb4); clear hb4; obtain ⟨r0, r1, r2⟩ := ((unhide RB).below (unhide BW4)).three)
            | (go_at_call 77; refine (writeK (w.heap.size + 1) bt _ w4 (bf_below (unhide FX) (unhide BW4)) (by rw [← unhide HRW]; omega) (by have := (unhide BW4).size; omega)).mono ?_; rintro e w5 ⟨rfl, hf5, hb5, hk5⟩; have RB5 := ((unhide RB).below (unhide BW4)).kept hk5 (by omega) (by decide); obtain ⟨s0, s1, s2⟩ := RB5.three; have F5 := hide hf5; have B5 := hide ((unhide HBX').trans ((unhide BW4).mono (by omega)) |>.trans (hb5.mono (by omega))); have sz5 : w.heap.size + 1 < w5.heap.size := (by have h1 := hb5.size; have h2 := (unhide BW4).size; omega); clear hf5 hb5 hk5 RB5))
          go_wp2
          go_roundw
          case rel => exact ⟨j + 1, bt ++ lst (relW r), by omega, by go_num, unhide B5, sz5, by rw [List.length_append, lst_len]; omega, hide ⟨by rw [unhide HST, ← (unhide HQ').1], by rw [unhide HRW]; exact unhide F5⟩⟩
          case measure => simp [intOf]; omega
        · have hjn : ¬ ((j : Int) < (vn : Int)) := by omega
          have hjl : t.rels.length ≤ j := by have := congrArg List.length (unhide HRC).fst; rw [List.length_map] at this; omega
          have hbt := (unhide HQ').1
          rw [List.take_of_length_le hjl] at hbt
          have HST := hide (show (ts.take (k + 1)).flatMap typeT = bt ++ lst sClose from by
            have hk' := unhide HK'
            have hlt2 : k < ts.length := by
              rcases Nat.lt_or_ge k ts.length with h | h
              · exact h
              · rw [List.getElem?_eq_none h] at hk'; cases hk'
            rw [List.getElem?_eq_getElem hlt2] at hk'
            simp only [Option.some.injEq] at hk'
            rw [List.take_succ_eq_append_getElem hlt2, List.flatMap_append, hk', hbt, ← (unhide HQ).1]
            simp [typeT])
          have e1 : sClose.size = 2 := rfl
          have C := hide (writeK (w.heap.size + 1) bt sClose wr (unhide HQ').2 (by omega) (by omega))
          unfold sClose at C
          clear hb hbt e1
          go_wp2_with fail
          refine (unhide C).mono ?_
          rintro e w4 ⟨rfl, hf4, hb4, _⟩
          have F4 := hide hf4
          have B4 := hide ((unhide HBI).trans (hb4.mono (by omega)))
          have sz4 : w.heap.size + 1 < w4.heap.size := by have := hb4.size; omega
          clear hf4 hb4
          go_wp2
          go_roundw
          case rel => exact ⟨k + 1, bt ++ lst sClose, by omega, by go_num, unhide B4, sz4, by have e1 : sClose.size = 2 := rfl; rw [List.length_append, lst_len]; omega, hide ⟨(unhide HST).symm, unhide F4⟩⟩
          case measure => simp [intOf]; omega
    · have hkn : ¬ ((k : Int) < (mn : Int)) := by omega
      have hkl : ts.length ≤ k := by have := congrArg List.length (unhide H).fst; rw [List.length_map] at this; omega
      have hbs := (unhide HQ).1
      rw [List.take_of_length_le hkl] at hbs
      have HBS := hide hbs
      have C := hide (Tryz.Builder_String_any_f (w.heap.size + 1) (w.heap.size + 1) bs wr (unhide HQ).2 (by omega))
      clear hb hbs
      go_wp2_with fail
      refine (unhide C).mono ?_
      rintro e w4 ⟨rfl, _, hb4⟩
      have B4 := hide ((unhide HB).trans (hb4.mono (by omega)))
      clear hb4
      go_wp2
      go_ret
      exact ⟨by unfold mk modelT; rw [← unhide HBS]; rfl, unhide B4⟩
end Go.Proofs.YtlbpnlngckgcbaaGreatDoor
