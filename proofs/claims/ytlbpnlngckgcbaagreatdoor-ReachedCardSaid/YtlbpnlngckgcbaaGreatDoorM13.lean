import Derived.Test.YtlbpnlngckgcbaaGreatDoorM12
import Derived.BigRegion
set_option linter.all false
set_option maxHeartbeats 4000000
set_option maxRecDepth 100000
namespace Go.Proofs.YtlbpnlngckgcbaaGreatDoor
open Go.RowKit Go.PlainAid
def jR:RJ:=⟨#[42]⟩
def kC (txt rel:RJ) (qf:Bool):Bool:=if qf then dR txt&&dG rel else dR txt||(eqs (ax txt 58).2.1 jR&&dG (ax txt 58).1)
theorem pW (PC:CY) (s:RJ) (w:World) (hs:s.size≤1000) (hm:ow w) (hw:1<w.heap.size):
  Calls Tryz.prog 102 #[.string s] w fun e w'=>e=.returned (.tuple #[.agg #[.string (ax (ax s 35).1 58).1,.string (ax (ax s 35).1 58).2.1,.string (ax s 35).2.1],.bool (kC (ax s 35).1 (ax s 35).2.1 (ax s 35).2.2)])∧Below w.heap.size w w':=by
 have z:=jB s 35;have b0:Below w.heap.size w (w.alloc (.cells #[.string ⟨#[]⟩,.string ⟨#[]⟩,.string ⟨#[]⟩] 102)):=(Below.refl _ w).alloc RH _;have C1:=ae (PC s 35 _ hs (hm.below b0 hw));have B0:=ae b0;have R0:=ae (ag.new w #[.string ⟨#[]⟩,.string ⟨#[]⟩,.string ⟨#[]⟩] 102);have HM:=ae hm;have sz0:=b0.size;generalize ax s 35=X at*;obtain ⟨txt,rel,qf⟩:=X;simp only at z C1 ⊢;have z2:=jB txt 58;have Cr:=ae (fun w=>jA rel w (by unfold maxLen;omega));have CT:=ae (fun w hm hw=>jm PC txt w (by omega) hm hw);obtain ⟨R,hR⟩:∃R,R=kC txt rel qf:=⟨_,rfl⟩;rw [←hR];unfold kC at hR;generalize dR txt=ok at*;generalize ax txt 58=Y at*;obtain ⟨a,b,two⟩:=Y;simp only at z2 CT hR ⊢;have Ca:=ae (fun w=>jA a w (by unfold maxLen;omega));generalize dG a=fa at*;generalize dG rel=fr at*;have hbs:eqs b jR=(b.toList== [42]):=by unfold eqs jR;rw [aC];rfl
 rw [hbs] at hR;have HR:=ae hR;clear z z2 b0 hm hs hbs hR PC;go_enter Tryz.func102,Tryz.ntmps102;go_wp2_with fail;refine (aa C1).mono ?_;rintro e w1 ⟨rfl,hb1⟩;have B1:=ae ((aa B0).trans (hb1.mono (aa B0).size));have R1:=ae ((aa R0).below hb1);have C2:=ae (aa CT w1 ((aa HM).below (aa B1) hw) (by have:=(aa B1).size;omega));clear hb1 C1 B0 R0 CT;go_wp2_with fail;refine (aa C2).mono ?_;rintro e w2 ⟨rfl,hb2⟩;have B2:=ae ((aa B1).trans (hb2.mono (aa B1).size));have R2:=ae ((aa R1).below hb2);clear hb2 C2 B1 R1;have rz:=(aa R2).fz;have r0:w2.cell? ⟨w.heap.size,0,none⟩=some (.string ⟨#[]⟩):=(aa R2).cell rfl;have r1:w2.cell? ⟨w.heap.size,1,none⟩=some (.string ⟨#[]⟩):=(aa R2).cell rfl;have r2:w2.cell? ⟨w.heap.size,2,none⟩=some (.string ⟨#[]⟩):=(aa R2).cell rfl;have rl:=(aa R2).lt;have hne:¬(w2.heap.size=w.heap.size):=by omega
 have lX:¬(w.heap.size=w2.heap.size):=by omega
 have hnf:¬(w2.heap.size+1=w.heap.size):=by omega
 have hnf':¬(w.heap.size=w2.heap.size+1):=by omega
 cases qf
 ·have hR:=aa HR;simp only [Bool.false_eq_true,if_false] at hR
  cases ok
  ·rw [Bool.false_or] at hR
   cases hst:(b.toList== [42])
   ·rw [hst,Bool.false_and] at hR;subst hR;clear HR;go_wp2_with fail
    go_region
    all_goals (
     go_wp2;refine bodyPost_ret (v:=.tuple #[.agg #[.string a,.string b,.string rel],.bool _]) (aK Tryz.results102 _ _ w.heap.size _ 102 _ _ rfl rfl ?_ Tryz.underlying102 rfl (by kernel_rfl)) rfl ?_
     ·exact ⟨_,(by with_reducible repeat (first|exact aa R2|apply ag.alloc|apply ag.drew|apply ag.set|(apply ag.other;case ha=>exact (by first|omega|(simp;omega)|simp)))),by rfl⟩
     ·exact ⟨rfl,(by with_reducible repeat (first|exact aa B2|refine Below.drew ?_|(refine Below.setCell ?_ ?_ _;rotate_left;exact (by first|omega|(simp;omega)|simp))|(refine Below.alloc ?_ ?_ _;rotate_left;exact (by first|omega|(simp;omega)|simp))))⟩)
   ·rw [hst,Bool.true_and] at hR;subst hR;clear HR;obtain rfl:b=⟨#[42]⟩:=by
     rw [aC,beq_iff_eq] at hst;rw [←lQ b,hst]
     rfl
    clear hst;go_wp2_with fail;have S3:=ae (show ag ((w2.alloc (.cells #[.string a,.string ⟨#[42]⟩] 98)).alloc (.cells #[.string a,.string ⟨#[42]⟩,.string rel] 102)) (w2.heap.size+1) #[.string a,.string ⟨#[42]⟩,.string rel] 102 from by
     have:=ag.new (w2.alloc (.cells #[.string a,.string ⟨#[42]⟩] 98)) #[.string a,.string ⟨#[42]⟩,.string rel] 102;rw [show (w2.alloc (.cells #[.string a,.string ⟨#[42]⟩] 98)).heap.size=w2.heap.size+1 by simp] at this;exact this)
    have T3:=ae ((ag.new w2 #[.string a,.string ⟨#[42]⟩] 98).alloc (.cells #[.string a,.string ⟨#[42]⟩,.string rel] 102));have R3:=ae (((aa R2).alloc (.cells #[.string a,.string ⟨#[42]⟩] 98)).alloc (.cells #[.string a,.string ⟨#[42]⟩,.string rel] 102));have B3:=ae (((aa B2).alloc (aa B2).size (.cells #[.string a,.string ⟨#[42]⟩] 98)).alloc (by have:=(aa B2).size;simp;omega) (.cells #[.string a,.string ⟨#[42]⟩,.string rel] 102));generalize ((w2.alloc (.cells #[.string a,.string ⟨#[42]⟩] 98)).alloc (.cells #[.string a,.string ⟨#[42]⟩,.string rel] 102))=W at*;clear rz r0 r1 r2;have rz:=(aa R3).fz;have r0:W.cell? ⟨w.heap.size,0,none⟩=some (.string ⟨#[]⟩):=(aa R3).cell rfl;have r1:W.cell? ⟨w.heap.size,1,none⟩=some (.string ⟨#[]⟩):=(aa R3).cell rfl;have r2:W.cell? ⟨w.heap.size,2,none⟩=some (.string ⟨#[]⟩):=(aa R3).cell rfl;have s0:W.cell? ⟨w2.heap.size+1,0,none⟩=some (.string a):=(aa S3).cell rfl;have s1:W.cell? ⟨w2.heap.size+1,1,none⟩=some (.string ⟨#[42]⟩):=(aa S3).cell rfl;have s2:W.cell? ⟨w2.heap.size+1,2,none⟩=some (.string rel):=(aa S3).cell rfl;have t0:W.cell? ⟨w2.heap.size,0,none⟩=some (.string a):=(aa T3).cell rfl;have t1:W.cell? ⟨w2.heap.size,1,none⟩=some (.string ⟨#[42]⟩):=(aa T3).cell rfl
    go_region_held3 (fun w'=>w'.cell? ⟨w2.heap.size+1,0,none⟩=some (.string a)∧w'.cell? ⟨w2.heap.size+1,1,none⟩=some (.string ⟨#[42]⟩)∧w'.cell? ⟨w2.heap.size+1,2,none⟩=some (.string rel)∧w'.cell? ⟨w2.heap.size,0,none⟩=some (.string a)∧w'.cell? ⟨w2.heap.size,1,none⟩=some (.string ⟨#[42]⟩)) (go_keep)
     ((go_at_call 93;refine (aa Ca _).mono ?_;rintro e w3 ⟨rfl,rfl⟩))
    go_wp2;refine bodyPost_ret (v:=.tuple #[.agg #[.string a,.string ⟨#[42]⟩,.string rel],.bool _]) (aK Tryz.results102 _ _ w.heap.size _ 102 _ _ rfl rfl ?_ Tryz.underlying102 rfl (by kernel_rfl)) rfl ?_
    ·exact ⟨_,(by with_reducible repeat (first|exact aa R3|apply ag.alloc|apply ag.drew|apply ag.set|(apply ag.other;case ha=>exact (by first|omega|(simp;omega)|simp)))),by rfl⟩
    ·exact ⟨rfl,(by with_reducible repeat (first|exact aa B3|refine Below.drew ?_|(refine Below.setCell ?_ ?_ _;rotate_left;exact (by first|omega|(simp;omega)|simp))|(refine Below.alloc ?_ ?_ _;rotate_left;exact (by first|omega|(simp;omega)|simp))))⟩
  ·rw [Bool.true_or] at hR;subst hR;clear HR;go_wp2_with fail
   go_region
   all_goals (
    go_wp2;refine bodyPost_ret (v:=.tuple #[.agg #[.string a,.string b,.string rel],.bool _]) (aK Tryz.results102 _ _ w.heap.size _ 102 _ _ rfl rfl ?_ Tryz.underlying102 rfl (by kernel_rfl)) rfl ?_
    ·exact ⟨_,(by with_reducible repeat (first|exact aa R2|apply ag.alloc|apply ag.drew|apply ag.set|(apply ag.other;case ha=>exact (by first|omega|(simp;omega)|simp)))),by rfl⟩
    ·exact ⟨rfl,(by with_reducible repeat (first|exact aa B2|refine Below.drew ?_|(refine Below.setCell ?_ ?_ _;rotate_left;exact (by first|omega|(simp;omega)|simp))|(refine Below.alloc ?_ ?_ _;rotate_left;exact (by first|omega|(simp;omega)|simp))))⟩)
 ·have hR:=aa HR;simp only [if_true] at hR
  cases ok
  ·rw [Bool.false_and] at hR;subst hR;clear HR;go_wp2_with fail
   go_region
   all_goals (
    go_wp2;refine bodyPost_ret (v:=.tuple #[.agg #[.string a,.string b,.string rel],.bool _]) (aK Tryz.results102 _ _ w.heap.size _ 102 _ _ rfl rfl ?_ Tryz.underlying102 rfl (by kernel_rfl)) rfl ?_
    ·exact ⟨_,(by with_reducible repeat (first|exact aa R2|apply ag.alloc|apply ag.drew|apply ag.set|(apply ag.other;case ha=>exact (by first|omega|(simp;omega)|simp)))),by rfl⟩
    ·exact ⟨rfl,(by with_reducible repeat (first|exact aa B2|refine Below.drew ?_|(refine Below.setCell ?_ ?_ _;rotate_left;exact (by first|omega|(simp;omega)|simp))|(refine Below.alloc ?_ ?_ _;rotate_left;exact (by first|omega|(simp;omega)|simp))))⟩)
  ·rw [Bool.true_and] at hR;subst hR;clear HR;go_wp2_with fail;have S3:=ae (show ag ((w2.alloc (.cells #[.string a,.string b] 98)).alloc (.cells #[.string a,.string b,.string rel] 102)) (w2.heap.size+1) #[.string a,.string b,.string rel] 102 from by
    have:=ag.new (w2.alloc (.cells #[.string a,.string b] 98)) #[.string a,.string b,.string rel] 102;rw [show (w2.alloc (.cells #[.string a,.string b] 98)).heap.size=w2.heap.size+1 by simp] at this;exact this)
   have T3:=ae ((ag.new w2 #[.string a,.string b] 98).alloc (.cells #[.string a,.string b,.string rel] 102));have R3:=ae (((aa R2).alloc (.cells #[.string a,.string b] 98)).alloc (.cells #[.string a,.string b,.string rel] 102));have B3:=ae (((aa B2).alloc (aa B2).size (.cells #[.string a,.string b] 98)).alloc (by have:=(aa B2).size;simp;omega) (.cells #[.string a,.string b,.string rel] 102));generalize ((w2.alloc (.cells #[.string a,.string b] 98)).alloc (.cells #[.string a,.string b,.string rel] 102))=W at*;clear rz r0 r1 r2;have rz:=(aa R3).fz;have r0:W.cell? ⟨w.heap.size,0,none⟩=some (.string ⟨#[]⟩):=(aa R3).cell rfl;have r1:W.cell? ⟨w.heap.size,1,none⟩=some (.string ⟨#[]⟩):=(aa R3).cell rfl;have r2:W.cell? ⟨w.heap.size,2,none⟩=some (.string ⟨#[]⟩):=(aa R3).cell rfl;have s0:W.cell? ⟨w2.heap.size+1,0,none⟩=some (.string a):=(aa S3).cell rfl;have s1:W.cell? ⟨w2.heap.size+1,1,none⟩=some (.string b):=(aa S3).cell rfl;have s2:W.cell? ⟨w2.heap.size+1,2,none⟩=some (.string rel):=(aa S3).cell rfl;have t0:W.cell? ⟨w2.heap.size,0,none⟩=some (.string a):=(aa T3).cell rfl;have t1:W.cell? ⟨w2.heap.size,1,none⟩=some (.string b):=(aa T3).cell rfl
   go_region_held3 (fun w'=>w'.cell? ⟨w2.heap.size+1,0,none⟩=some (.string a)∧w'.cell? ⟨w2.heap.size+1,1,none⟩=some (.string b)∧w'.cell? ⟨w2.heap.size+1,2,none⟩=some (.string rel)∧w'.cell? ⟨w2.heap.size,0,none⟩=some (.string a)∧w'.cell? ⟨w2.heap.size,1,none⟩=some (.string b)) (go_keep)
    ((go_at_call 93;refine (aa Cr _).mono ?_;rintro e w3 ⟨rfl,rfl⟩))
   go_wp2;refine bodyPost_ret (v:=.tuple #[.agg #[.string a,.string b,.string rel],.bool _]) (aK Tryz.results102 _ _ w.heap.size _ 102 _ _ rfl rfl ?_ Tryz.underlying102 rfl (by kernel_rfl)) rfl ?_
   ·exact ⟨_,(by with_reducible repeat (first|exact aa R3|apply ag.alloc|apply ag.drew|apply ag.set|(apply ag.other;case ha=>exact (by first|omega|(simp;omega)|simp)))),by rfl⟩
   ·exact ⟨rfl,(by with_reducible repeat (first|exact aa B3|refine Below.drew ?_|(refine Below.setCell ?_ ?_ _;rotate_left;exact (by first|omega|(simp;omega)|simp))|(refine Below.alloc ?_ ?_ _;rotate_left;exact (by first|omega|(simp;omega)|simp))))⟩
