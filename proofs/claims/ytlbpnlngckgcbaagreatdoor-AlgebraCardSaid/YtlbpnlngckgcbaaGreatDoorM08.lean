import Derived.Test.YtlbpnlngckgcbaaGreatDoorM07
set_option linter.all false
set_option maxHeartbeats 4000000
set_option maxRecDepth 100000
namespace Go.Proofs.YtlbpnlngckgcbaaGreatDoor
open Go.RowKit Go.PlainAid
def eO (x:Qx) (l:List E3):Option E3:=l.find? fun e=>eqs e.2.1 x
theorem sj {x:Qx} {l:List E3} (h:eO x l=none):vS x l= -1:=by
 unfold eO at h;rw [List.find?_eq_none] at h;exact uq x l (fun j hj=>by simpa using h l[j] (List.getElem_mem hj))
theorem su {x:Qx} {l:List E3} {y:E3} (h:eO x l=some y):∃k,∃hk:k<l.length,l[k]=y∧vS x l=k:=by
 unfold eO at h;rw [List.find?_eq_some_iff_getElem] at h;obtain ⟨h1,k,hk,h2,h3⟩:=h;refine ⟨k,hk,h2,qd x l k hk (by rw [h2];exact h1) (fun j hj hjk=>by simpa using h3 j hjk)⟩
theorem fH {w:World} {g o:Nat} {v:Value} (h:w.cell? ⟨g,o,none⟩=some v):g<w.heap.size:=by
 rcases Nat.lt_or_ge g w.heap.size with k|k
 ·exact k
 ·simp [World.cell?,Array.getElem?_eq_none k] at h
theorem sw (v:Value) (l:List E3) (x:Qx) (w:World) (hn:l.length≤1000) (h:eZ w 110 v l) (hf:eO x l=none):
  Calls Tryz.prog 57 #[.agg #[v],.string x] w fun e w'=>e=.returned (.tuple #[.agg #[.int .i64 0,.string ⟨#[]⟩,.slice none 0 0],aJ 5])∧Below w.heap.size w w':=by
 obtain ⟨sa,sc,rfl⟩:=ak h;have H:=ae h;have W0:Below w.heap.size w (((w.alloc (.cells #[.slice sa l.length sc] 75)).alloc (.cells #[.string x] 9)).alloc (.cells #[.int .i64 0,.string ⟨#[]⟩,.slice none 0 0] 110)):=(((Below.refl _ _).alloc Qv _).alloc (by simp) _).alloc (by simp;omega) _;have C:=ae (oJ (.slice sa l.length sc) l x (w.heap.size+1) _ hn (h.below W0) ((ag.new' (w.alloc (.cells #[.slice sa l.length sc] 75)) #[.string x] 9 (w.heap.size+1) (by simp)).alloc (.cells #[.int .i64 0,.string ⟨#[]⟩,.slice none 0 0] 110)));have M:=ae (((ag.new w #[.slice sa l.length sc] 75).alloc (.cells #[.string x] 9)).alloc (.cells #[.int .i64 0,.string ⟨#[]⟩,.slice none 0 0] 110));have R:=ae (ag.new' ((w.alloc (.cells #[.slice sa l.length sc] 75)).alloc (.cells #[.string x] 9)) #[.int .i64 0,.string ⟨#[]⟩,.slice none 0 0] 110 (w.heap.size+2) (by simp));have fD:=ae W0;have H0:=ae (h.below W0);clear h W0;go_enter Tryz.func57,Tryz.ntmps57;go_wp2_with fail;refine (aa C).mono ?_;rintro e w1 ⟨rfl,hb1⟩;have HR:=ae ((aa R).below hb1);have HM:=ae ((aa M).below hb1);have H1:=ae ((aa H0).below hb1);have B1:=ae ((aa fD).trans (hb1.mono (aa fD).size));clear hb1 C;obtain ⟨r0,r1,r2⟩:=(aa HR).three;have zr:=(aa HR).fz;have hrl:=(aa HR).lt;have mc:w1.cell? ⟨w.heap.size,0,none⟩=some (.slice sa l.length sc):=(aa HM).cell rfl;rw [sj hf];go_wp2;refine bodyPost_ret (v:=.tuple #[.agg #[.int .i64 0,.string ⟨#[]⟩,.slice none 0 0],aJ 5]) (aH Tryz.results57 _ _ (w.heap.size+2) _ 110 _ _ rfl rfl ?hB Tryz.underlying110 rfl (by kernel_rfl)) rfl ?post
 case hB=>exact ⟨_,(by with_reducible repeat (first|exact aa HR|apply ag.alloc|apply ag.drew|apply ag.set|(apply ag.other;case ha=>exact (by first|omega|(simp;omega)|simp)))),by rfl⟩
 case post=>exact ⟨rfl,(by with_reducible repeat (first|exact aa B1|refine Below.drew ?_|(refine Below.setCell ?_ ?_ _;rotate_left;exact (by first|omega|(simp;omega)|simp))|(refine Below.alloc ?_ ?_ _;rotate_left;exact (by first|omega|(simp;omega)|simp))))⟩
theorem lT (v:Value) (l:List E3) (x:Qx) (w:World) (hn:l.length≤1000) (h:eZ w 110 v l) (y:E3) (hf:eO x l=some y) (hy1:∃a n c,y.2.2=.slice a n c):
  Calls Tryz.prog 57 #[.agg #[v],.string x] w fun e w'=>e=.returned (.tuple #[.agg #[.int .i64 y.1,.string y.2.1,y.2.2],.nilIface])∧Below w.heap.size w w':=by
 obtain ⟨k,hk,hy,hi⟩:=su hf;obtain ⟨sa,sc,rfl⟩:=ak h;have H:=ae h;have W0:Below w.heap.size w (((w.alloc (.cells #[.slice sa l.length sc] 75)).alloc (.cells #[.string x] 9)).alloc (.cells #[.int .i64 0,.string ⟨#[]⟩,.slice none 0 0] 110)):=(((Below.refl _ _).alloc Qv _).alloc (by simp) _).alloc (by simp;omega) _;have C:=ae (oJ (.slice sa l.length sc) l x (w.heap.size+1) _ hn (h.below W0) ((ag.new' (w.alloc (.cells #[.slice sa l.length sc] 75)) #[.string x] 9 (w.heap.size+1) (by simp)).alloc (.cells #[.int .i64 0,.string ⟨#[]⟩,.slice none 0 0] 110)));have M:=ae (((ag.new w #[.slice sa l.length sc] 75).alloc (.cells #[.string x] 9)).alloc (.cells #[.int .i64 0,.string ⟨#[]⟩,.slice none 0 0] 110));have R:=ae (ag.new' ((w.alloc (.cells #[.slice sa l.length sc] 75)).alloc (.cells #[.string x] 9)) #[.int .i64 0,.string ⟨#[]⟩,.slice none 0 0] 110 (w.heap.size+2) (by simp));have fD:=ae W0;have H0:=ae (h.below W0);clear h W0;go_enter Tryz.func57,Tryz.ntmps57;go_wp2_with fail;refine (aa C).mono ?_;rintro e w1 ⟨rfl,hb1⟩;have HR:=ae ((aa R).below hb1);have HM:=ae ((aa M).below hb1);have H1:=ae ((aa H0).below hb1);have B1:=ae ((aa fD).trans (hb1.mono (aa fD).size));clear hb1 C;obtain ⟨r0,r1,r2⟩:=(aa HR).three;have zr:=(aa HR).fz;have hrl:=(aa HR).lt;have mc:w1.cell? ⟨w.heap.size,0,none⟩=some (.slice sa l.length sc):=(aa HM).cell rfl;rw [hi];obtain ⟨g,c,e1,k0,k1,k2⟩:=(aa H1).cell k hk;simp only [Value.slice.injEq] at e1;obtain ⟨rfl,_,rfl⟩:=e1;rw [hy] at k0 k1 k2;have hgl:=fH k0;have Me:¬(g=w.heap.size+2):=fun e=>by
  have:=(aa H).cell k hk;obtain ⟨g',c',e1,J5,_⟩:=this;simp only [Value.slice.injEq,Option.some.injEq,Addr.mk.injEq] at e1;have:=fH J5;omega
 have hgn':¬(w.heap.size+2=g):=fun e=>Me e.symm
 clear hi hy hf;obtain ⟨p,n,u⟩:=y;simp only at k0 k1 k2;obtain ⟨ua,un,uc,rfl⟩:∃a n c,u=.slice a n c:=hy1;go_wp2;refine bodyPost_ret (v:=.tuple #[.agg #[.int .i64 p,.string n,.slice ua un uc],.nilIface]) (aH Tryz.results57 _ _ (w.heap.size+2) _ 110 _ _ rfl rfl ?hB Tryz.underlying110 rfl (by kernel_rfl)) rfl ?post
 case hB=>exact ⟨_,(by with_reducible repeat (first|exact aa HR|apply ag.alloc|apply ag.drew|apply ag.set|(apply ag.other;case ha=>exact (by first|omega|(simp;omega)|simp)))),by rfl⟩
 case post=>exact ⟨rfl,(by with_reducible repeat (first|exact aa B1|refine Below.drew ?_|(refine Below.setCell ?_ ?_ _;rotate_left;exact (by first|omega|(simp;omega)|simp))|(refine Below.alloc ?_ ?_ _;rotate_left;exact (by first|omega|(simp;omega)|simp))))⟩
theorem sD (pp:Nat) (nn:Qx) (v:Value) (l:List E3) (x:Qx) (w:World) (hn:l.length≤1000) (h:eZ w 159 v l) (hf:eO x l=none):
  Calls Tryz.prog 145 #[.agg #[.int .i64 pp,.string nn,v],.string x] w fun e w'=>e=.returned (.tuple #[.agg #[.int .i64 0,.string ⟨#[]⟩,.nilIface],aJ 5])∧Below w.heap.size w w':=by
 obtain ⟨sa,sc,rfl⟩:=ak h;have H:=ae h;have W0:Below w.heap.size w (((w.alloc (.cells #[.int .i64 pp,.string nn,.slice sa l.length sc] 110)).alloc (.cells #[.string x] 9)).alloc (.cells #[.int .i64 0,.string ⟨#[]⟩,.nilIface] 159)):=(((Below.refl _ _).alloc Qv _).alloc (by simp) _).alloc (by simp;omega) _;have C:=ae (oK (.slice sa l.length sc) l x (w.heap.size+1) _ hn (h.below W0) ((ag.new' (w.alloc (.cells #[.int .i64 pp,.string nn,.slice sa l.length sc] 110)) #[.string x] 9 (w.heap.size+1) (by simp)).alloc (.cells #[.int .i64 0,.string ⟨#[]⟩,.nilIface] 159)));have M:=ae (((ag.new w #[.int .i64 pp,.string nn,.slice sa l.length sc] 110).alloc (.cells #[.string x] 9)).alloc (.cells #[.int .i64 0,.string ⟨#[]⟩,.nilIface] 159));have R:=ae (ag.new' ((w.alloc (.cells #[.int .i64 pp,.string nn,.slice sa l.length sc] 110)).alloc (.cells #[.string x] 9)) #[.int .i64 0,.string ⟨#[]⟩,.nilIface] 159 (w.heap.size+2) (by simp));have fD:=ae W0;have H0:=ae (h.below W0);clear h W0;go_enter Tryz.func145,Tryz.ntmps145;go_wp2_with fail;refine (aa C).mono ?_;rintro e w1 ⟨rfl,hb1⟩;have HR:=ae ((aa R).below hb1);have HM:=ae ((aa M).below hb1);have H1:=ae ((aa H0).below hb1);have B1:=ae ((aa fD).trans (hb1.mono (aa fD).size));clear hb1 C;obtain ⟨r0,r1,r2⟩:=(aa HR).three;have zr:=(aa HR).fz;have hrl:=(aa HR).lt;have mc:w1.cell? ⟨w.heap.size,2,none⟩=some (.slice sa l.length sc):=(aa HM).cell rfl;rw [sj hf];go_wp2;refine bodyPost_ret (v:=.tuple #[.agg #[.int .i64 0,.string ⟨#[]⟩,.nilIface],aJ 5]) (aH Tryz.results145 _ _ (w.heap.size+2) _ 159 _ _ rfl rfl ?hB Tryz.underlying159 rfl (by kernel_rfl)) rfl ?post
 case hB=>exact ⟨_,(by with_reducible repeat (first|exact aa HR|apply ag.alloc|apply ag.drew|apply ag.set|(apply ag.other;case ha=>exact (by first|omega|(simp;omega)|simp)))),by rfl⟩
 case post=>exact ⟨rfl,(by with_reducible repeat (first|exact aa B1|refine Below.drew ?_|(refine Below.setCell ?_ ?_ _;rotate_left;exact (by first|omega|(simp;omega)|simp))|(refine Below.alloc ?_ ?_ _;rotate_left;exact (by first|omega|(simp;omega)|simp))))⟩
theorem lU (pp:Nat) (nn:Qx) (v:Value) (l:List E3) (x:Qx) (w:World) (hn:l.length≤1000) (h:eZ w 159 v l) (y:E3) (hf:eO x l=some y) (hy1:∃a x,y.2.2=.iface a x):
  Calls Tryz.prog 145 #[.agg #[.int .i64 pp,.string nn,v],.string x] w fun e w'=>e=.returned (.tuple #[.agg #[.int .i64 y.1,.string y.2.1,y.2.2],.nilIface])∧Below w.heap.size w w':=by
 obtain ⟨k,hk,hy,hi⟩:=su hf;obtain ⟨sa,sc,rfl⟩:=ak h;have H:=ae h;have W0:Below w.heap.size w (((w.alloc (.cells #[.int .i64 pp,.string nn,.slice sa l.length sc] 110)).alloc (.cells #[.string x] 9)).alloc (.cells #[.int .i64 0,.string ⟨#[]⟩,.nilIface] 159)):=(((Below.refl _ _).alloc Qv _).alloc (by simp) _).alloc (by simp;omega) _;have C:=ae (oK (.slice sa l.length sc) l x (w.heap.size+1) _ hn (h.below W0) ((ag.new' (w.alloc (.cells #[.int .i64 pp,.string nn,.slice sa l.length sc] 110)) #[.string x] 9 (w.heap.size+1) (by simp)).alloc (.cells #[.int .i64 0,.string ⟨#[]⟩,.nilIface] 159)));have M:=ae (((ag.new w #[.int .i64 pp,.string nn,.slice sa l.length sc] 110).alloc (.cells #[.string x] 9)).alloc (.cells #[.int .i64 0,.string ⟨#[]⟩,.nilIface] 159));have R:=ae (ag.new' ((w.alloc (.cells #[.int .i64 pp,.string nn,.slice sa l.length sc] 110)).alloc (.cells #[.string x] 9)) #[.int .i64 0,.string ⟨#[]⟩,.nilIface] 159 (w.heap.size+2) (by simp));have fD:=ae W0;have H0:=ae (h.below W0);clear h W0;go_enter Tryz.func145,Tryz.ntmps145;go_wp2_with fail;refine (aa C).mono ?_;rintro e w1 ⟨rfl,hb1⟩;have HR:=ae ((aa R).below hb1);have HM:=ae ((aa M).below hb1);have H1:=ae ((aa H0).below hb1);have B1:=ae ((aa fD).trans (hb1.mono (aa fD).size));clear hb1 C;obtain ⟨r0,r1,r2⟩:=(aa HR).three;have zr:=(aa HR).fz;have hrl:=(aa HR).lt;have mc:w1.cell? ⟨w.heap.size,2,none⟩=some (.slice sa l.length sc):=(aa HM).cell rfl;rw [hi];obtain ⟨g,c,e1,k0,k1,k2⟩:=(aa H1).cell k hk;simp only [Value.slice.injEq] at e1;obtain ⟨rfl,_,rfl⟩:=e1;rw [hy] at k0 k1 k2;have hgl:=fH k0;have Me:¬(g=w.heap.size+2):=fun e=>by
  have:=(aa H).cell k hk;obtain ⟨g',c',e1,J5,_⟩:=this;simp only [Value.slice.injEq,Option.some.injEq,Addr.mk.injEq] at e1;have:=fH J5;omega
 have hgn':¬(w.heap.size+2=g):=fun e=>Me e.symm
 clear hi hy hf;obtain ⟨p,n,u⟩:=y;simp only at k0 k1 k2;obtain ⟨ua,un,rfl⟩:∃a x,u=.iface a x:=hy1;go_wp2;refine bodyPost_ret (v:=.tuple #[.agg #[.int .i64 p,.string n,.iface ua un],.nilIface]) (aH Tryz.results145 _ _ (w.heap.size+2) _ 159 _ _ rfl rfl ?hB Tryz.underlying159 rfl (by kernel_rfl)) rfl ?post
 case hB=>exact ⟨_,(by with_reducible repeat (first|exact aa HR|apply ag.alloc|apply ag.drew|apply ag.set|(apply ag.other;case ha=>exact (by first|omega|(simp;omega)|simp)))),by rfl⟩
 case post=>exact ⟨rfl,(by with_reducible repeat (first|exact aa B1|refine Below.drew ?_|(refine Below.setCell ?_ ?_ _;rotate_left;exact (by first|omega|(simp;omega)|simp))|(refine Below.alloc ?_ ?_ _;rotate_left;exact (by first|omega|(simp;omega)|simp))))⟩
def d9 (p c:Nat):Value:=.iface 147 (.agg #[.int .i64 p,aJ c])
def dQ (c:Nat):Option Nat→Value
 |none=> .nilIface
 |some p=>d9 p c
theorem fe (p c:Nat) (w:World):Calls Tryz.prog 73 #[.int .i64 p,.iface 134 (.int .i64 c)] w fun e w'=>e=.returned (d9 p c)∧w'=w:=by
 go_enter Tryz.func73,Tryz.ntmps73;go_wp2;go_ret;exact ⟨rfl,rfl⟩
theorem Eg (p:Nat) (w:World):Calls Tryz.prog 73 #[.int .i64 p,.nilIface] w fun e w'=>e=.returned .nilIface∧w'=w:=by
 go_enter Tryz.func73,Tryz.ntmps73;go_wp2;go_ret;exact ⟨rfl,rfl⟩
def gU:List E3→List E3→Option Nat
 |_,[]=>none
 |ah,e::r=>if (eO e.2.1 ah).isSome then some e.1 else gU (ah++[e]) r
theorem vT (l:List E3) (k:Nat) (hk:k<l.length):gU (l.take k) (l.drop k)=if (eO l[k].2.1 (l.take k)).isSome then some l[k].1 else gU (l.take (k+1)) (l.drop (k+1)):=by
 rw [List.drop_eq_getElem_cons hk,gU,List.take_succ_eq_append_getElem hk]
theorem Au (l:List E3) (k:Nat) (hk:k<l.length):(l.take (k+1)).flatMap c3=(l.take k).flatMap c3++c3 l[k]:=by
 rw [List.take_succ_eq_append_getElem hk,List.flatMap_append];simp
theorem yL (pp:Nat) (nn:Qx) (v:Value) (l:List E3) (w:World) (hn:l.length≤1000) (h:eZ w 159 v l) (MG:∀e∈l,∃t x,e.2.2=.iface t x):
  Calls Tryz.prog 173 #[.agg #[.int .i64 pp,.string nn,v]] w fun e w'=>e=.returned (dQ 4 (gU [] l))∧Below w.heap.size w w':=by
 obtain ⟨i0,hi,hz0,hz1,hz2⟩:=info_parts Tryz.info159;have HI:=ae hi;have iU:=ae hz0;have iV:=ae hz1;have iW:=ae hz2;clear hi hz0 hz1 hz2;obtain ⟨oa,oc,rfl⟩:=ak h;have H:=ae h;have MH:=ae MG;generalize hR:gU [] l=R;have yt:=ae hR;clear hR h MG;go_enter Tryz.func173,Tryz.ntmps173;go_wp2_with fail
 go_loopw [11] (fun u wr=>∃(k:Nat) (sv:Value),k≤l.length∧u=.int .i64 k∧Below w.heap.size w wr∧ag wr (w.heap.size+1) #[.int .i64 0,.string ⟨#[]⟩,sv] 110∧wr.ownsRow w.heap.size 159 3 sv k ((l.take k).flatMap c3)∧Hid (gU (l.take k) (l.drop k)=R)) (fun u _=>l.length-(intOf u).toNat)
 case atStart=>exact ⟨0,_,by omega,rfl,((Below.refl _ _).alloc Qv _).alloc (by simp) _,ag.new' (w.alloc _) _ _ _ (by simp),World.ownsRow_nil _ _ _ _,yt⟩
 case round=>
  obtain ⟨k,sv,hk,rfl,hb,hbl,ho,HQ⟩:=hrel;obtain ⟨sa,sc,rfl⟩:=ak ho;have HB:=ae hb;have HL:=ae hbl;have HO:=ae ho;obtain ⟨b0,b1,b2⟩:=hbl.three;have zb:=hbl.fz;have lb:=hbl.lt
  by_cases hlt:k<l.length
  ·have hR:=aa HQ;rw [vT l k hlt] at hR;obtain ⟨g,c,e1,k0,k1,k2⟩:=((aa H).below hb).cell k hlt;simp only [Value.slice.injEq] at e1;obtain ⟨rfl,_,rfl⟩:=e1;obtain ⟨ua,un,hu⟩:=aa MH l[k] (List.getElem_mem hlt);have hct:=Au l k hlt;generalize hy:l[k]=y at*;obtain ⟨p,n,u⟩:=y;simp only at k0 k1 k2 hu hR;subst hu;have hgl:g<w.heap.size:=by
    obtain ⟨g',c',e1,J5,_⟩:=(aa H).cell k hlt;simp only [Value.slice.injEq,Option.some.injEq,Addr.mk.injEq] at e1;obtain ⟨⟨rfl,_⟩,_⟩:=e1;exact fH J5
   have Pe:=ae hct;have HF:=ae (show eZ (wr.alloc (.cells #[.int .i64 p,.string n,.iface ua un] 159)) 159 (.slice sa k sc) (l.take k) from by
    have:=aC (ho.alloc (.cells #[.int .i64 p,.string n,.iface ua un] 159)) (Nat.zero_le _);unfold eZ;rw [List.length_take,Nat.min_eq_left hk];exact this)
   clear hy hct hb hbl ho
   cases hf:eO n (l.take k) with
   |some y=>
    have hy1:∃a x,y.2.2=.iface a x:=aa MH y (List.mem_of_mem_take (List.mem_of_find?_eq_some hf));rw [hf] at hR;simp only [Option.isSome_some,if_true] at hR;have cu:=ae hR;have C:=ae (lU 0 ⟨#[]⟩ (.slice sa k sc) (l.take k) n _ (by rw [List.length_take];omega) (aa HF) y hf hy1);obtain ⟨yp,yn,yu⟩:=y;obtain ⟨ya,yx,MI⟩:=hy1;simp only at MI;subst MI;clear hR hf;go_wp2_with fail;refine (aa C).mono ?_;rintro e w2 ⟨rfl,hb2⟩;have B2:=ae (((aa HB).alloc (aa HB).size (.cells #[.int .i64 p,.string n,.iface ua un] 159)).trans (hb2.mono (by have:=(aa HB).size;simp;omega)));have E2:=(ag.new wr #[.int .i64 p,.string n,.iface ua un] 159).below hb2;obtain ⟨q0,q1,q2⟩:=E2.three;have ql:=E2.lt;clear hb2 E2;go_wp2_with (go_at_call 73;refine (fe _ 4 _).mono ?_;rintro e w3 ⟨rfl,rfl⟩);go_ret;rw [←aa cu];exact ⟨rfl,(by with_reducible repeat (first|exact aa B2|refine Below.drew ?_|(refine Below.setCell ?_ ?_ _;rotate_left;exact (by first|omega|(simp;omega)|simp))|(refine Below.alloc ?_ ?_ _;rotate_left;exact (by first|omega|(simp;omega)|simp))))⟩
   |none=>
    rw [hf] at hR;simp only [Option.isSome_none,Bool.false_eq_true,if_false] at hR;have cu:=ae hR;have C:=ae (sD 0 ⟨#[]⟩ (.slice sa k sc) (l.take k) n _ (by rw [List.length_take];omega) (aa HF) hf);clear hR hf;go_wp2_with fail;refine (aa C).mono ?_;rintro e w2 ⟨rfl,hb2⟩;have hbb:Below wr.heap.size wr w2:=((Below.refl _ _).alloc Qv (.cells #[.int .i64 p,.string n,.iface ua un] 159)).trans (hb2.mono (by simp));have B2:=ae ((aa HB).trans (hbb.mono (aa HB).size));have E2:=(ag.new wr #[.int .i64 p,.string n,.iface ua un] 159).below hb2;obtain ⟨q0,q1,q2⟩:=E2.three;have ql:=E2.lt;have L2:=(aa HL).below hbb;have Ap:=ae L2;obtain ⟨m0,m1,m2⟩:=L2.three;have zm:=L2.fz;have ml:=L2.lt;have O2:=ae (ai (aa HO) (fun g cs f _ hh=>hbb.block g (lt_of_some hh)));have ni:=(aa HB).size;clear hb2 E2 L2 hbb b0 b1 b2 zb;unfold aJ;go_wp2_with (at_builtin;go_must (refine wpList_append_lies _ rfl _ _ 108 rfl w.heap.size 159 i0 _ 3 40 Tryz.underlying108 (aa HI) (aa iU) (aa iV) (aa iW) rfl (by decide) (.slice sa k sc) k ((l.take k).flatMap c3) rfl ?hown ⟨w2.heap.size+1,0,none⟩ 1 1 (c3 (p,n,.iface ua un)) rfl rfl ?hnews ?hone (by decide) ?h63 ?hbytes ?hbase (w2.heap.size+2) ?hH ?hrest))
    case hown=>exact ((aa O2).alloc _).alloc _
    case hnews=>exact World.news_of_block (B:=w2.heap.size+1) (cs:=#[.int .i64 p,.string n,.iface ua un]) (t:=159) (fr:=(0,0)) (ag.new' (w2.alloc _) _ _ _ (by simp))
    case hone=>
     intro u hu;simp [c3] at hu
     rcases hu with rfl|rfl|rfl<;>rfl
    case h63=>unfold maxLen;omega
    case hbytes=>omega
    case hbase=>simp;omega
    case hH=>simp
    case hrest=>
     intro g5 bP w5 aK ax bZ jD;have b0:Below w2.heap.size w2 ((w2.alloc (.cells #[.int .i64 0,.string ⟨#[]⟩,.nilIface] 159)).alloc (.cells #[.int .i64 p,.string n,.iface ua un] 159)):=((Below.refl _ _).alloc Qv _).alloc (by simp) _;have GG:=(aa Ap).below b0;have gF:=((aa O2).alloc (.cells #[.int .i64 0,.string ⟨#[]⟩,.nilIface] 159)).alloc (.cells #[.int .i64 p,.string n,.iface ua un] 159);have Eh:=ae (show ag w5 (w.heap.size+1) #[.int .i64 0,.string ⟨#[]⟩,.slice sa k sc] 110 from (ax.block _ GG.lt (own_ne gF GG (by decide))).trans GG);have B5:=ae (Below.grown ((aa B2).trans (b0.mono (aa B2).size)) ax (by have:=(aa B2).size;simp;omega) (fun k hk=>(gF.lt k hk).1));have O5:=ae aK;obtain ⟨n0,n1,n2⟩:=(aa Eh).three;have zn:=(aa Eh).fz;have nl:=(aa Eh).lt;clear b0 GG gF aK ax bZ m0 m1 m2 zm q0 q1 q2;go_wp2;go_roundw
     case rel=>exact ⟨k+1,_,by omega,by go_num,(by with_reducible repeat (first|exact aa B5|refine Below.drew ?_|(refine Below.setCell ?_ ?_ _;rotate_left;exact (by first|omega|(simp;omega)|simp))|(refine Below.alloc ?_ ?_ _;rotate_left;exact (by first|omega|(simp;omega)|simp)))),(aa Eh).set 2 _,by rw [aa Pe];exact bn (aa O5) (aa Eh) (by decide) 2 _,cu⟩
     case measure=>simp [intOf];omega
  ·have hR:=aa HQ;rw [List.drop_of_length_le (by omega)] at hR;have cu:=ae hR;clear hb hbl ho hR;go_wp2;go_ret;rw [←aa cu];exact ⟨rfl,aa HB⟩
def fQ (inn:E3→Option Nat):List E3→List E3→Option Nat
 |_,[]=>none
 |ah,e::r=>if (eO e.2.1 ah).isSome then some e.1 else match inn e with
  |some p=>some p
  |none=>fQ inn (ah++[e]) r
theorem ut (inn:E3→Option Nat) (l:List E3) (k:Nat) (hk:k<l.length):fQ inn (l.take k) (l.drop k)=if (eO l[k].2.1 (l.take k)).isSome then some l[k].1 else match inn l[k] with
  |some p=>some p
  |none=>fQ inn (l.take (k+1)) (l.drop (k+1)):=by
 rw [List.drop_eq_getElem_cons hk,fQ,List.take_succ_eq_append_getElem hk]
theorem yM (inn:E3→Option Nat) (v:Value) (l:List E3) (w:World) (hn:l.length≤1000) (h:eZ w 110 v l) (MG:∀e∈l,∃a n c,e.2.2=.slice a n c)
  (hin:∀e∈l,∀w',Below w.heap.size w w'→Calls Tryz.prog 173 #[.agg #[.int .i64 e.1,.string e.2.1,e.2.2]] w' fun e' w''=>e'=.returned (dQ 4 (inn e))∧Below w'.heap.size w' w''):
  Calls Tryz.prog 115 #[.agg #[v]] w fun e w'=>e=.returned (dQ 4 (fQ inn [] l))∧Below w.heap.size w w':=by
 obtain ⟨i0,hi,hz0,hz1,hz2⟩:=info_parts Tryz.info110;have HI:=ae hi;have iU:=ae hz0;have iV:=ae hz1;have iW:=ae hz2;clear hi hz0 hz1 hz2;obtain ⟨oa,oc,rfl⟩:=ak h;have H:=ae h;have MH:=ae MG;have Hin:=ae hin;generalize hR:fQ inn [] l=R;have yt:=ae hR;clear hR h MG hin;go_enter Tryz.func115,Tryz.ntmps115;go_wp2_with fail
 go_loopw [12] (fun u wr=>∃(k:Nat) (sv:Value),k≤l.length∧u=.int .i64 k∧Below w.heap.size w wr∧ag wr (w.heap.size+1) #[sv] 75∧wr.ownsRow w.heap.size 110 3 sv k ((l.take k).flatMap c3)∧Hid (fQ inn (l.take k) (l.drop k)=R)) (fun u _=>l.length-(intOf u).toNat)
 case atStart=>exact ⟨0,_,by omega,rfl,((Below.refl _ _).alloc Qv _).alloc (by simp) _,ag.new' (w.alloc _) _ _ _ (by simp),World.ownsRow_nil _ _ _ _,yt⟩
 case round=>
  obtain ⟨k,sv,hk,rfl,hb,hbl,ho,HQ⟩:=hrel;obtain ⟨sa,sc,rfl⟩:=ak ho;have HB:=ae hb;have HL:=ae hbl;have HO:=ae ho;have b0:wr.cell? ⟨w.heap.size+1,0,none⟩=some (.slice sa k sc):=hbl.cell rfl;have zb:=hbl.fz;have lb:=hbl.lt
  by_cases hlt:k<l.length
  ·have hR:=aa HQ;rw [ut inn l k hlt] at hR;obtain ⟨g,c,e1,k0,k1,k2⟩:=((aa H).below hb).cell k hlt;simp only [Value.slice.injEq] at e1;obtain ⟨rfl,_,rfl⟩:=e1;obtain ⟨ua,um,un,hu⟩:=aa MH l[k] (List.getElem_mem hlt);have hct:=Au l k hlt;generalize hy:l[k]=y at*;obtain ⟨p,n,u⟩:=y;simp only at k0 k1 k2 hu hR;subst hu;have hgl:g<w.heap.size:=by
    obtain ⟨g',c',e1,J5,_⟩:=(aa H).cell k hlt;simp only [Value.slice.injEq,Option.some.injEq,Addr.mk.injEq] at e1;obtain ⟨⟨rfl,_⟩,_⟩:=e1;exact fH J5
   have Pe:=ae hct;have Hy:=ae hy;have HF:=ae (show eZ (wr.alloc (.cells #[.int .i64 p,.string n,.slice ua um un] 110)) 110 (.slice sa k sc) (l.take k) from by
    have:=aC (ho.alloc (.cells #[.int .i64 p,.string n,.slice ua um un] 110)) (Nat.zero_le _);unfold eZ;rw [List.length_take,Nat.min_eq_left hk];exact this)
   clear hy hct hb hbl ho
   cases hf:eO n (l.take k) with
   |some y=>
    have hy1:∃a n c,y.2.2=.slice a n c:=aa MH y (List.mem_of_mem_take (List.mem_of_find?_eq_some hf));rw [hf] at hR;simp only [Option.isSome_some,if_true] at hR;have cu:=ae hR;have C:=ae (lT (.slice sa k sc) (l.take k) n _ (by rw [List.length_take];omega) (aa HF) y hf hy1);obtain ⟨yp,yn,yu⟩:=y;obtain ⟨ya,ym,yx,MI⟩:=hy1;simp only at MI;subst MI;clear hR hf;go_wp2_with fail;refine (aa C).mono ?_;rintro e w2 ⟨rfl,hb2⟩;have B2:=ae (((aa HB).alloc (aa HB).size (.cells #[.int .i64 p,.string n,.slice ua um un] 110)).trans (hb2.mono (by have:=(aa HB).size;simp;omega)));have E2:=(ag.new wr #[.int .i64 p,.string n,.slice ua um un] 110).below hb2;obtain ⟨q0,q1,q2⟩:=E2.three;have ql:=E2.lt;clear hb2 E2;go_wp2_with (go_at_call 73;refine (fe _ 4 _).mono ?_;rintro e w3 ⟨rfl,rfl⟩);go_ret;rw [←aa cu];exact ⟨rfl,(by with_reducible repeat (first|exact aa B2|refine Below.drew ?_|(refine Below.setCell ?_ ?_ _;rotate_left;exact (by first|omega|(simp;omega)|simp))|(refine Below.alloc ?_ ?_ _;rotate_left;exact (by first|omega|(simp;omega)|simp))))⟩
   |none=>
    rw [hf] at hR;simp only [Option.isSome_none,Bool.false_eq_true,if_false] at hR;have cu:=ae hR;have C:=ae (sw (.slice sa k sc) (l.take k) n _ (by rw [List.length_take];omega) (aa HF) hf);clear hR hf;go_wp2_with fail;refine (aa C).mono ?_;rintro e w2 ⟨rfl,hb2⟩;have hbb:Below wr.heap.size wr w2:=((Below.refl _ _).alloc Qv (.cells #[.int .i64 p,.string n,.slice ua um un] 110)).trans (hb2.mono (by simp));have B2:=ae ((aa HB).trans (hbb.mono (aa HB).size));have E2:=(ag.new wr #[.int .i64 p,.string n,.slice ua um un] 110).below hb2;obtain ⟨q0,q1,q2⟩:=E2.three;have ql:=E2.lt;have HE2:=ae E2;have L2:=(aa HL).below hbb;have Ap:=ae L2;have m0:w2.cell? ⟨w.heap.size+1,0,none⟩=some (.slice sa k sc):=L2.cell rfl;have zm:=L2.fz;have ml:=L2.lt;have O2:=ae (ai (aa HO) (fun g cs f _ hh=>hbb.block g (lt_of_some hh)));have ni:=(aa HB).size;clear hb2 E2 L2 hbb b0 zb
    cases Mf:inn (p,n,.slice ua um un) with
    |some pq=>
     have Cn:=ae (aa Hin (p,n,.slice ua um un) (by rw [←aa Hy];exact List.getElem_mem hlt) (w2.alloc (.cells #[.int .i64 0,.string ⟨#[]⟩,.slice none 0 0] 110)) ((aa B2).alloc (aa B2).size _));rw [Mf] at Cn;have J6:=aa cu;rw [Mf] at J6;have iq:=ae J6;clear Mf J6;unfold aJ;go_wp2_with fail;refine (aa Cn).mono ?_;rintro e w3 ⟨rfl,hb3⟩;have B3:=ae (((aa B2).alloc (aa B2).size (.cells #[.int .i64 0,.string ⟨#[]⟩,.slice none 0 0] 110)).trans (hb3.mono (by have:=(aa B2).size;simp;omega)));clear hb3;unfold dQ d9;go_wp2;go_ret;rw [←aa iq];exact ⟨rfl,aa B3⟩
    |none=>
     have Cn:=ae (aa Hin (p,n,.slice ua um un) (by rw [←aa Hy];exact List.getElem_mem hlt) (w2.alloc (.cells #[.int .i64 0,.string ⟨#[]⟩,.slice none 0 0] 110)) ((aa B2).alloc (aa B2).size _));rw [Mf] at Cn;have J6:=aa cu;rw [Mf] at J6;have iq:=ae J6;clear Mf J6;unfold aJ;go_wp2_with fail;refine (aa Cn).mono ?_;rintro e w3 ⟨rfl,hb3⟩;have hbc:Below w2.heap.size w2 w3:=((Below.refl _ _).alloc Qv (.cells #[.int .i64 0,.string ⟨#[]⟩,.slice none 0 0] 110)).trans (hb3.mono (by simp));have B3:=ae ((aa B2).trans (hbc.mono (aa B2).size));have Pf:=(aa HE2).below hbc;obtain ⟨q0,q1,q2⟩:=Pf.three;have ql:=Pf.lt;have L3:=(aa Ap).below hbc;have yo:=ae L3;have m0:w3.cell? ⟨w.heap.size+1,0,none⟩=some (.slice sa k sc):=L3.cell rfl;have zm:=L3.fz;have ml:=L3.lt;have O3:=ae (ai (aa O2) (fun g cs f _ hh=>hbc.block g (lt_of_some hh)));have yN:=(aa B3).size;clear hb3 Pf L3 hbc;unfold dQ;go_wp2_with (at_builtin;go_must (refine wpList_append_lies _ rfl _ _ 73 rfl w.heap.size 110 i0 _ 3 48 Tryz.underlying73 (aa HI) (aa iU) (aa iV) (aa iW) rfl (by decide) (.slice sa k sc) k ((l.take k).flatMap c3) rfl ?hown ⟨w3.heap.size,0,none⟩ 1 1 (c3 (p,n,.slice ua um un)) rfl rfl ?hnews ?hone (by decide) ?h63 ?hbytes ?hbase (w3.heap.size+1) ?hH ?hrest))
     case hown=>exact (aa O3).alloc _
     case hnews=>exact World.news_of_block (B:=w3.heap.size) (cs:=#[.int .i64 p,.string n,.slice ua um un]) (t:=110) (fr:=(0,0)) (ag.new w3 _ _)
     case hone=>
      intro u hu;simp [c3] at hu
      rcases hu with rfl|rfl|rfl<;>rfl
     case h63=>unfold maxLen;omega
     case hbytes=>omega
     case hbase=>simp;omega
     case hH=>simp
     case hrest=>
      intro g5 bP w5 aK ax bZ jD;have b0:Below w3.heap.size w3 (w3.alloc (.cells #[.int .i64 p,.string n,.slice ua um un] 110)):=(Below.refl _ _).alloc Qv _;have GG:=(aa yo).below b0;have gF:=(aa O3).alloc (.cells #[.int .i64 p,.string n,.slice ua um un] 110);have Eh:=ae (show ag w5 (w.heap.size+1) #[.slice sa k sc] 75 from (ax.block _ GG.lt (own_ne gF GG (by decide))).trans GG);have B5:=ae (Below.grown ((aa B3).trans (b0.mono (aa B3).size)) ax (by have:=(aa B3).size;simp;omega) (fun k hk=>(gF.lt k hk).1));have O5:=ae aK;have n0:w5.cell? ⟨w.heap.size+1,0,none⟩=some (.slice sa k sc):=(aa Eh).cell rfl;have zn:=(aa Eh).fz;have nl:=(aa Eh).lt;clear b0 GG gF aK ax bZ m0 zm q0 q1 q2;go_wp2;go_roundw
      case rel=>exact ⟨k+1,_,by omega,by go_num,(by with_reducible repeat (first|exact aa B5|refine Below.drew ?_|(refine Below.setCell ?_ ?_ _;rotate_left;exact (by first|omega|(simp;omega)|simp))|(refine Below.alloc ?_ ?_ _;rotate_left;exact (by first|omega|(simp;omega)|simp)))),(aa Eh).set 0 _,by rw [aa Pe];exact bn (aa O5) (aa Eh) (by decide) 0 _,iq⟩
      case measure=>simp [intOf];omega
  ·have hR:=aa HQ;rw [List.drop_of_length_le (by omega)] at hR;have cu:=ae hR;clear hb hbl ho hR;go_wp2;go_ret;rw [←aa cu];exact ⟨rfl,aa HB⟩
theorem bB (x:Value) (w:World):(Instr.typeAssert (.iface 236 x) 157 236 true).run Tryz.prog w=.ok (.tuple #[x,.bool true]) w:=by kernel_rfl
theorem qf (x:Value) (w:World):(Instr.typeAssert (.iface 236 x) 157 244 true).run Tryz.prog w=.ok (.tuple #[.agg #[.int .i64 0,.nilIface,.nilIface],.bool false]) w:=by kernel_rfl
theorem uu (x:Value) (w:World):(Instr.typeAssert (.iface 236 x) 157 245 true).run Tryz.prog w=.ok (.tuple #[.agg #[.int .i64 0,.nilIface,.nilIface],.bool false]) w:=by kernel_rfl
theorem nk (x:Value) (w:World):(Instr.typeAssert (.iface 236 x) 157 246 true).run Tryz.prog w=.ok (.tuple #[.agg #[.int .i64 0,.nilIface,.nilIface],.bool false]) w:=by kernel_rfl
theorem cK (x:Value) (w:World):(Instr.typeAssert (.iface 238 x) 157 236 true).run Tryz.prog w=.ok (.tuple #[.agg #[.int .i64 0,.slice none 0 0],.bool false]) w:=by kernel_rfl
theorem dR (x:Value) (w:World):(Instr.typeAssert (.iface 238 x) 157 238 true).run Tryz.prog w=.ok (.tuple #[x,.bool true]) w:=by kernel_rfl
theorem rC (x:Value) (w:World):(Instr.typeAssert (.iface 238 x) 157 244 true).run Tryz.prog w=.ok (.tuple #[.agg #[.int .i64 0,.nilIface,.nilIface],.bool false]) w:=by kernel_rfl
theorem vU (x:Value) (w:World):(Instr.typeAssert (.iface 238 x) 157 245 true).run Tryz.prog w=.ok (.tuple #[.agg #[.int .i64 0,.nilIface,.nilIface],.bool false]) w:=by kernel_rfl
theorem oL (x:Value) (w:World):(Instr.typeAssert (.iface 238 x) 157 246 true).run Tryz.prog w=.ok (.tuple #[.agg #[.int .i64 0,.nilIface,.nilIface],.bool false]) w:=by kernel_rfl
theorem cO (x:Value) (w:World):(Instr.typeAssert (.iface 240 x) 157 236 true).run Tryz.prog w=.ok (.tuple #[.agg #[.int .i64 0,.slice none 0 0],.bool false]) w:=by kernel_rfl
theorem dS (x:Value) (w:World):(Instr.typeAssert (.iface 240 x) 157 238 true).run Tryz.prog w=.ok (.tuple #[.agg #[.int .i64 0,.string ⟨#[]⟩],.bool false]) w:=by kernel_rfl
theorem dU (x:Value) (w:World):(Instr.typeAssert (.iface 240 x) 157 240 true).run Tryz.prog w=.ok (.tuple #[x,.bool true]) w:=by kernel_rfl
theorem rD (x:Value) (w:World):(Instr.typeAssert (.iface 240 x) 157 244 true).run Tryz.prog w=.ok (.tuple #[.agg #[.int .i64 0,.nilIface,.nilIface],.bool false]) w:=by kernel_rfl
theorem vV (x:Value) (w:World):(Instr.typeAssert (.iface 240 x) 157 245 true).run Tryz.prog w=.ok (.tuple #[.agg #[.int .i64 0,.nilIface,.nilIface],.bool false]) w:=by kernel_rfl
theorem oM (x:Value) (w:World):(Instr.typeAssert (.iface 240 x) 157 246 true).run Tryz.prog w=.ok (.tuple #[.agg #[.int .i64 0,.nilIface,.nilIface],.bool false]) w:=by kernel_rfl
theorem aT (x:Value) (w:World):(Instr.typeAssert (.iface 244 x) 157 236 true).run Tryz.prog w=.ok (.tuple #[.agg #[.int .i64 0,.slice none 0 0],.bool false]) w:=by kernel_rfl
theorem bI (x:Value) (w:World):(Instr.typeAssert (.iface 244 x) 157 238 true).run Tryz.prog w=.ok (.tuple #[.agg #[.int .i64 0,.string ⟨#[]⟩],.bool false]) w:=by kernel_rfl
theorem bJ (x:Value) (w:World):(Instr.typeAssert (.iface 244 x) 157 240 true).run Tryz.prog w=.ok (.tuple #[.agg #[.int .i64 0,.int .i64 0,.string ⟨#[]⟩,.int .i64 0,.string ⟨#[]⟩],.bool false]) w:=by kernel_rfl
theorem aY (x:Value) (w:World):(Instr.typeAssert (.iface 244 x) 157 244 true).run Tryz.prog w=.ok (.tuple #[x,.bool true]) w:=by kernel_rfl
theorem qg (x:Value) (w:World):(Instr.typeAssert (.iface 244 x) 157 246 true).run Tryz.prog w=.ok (.tuple #[.agg #[.int .i64 0,.nilIface,.nilIface],.bool false]) w:=by kernel_rfl
theorem bD (x:Value) (w:World):(Instr.typeAssert (.iface 245 x) 157 236 true).run Tryz.prog w=.ok (.tuple #[.agg #[.int .i64 0,.slice none 0 0],.bool false]) w:=by kernel_rfl
theorem dz (x:Value) (w:World):(Instr.typeAssert (.iface 245 x) 157 238 true).run Tryz.prog w=.ok (.tuple #[.agg #[.int .i64 0,.string ⟨#[]⟩],.bool false]) w:=by kernel_rfl
theorem dA (x:Value) (w:World):(Instr.typeAssert (.iface 245 x) 157 240 true).run Tryz.prog w=.ok (.tuple #[.agg #[.int .i64 0,.int .i64 0,.string ⟨#[]⟩,.int .i64 0,.string ⟨#[]⟩],.bool false]) w:=by kernel_rfl
theorem bQ (x:Value) (w:World):(Instr.typeAssert (.iface 245 x) 157 244 true).run Tryz.prog w=.ok (.tuple #[.agg #[.int .i64 0,.nilIface,.nilIface],.bool false]) w:=by kernel_rfl
theorem dE (x:Value) (w:World):(Instr.typeAssert (.iface 245 x) 157 245 true).run Tryz.prog w=.ok (.tuple #[x,.bool true]) w:=by kernel_rfl
theorem uw (x:Value) (w:World):(Instr.typeAssert (.iface 245 x) 157 246 true).run Tryz.prog w=.ok (.tuple #[.agg #[.int .i64 0,.nilIface,.nilIface],.bool false]) w:=by kernel_rfl
theorem bE (x:Value) (w:World):(Instr.typeAssert (.iface 246 x) 157 236 true).run Tryz.prog w=.ok (.tuple #[.agg #[.int .i64 0,.slice none 0 0],.bool false]) w:=by kernel_rfl
theorem dB (x:Value) (w:World):(Instr.typeAssert (.iface 246 x) 157 238 true).run Tryz.prog w=.ok (.tuple #[.agg #[.int .i64 0,.string ⟨#[]⟩],.bool false]) w:=by kernel_rfl
theorem dC (x:Value) (w:World):(Instr.typeAssert (.iface 246 x) 157 240 true).run Tryz.prog w=.ok (.tuple #[.agg #[.int .i64 0,.int .i64 0,.string ⟨#[]⟩,.int .i64 0,.string ⟨#[]⟩],.bool false]) w:=by kernel_rfl
theorem bU (x:Value) (w:World):(Instr.typeAssert (.iface 246 x) 157 244 true).run Tryz.prog w=.ok (.tuple #[.agg #[.int .i64 0,.nilIface,.nilIface],.bool false]) w:=by kernel_rfl
theorem dF (x:Value) (w:World):(Instr.typeAssert (.iface 246 x) 157 245 true).run Tryz.prog w=.ok (.tuple #[.agg #[.int .i64 0,.nilIface,.nilIface],.bool false]) w:=by kernel_rfl
theorem cZ (x:Value) (w:World):(Instr.typeAssert (.iface 246 x) 157 246 true).run Tryz.prog w=.ok (.tuple #[x,.bool true]) w:=by kernel_rfl
def GH:Array Value:=#[.int .i64 0,.nilIface,.nilIface]
theorem uy (p:Nat) (ta:TypeId) (va:Value) (tb:TypeId) (vb:Value) (w:World):
  Calls Tryz.prog 212 #[.iface 244 (.agg #[.int .i64 p,.iface ta va,.iface tb vb])] w fun e w'=>e=.returned (.tuple #[.agg #[.int .i64 p,.iface ta va,.iface tb vb],.bool true])∧Below w.heap.size w w':=by
 have B0:=ae (Below.refl w.heap.size w);have f0:=aY;go_enter Tryz.func212,Tryz.ntmps212;go_wp2;refine bodyPost_ret (v:=.tuple #[.agg #[.int .i64 p,.iface ta va,.iface tb vb],.bool true]) (aH Tryz.results212 _ _ w.heap.size _ 242 _ _ rfl rfl ?hB Tryz.underlying242 rfl (by kernel_rfl)) rfl ?post
 case hB=>exact ⟨_,(by first|exact ag.alloc (ag.new _ _ _) _|exact ag.new _ _ _),by rfl⟩
 case post=>exact ⟨rfl,(by with_reducible repeat (first|exact aa B0|refine Below.drew ?_|(refine Below.setCell ?_ ?_ _;rotate_left;exact (by first|omega|(simp;omega)|simp))|(refine Below.alloc ?_ ?_ _;rotate_left;exact (by first|omega|(simp;omega)|simp))))⟩
theorem yO (p:Nat) (ta:TypeId) (va:Value) (tb:TypeId) (vb:Value) (w:World):
  Calls Tryz.prog 212 #[.iface 245 (.agg #[.int .i64 p,.iface ta va,.iface tb vb])] w fun e w'=>e=.returned (.tuple #[.agg #[.int .i64 p,.iface ta va,.iface tb vb],.bool true])∧Below w.heap.size w w':=by
 have B0:=ae (Below.refl w.heap.size w);have f0:=bQ;have f1:=dE;go_enter Tryz.func212,Tryz.ntmps212;go_wp2;refine bodyPost_ret (v:=.tuple #[.agg #[.int .i64 p,.iface ta va,.iface tb vb],.bool true]) (aH Tryz.results212 _ _ w.heap.size _ 242 _ _ rfl rfl ?hB Tryz.underlying242 rfl (by kernel_rfl)) rfl ?post
 case hB=>exact ⟨_,(by first|exact ag.alloc (ag.new _ _ _) _|exact ag.new _ _ _),by rfl⟩
 case post=>exact ⟨rfl,(by with_reducible repeat (first|exact aa B0|refine Below.drew ?_|(refine Below.setCell ?_ ?_ _;rotate_left;exact (by first|omega|(simp;omega)|simp))|(refine Below.alloc ?_ ?_ _;rotate_left;exact (by first|omega|(simp;omega)|simp))))⟩
theorem yP (p:Nat) (ta:TypeId) (va:Value) (tb:TypeId) (vb:Value) (w:World):
  Calls Tryz.prog 212 #[.iface 246 (.agg #[.int .i64 p,.iface ta va,.iface tb vb])] w fun e w'=>e=.returned (.tuple #[.agg #[.int .i64 p,.iface ta va,.iface tb vb],.bool true])∧Below w.heap.size w w':=by
 have B0:=ae (Below.refl w.heap.size w);have f0:=bU;have f1:=dF;have f2:=cZ;go_enter Tryz.func212,Tryz.ntmps212;go_wp2;refine bodyPost_ret (v:=.tuple #[.agg #[.int .i64 p,.iface ta va,.iface tb vb],.bool true]) (aH Tryz.results212 _ _ w.heap.size _ 242 _ _ rfl rfl ?hB Tryz.underlying242 rfl (by kernel_rfl)) rfl ?post
 case hB=>exact ⟨_,(by first|exact ag.alloc (ag.new _ _ _) _|exact ag.new _ _ _),by rfl⟩
 case post=>exact ⟨rfl,(by with_reducible repeat (first|exact aa B0|refine Below.drew ?_|(refine Below.setCell ?_ ?_ _;rotate_left;exact (by first|omega|(simp;omega)|simp))|(refine Below.alloc ?_ ?_ _;rotate_left;exact (by first|omega|(simp;omega)|simp))))⟩
theorem yQ (x:Value) (w:World):
  Calls Tryz.prog 212 #[.iface 236 x] w fun e w'=>e=.returned (.tuple #[.agg GH,.bool false])∧Below w.heap.size w w':=by
 have B0:=ae (Below.refl w.heap.size w);have f0:=qf;have f1:=uu;have f2:=nk;go_enter Tryz.func212,Tryz.ntmps212;go_wp2;refine bodyPost_ret (v:=.tuple #[.agg GH,.bool false]) (aH Tryz.results212 _ _ w.heap.size _ 242 _ _ rfl rfl ?hB Tryz.underlying242 rfl (by kernel_rfl)) rfl ?post
 case hB=>exact ⟨_,(by first|exact ag.alloc (ag.new _ _ _) _|exact ag.new _ _ _),by rfl⟩
 case post=>exact ⟨rfl,(by with_reducible repeat (first|exact aa B0|refine Below.drew ?_|(refine Below.setCell ?_ ?_ _;rotate_left;exact (by first|omega|(simp;omega)|simp))|(refine Below.alloc ?_ ?_ _;rotate_left;exact (by first|omega|(simp;omega)|simp))))⟩
theorem Bv (x:Value) (w:World):
  Calls Tryz.prog 212 #[.iface 238 x] w fun e w'=>e=.returned (.tuple #[.agg GH,.bool false])∧Below w.heap.size w w':=by
 have B0:=ae (Below.refl w.heap.size w);have f0:=rC;have f1:=vU;have f2:=oL;go_enter Tryz.func212,Tryz.ntmps212;go_wp2;refine bodyPost_ret (v:=.tuple #[.agg GH,.bool false]) (aH Tryz.results212 _ _ w.heap.size _ 242 _ _ rfl rfl ?hB Tryz.underlying242 rfl (by kernel_rfl)) rfl ?post
 case hB=>exact ⟨_,(by first|exact ag.alloc (ag.new _ _ _) _|exact ag.new _ _ _),by rfl⟩
 case post=>exact ⟨rfl,(by with_reducible repeat (first|exact aa B0|refine Below.drew ?_|(refine Below.setCell ?_ ?_ _;rotate_left;exact (by first|omega|(simp;omega)|simp))|(refine Below.alloc ?_ ?_ _;rotate_left;exact (by first|omega|(simp;omega)|simp))))⟩
theorem Bw (x:Value) (w:World):
  Calls Tryz.prog 212 #[.iface 240 x] w fun e w'=>e=.returned (.tuple #[.agg GH,.bool false])∧Below w.heap.size w w':=by
 have B0:=ae (Below.refl w.heap.size w);have f0:=rD;have f1:=vV;have f2:=oM;go_enter Tryz.func212,Tryz.ntmps212;go_wp2;refine bodyPost_ret (v:=.tuple #[.agg GH,.bool false]) (aH Tryz.results212 _ _ w.heap.size _ 242 _ _ rfl rfl ?hB Tryz.underlying242 rfl (by kernel_rfl)) rfl ?post
 case hB=>exact ⟨_,(by first|exact ag.alloc (ag.new _ _ _) _|exact ag.new _ _ _),by rfl⟩
 case post=>exact ⟨rfl,(by with_reducible repeat (first|exact aa B0|refine Below.drew ?_|(refine Below.setCell ?_ ?_ _;rotate_left;exact (by first|omega|(simp;omega)|simp))|(refine Below.alloc ?_ ?_ _;rotate_left;exact (by first|omega|(simp;omega)|simp))))⟩
