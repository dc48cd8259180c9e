import Derived.Test.YtlbpnlngckgcbaaGreatDoorM07
set_option linter.all false
set_option maxHeartbeats 4000000
set_option maxRecDepth 100000
namespace Go.Proofs.YtlbpnlngckgcbaaGreatDoor
open Go.RowKit Go.PlainAid
def eY (x:RJ) (l:List E3):Option E3:=l.find? fun e=>eqs e.2.1 x
theorem sW {x:RJ} {l:List E3} (h:eY x l=none):wN x l= -1:=by
 unfold eY at h;rw [List.find?_eq_none] at h;exact uN x l (fun j hj=>by simpa using h l[j] (List.getElem_mem hj))
theorem sZ {x:RJ} {l:List E3} {y:E3} (h:eY x l=some y):∃k,∃hk:k<l.length,l[k]=y∧wN x l=k:=by
 unfold eY at h;rw [List.find?_eq_some_iff_getElem] at h;obtain ⟨h1,k,hk,h2,h3⟩:=h;refine ⟨k,hk,h2,qH x l k hk (by rw [h2];exact h1) (fun j hj hjk=>by simpa using h3 j hjk)⟩
theorem fQ {w:World} {g o:Nat} {v:Value} (h:w.cell? ⟨g,o,none⟩=some v):g<w.heap.size:=by
 rcases Nat.lt_or_ge g w.heap.size with k|k
 ·exact k
 ·simp [World.cell?,Array.getElem?_eq_none k] at h
theorem tq (v:Value) (l:List E3) (x:RJ) (w:World) (hn:l.length≤1000) (h:fD w 110 v l) (hf:eY x l=none):
  Calls Tryz.prog 57 #[.agg #[v],.string x] w fun e w'=>e=.returned (.tuple #[.agg #[.int .i64 0,.string ⟨#[]⟩,.slice none 0 0],aM 5])∧Below w.heap.size w w':=by
 obtain ⟨sa,sc,rfl⟩:=ak h;have H:=ae h;have W0:Below w.heap.size w (((w.alloc (.cells #[.slice sa l.length sc] 75)).alloc (.cells #[.string x] 9)).alloc (.cells #[.int .i64 0,.string ⟨#[]⟩,.slice none 0 0] 110)):=(((Below.refl _ _).alloc RH _).alloc (by simp) _).alloc (by simp;omega) _;have C:=ae (o5 (.slice sa l.length sc) l x (w.heap.size+1) _ hn (h.below W0) ((ag.new' (w.alloc (.cells #[.slice sa l.length sc] 75)) #[.string x] 9 (w.heap.size+1) (by simp)).alloc (.cells #[.int .i64 0,.string ⟨#[]⟩,.slice none 0 0] 110)));have M:=ae (((ag.new w #[.slice sa l.length sc] 75).alloc (.cells #[.string x] 9)).alloc (.cells #[.int .i64 0,.string ⟨#[]⟩,.slice none 0 0] 110));have R:=ae (ag.new' ((w.alloc (.cells #[.slice sa l.length sc] 75)).alloc (.cells #[.string x] 9)) #[.int .i64 0,.string ⟨#[]⟩,.slice none 0 0] 110 (w.heap.size+2) (by simp));have fK:=ae W0;have H0:=ae (h.below W0);clear h W0;go_enter Tryz.func57,Tryz.ntmps57;go_wp2_with fail;refine (aa C).mono ?_;rintro e w1 ⟨rfl,hb1⟩;have HR:=ae ((aa R).below hb1);have HM:=ae ((aa M).below hb1);have H1:=ae ((aa H0).below hb1);have B1:=ae ((aa fK).trans (hb1.mono (aa fK).size));clear hb1 C;obtain ⟨r0,r1,r2⟩:=(aa HR).three;have zr:=(aa HR).fz;have hrl:=(aa HR).lt;have mc:w1.cell? ⟨w.heap.size,0,none⟩=some (.slice sa l.length sc):=(aa HM).cell rfl;rw [sW hf];go_wp2;refine bodyPost_ret (v:=.tuple #[.agg #[.int .i64 0,.string ⟨#[]⟩,.slice none 0 0],aM 5]) (aK Tryz.results57 _ _ (w.heap.size+2) _ 110 _ _ rfl rfl ?hB Tryz.underlying110 rfl (by kernel_rfl)) rfl ?post
 case hB=>exact ⟨_,(by with_reducible repeat (first|exact aa HR|apply ag.alloc|apply ag.drew|apply ag.set|(apply ag.other;case ha=>exact (by first|omega|(simp;omega)|simp)))),by rfl⟩
 case post=>exact ⟨rfl,(by with_reducible repeat (first|exact aa B1|refine Below.drew ?_|(refine Below.setCell ?_ ?_ _;rotate_left;exact (by first|omega|(simp;omega)|simp))|(refine Below.alloc ?_ ?_ _;rotate_left;exact (by first|omega|(simp;omega)|simp))))⟩
theorem l8 (v:Value) (l:List E3) (x:RJ) (w:World) (hn:l.length≤1000) (h:fD w 110 v l) (y:E3) (hf:eY x l=some y) (hy1:∃a n c,y.2.2=.slice a n c):
  Calls Tryz.prog 57 #[.agg #[v],.string x] w fun e w'=>e=.returned (.tuple #[.agg #[.int .i64 y.1,.string y.2.1,y.2.2],.nilIface])∧Below w.heap.size w w':=by
 obtain ⟨k,hk,hy,hi⟩:=sZ hf;obtain ⟨sa,sc,rfl⟩:=ak h;have H:=ae h;have W0:Below w.heap.size w (((w.alloc (.cells #[.slice sa l.length sc] 75)).alloc (.cells #[.string x] 9)).alloc (.cells #[.int .i64 0,.string ⟨#[]⟩,.slice none 0 0] 110)):=(((Below.refl _ _).alloc RH _).alloc (by simp) _).alloc (by simp;omega) _;have C:=ae (o5 (.slice sa l.length sc) l x (w.heap.size+1) _ hn (h.below W0) ((ag.new' (w.alloc (.cells #[.slice sa l.length sc] 75)) #[.string x] 9 (w.heap.size+1) (by simp)).alloc (.cells #[.int .i64 0,.string ⟨#[]⟩,.slice none 0 0] 110)));have M:=ae (((ag.new w #[.slice sa l.length sc] 75).alloc (.cells #[.string x] 9)).alloc (.cells #[.int .i64 0,.string ⟨#[]⟩,.slice none 0 0] 110));have R:=ae (ag.new' ((w.alloc (.cells #[.slice sa l.length sc] 75)).alloc (.cells #[.string x] 9)) #[.int .i64 0,.string ⟨#[]⟩,.slice none 0 0] 110 (w.heap.size+2) (by simp));have fK:=ae W0;have H0:=ae (h.below W0);clear h W0;go_enter Tryz.func57,Tryz.ntmps57;go_wp2_with fail;refine (aa C).mono ?_;rintro e w1 ⟨rfl,hb1⟩;have HR:=ae ((aa R).below hb1);have HM:=ae ((aa M).below hb1);have H1:=ae ((aa H0).below hb1);have B1:=ae ((aa fK).trans (hb1.mono (aa fK).size));clear hb1 C;obtain ⟨r0,r1,r2⟩:=(aa HR).three;have zr:=(aa HR).fz;have hrl:=(aa HR).lt;have mc:w1.cell? ⟨w.heap.size,0,none⟩=some (.slice sa l.length sc):=(aa HM).cell rfl;rw [hi];obtain ⟨g,c,e1,k0,k1,k2⟩:=(aa H1).cell k hk;simp only [Value.slice.injEq] at e1;obtain ⟨rfl,_,rfl⟩:=e1;rw [hy] at k0 k1 k2;have hgl:=fQ k0;have Np:¬(g=w.heap.size+2):=fun e=>by
  have:=(aa H).cell k hk;obtain ⟨g',c',e1,wO,_⟩:=this;simp only [Value.slice.injEq,Option.some.injEq,Addr.mk.injEq] at e1;have:=fQ wO;omega
 have hgn':¬(w.heap.size+2=g):=fun e=>Np e.symm
 clear hi hy hf;obtain ⟨p,n,u⟩:=y;simp only at k0 k1 k2;obtain ⟨ua,un,uc,rfl⟩:∃a n c,u=.slice a n c:=hy1;go_wp2;refine bodyPost_ret (v:=.tuple #[.agg #[.int .i64 p,.string n,.slice ua un uc],.nilIface]) (aK Tryz.results57 _ _ (w.heap.size+2) _ 110 _ _ rfl rfl ?hB Tryz.underlying110 rfl (by kernel_rfl)) rfl ?post
 case hB=>exact ⟨_,(by with_reducible repeat (first|exact aa HR|apply ag.alloc|apply ag.drew|apply ag.set|(apply ag.other;case ha=>exact (by first|omega|(simp;omega)|simp)))),by rfl⟩
 case post=>exact ⟨rfl,(by with_reducible repeat (first|exact aa B1|refine Below.drew ?_|(refine Below.setCell ?_ ?_ _;rotate_left;exact (by first|omega|(simp;omega)|simp))|(refine Below.alloc ?_ ?_ _;rotate_left;exact (by first|omega|(simp;omega)|simp))))⟩
theorem tu (pp:Nat) (nn:RJ) (v:Value) (l:List E3) (x:RJ) (w:World) (hn:l.length≤1000) (h:fD w 159 v l) (hf:eY x l=none):
  Calls Tryz.prog 145 #[.agg #[.int .i64 pp,.string nn,v],.string x] w fun e w'=>e=.returned (.tuple #[.agg #[.int .i64 0,.string ⟨#[]⟩,.nilIface],aM 5])∧Below w.heap.size w w':=by
 obtain ⟨sa,sc,rfl⟩:=ak h;have H:=ae h;have W0:Below w.heap.size w (((w.alloc (.cells #[.int .i64 pp,.string nn,.slice sa l.length sc] 110)).alloc (.cells #[.string x] 9)).alloc (.cells #[.int .i64 0,.string ⟨#[]⟩,.nilIface] 159)):=(((Below.refl _ _).alloc RH _).alloc (by simp) _).alloc (by simp;omega) _;have C:=ae (o6 (.slice sa l.length sc) l x (w.heap.size+1) _ hn (h.below W0) ((ag.new' (w.alloc (.cells #[.int .i64 pp,.string nn,.slice sa l.length sc] 110)) #[.string x] 9 (w.heap.size+1) (by simp)).alloc (.cells #[.int .i64 0,.string ⟨#[]⟩,.nilIface] 159)));have M:=ae (((ag.new w #[.int .i64 pp,.string nn,.slice sa l.length sc] 110).alloc (.cells #[.string x] 9)).alloc (.cells #[.int .i64 0,.string ⟨#[]⟩,.nilIface] 159));have R:=ae (ag.new' ((w.alloc (.cells #[.int .i64 pp,.string nn,.slice sa l.length sc] 110)).alloc (.cells #[.string x] 9)) #[.int .i64 0,.string ⟨#[]⟩,.nilIface] 159 (w.heap.size+2) (by simp));have fK:=ae W0;have H0:=ae (h.below W0);clear h W0;go_enter Tryz.func145,Tryz.ntmps145;go_wp2_with fail;refine (aa C).mono ?_;rintro e w1 ⟨rfl,hb1⟩;have HR:=ae ((aa R).below hb1);have HM:=ae ((aa M).below hb1);have H1:=ae ((aa H0).below hb1);have B1:=ae ((aa fK).trans (hb1.mono (aa fK).size));clear hb1 C;obtain ⟨r0,r1,r2⟩:=(aa HR).three;have zr:=(aa HR).fz;have hrl:=(aa HR).lt;have mc:w1.cell? ⟨w.heap.size,2,none⟩=some (.slice sa l.length sc):=(aa HM).cell rfl;rw [sW hf];go_wp2;refine bodyPost_ret (v:=.tuple #[.agg #[.int .i64 0,.string ⟨#[]⟩,.nilIface],aM 5]) (aK Tryz.results145 _ _ (w.heap.size+2) _ 159 _ _ rfl rfl ?hB Tryz.underlying159 rfl (by kernel_rfl)) rfl ?post
 case hB=>exact ⟨_,(by with_reducible repeat (first|exact aa HR|apply ag.alloc|apply ag.drew|apply ag.set|(apply ag.other;case ha=>exact (by first|omega|(simp;omega)|simp)))),by rfl⟩
 case post=>exact ⟨rfl,(by with_reducible repeat (first|exact aa B1|refine Below.drew ?_|(refine Below.setCell ?_ ?_ _;rotate_left;exact (by first|omega|(simp;omega)|simp))|(refine Below.alloc ?_ ?_ _;rotate_left;exact (by first|omega|(simp;omega)|simp))))⟩
theorem l9 (pp:Nat) (nn:RJ) (v:Value) (l:List E3) (x:RJ) (w:World) (hn:l.length≤1000) (h:fD w 159 v l) (y:E3) (hf:eY x l=some y) (hy1:∃a x,y.2.2=.iface a x):
  Calls Tryz.prog 145 #[.agg #[.int .i64 pp,.string nn,v],.string x] w fun e w'=>e=.returned (.tuple #[.agg #[.int .i64 y.1,.string y.2.1,y.2.2],.nilIface])∧Below w.heap.size w w':=by
 obtain ⟨k,hk,hy,hi⟩:=sZ hf;obtain ⟨sa,sc,rfl⟩:=ak h;have H:=ae h;have W0:Below w.heap.size w (((w.alloc (.cells #[.int .i64 pp,.string nn,.slice sa l.length sc] 110)).alloc (.cells #[.string x] 9)).alloc (.cells #[.int .i64 0,.string ⟨#[]⟩,.nilIface] 159)):=(((Below.refl _ _).alloc RH _).alloc (by simp) _).alloc (by simp;omega) _;have C:=ae (o6 (.slice sa l.length sc) l x (w.heap.size+1) _ hn (h.below W0) ((ag.new' (w.alloc (.cells #[.int .i64 pp,.string nn,.slice sa l.length sc] 110)) #[.string x] 9 (w.heap.size+1) (by simp)).alloc (.cells #[.int .i64 0,.string ⟨#[]⟩,.nilIface] 159)));have M:=ae (((ag.new w #[.int .i64 pp,.string nn,.slice sa l.length sc] 110).alloc (.cells #[.string x] 9)).alloc (.cells #[.int .i64 0,.string ⟨#[]⟩,.nilIface] 159));have R:=ae (ag.new' ((w.alloc (.cells #[.int .i64 pp,.string nn,.slice sa l.length sc] 110)).alloc (.cells #[.string x] 9)) #[.int .i64 0,.string ⟨#[]⟩,.nilIface] 159 (w.heap.size+2) (by simp));have fK:=ae W0;have H0:=ae (h.below W0);clear h W0;go_enter Tryz.func145,Tryz.ntmps145;go_wp2_with fail;refine (aa C).mono ?_;rintro e w1 ⟨rfl,hb1⟩;have HR:=ae ((aa R).below hb1);have HM:=ae ((aa M).below hb1);have H1:=ae ((aa H0).below hb1);have B1:=ae ((aa fK).trans (hb1.mono (aa fK).size));clear hb1 C;obtain ⟨r0,r1,r2⟩:=(aa HR).three;have zr:=(aa HR).fz;have hrl:=(aa HR).lt;have mc:w1.cell? ⟨w.heap.size,2,none⟩=some (.slice sa l.length sc):=(aa HM).cell rfl;rw [hi];obtain ⟨g,c,e1,k0,k1,k2⟩:=(aa H1).cell k hk;simp only [Value.slice.injEq] at e1;obtain ⟨rfl,_,rfl⟩:=e1;rw [hy] at k0 k1 k2;have hgl:=fQ k0;have Np:¬(g=w.heap.size+2):=fun e=>by
  have:=(aa H).cell k hk;obtain ⟨g',c',e1,wO,_⟩:=this;simp only [Value.slice.injEq,Option.some.injEq,Addr.mk.injEq] at e1;have:=fQ wO;omega
 have hgn':¬(w.heap.size+2=g):=fun e=>Np e.symm
 clear hi hy hf;obtain ⟨p,n,u⟩:=y;simp only at k0 k1 k2;obtain ⟨ua,un,rfl⟩:∃a x,u=.iface a x:=hy1;go_wp2;refine bodyPost_ret (v:=.tuple #[.agg #[.int .i64 p,.string n,.iface ua un],.nilIface]) (aK Tryz.results145 _ _ (w.heap.size+2) _ 159 _ _ rfl rfl ?hB Tryz.underlying159 rfl (by kernel_rfl)) rfl ?post
 case hB=>exact ⟨_,(by with_reducible repeat (first|exact aa HR|apply ag.alloc|apply ag.drew|apply ag.set|(apply ag.other;case ha=>exact (by first|omega|(simp;omega)|simp)))),by rfl⟩
 case post=>exact ⟨rfl,(by with_reducible repeat (first|exact aa B1|refine Below.drew ?_|(refine Below.setCell ?_ ?_ _;rotate_left;exact (by first|omega|(simp;omega)|simp))|(refine Below.alloc ?_ ?_ _;rotate_left;exact (by first|omega|(simp;omega)|simp))))⟩
def eG (p c:Nat):Value:=.iface 147 (.agg #[.int .i64 p,aM c])
def dW (c:Nat):Option Nat→Value
 |none=> .nilIface
 |some p=>eG p c
theorem fE (p c:Nat) (w:World):Calls Tryz.prog 73 #[.int .i64 p,.iface 134 (.int .i64 c)] w fun e w'=>e=.returned (eG p c)∧w'=w:=by
 go_enter Tryz.func73,Tryz.ntmps73;go_wp2;go_ret;exact ⟨rfl,rfl⟩
theorem E8 (p:Nat) (w:World):Calls Tryz.prog 73 #[.int .i64 p,.nilIface] w fun e w'=>e=.returned .nilIface∧w'=w:=by
 go_enter Tryz.func73,Tryz.ntmps73;go_wp2;go_ret;exact ⟨rfl,rfl⟩
def iB:List E3→List E3→Option Nat
 |_,[]=>none
 |ah,e::r=>if (eY e.2.1 ah).isSome then some e.1 else iB (ah++[e]) r
theorem wP (l:List E3) (k:Nat) (hk:k<l.length):iB (l.take k) (l.drop k)=if (eY l[k].2.1 (l.take k)).isSome then some l[k].1 else iB (l.take (k+1)) (l.drop (k+1)):=by
 rw [List.drop_eq_getElem_cons hk,iB,List.take_succ_eq_append_getElem hk]
theorem Bc (l:List E3) (k:Nat) (hk:k<l.length):(l.take (k+1)).flatMap c3=(l.take k).flatMap c3++c3 l[k]:=by
 rw [List.take_succ_eq_append_getElem hk,List.flatMap_append];simp
theorem zB (pp:Nat) (nn:RJ) (v:Value) (l:List E3) (w:World) (hn:l.length≤1000) (h:fD w 159 v l) (NR:∀e∈l,∃t x,e.2.2=.iface t x):
  Calls Tryz.prog 173 #[.agg #[.int .i64 pp,.string nn,v]] w fun e w'=>e=.returned (dW 4 (iB [] l))∧Below w.heap.size w w':=by
 obtain ⟨i0,hi,hz0,hz1,hz2⟩:=info_parts Tryz.info159;have HI:=ae hi;have jg:=ae hz0;have jh:=ae hz1;have ji:=ae hz2;clear hi hz0 hz1 hz2;obtain ⟨oa,oc,rfl⟩:=ak h;have H:=ae h;have NT:=ae NR;generalize hR:iB [] l=R;have yV:=ae hR;clear hR h NR;go_enter Tryz.func173,Tryz.ntmps173;go_wp2_with fail
 go_loopw [11] (fun u wr=>∃(k:Nat) (sv:Value),k≤l.length∧u=.int .i64 k∧Below w.heap.size w wr∧ag wr (w.heap.size+1) #[.int .i64 0,.string ⟨#[]⟩,sv] 110∧wr.ownsRow w.heap.size 159 3 sv k ((l.take k).flatMap c3)∧Hid (iB (l.take k) (l.drop k)=R)) (fun u _=>l.length-(intOf u).toNat)
 case atStart=>exact ⟨0,_,by omega,rfl,((Below.refl _ _).alloc RH _).alloc (by simp) _,ag.new' (w.alloc _) _ _ _ (by simp),World.ownsRow_nil _ _ _ _,yV⟩
 case round=>
  obtain ⟨k,sv,hk,rfl,hb,hbl,ho,HQ⟩:=hrel;obtain ⟨sa,sc,rfl⟩:=ak ho;have HB:=ae hb;have HL:=ae hbl;have HO:=ae ho;obtain ⟨b0,b1,b2⟩:=hbl.three;have zb:=hbl.fz;have lb:=hbl.lt
  by_cases hlt:k<l.length
  ·have hR:=aa HQ;rw [wP l k hlt] at hR;obtain ⟨g,c,e1,k0,k1,k2⟩:=((aa H).below hb).cell k hlt;simp only [Value.slice.injEq] at e1;obtain ⟨rfl,_,rfl⟩:=e1;obtain ⟨ua,un,hu⟩:=aa NT l[k] (List.getElem_mem hlt);have hct:=Bc l k hlt;generalize hy:l[k]=y at*;obtain ⟨p,n,u⟩:=y;simp only at k0 k1 k2 hu hR;subst hu;have hgl:g<w.heap.size:=by
    obtain ⟨g',c',e1,wO,_⟩:=(aa H).cell k hlt;simp only [Value.slice.injEq,Option.some.injEq,Addr.mk.injEq] at e1;obtain ⟨⟨rfl,_⟩,_⟩:=e1;exact fQ wO
   have Qz:=ae hct;have HF:=ae (show fD (wr.alloc (.cells #[.int .i64 p,.string n,.iface ua un] 159)) 159 (.slice sa k sc) (l.take k) from by
    have:=aA (ho.alloc (.cells #[.int .i64 p,.string n,.iface ua un] 159)) (Nat.zero_le _);unfold fD;rw [List.length_take,Nat.min_eq_left hk];exact this)
   clear hy hct hb hbl ho
   cases hf:eY n (l.take k) with
   |some y=>
    have hy1:∃a x,y.2.2=.iface a x:=aa NT y (List.mem_of_mem_take (List.mem_of_find?_eq_some hf));rw [hf] at hR;simp only [Option.isSome_some,if_true] at hR;have bP:=ae hR;have C:=ae (l9 0 ⟨#[]⟩ (.slice sa k sc) (l.take k) n _ (by rw [List.length_take];omega) (aa HF) y hf hy1);obtain ⟨yp,yn,yu⟩:=y;obtain ⟨ya,yx,NU⟩:=hy1;simp only at NU;subst NU;clear hR hf;go_wp2_with fail;refine (aa C).mono ?_;rintro e w2 ⟨rfl,hb2⟩;have B2:=ae (((aa HB).alloc (aa HB).size (.cells #[.int .i64 p,.string n,.iface ua un] 159)).trans (hb2.mono (by have:=(aa HB).size;simp;omega)));have E2:=(ag.new wr #[.int .i64 p,.string n,.iface ua un] 159).below hb2;obtain ⟨q0,q1,q2⟩:=E2.three;have ql:=E2.lt;clear hb2 E2;go_wp2_with (go_at_call 73;refine (fE _ 4 _).mono ?_;rintro e w3 ⟨rfl,rfl⟩);go_ret;rw [←aa bP];exact ⟨rfl,(by with_reducible repeat (first|exact aa B2|refine Below.drew ?_|(refine Below.setCell ?_ ?_ _;rotate_left;exact (by first|omega|(simp;omega)|simp))|(refine Below.alloc ?_ ?_ _;rotate_left;exact (by first|omega|(simp;omega)|simp))))⟩
   |none=>
    rw [hf] at hR;simp only [Option.isSome_none,Bool.false_eq_true,if_false] at hR;have bP:=ae hR;have C:=ae (tu 0 ⟨#[]⟩ (.slice sa k sc) (l.take k) n _ (by rw [List.length_take];omega) (aa HF) hf);clear hR hf;go_wp2_with fail;refine (aa C).mono ?_;rintro e w2 ⟨rfl,hb2⟩;have hbb:Below wr.heap.size wr w2:=((Below.refl _ _).alloc RH (.cells #[.int .i64 p,.string n,.iface ua un] 159)).trans (hb2.mono (by simp));have B2:=ae ((aa HB).trans (hbb.mono (aa HB).size));have E2:=(ag.new wr #[.int .i64 p,.string n,.iface ua un] 159).below hb2;obtain ⟨q0,q1,q2⟩:=E2.three;have ql:=E2.lt;have L2:=(aa HL).below hbb;have wM:=ae L2;obtain ⟨m0,m1,m2⟩:=L2.three;have zm:=L2.fz;have ml:=L2.lt;have O2:=ae (ai (aa HO) (fun g cs f _ hh=>hbb.block g (lt_of_some hh)));have nH:=(aa HB).size;clear hb2 E2 L2 hbb b0 b1 b2 zb;unfold aM;go_wp2_with (at_builtin;go_must (refine wpList_append_lies _ rfl _ _ 108 rfl w.heap.size 159 i0 _ 3 40 Tryz.underlying108 (aa HI) (aa jg) (aa jh) (aa ji) rfl (by decide) (.slice sa k sc) k ((l.take k).flatMap c3) rfl ?hown ⟨w2.heap.size+1,0,none⟩ 1 1 (c3 (p,n,.iface ua un)) rfl rfl ?hnews ?hone (by decide) ?h63 ?hbytes ?hbase (w2.heap.size+2) ?hH ?hrest))
    case hown=>exact ((aa O2).alloc _).alloc _
    case hnews=>exact World.news_of_block (B:=w2.heap.size+1) (cs:=#[.int .i64 p,.string n,.iface ua un]) (t:=159) (fr:=(0,0)) (ag.new' (w2.alloc _) _ _ _ (by simp))
    case hone=>
     intro u hu;simp [c3] at hu
     rcases hu with rfl|rfl|rfl<;>rfl
    case h63=>unfold maxLen;omega
    case hbytes=>omega
    case hbase=>simp;omega
    case hH=>simp
    case hrest=>
     intro g5 bu w5 aJ au bI jk;have b0:Below w2.heap.size w2 ((w2.alloc (.cells #[.int .i64 0,.string ⟨#[]⟩,.nilIface] 159)).alloc (.cells #[.int .i64 p,.string n,.iface ua un] 159)):=((Below.refl _ _).alloc RH _).alloc (by simp) _;have IR:=(aa wM).below b0;have fA:=((aa O2).alloc (.cells #[.int .i64 0,.string ⟨#[]⟩,.nilIface] 159)).alloc (.cells #[.int .i64 p,.string n,.iface ua un] 159);have E9:=ae (show ag w5 (w.heap.size+1) #[.int .i64 0,.string ⟨#[]⟩,.slice sa k sc] 110 from (au.block _ IR.lt (own_ne fA IR (by decide))).trans IR);have B5:=ae (Below.grown ((aa B2).trans (b0.mono (aa B2).size)) au (by have:=(aa B2).size;simp;omega) (fun k hk=>(fA.lt k hk).1));have O5:=ae aJ;obtain ⟨n0,n1,n2⟩:=(aa E9).three;have zn:=(aa E9).fz;have nl:=(aa E9).lt;clear b0 IR fA aJ au bI m0 m1 m2 zm q0 q1 q2;go_wp2;go_roundw
     case rel=>exact ⟨k+1,_,by omega,by go_num,(by with_reducible repeat (first|exact aa B5|refine Below.drew ?_|(refine Below.setCell ?_ ?_ _;rotate_left;exact (by first|omega|(simp;omega)|simp))|(refine Below.alloc ?_ ?_ _;rotate_left;exact (by first|omega|(simp;omega)|simp)))),(aa E9).set 2 _,by rw [aa Qz];exact bD (aa O5) (aa E9) (by decide) 2 _,bP⟩
     case measure=>simp [intOf];omega
  ·have hR:=aa HQ;rw [List.drop_of_length_le (by omega)] at hR;have bP:=ae hR;clear hb hbl ho hR;go_wp2;go_ret;rw [←aa bP];exact ⟨rfl,aa HB⟩
def gG (inn:E3→Option Nat):List E3→List E3→Option Nat
 |_,[]=>none
 |ah,e::r=>if (eY e.2.1 ah).isSome then some e.1 else match inn e with
  |some p=>some p
  |none=>gG inn (ah++[e]) r
theorem uO (inn:E3→Option Nat) (l:List E3) (k:Nat) (hk:k<l.length):gG inn (l.take k) (l.drop k)=if (eY l[k].2.1 (l.take k)).isSome then some l[k].1 else match inn l[k] with
  |some p=>some p
  |none=>gG inn (l.take (k+1)) (l.drop (k+1)):=by
 rw [List.drop_eq_getElem_cons hk,gG,List.take_succ_eq_append_getElem hk]
theorem zC (inn:E3→Option Nat) (v:Value) (l:List E3) (w:World) (hn:l.length≤1000) (h:fD w 110 v l) (NR:∀e∈l,∃a n c,e.2.2=.slice a n c)
  (hin:∀e∈l,∀w',Below w.heap.size w w'→Calls Tryz.prog 173 #[.agg #[.int .i64 e.1,.string e.2.1,e.2.2]] w' fun e' w''=>e'=.returned (dW 4 (inn e))∧Below w'.heap.size w' w''):
  Calls Tryz.prog 115 #[.agg #[v]] w fun e w'=>e=.returned (dW 4 (gG inn [] l))∧Below w.heap.size w w':=by
 obtain ⟨i0,hi,hz0,hz1,hz2⟩:=info_parts Tryz.info110;have HI:=ae hi;have jg:=ae hz0;have jh:=ae hz1;have ji:=ae hz2;clear hi hz0 hz1 hz2;obtain ⟨oa,oc,rfl⟩:=ak h;have H:=ae h;have NT:=ae NR;have Hin:=ae hin;generalize hR:gG inn [] l=R;have yV:=ae hR;clear hR h NR hin;go_enter Tryz.func115,Tryz.ntmps115;go_wp2_with fail
 go_loopw [12] (fun u wr=>∃(k:Nat) (sv:Value),k≤l.length∧u=.int .i64 k∧Below w.heap.size w wr∧ag wr (w.heap.size+1) #[sv] 75∧wr.ownsRow w.heap.size 110 3 sv k ((l.take k).flatMap c3)∧Hid (gG inn (l.take k) (l.drop k)=R)) (fun u _=>l.length-(intOf u).toNat)
 case atStart=>exact ⟨0,_,by omega,rfl,((Below.refl _ _).alloc RH _).alloc (by simp) _,ag.new' (w.alloc _) _ _ _ (by simp),World.ownsRow_nil _ _ _ _,yV⟩
 case round=>
  obtain ⟨k,sv,hk,rfl,hb,hbl,ho,HQ⟩:=hrel;obtain ⟨sa,sc,rfl⟩:=ak ho;have HB:=ae hb;have HL:=ae hbl;have HO:=ae ho;have b0:wr.cell? ⟨w.heap.size+1,0,none⟩=some (.slice sa k sc):=hbl.cell rfl;have zb:=hbl.fz;have lb:=hbl.lt
  by_cases hlt:k<l.length
  ·have hR:=aa HQ;rw [uO inn l k hlt] at hR;obtain ⟨g,c,e1,k0,k1,k2⟩:=((aa H).below hb).cell k hlt;simp only [Value.slice.injEq] at e1;obtain ⟨rfl,_,rfl⟩:=e1;obtain ⟨ua,um,un,hu⟩:=aa NT l[k] (List.getElem_mem hlt);have hct:=Bc l k hlt;generalize hy:l[k]=y at*;obtain ⟨p,n,u⟩:=y;simp only at k0 k1 k2 hu hR;subst hu;have hgl:g<w.heap.size:=by
    obtain ⟨g',c',e1,wO,_⟩:=(aa H).cell k hlt;simp only [Value.slice.injEq,Option.some.injEq,Addr.mk.injEq] at e1;obtain ⟨⟨rfl,_⟩,_⟩:=e1;exact fQ wO
   have Qz:=ae hct;have Hy:=ae hy;have HF:=ae (show fD (wr.alloc (.cells #[.int .i64 p,.string n,.slice ua um un] 110)) 110 (.slice sa k sc) (l.take k) from by
    have:=aA (ho.alloc (.cells #[.int .i64 p,.string n,.slice ua um un] 110)) (Nat.zero_le _);unfold fD;rw [List.length_take,Nat.min_eq_left hk];exact this)
   clear hy hct hb hbl ho
   cases hf:eY n (l.take k) with
   |some y=>
    have hy1:∃a n c,y.2.2=.slice a n c:=aa NT y (List.mem_of_mem_take (List.mem_of_find?_eq_some hf));rw [hf] at hR;simp only [Option.isSome_some,if_true] at hR;have bP:=ae hR;have C:=ae (l8 (.slice sa k sc) (l.take k) n _ (by rw [List.length_take];omega) (aa HF) y hf hy1);obtain ⟨yp,yn,yu⟩:=y;obtain ⟨ya,ym,yx,NU⟩:=hy1;simp only at NU;subst NU;clear hR hf;go_wp2_with fail;refine (aa C).mono ?_;rintro e w2 ⟨rfl,hb2⟩;have B2:=ae (((aa HB).alloc (aa HB).size (.cells #[.int .i64 p,.string n,.slice ua um un] 110)).trans (hb2.mono (by have:=(aa HB).size;simp;omega)));have E2:=(ag.new wr #[.int .i64 p,.string n,.slice ua um un] 110).below hb2;obtain ⟨q0,q1,q2⟩:=E2.three;have ql:=E2.lt;clear hb2 E2;go_wp2_with (go_at_call 73;refine (fE _ 4 _).mono ?_;rintro e w3 ⟨rfl,rfl⟩);go_ret;rw [←aa bP];exact ⟨rfl,(by with_reducible repeat (first|exact aa B2|refine Below.drew ?_|(refine Below.setCell ?_ ?_ _;rotate_left;exact (by first|omega|(simp;omega)|simp))|(refine Below.alloc ?_ ?_ _;rotate_left;exact (by first|omega|(simp;omega)|simp))))⟩
   |none=>
    rw [hf] at hR;simp only [Option.isSome_none,Bool.false_eq_true,if_false] at hR;have bP:=ae hR;have C:=ae (tq (.slice sa k sc) (l.take k) n _ (by rw [List.length_take];omega) (aa HF) hf);clear hR hf;go_wp2_with fail;refine (aa C).mono ?_;rintro e w2 ⟨rfl,hb2⟩;have hbb:Below wr.heap.size wr w2:=((Below.refl _ _).alloc RH (.cells #[.int .i64 p,.string n,.slice ua um un] 110)).trans (hb2.mono (by simp));have B2:=ae ((aa HB).trans (hbb.mono (aa HB).size));have E2:=(ag.new wr #[.int .i64 p,.string n,.slice ua um un] 110).below hb2;obtain ⟨q0,q1,q2⟩:=E2.three;have ql:=E2.lt;have HE2:=ae E2;have L2:=(aa HL).below hbb;have wM:=ae L2;have m0:w2.cell? ⟨w.heap.size+1,0,none⟩=some (.slice sa k sc):=L2.cell rfl;have zm:=L2.fz;have ml:=L2.lt;have O2:=ae (ai (aa HO) (fun g cs f _ hh=>hbb.block g (lt_of_some hh)));have nH:=(aa HB).size;clear hb2 E2 L2 hbb b0 zb
    cases Nq:inn (p,n,.slice ua um un) with
    |some pq=>
     have Cn:=ae (aa Hin (p,n,.slice ua um un) (by rw [←aa Hy];exact List.getElem_mem hlt) (w2.alloc (.cells #[.int .i64 0,.string ⟨#[]⟩,.slice none 0 0] 110)) ((aa B2).alloc (aa B2).size _));rw [Nq] at Cn;have La:=aa bP;rw [Nq] at La;have gD:=ae La;clear Nq La;unfold aM;go_wp2_with fail;refine (aa Cn).mono ?_;rintro e w3 ⟨rfl,hb3⟩;have B3:=ae (((aa B2).alloc (aa B2).size (.cells #[.int .i64 0,.string ⟨#[]⟩,.slice none 0 0] 110)).trans (hb3.mono (by have:=(aa B2).size;simp;omega)));clear hb3;unfold dW eG;go_wp2;go_ret;rw [←aa gD];exact ⟨rfl,aa B3⟩
    |none=>
     have Cn:=ae (aa Hin (p,n,.slice ua um un) (by rw [←aa Hy];exact List.getElem_mem hlt) (w2.alloc (.cells #[.int .i64 0,.string ⟨#[]⟩,.slice none 0 0] 110)) ((aa B2).alloc (aa B2).size _));rw [Nq] at Cn;have La:=aa bP;rw [Nq] at La;have gD:=ae La;clear Nq La;unfold aM;go_wp2_with fail;refine (aa Cn).mono ?_;rintro e w3 ⟨rfl,hb3⟩;have hbc:Below w2.heap.size w2 w3:=((Below.refl _ _).alloc RH (.cells #[.int .i64 0,.string ⟨#[]⟩,.slice none 0 0] 110)).trans (hb3.mono (by simp));have B3:=ae ((aa B2).trans (hbc.mono (aa B2).size));have QA:=(aa HE2).below hbc;obtain ⟨q0,q1,q2⟩:=QA.three;have ql:=QA.lt;have L3:=(aa wM).below hbc;have yT:=ae L3;have m0:w3.cell? ⟨w.heap.size+1,0,none⟩=some (.slice sa k sc):=L3.cell rfl;have zm:=L3.fz;have ml:=L3.lt;have O3:=ae (ai (aa O2) (fun g cs f _ hh=>hbc.block g (lt_of_some hh)));have zD:=(aa B3).size;clear hb3 QA L3 hbc;unfold dW;go_wp2_with (at_builtin;go_must (refine wpList_append_lies _ rfl _ _ 73 rfl w.heap.size 110 i0 _ 3 48 Tryz.underlying73 (aa HI) (aa jg) (aa jh) (aa ji) rfl (by decide) (.slice sa k sc) k ((l.take k).flatMap c3) rfl ?hown ⟨w3.heap.size,0,none⟩ 1 1 (c3 (p,n,.slice ua um un)) rfl rfl ?hnews ?hone (by decide) ?h63 ?hbytes ?hbase (w3.heap.size+1) ?hH ?hrest))
     case hown=>exact (aa O3).alloc _
     case hnews=>exact World.news_of_block (B:=w3.heap.size) (cs:=#[.int .i64 p,.string n,.slice ua um un]) (t:=110) (fr:=(0,0)) (ag.new w3 _ _)
     case hone=>
      intro u hu;simp [c3] at hu
      rcases hu with rfl|rfl|rfl<;>rfl
     case h63=>unfold maxLen;omega
     case hbytes=>omega
     case hbase=>simp;omega
     case hH=>simp
     case hrest=>
      intro g5 bu w5 aJ au bI jk;have b0:Below w3.heap.size w3 (w3.alloc (.cells #[.int .i64 p,.string n,.slice ua um un] 110)):=(Below.refl _ _).alloc RH _;have IR:=(aa yT).below b0;have fA:=(aa O3).alloc (.cells #[.int .i64 p,.string n,.slice ua um un] 110);have E9:=ae (show ag w5 (w.heap.size+1) #[.slice sa k sc] 75 from (au.block _ IR.lt (own_ne fA IR (by decide))).trans IR);have B5:=ae (Below.grown ((aa B3).trans (b0.mono (aa B3).size)) au (by have:=(aa B3).size;simp;omega) (fun k hk=>(fA.lt k hk).1));have O5:=ae aJ;have n0:w5.cell? ⟨w.heap.size+1,0,none⟩=some (.slice sa k sc):=(aa E9).cell rfl;have zn:=(aa E9).fz;have nl:=(aa E9).lt;clear b0 IR fA aJ au bI m0 zm q0 q1 q2;go_wp2;go_roundw
      case rel=>exact ⟨k+1,_,by omega,by go_num,(by with_reducible repeat (first|exact aa B5|refine Below.drew ?_|(refine Below.setCell ?_ ?_ _;rotate_left;exact (by first|omega|(simp;omega)|simp))|(refine Below.alloc ?_ ?_ _;rotate_left;exact (by first|omega|(simp;omega)|simp)))),(aa E9).set 0 _,by rw [aa Qz];exact bD (aa O5) (aa E9) (by decide) 0 _,gD⟩
      case measure=>simp [intOf];omega
  ·have hR:=aa HQ;rw [List.drop_of_length_le (by omega)] at hR;have bP:=ae hR;clear hb hbl ho hR;go_wp2;go_ret;rw [←aa bP];exact ⟨rfl,aa HB⟩
theorem bJ (x:Value) (w:World):(Instr.typeAssert (.iface 236 x) 157 236 true).run Tryz.prog w=.ok (.tuple #[x,.bool true]) w:=by kernel_rfl
theorem qI (x:Value) (w:World):(Instr.typeAssert (.iface 236 x) 157 244 true).run Tryz.prog w=.ok (.tuple #[.agg #[.int .i64 0,.nilIface,.nilIface],.bool false]) w:=by kernel_rfl
theorem uP (x:Value) (w:World):(Instr.typeAssert (.iface 236 x) 157 245 true).run Tryz.prog w=.ok (.tuple #[.agg #[.int .i64 0,.nilIface,.nilIface],.bool false]) w:=by kernel_rfl
theorem nI (x:Value) (w:World):(Instr.typeAssert (.iface 236 x) 157 246 true).run Tryz.prog w=.ok (.tuple #[.agg #[.int .i64 0,.nilIface,.nilIface],.bool false]) w:=by kernel_rfl
theorem df (x:Value) (w:World):(Instr.typeAssert (.iface 238 x) 157 236 true).run Tryz.prog w=.ok (.tuple #[.agg #[.int .i64 0,.slice none 0 0],.bool false]) w:=by kernel_rfl
theorem dX (x:Value) (w:World):(Instr.typeAssert (.iface 238 x) 157 238 true).run Tryz.prog w=.ok (.tuple #[x,.bool true]) w:=by kernel_rfl
theorem sj (x:Value) (w:World):(Instr.typeAssert (.iface 238 x) 157 244 true).run Tryz.prog w=.ok (.tuple #[.agg #[.int .i64 0,.nilIface,.nilIface],.bool false]) w:=by kernel_rfl
theorem wQ (x:Value) (w:World):(Instr.typeAssert (.iface 238 x) 157 245 true).run Tryz.prog w=.ok (.tuple #[.agg #[.int .i64 0,.nilIface,.nilIface],.bool false]) w:=by kernel_rfl
theorem o7 (x:Value) (w:World):(Instr.typeAssert (.iface 238 x) 157 246 true).run Tryz.prog w=.ok (.tuple #[.agg #[.int .i64 0,.nilIface,.nilIface],.bool false]) w:=by kernel_rfl
theorem dh (x:Value) (w:World):(Instr.typeAssert (.iface 240 x) 157 236 true).run Tryz.prog w=.ok (.tuple #[.agg #[.int .i64 0,.slice none 0 0],.bool false]) w:=by kernel_rfl
theorem dY (x:Value) (w:World):(Instr.typeAssert (.iface 240 x) 157 238 true).run Tryz.prog w=.ok (.tuple #[.agg #[.int .i64 0,.string ⟨#[]⟩],.bool false]) w:=by kernel_rfl
theorem dZ (x:Value) (w:World):(Instr.typeAssert (.iface 240 x) 157 240 true).run Tryz.prog w=.ok (.tuple #[x,.bool true]) w:=by kernel_rfl
theorem su (x:Value) (w:World):(Instr.typeAssert (.iface 240 x) 157 244 true).run Tryz.prog w=.ok (.tuple #[.agg #[.int .i64 0,.nilIface,.nilIface],.bool false]) w:=by kernel_rfl
theorem wR (x:Value) (w:World):(Instr.typeAssert (.iface 240 x) 157 245 true).run Tryz.prog w=.ok (.tuple #[.agg #[.int .i64 0,.nilIface,.nilIface],.bool false]) w:=by kernel_rfl
theorem o8 (x:Value) (w:World):(Instr.typeAssert (.iface 240 x) 157 246 true).run Tryz.prog w=.ok (.tuple #[.agg #[.int .i64 0,.nilIface,.nilIface],.bool false]) w:=by kernel_rfl
theorem aX (x:Value) (w:World):(Instr.typeAssert (.iface 244 x) 157 236 true).run Tryz.prog w=.ok (.tuple #[.agg #[.int .i64 0,.slice none 0 0],.bool false]) w:=by kernel_rfl
theorem bQ (x:Value) (w:World):(Instr.typeAssert (.iface 244 x) 157 238 true).run Tryz.prog w=.ok (.tuple #[.agg #[.int .i64 0,.string ⟨#[]⟩],.bool false]) w:=by kernel_rfl
theorem bU (x:Value) (w:World):(Instr.typeAssert (.iface 244 x) 157 240 true).run Tryz.prog w=.ok (.tuple #[.agg #[.int .i64 0,.int .i64 0,.string ⟨#[]⟩,.int .i64 0,.string ⟨#[]⟩],.bool false]) w:=by kernel_rfl
theorem bg (x:Value) (w:World):(Instr.typeAssert (.iface 244 x) 157 244 true).run Tryz.prog w=.ok (.tuple #[x,.bool true]) w:=by kernel_rfl
theorem qJ (x:Value) (w:World):(Instr.typeAssert (.iface 244 x) 157 246 true).run Tryz.prog w=.ok (.tuple #[.agg #[.int .i64 0,.nilIface,.nilIface],.bool false]) w:=by kernel_rfl
theorem bK (x:Value) (w:World):(Instr.typeAssert (.iface 245 x) 157 236 true).run Tryz.prog w=.ok (.tuple #[.agg #[.int .i64 0,.slice none 0 0],.bool false]) w:=by kernel_rfl
theorem dC (x:Value) (w:World):(Instr.typeAssert (.iface 245 x) 157 238 true).run Tryz.prog w=.ok (.tuple #[.agg #[.int .i64 0,.string ⟨#[]⟩],.bool false]) w:=by kernel_rfl
theorem dD (x:Value) (w:World):(Instr.typeAssert (.iface 245 x) 157 240 true).run Tryz.prog w=.ok (.tuple #[.agg #[.int .i64 0,.int .i64 0,.string ⟨#[]⟩,.int .i64 0,.string ⟨#[]⟩],.bool false]) w:=by kernel_rfl
theorem bY (x:Value) (w:World):(Instr.typeAssert (.iface 245 x) 157 244 true).run Tryz.prog w=.ok (.tuple #[.agg #[.int .i64 0,.nilIface,.nilIface],.bool false]) w:=by kernel_rfl
theorem dI (x:Value) (w:World):(Instr.typeAssert (.iface 245 x) 157 245 true).run Tryz.prog w=.ok (.tuple #[x,.bool true]) w:=by kernel_rfl
theorem uQ (x:Value) (w:World):(Instr.typeAssert (.iface 245 x) 157 246 true).run Tryz.prog w=.ok (.tuple #[.agg #[.int .i64 0,.nilIface,.nilIface],.bool false]) w:=by kernel_rfl
theorem bO (x:Value) (w:World):(Instr.typeAssert (.iface 246 x) 157 236 true).run Tryz.prog w=.ok (.tuple #[.agg #[.int .i64 0,.slice none 0 0],.bool false]) w:=by kernel_rfl
theorem dE (x:Value) (w:World):(Instr.typeAssert (.iface 246 x) 157 238 true).run Tryz.prog w=.ok (.tuple #[.agg #[.int .i64 0,.string ⟨#[]⟩],.bool false]) w:=by kernel_rfl
theorem dF (x:Value) (w:World):(Instr.typeAssert (.iface 246 x) 157 240 true).run Tryz.prog w=.ok (.tuple #[.agg #[.int .i64 0,.int .i64 0,.string ⟨#[]⟩,.int .i64 0,.string ⟨#[]⟩],.bool false]) w:=by kernel_rfl
theorem bZ (x:Value) (w:World):(Instr.typeAssert (.iface 246 x) 157 244 true).run Tryz.prog w=.ok (.tuple #[.agg #[.int .i64 0,.nilIface,.nilIface],.bool false]) w:=by kernel_rfl
theorem dJ (x:Value) (w:World):(Instr.typeAssert (.iface 246 x) 157 245 true).run Tryz.prog w=.ok (.tuple #[.agg #[.int .i64 0,.nilIface,.nilIface],.bool false]) w:=by kernel_rfl
theorem di (x:Value) (w:World):(Instr.typeAssert (.iface 246 x) 157 246 true).run Tryz.prog w=.ok (.tuple #[x,.bool true]) w:=by kernel_rfl
def IU:Array Value:=#[.int .i64 0,.nilIface,.nilIface]
theorem uR (p:Nat) (ta:TypeId) (va:Value) (tb:TypeId) (vb:Value) (w:World):
  Calls Tryz.prog 212 #[.iface 244 (.agg #[.int .i64 p,.iface ta va,.iface tb vb])] w fun e w'=>e=.returned (.tuple #[.agg #[.int .i64 p,.iface ta va,.iface tb vb],.bool true])∧Below w.heap.size w w':=by
 have B0:=ae (Below.refl w.heap.size w);have f0:=bg;go_enter Tryz.func212,Tryz.ntmps212;go_wp2;refine bodyPost_ret (v:=.tuple #[.agg #[.int .i64 p,.iface ta va,.iface tb vb],.bool true]) (aK Tryz.results212 _ _ w.heap.size _ 242 _ _ rfl rfl ?hB Tryz.underlying242 rfl (by kernel_rfl)) rfl ?post
 case hB=>exact ⟨_,(by first|exact ag.alloc (ag.new _ _ _) _|exact ag.new _ _ _),by rfl⟩
 case post=>exact ⟨rfl,(by with_reducible repeat (first|exact aa B0|refine Below.drew ?_|(refine Below.setCell ?_ ?_ _;rotate_left;exact (by first|omega|(simp;omega)|simp))|(refine Below.alloc ?_ ?_ _;rotate_left;exact (by first|omega|(simp;omega)|simp))))⟩
theorem zF (p:Nat) (ta:TypeId) (va:Value) (tb:TypeId) (vb:Value) (w:World):
  Calls Tryz.prog 212 #[.iface 245 (.agg #[.int .i64 p,.iface ta va,.iface tb vb])] w fun e w'=>e=.returned (.tuple #[.agg #[.int .i64 p,.iface ta va,.iface tb vb],.bool true])∧Below w.heap.size w w':=by
 have B0:=ae (Below.refl w.heap.size w);have f0:=bY;have f1:=dI;go_enter Tryz.func212,Tryz.ntmps212;go_wp2;refine bodyPost_ret (v:=.tuple #[.agg #[.int .i64 p,.iface ta va,.iface tb vb],.bool true]) (aK Tryz.results212 _ _ w.heap.size _ 242 _ _ rfl rfl ?hB Tryz.underlying242 rfl (by kernel_rfl)) rfl ?post
 case hB=>exact ⟨_,(by first|exact ag.alloc (ag.new _ _ _) _|exact ag.new _ _ _),by rfl⟩
 case post=>exact ⟨rfl,(by with_reducible repeat (first|exact aa B0|refine Below.drew ?_|(refine Below.setCell ?_ ?_ _;rotate_left;exact (by first|omega|(simp;omega)|simp))|(refine Below.alloc ?_ ?_ _;rotate_left;exact (by first|omega|(simp;omega)|simp))))⟩
theorem zG (p:Nat) (ta:TypeId) (va:Value) (tb:TypeId) (vb:Value) (w:World):
  Calls Tryz.prog 212 #[.iface 246 (.agg #[.int .i64 p,.iface ta va,.iface tb vb])] w fun e w'=>e=.returned (.tuple #[.agg #[.int .i64 p,.iface ta va,.iface tb vb],.bool true])∧Below w.heap.size w w':=by
 have B0:=ae (Below.refl w.heap.size w);have f0:=bZ;have f1:=dJ;have f2:=di;go_enter Tryz.func212,Tryz.ntmps212;go_wp2;refine bodyPost_ret (v:=.tuple #[.agg #[.int .i64 p,.iface ta va,.iface tb vb],.bool true]) (aK Tryz.results212 _ _ w.heap.size _ 242 _ _ rfl rfl ?hB Tryz.underlying242 rfl (by kernel_rfl)) rfl ?post
 case hB=>exact ⟨_,(by first|exact ag.alloc (ag.new _ _ _) _|exact ag.new _ _ _),by rfl⟩
 case post=>exact ⟨rfl,(by with_reducible repeat (first|exact aa B0|refine Below.drew ?_|(refine Below.setCell ?_ ?_ _;rotate_left;exact (by first|omega|(simp;omega)|simp))|(refine Below.alloc ?_ ?_ _;rotate_left;exact (by first|omega|(simp;omega)|simp))))⟩
theorem zH (x:Value) (w:World):
  Calls Tryz.prog 212 #[.iface 236 x] w fun e w'=>e=.returned (.tuple #[.agg IU,.bool false])∧Below w.heap.size w w':=by
 have B0:=ae (Below.refl w.heap.size w);have f0:=qI;have f1:=uP;have f2:=nI;go_enter Tryz.func212,Tryz.ntmps212;go_wp2;refine bodyPost_ret (v:=.tuple #[.agg IU,.bool false]) (aK Tryz.results212 _ _ w.heap.size _ 242 _ _ rfl rfl ?hB Tryz.underlying242 rfl (by kernel_rfl)) rfl ?post
 case hB=>exact ⟨_,(by first|exact ag.alloc (ag.new _ _ _) _|exact ag.new _ _ _),by rfl⟩
 case post=>exact ⟨rfl,(by with_reducible repeat (first|exact aa B0|refine Below.drew ?_|(refine Below.setCell ?_ ?_ _;rotate_left;exact (by first|omega|(simp;omega)|simp))|(refine Below.alloc ?_ ?_ _;rotate_left;exact (by first|omega|(simp;omega)|simp))))⟩
theorem Ct (x:Value) (w:World):
  Calls Tryz.prog 212 #[.iface 238 x] w fun e w'=>e=.returned (.tuple #[.agg IU,.bool false])∧Below w.heap.size w w':=by
 have B0:=ae (Below.refl w.heap.size w);have f0:=sj;have f1:=wQ;have f2:=o7;go_enter Tryz.func212,Tryz.ntmps212;go_wp2;refine bodyPost_ret (v:=.tuple #[.agg IU,.bool false]) (aK Tryz.results212 _ _ w.heap.size _ 242 _ _ rfl rfl ?hB Tryz.underlying242 rfl (by kernel_rfl)) rfl ?post
 case hB=>exact ⟨_,(by first|exact ag.alloc (ag.new _ _ _) _|exact ag.new _ _ _),by rfl⟩
 case post=>exact ⟨rfl,(by with_reducible repeat (first|exact aa B0|refine Below.drew ?_|(refine Below.setCell ?_ ?_ _;rotate_left;exact (by first|omega|(simp;omega)|simp))|(refine Below.alloc ?_ ?_ _;rotate_left;exact (by first|omega|(simp;omega)|simp))))⟩
theorem Cu (x:Value) (w:World):
  Calls Tryz.prog 212 #[.iface 240 x] w fun e w'=>e=.returned (.tuple #[.agg IU,.bool false])∧Below w.heap.size w w':=by
 have B0:=ae (Below.refl w.heap.size w);have f0:=su;have f1:=wR;have f2:=o8;go_enter Tryz.func212,Tryz.ntmps212;go_wp2;refine bodyPost_ret (v:=.tuple #[.agg IU,.bool false]) (aK Tryz.results212 _ _ w.heap.size _ 242 _ _ rfl rfl ?hB Tryz.underlying242 rfl (by kernel_rfl)) rfl ?post
 case hB=>exact ⟨_,(by first|exact ag.alloc (ag.new _ _ _) _|exact ag.new _ _ _),by rfl⟩
 case post=>exact ⟨rfl,(by with_reducible repeat (first|exact aa B0|refine Below.drew ?_|(refine Below.setCell ?_ ?_ _;rotate_left;exact (by first|omega|(simp;omega)|simp))|(refine Below.alloc ?_ ?_ _;rotate_left;exact (by first|omega|(simp;omega)|simp))))⟩
