import Derived.Test.YtlbpnlngckgcbaaGreatDoorM04
set_option linter.all false
set_option maxHeartbeats 4000000
set_option maxRecDepth 100000
namespace Go.Proofs.YtlbpnlngckgcbaaGreatDoor
open Go.RowKit Go.PlainAid
abbrev E3:=Nat×aei×Value
def c3 (e:E3):List Value:=[.int .i64 e.1,.string e.2.1,e.2.2]
def jO (w:World) (T:TypeId) (v:Value) (l:List E3):Prop:=w.ownsRow 0 T 3 v l.length (l.flatMap c3)
theorem Bg (e:E3):∀(l:List E3) (i:Nat),l[i]? =some e→(l.flatMap c3)[i*3]? =some (.int .i64 e.1)∧(l.flatMap c3)[i*3+1]? =some (.string e.2.1)∧(l.flatMap c3)[i*3+2]? =some e.2.2
 | [],i,h=>by simp at h
 |e'::l,0,h=>by simp at h;subst h;simp [List.flatMap_cons,c3]
 |e'::l,i+1,h=>by
  have:=Bg e l i (by simpa using h);rw [List.flatMap_cons,show (i+1)*3=i*3+3 by omega]
  simpa [c3] using this
theorem aK {w:World} {base:Nat} {e:TypeId} {size:Nat} {v:Value} {n:Nat} {xs:List Value} (h:w.ownsRow base e size v n xs) (k:Nat) (u:Value) (hu:xs[k]? =some u):∃g c,v=.slice (some ⟨g,0,none⟩) n c∧w.cell? ⟨g,k,none⟩=some u:=by
 have hk:k<xs.length:=by
  rcases Nat.lt_or_ge k xs.length with h|h
  ·exact h
  ·rw [List.getElem?_eq_none h] at hu;cases hu
 rcases h with ⟨h1,⟨rfl,rfl⟩|⟨g,cap,cur,rfl,hg,hh,h3,h4,h5,h6⟩⟩
 ·simp at h1;rw [h1] at hk;simp at hk
 ·refine ⟨g,cap,rfl,?_⟩;rw [←h6] at hu;have hk2:k<n*size:=by omega
  rw [List.getElem?_take_of_lt hk2] at hu
  simpa [World.cell?,hh] using hu
theorem jO.cell {w:World} {T:TypeId} {v:Value} {l:List E3} (h:jO w T v l) (i:Nat) (hi:i<l.length):
  ∃g c,v=.slice (some ⟨g,0,none⟩) l.length c∧w.cell? ⟨g,i*3,none⟩=some (.int .i64 l[i].1)∧w.cell? ⟨g,i*3+1,none⟩=some (.string l[i].2.1)∧w.cell? ⟨g,i*3+2,none⟩=some l[i].2.2:=by
 obtain ⟨h0,h1,h2⟩:=Bg l[i] l i (aeh hi);obtain ⟨g,c,rfl,e0⟩:=aK h _ _ h0;obtain ⟨g',c',e',e1⟩:=aK h _ _ h1;obtain ⟨g'',c'',e'',e2⟩:=aK h _ _ h2;simp only [Value.slice.injEq,Option.some.injEq,Addr.mk.injEq] at e' e'';obtain ⟨⟨rfl,_⟩,_⟩:=e';obtain ⟨⟨rfl,_⟩,_⟩:=e'';exact ⟨g,c,rfl,e0,e1,e2⟩
theorem jO.below {w w':World} {T:TypeId} {v:Value} {l:List E3} (h:jO w T v l) (k:Below w.heap.size w w'):jO w' T v l:=
 ak h fun g cs f _ hh=>k.block g (lt_of_some hh)
def ET (x:aei) (l:List E3):Int:=match l.findIdx? (fun e=>eqs e.2.1 x) with
 |some k=>k
 |none=> -1
theorem yA (x:aei) (l:List E3) (k:Nat) (hk:k<l.length) (he:eqs l[k].2.1 x=true) (hall:∀j,(h:j<l.length)→j<k→eqs l[j].2.1 x=false):ET x l=k:=by
 have:l.findIdx? (fun e=>eqs e.2.1 x)=some k:=by
  rw [List.findIdx?_eq_some_iff_getElem];exact ⟨hk,he,fun j hj=>by rw [hall j (by omega) hj];decide⟩
 simp [ET,this]
theorem Df (x:aei) (l:List E3) (hall:∀j,(h:j<l.length)→eqs l[j].2.1 x=false):ET x l= -1:=by
 have:l.findIdx? (fun e=>eqs e.2.1 x)=none:=by
  rw [List.findIdx?_eq_none_iff];intro e he;obtain ⟨j,hj,rfl⟩:=List.getElem_of_mem he;exact hall j hj
 simp [ET,this]
theorem KW (p:Nat) (n x:aei) (v:Value) (q:Nat) (w:World) (hx:ai w q #[.string x] 9):
  Calls Tryz.prog 96 #[.agg #[.int .i64 p,.string n,v],.pointer (some ⟨q,0,none⟩)] w fun e w'=>e=.returned (.bool (eqs n x))∧Below w.heap.size w w':=by
 have c0:w.cell? ⟨q,0,none⟩=some (.string x):=hx.cell rfl;have hl:=hx.lt;have he:(n.toList==x.toList)=eqs n x:=by rw [aF,aF];rfl
 clear hx;go_enter Tryz.func96,Tryz.ntmps96;go_wp2;go_ret;exact ⟨rfl,(Below.refl _ _).alloc aeg _⟩
theorem wH (v:Value) (l:List E3) (x:aei) (q:Nat) (w:World) (hn:l.length≤1000) (h:jO w 110 v l) (hx:ai w q #[.string x] 9):
  Calls Tryz.prog 95 #[v,.func (.func 96) #[] #[.pointer (some ⟨q,0,none⟩)]] w fun e w'=>e=.returned (.int .i64 (ET x l))∧Below w.heap.size w w':=by
 obtain ⟨sa,sc,rfl⟩:=au h;have H:=af h;have HX:=af hx;clear h hx;go_enter Tryz.func95,Tryz.ntmps95;go_wp2
 go_loopw [5,8] (fun u i wr=>∃k:Nat,k≤l.length∧i=.int .i64 k∧Below w.heap.size w wr∧Hid (∀j,(h:j<l.length)→j<k→eqs l[j].2.1 x=false)) (fun _ i _=>l.length-(intOf i).toNat)
 case atStart=>exact ⟨0,by omega,rfl,Below.refl _ _,af (fun j e h=>by omega)⟩
 case round=>
  obtain ⟨k,hk,rfl,hb,jX⟩:=hrel;have HB:=af hb
  by_cases hlt:k<l.length
  ·obtain ⟨g,c,e1,k0,k1,k2⟩:=((ae H).below hb).cell k hlt;simp only [Value.slice.injEq] at e1;obtain ⟨rfl,_,rfl⟩:=e1;have WG:=af ((ae HX).below hb);clear hb
   cases he:eqs l[k].2.1 x
   ·have Hn:=af (show ∀j,(h:j<l.length)→j<k+1→eqs l[j].2.1 x=false from fun j h h'=>by
     by_cases e:j=k
     ·subst e;exact he
     ·exact ae jX j h (by omega))
    have He:=af he;clear he;go_wp2_with fail;refine (KW _ _ _ _ _ _ (ae WG)).mono ?_;rintro e w2 ⟨rfl,hb2⟩;rw [ae He];have IJ:=af ((ae HB).trans (hb2.mono (ae HB).size));clear hb2;go_wp2;go_roundw
    case rel=>exact ⟨k+1,by omega,by go_num,ae IJ,Hn⟩
    case measure=>simp [intOf];omega
   ·have iW:=af (yA x l k hlt he (ae jX));have He:=af he;clear he;go_wp2_with fail;refine (KW _ _ _ _ _ _ (ae WG)).mono ?_;rintro e w2 ⟨rfl,hb2⟩;rw [ae He];have IJ:=af ((ae HB).trans (hb2.mono (ae HB).size));clear hb2;go_wp2;go_ret;exact ⟨by rw [ae iW];rfl,ae IJ⟩
  ·have iW:=af (Df x l (fun j h=>ae jX j h (by omega)));clear hb;go_wp2;go_ret;exact ⟨by rw [ae iW];rfl,ae HB⟩
theorem KY (p:Nat) (n x:aei) (v:Value) (q:Nat) (w:World) (hx:ai w q #[.string x] 9):
  Calls Tryz.prog 206 #[.agg #[.int .i64 p,.string n,v],.pointer (some ⟨q,0,none⟩)] w fun e w'=>e=.returned (.bool (eqs n x))∧Below w.heap.size w w':=by
 have c0:w.cell? ⟨q,0,none⟩=some (.string x):=hx.cell rfl;have hl:=hx.lt;have he:(n.toList==x.toList)=eqs n x:=by rw [aF,aF];rfl
 clear hx;go_enter Tryz.func206,Tryz.ntmps206;go_wp2;go_ret;exact ⟨rfl,(Below.refl _ _).alloc aeg _⟩
theorem wI (v:Value) (l:List E3) (x:aei) (q:Nat) (w:World) (hn:l.length≤1000) (h:jO w 159 v l) (hx:ai w q #[.string x] 9):
  Calls Tryz.prog 205 #[v,.func (.func 206) #[] #[.pointer (some ⟨q,0,none⟩)]] w fun e w'=>e=.returned (.int .i64 (ET x l))∧Below w.heap.size w w':=by
 obtain ⟨sa,sc,rfl⟩:=au h;have H:=af h;have HX:=af hx;clear h hx;go_enter Tryz.func205,Tryz.ntmps205;go_wp2
 go_loopw [5,8] (fun u i wr=>∃k:Nat,k≤l.length∧i=.int .i64 k∧Below w.heap.size w wr∧Hid (∀j,(h:j<l.length)→j<k→eqs l[j].2.1 x=false)) (fun _ i _=>l.length-(intOf i).toNat)
 case atStart=>exact ⟨0,by omega,rfl,Below.refl _ _,af (fun j e h=>by omega)⟩
 case round=>
  obtain ⟨k,hk,rfl,hb,jX⟩:=hrel;have HB:=af hb
  by_cases hlt:k<l.length
  ·obtain ⟨g,c,e1,k0,k1,k2⟩:=((ae H).below hb).cell k hlt;simp only [Value.slice.injEq] at e1;obtain ⟨rfl,_,rfl⟩:=e1;have WG:=af ((ae HX).below hb);clear hb
   cases he:eqs l[k].2.1 x
   ·have Hn:=af (show ∀j,(h:j<l.length)→j<k+1→eqs l[j].2.1 x=false from fun j h h'=>by
     by_cases e:j=k
     ·subst e;exact he
     ·exact ae jX j h (by omega))
    have He:=af he;clear he;go_wp2_with fail;refine (KY _ _ _ _ _ _ (ae WG)).mono ?_;rintro e w2 ⟨rfl,hb2⟩;rw [ae He];have IJ:=af ((ae HB).trans (hb2.mono (ae HB).size));clear hb2;go_wp2;go_roundw
    case rel=>exact ⟨k+1,by omega,by go_num,ae IJ,Hn⟩
    case measure=>simp [intOf];omega
   ·have iW:=af (yA x l k hlt he (ae jX));have He:=af he;clear he;go_wp2_with fail;refine (KY _ _ _ _ _ _ (ae WG)).mono ?_;rintro e w2 ⟨rfl,hb2⟩;rw [ae He];have IJ:=af ((ae HB).trans (hb2.mono (ae HB).size));clear hb2;go_wp2;go_ret;exact ⟨by rw [ae iW];rfl,ae IJ⟩
  ·have iW:=af (Df x l (fun j h=>ae jX j h (by omega)));clear hb;go_wp2;go_ret;exact ⟨by rw [ae iW];rfl,ae HB⟩
def jB (x:aei) (l:List E3):Option E3:=l.find? fun e=>eqs e.2.1 x
theorem Bh {x:aei} {l:List E3} (h:jB x l=none):ET x l= -1:=by
 unfold jB at h;rw [List.find?_eq_none] at h;exact Df x l (fun j hj=>by simpa using h l[j] (List.getElem_mem hj))
theorem Bi {x:aei} {l:List E3} {y:E3} (h:jB x l=some y):∃k,∃hk:k<l.length,l[k]=y∧ET x l=k:=by
 unfold jB at h;rw [List.find?_eq_some_iff_getElem] at h;obtain ⟨h1,k,hk,h2,h3⟩:=h;refine ⟨k,hk,h2,yA x l k hk (by rw [h2];exact h1) (fun j hj hjk=>by simpa using h3 j hjk)⟩
theorem bU {w:World} {g o:Nat} {v:Value} (h:w.cell? ⟨g,o,none⟩=some v):g<w.heap.size:=by
 rcases Nat.lt_or_ge g w.heap.size with k|k
 ·exact k
 ·simp [World.cell?,Array.getElem?_eq_none k] at h
theorem Bj (v:Value) (l:List E3) (x:aei) (w:World) (hn:l.length≤1000) (h:jO w 110 v l) (hf:jB x l=none):
  Calls Tryz.prog 57 #[.agg #[v],.string x] w fun e w'=>e=.returned (.tuple #[.agg #[.int .i64 0,.string ⟨#[]⟩,.slice none 0 0],bn 5])∧Below w.heap.size w w':=by
 obtain ⟨sa,sc,rfl⟩:=au h;have H:=af h;have W0:Below w.heap.size w (((w.alloc (.cells #[.slice sa l.length sc] 75)).alloc (.cells #[.string x] 9)).alloc (.cells #[.int .i64 0,.string ⟨#[]⟩,.slice none 0 0] 110)):=(((Below.refl _ _).alloc aeg _).alloc (by simp) _).alloc (by simp;omega) _;have C:=af (wH (.slice sa l.length sc) l x (w.heap.size+1) _ hn (h.below W0) ((ai.new' (w.alloc (.cells #[.slice sa l.length sc] 75)) #[.string x] 9 (w.heap.size+1) (by simp)).alloc (.cells #[.int .i64 0,.string ⟨#[]⟩,.slice none 0 0] 110)));have M:=af (((ai.new w #[.slice sa l.length sc] 75).alloc (.cells #[.string x] 9)).alloc (.cells #[.int .i64 0,.string ⟨#[]⟩,.slice none 0 0] 110));have R:=af (ai.new' ((w.alloc (.cells #[.slice sa l.length sc] 75)).alloc (.cells #[.string x] 9)) #[.int .i64 0,.string ⟨#[]⟩,.slice none 0 0] 110 (w.heap.size+2) (by simp));have kg:=af W0;have H0:=af (h.below W0);clear h W0;go_enter Tryz.func57,Tryz.ntmps57;go_wp2_with fail;refine (ae C).mono ?_;rintro e w1 ⟨rfl,hb1⟩;have HR:=af ((ae R).below hb1);have HM:=af ((ae M).below hb1);have H1:=af ((ae H0).below hb1);have B1:=af ((ae kg).trans (hb1.mono (ae kg).size));clear hb1 C;obtain ⟨r0,r1,r2⟩:=(ae HR).three;have zr:=(ae HR).fz;have hrl:=(ae HR).lt;have mc:w1.cell? ⟨w.heap.size,0,none⟩=some (.slice sa l.length sc):=(ae HM).cell rfl;rw [Bh hf];go_wp2;refine bodyPost_ret (v:=.tuple #[.agg #[.int .i64 0,.string ⟨#[]⟩,.slice none 0 0],bn 5]) (aS Tryz.results57 _ _ (w.heap.size+2) _ 110 _ _ rfl rfl ?hB Tryz.underlying110 rfl (by kernel_rfl)) rfl ?post
 case hB=>exact ⟨_,(by with_reducible repeat (first|exact ae HR|apply ai.alloc|apply ai.drew|apply ai.set|(apply ai.other;case ha=>exact (by first|omega|(simp;omega)|simp)))),by rfl⟩
 case post=>exact ⟨rfl,(by with_reducible repeat (first|exact ae B1|refine Below.drew ?_|(refine Below.setCell ?_ ?_ _;rotate_left;exact (by first|omega|(simp;omega)|simp))|(refine Below.alloc ?_ ?_ _;rotate_left;exact (by first|omega|(simp;omega)|simp))))⟩
theorem sJ (v:Value) (l:List E3) (x:aei) (w:World) (hn:l.length≤1000) (h:jO w 110 v l) (y:E3) (hf:jB x l=some y) (hy1:∃a n c,y.2.2=.slice a n c):
  Calls Tryz.prog 57 #[.agg #[v],.string x] w fun e w'=>e=.returned (.tuple #[.agg #[.int .i64 y.1,.string y.2.1,y.2.2],.nilIface])∧Below w.heap.size w w':=by
 obtain ⟨k,hk,hy,hi⟩:=Bi hf;obtain ⟨sa,sc,rfl⟩:=au h;have H:=af h;have W0:Below w.heap.size w (((w.alloc (.cells #[.slice sa l.length sc] 75)).alloc (.cells #[.string x] 9)).alloc (.cells #[.int .i64 0,.string ⟨#[]⟩,.slice none 0 0] 110)):=(((Below.refl _ _).alloc aeg _).alloc (by simp) _).alloc (by simp;omega) _;have C:=af (wH (.slice sa l.length sc) l x (w.heap.size+1) _ hn (h.below W0) ((ai.new' (w.alloc (.cells #[.slice sa l.length sc] 75)) #[.string x] 9 (w.heap.size+1) (by simp)).alloc (.cells #[.int .i64 0,.string ⟨#[]⟩,.slice none 0 0] 110)));have M:=af (((ai.new w #[.slice sa l.length sc] 75).alloc (.cells #[.string x] 9)).alloc (.cells #[.int .i64 0,.string ⟨#[]⟩,.slice none 0 0] 110));have R:=af (ai.new' ((w.alloc (.cells #[.slice sa l.length sc] 75)).alloc (.cells #[.string x] 9)) #[.int .i64 0,.string ⟨#[]⟩,.slice none 0 0] 110 (w.heap.size+2) (by simp));have kg:=af W0;have H0:=af (h.below W0);clear h W0;go_enter Tryz.func57,Tryz.ntmps57;go_wp2_with fail;refine (ae C).mono ?_;rintro e w1 ⟨rfl,hb1⟩;have HR:=af ((ae R).below hb1);have HM:=af ((ae M).below hb1);have H1:=af ((ae H0).below hb1);have B1:=af ((ae kg).trans (hb1.mono (ae kg).size));clear hb1 C;obtain ⟨r0,r1,r2⟩:=(ae HR).three;have zr:=(ae HR).fz;have hrl:=(ae HR).lt;have mc:w1.cell? ⟨w.heap.size,0,none⟩=some (.slice sa l.length sc):=(ae HM).cell rfl;rw [hi];obtain ⟨g,c,e1,k0,k1,k2⟩:=(ae H1).cell k hk;simp only [Value.slice.injEq] at e1;obtain ⟨rfl,_,rfl⟩:=e1;rw [hy] at k0 k1 k2;have hgl:=bU k0;have hgn:¬(g=w.heap.size+2):=fun e=>by
  have:=(ae H).cell k hk;obtain ⟨g',c',e1,WH,_⟩:=this;simp only [Value.slice.injEq,Option.some.injEq,Addr.mk.injEq] at e1;have:=bU WH;omega
 have hgn':¬(w.heap.size+2=g):=fun e=>hgn e.symm
 clear hi hy hf;obtain ⟨p,n,u⟩:=y;simp only at k0 k1 k2;obtain ⟨ua,un,uc,rfl⟩:∃a n c,u=.slice a n c:=hy1;go_wp2;refine bodyPost_ret (v:=.tuple #[.agg #[.int .i64 p,.string n,.slice ua un uc],.nilIface]) (aS Tryz.results57 _ _ (w.heap.size+2) _ 110 _ _ rfl rfl ?hB Tryz.underlying110 rfl (by kernel_rfl)) rfl ?post
 case hB=>exact ⟨_,(by with_reducible repeat (first|exact ae HR|apply ai.alloc|apply ai.drew|apply ai.set|(apply ai.other;case ha=>exact (by first|omega|(simp;omega)|simp)))),by rfl⟩
 case post=>exact ⟨rfl,(by with_reducible repeat (first|exact ae B1|refine Below.drew ?_|(refine Below.setCell ?_ ?_ _;rotate_left;exact (by first|omega|(simp;omega)|simp))|(refine Below.alloc ?_ ?_ _;rotate_left;exact (by first|omega|(simp;omega)|simp))))⟩
theorem Bl (pp:Nat) (nn:aei) (v:Value) (l:List E3) (x:aei) (w:World) (hn:l.length≤1000) (h:jO w 159 v l) (hf:jB x l=none):
  Calls Tryz.prog 145 #[.agg #[.int .i64 pp,.string nn,v],.string x] w fun e w'=>e=.returned (.tuple #[.agg #[.int .i64 0,.string ⟨#[]⟩,.nilIface],bn 5])∧Below w.heap.size w w':=by
 obtain ⟨sa,sc,rfl⟩:=au h;have H:=af h;have W0:Below w.heap.size w (((w.alloc (.cells #[.int .i64 pp,.string nn,.slice sa l.length sc] 110)).alloc (.cells #[.string x] 9)).alloc (.cells #[.int .i64 0,.string ⟨#[]⟩,.nilIface] 159)):=(((Below.refl _ _).alloc aeg _).alloc (by simp) _).alloc (by simp;omega) _;have C:=af (wI (.slice sa l.length sc) l x (w.heap.size+1) _ hn (h.below W0) ((ai.new' (w.alloc (.cells #[.int .i64 pp,.string nn,.slice sa l.length sc] 110)) #[.string x] 9 (w.heap.size+1) (by simp)).alloc (.cells #[.int .i64 0,.string ⟨#[]⟩,.nilIface] 159)));have M:=af (((ai.new w #[.int .i64 pp,.string nn,.slice sa l.length sc] 110).alloc (.cells #[.string x] 9)).alloc (.cells #[.int .i64 0,.string ⟨#[]⟩,.nilIface] 159));have R:=af (ai.new' ((w.alloc (.cells #[.int .i64 pp,.string nn,.slice sa l.length sc] 110)).alloc (.cells #[.string x] 9)) #[.int .i64 0,.string ⟨#[]⟩,.nilIface] 159 (w.heap.size+2) (by simp));have kg:=af W0;have H0:=af (h.below W0);clear h W0;go_enter Tryz.func145,Tryz.ntmps145;go_wp2_with fail;refine (ae C).mono ?_;rintro e w1 ⟨rfl,hb1⟩;have HR:=af ((ae R).below hb1);have HM:=af ((ae M).below hb1);have H1:=af ((ae H0).below hb1);have B1:=af ((ae kg).trans (hb1.mono (ae kg).size));clear hb1 C;obtain ⟨r0,r1,r2⟩:=(ae HR).three;have zr:=(ae HR).fz;have hrl:=(ae HR).lt;have mc:w1.cell? ⟨w.heap.size,2,none⟩=some (.slice sa l.length sc):=(ae HM).cell rfl;rw [Bh hf];go_wp2;refine bodyPost_ret (v:=.tuple #[.agg #[.int .i64 0,.string ⟨#[]⟩,.nilIface],bn 5]) (aS Tryz.results145 _ _ (w.heap.size+2) _ 159 _ _ rfl rfl ?hB Tryz.underlying159 rfl (by kernel_rfl)) rfl ?post
 case hB=>exact ⟨_,(by with_reducible repeat (first|exact ae HR|apply ai.alloc|apply ai.drew|apply ai.set|(apply ai.other;case ha=>exact (by first|omega|(simp;omega)|simp)))),by rfl⟩
 case post=>exact ⟨rfl,(by with_reducible repeat (first|exact ae B1|refine Below.drew ?_|(refine Below.setCell ?_ ?_ _;rotate_left;exact (by first|omega|(simp;omega)|simp))|(refine Below.alloc ?_ ?_ _;rotate_left;exact (by first|omega|(simp;omega)|simp))))⟩
theorem sK (pp:Nat) (nn:aei) (v:Value) (l:List E3) (x:aei) (w:World) (hn:l.length≤1000) (h:jO w 159 v l) (y:E3) (hf:jB x l=some y) (hy1:∃a x,y.2.2=.iface a x):
  Calls Tryz.prog 145 #[.agg #[.int .i64 pp,.string nn,v],.string x] w fun e w'=>e=.returned (.tuple #[.agg #[.int .i64 y.1,.string y.2.1,y.2.2],.nilIface])∧Below w.heap.size w w':=by
 obtain ⟨k,hk,hy,hi⟩:=Bi hf;obtain ⟨sa,sc,rfl⟩:=au h;have H:=af h;have W0:Below w.heap.size w (((w.alloc (.cells #[.int .i64 pp,.string nn,.slice sa l.length sc] 110)).alloc (.cells #[.string x] 9)).alloc (.cells #[.int .i64 0,.string ⟨#[]⟩,.nilIface] 159)):=(((Below.refl _ _).alloc aeg _).alloc (by simp) _).alloc (by simp;omega) _;have C:=af (wI (.slice sa l.length sc) l x (w.heap.size+1) _ hn (h.below W0) ((ai.new' (w.alloc (.cells #[.int .i64 pp,.string nn,.slice sa l.length sc] 110)) #[.string x] 9 (w.heap.size+1) (by simp)).alloc (.cells #[.int .i64 0,.string ⟨#[]⟩,.nilIface] 159)));have M:=af (((ai.new w #[.int .i64 pp,.string nn,.slice sa l.length sc] 110).alloc (.cells #[.string x] 9)).alloc (.cells #[.int .i64 0,.string ⟨#[]⟩,.nilIface] 159));have R:=af (ai.new' ((w.alloc (.cells #[.int .i64 pp,.string nn,.slice sa l.length sc] 110)).alloc (.cells #[.string x] 9)) #[.int .i64 0,.string ⟨#[]⟩,.nilIface] 159 (w.heap.size+2) (by simp));have kg:=af W0;have H0:=af (h.below W0);clear h W0;go_enter Tryz.func145,Tryz.ntmps145;go_wp2_with fail;refine (ae C).mono ?_;rintro e w1 ⟨rfl,hb1⟩;have HR:=af ((ae R).below hb1);have HM:=af ((ae M).below hb1);have H1:=af ((ae H0).below hb1);have B1:=af ((ae kg).trans (hb1.mono (ae kg).size));clear hb1 C;obtain ⟨r0,r1,r2⟩:=(ae HR).three;have zr:=(ae HR).fz;have hrl:=(ae HR).lt;have mc:w1.cell? ⟨w.heap.size,2,none⟩=some (.slice sa l.length sc):=(ae HM).cell rfl;rw [hi];obtain ⟨g,c,e1,k0,k1,k2⟩:=(ae H1).cell k hk;simp only [Value.slice.injEq] at e1;obtain ⟨rfl,_,rfl⟩:=e1;rw [hy] at k0 k1 k2;have hgl:=bU k0;have hgn:¬(g=w.heap.size+2):=fun e=>by
  have:=(ae H).cell k hk;obtain ⟨g',c',e1,WH,_⟩:=this;simp only [Value.slice.injEq,Option.some.injEq,Addr.mk.injEq] at e1;have:=bU WH;omega
 have hgn':¬(w.heap.size+2=g):=fun e=>hgn e.symm
 clear hi hy hf;obtain ⟨p,n,u⟩:=y;simp only at k0 k1 k2;obtain ⟨ua,un,rfl⟩:∃a x,u=.iface a x:=hy1;go_wp2;refine bodyPost_ret (v:=.tuple #[.agg #[.int .i64 p,.string n,.iface ua un],.nilIface]) (aS Tryz.results145 _ _ (w.heap.size+2) _ 159 _ _ rfl rfl ?hB Tryz.underlying159 rfl (by kernel_rfl)) rfl ?post
 case hB=>exact ⟨_,(by with_reducible repeat (first|exact ae HR|apply ai.alloc|apply ai.drew|apply ai.set|(apply ai.other;case ha=>exact (by first|omega|(simp;omega)|simp)))),by rfl⟩
 case post=>exact ⟨rfl,(by with_reducible repeat (first|exact ae B1|refine Below.drew ?_|(refine Below.setCell ?_ ?_ _;rotate_left;exact (by first|omega|(simp;omega)|simp))|(refine Below.alloc ?_ ?_ _;rotate_left;exact (by first|omega|(simp;omega)|simp))))⟩
def gW (p c:Nat):Value:=.iface 147 (.agg #[.int .i64 p,bn c])
def iy (c:Nat):Option Nat→Value
 |none=> .nilIface
 |some p=>gW p c
theorem jP (p c:Nat) (w:World):Calls Tryz.prog 73 #[.int .i64 p,.iface 134 (.int .i64 c)] w fun e w'=>e=.returned (gW p c)∧w'=w:=by
 go_enter Tryz.func73,Tryz.ntmps73;go_wp2;go_ret;exact ⟨rfl,rfl⟩
theorem OW (p:Nat) (w:World):Calls Tryz.prog 73 #[.int .i64 p,.nilIface] w fun e w'=>e=.returned .nilIface∧w'=w:=by
 go_enter Tryz.func73,Tryz.ntmps73;go_wp2;go_ret;exact ⟨rfl,rfl⟩
def l6:List E3→List E3→Option Nat
 |_,[]=>none
 |ah,e::r=>if (jB e.2.1 ah).isSome then some e.1 else l6 (ah++[e]) r
theorem EU (l:List E3) (k:Nat) (hk:k<l.length):l6 (l.take k) (l.drop k)=if (jB l[k].2.1 (l.take k)).isSome then some l[k].1 else l6 (l.take (k+1)) (l.drop (k+1)):=by
 rw [List.drop_eq_getElem_cons hk,l6,List.take_succ_eq_append_getElem hk]
theorem KZ (l:List E3) (k:Nat) (hk:k<l.length):(l.take (k+1)).flatMap c3=(l.take k).flatMap c3++c3 l[k]:=by
 rw [List.take_succ_eq_append_getElem hk,List.flatMap_append];simp
theorem I7 (pp:Nat) (nn:aei) (v:Value) (l:List E3) (w:World) (hn:l.length≤1000) (h:jO w 159 v l) (ZU:∀e∈l,∃t x,e.2.2=.iface t x):
  Calls Tryz.prog 173 #[.agg #[.int .i64 pp,.string nn,v]] w fun e w'=>e=.returned (iy 4 (l6 [] l))∧Below w.heap.size w w':=by
 obtain ⟨i0,hi,hz0,hz1,hz2⟩:=info_parts Tryz.info159;have HI:=af hi;have fG:=af hz0;have fH:=af hz1;have fI:=af hz2;clear hi hz0 hz1 hz2;obtain ⟨oa,oc,rfl⟩:=au h;have H:=af h;have WJ:=af ZU;generalize hR:l6 [] l=R;have Ev:=af hR;clear hR h ZU;go_enter Tryz.func173,Tryz.ntmps173;go_wp2_with fail
 go_loopw [11] (fun u wr=>∃(k:Nat) (sv:Value),k≤l.length∧u=.int .i64 k∧Below w.heap.size w wr∧ai wr (w.heap.size+1) #[.int .i64 0,.string ⟨#[]⟩,sv] 110∧wr.ownsRow w.heap.size 159 3 sv k ((l.take k).flatMap c3)∧Hid (l6 (l.take k) (l.drop k)=R)) (fun u _=>l.length-(intOf u).toNat)
 case atStart=>exact ⟨0,_,by omega,rfl,((Below.refl _ _).alloc aeg _).alloc (by simp) _,ai.new' (w.alloc _) _ _ _ (by simp),World.ownsRow_nil _ _ _ _,Ev⟩
 case round=>
  obtain ⟨k,sv,hk,rfl,hb,hbl,ho,HQ⟩:=hrel;obtain ⟨sa,sc,rfl⟩:=au ho;have HB:=af hb;have HL:=af hbl;have HO:=af ho;obtain ⟨b0,b1,b2⟩:=hbl.three;have zb:=hbl.fz;have lb:=hbl.lt
  by_cases hlt:k<l.length
  ·have hR:=ae HQ;rw [EU l k hlt] at hR;obtain ⟨g,c,e1,k0,k1,k2⟩:=((ae H).below hb).cell k hlt;simp only [Value.slice.injEq] at e1;obtain ⟨rfl,_,rfl⟩:=e1;obtain ⟨ua,un,hu⟩:=ae WJ l[k] (List.getElem_mem hlt);have hct:=KZ l k hlt;generalize hy:l[k]=y at*;obtain ⟨p,n,u⟩:=y;simp only at k0 k1 k2 hu hR;subst hu;have hgl:g<w.heap.size:=by
    obtain ⟨g',c',e1,WH,_⟩:=(ae H).cell k hlt;simp only [Value.slice.injEq,Option.some.injEq,Addr.mk.injEq] at e1;obtain ⟨⟨rfl,_⟩,_⟩:=e1;exact bU WH
   have Hct:=af hct;have HF:=af (show jO (wr.alloc (.cells #[.int .i64 p,.string n,.iface ua un] 159)) 159 (.slice sa k sc) (l.take k) from by
    have:=aO (ho.alloc (.cells #[.int .i64 p,.string n,.iface ua un] 159)) (Nat.zero_le _);unfold jO;rw [List.length_take,Nat.min_eq_left hk];exact this)
   clear hy hct hb hbl ho
   cases hf:jB n (l.take k) with
   |some y=>
    have hy1:∃a x,y.2.2=.iface a x:=ae WJ y (List.mem_of_mem_take (List.mem_of_find?_eq_some hf));rw [hf] at hR;simp only [Option.isSome_some,if_true] at hR;have dS:=af hR;have C:=af (sK 0 ⟨#[]⟩ (.slice sa k sc) (l.take k) n _ (by rw [List.length_take];omega) (ae HF) y hf hy1);obtain ⟨yp,yn,yu⟩:=y;obtain ⟨ya,yx,ZV⟩:=hy1;simp only at ZV;subst ZV;clear hR hf;go_wp2_with fail;refine (ae C).mono ?_;rintro e w2 ⟨rfl,hb2⟩;have B2:=af (((ae HB).alloc (ae HB).size (.cells #[.int .i64 p,.string n,.iface ua un] 159)).trans (hb2.mono (by have:=(ae HB).size;simp;omega)));have E2:=(ai.new wr #[.int .i64 p,.string n,.iface ua un] 159).below hb2;obtain ⟨q0,q1,q2⟩:=E2.three;have ql:=E2.lt;clear hb2 E2;go_wp2_with (go_at_call 73;refine (jP _ 4 _).mono ?_;rintro e w3 ⟨rfl,rfl⟩);go_ret;rw [←ae dS];exact ⟨rfl,(by with_reducible repeat (first|exact ae B2|refine Below.drew ?_|(refine Below.setCell ?_ ?_ _;rotate_left;exact (by first|omega|(simp;omega)|simp))|(refine Below.alloc ?_ ?_ _;rotate_left;exact (by first|omega|(simp;omega)|simp))))⟩
   |none=>
    rw [hf] at hR;simp only [Option.isSome_none,Bool.false_eq_true,if_false] at hR;have dS:=af hR;have C:=af (Bl 0 ⟨#[]⟩ (.slice sa k sc) (l.take k) n _ (by rw [List.length_take];omega) (ae HF) hf);clear hR hf;go_wp2_with fail;refine (ae C).mono ?_;rintro e w2 ⟨rfl,hb2⟩;have hbb:Below wr.heap.size wr w2:=((Below.refl _ _).alloc aeg (.cells #[.int .i64 p,.string n,.iface ua un] 159)).trans (hb2.mono (by simp));have B2:=af ((ae HB).trans (hbb.mono (ae HB).size));have E2:=(ai.new wr #[.int .i64 p,.string n,.iface ua un] 159).below hb2;obtain ⟨q0,q1,q2⟩:=E2.three;have ql:=E2.lt;have L2:=(ae HL).below hbb;have xG:=af L2;obtain ⟨m0,m1,m2⟩:=L2.three;have zm:=L2.fz;have ml:=L2.lt;have O2:=af (ak (ae HO) (fun g cs f _ hh=>hbb.block g (lt_of_some hh)));have nQ:=(ae HB).size;clear hb2 E2 L2 hbb b0 b1 b2 zb;unfold bn;go_wp2_with (at_builtin;go_must (refine wpList_append_lies _ rfl _ _ 108 rfl w.heap.size 159 i0 _ 3 40 Tryz.underlying108 (ae HI) (ae fG) (ae fH) (ae fI) rfl (by decide) (.slice sa k sc) k ((l.take k).flatMap c3) rfl ?hown ⟨w2.heap.size+1,0,none⟩ 1 1 (c3 (p,n,.iface ua un)) rfl rfl ?hnews ?hone (by decide) ?h63 ?hbytes ?hbase (w2.heap.size+2) ?hH ?hrest))
    case hown=>exact ((ae O2).alloc _).alloc _
    case hnews=>exact World.news_of_block (B:=w2.heap.size+1) (cs:=#[.int .i64 p,.string n,.iface ua un]) (t:=159) (fr:=(0,0)) (ai.new' (w2.alloc _) _ _ _ (by simp))
    case hone=>
     intro u hu;simp [c3] at hu
     rcases hu with rfl|rfl|rfl<;>rfl
    case h63=>unfold maxLen;omega
    case hbytes=>omega
    case hbase=>simp;omega
    case hH=>simp
    case hrest=>
     intro g5 aD w5 aC aj aP di;have b0:Below w2.heap.size w2 ((w2.alloc (.cells #[.int .i64 0,.string ⟨#[]⟩,.nilIface] 159)).alloc (.cells #[.int .i64 p,.string n,.iface ua un] 159)):=((Below.refl _ _).alloc aeg _).alloc (by simp) _;have SS:=(ae xG).below b0;have fU:=((ae O2).alloc (.cells #[.int .i64 0,.string ⟨#[]⟩,.nilIface] 159)).alloc (.cells #[.int .i64 p,.string n,.iface ua un] 159);have OY:=af (show ai w5 (w.heap.size+1) #[.int .i64 0,.string ⟨#[]⟩,.slice sa k sc] 110 from (aj.block _ SS.lt (own_ne fU SS (by decide))).trans SS);have B5:=af (Below.grown ((ae B2).trans (b0.mono (ae B2).size)) aj (by have:=(ae B2).size;simp;omega) (fun k hk=>(fU.lt k hk).1));have O5:=af aC;obtain ⟨n0,n1,n2⟩:=(ae OY).three;have zn:=(ae OY).fz;have nl:=(ae OY).lt;clear b0 SS fU aC aj aP m0 m1 m2 zm q0 q1 q2;go_wp2;go_roundw
     case rel=>exact ⟨k+1,_,by omega,by go_num,(by with_reducible repeat (first|exact ae B5|refine Below.drew ?_|(refine Below.setCell ?_ ?_ _;rotate_left;exact (by first|omega|(simp;omega)|simp))|(refine Below.alloc ?_ ?_ _;rotate_left;exact (by first|omega|(simp;omega)|simp)))),(ae OY).set 2 _,by rw [ae Hct];exact aX (ae O5) (ae OY) (by decide) 2 _,dS⟩
     case measure=>simp [intOf];omega
  ·have hR:=ae HQ;rw [List.drop_of_length_le (by omega)] at hR;have dS:=af hR;clear hb hbl ho hR;go_wp2;go_ret;rw [←ae dS];exact ⟨rfl,ae HB⟩
def kQ (inn:E3→Option Nat):List E3→List E3→Option Nat
 |_,[]=>none
 |ah,e::r=>if (jB e.2.1 ah).isSome then some e.1 else match inn e with
  |some p=>some p
  |none=>kQ inn (ah++[e]) r
theorem Dg (inn:E3→Option Nat) (l:List E3) (k:Nat) (hk:k<l.length):kQ inn (l.take k) (l.drop k)=if (jB l[k].2.1 (l.take k)).isSome then some l[k].1 else match inn l[k] with
  |some p=>some p
  |none=>kQ inn (l.take (k+1)) (l.drop (k+1)):=by
 rw [List.drop_eq_getElem_cons hk,kQ,List.take_succ_eq_append_getElem hk]
theorem I8 (inn:E3→Option Nat) (v:Value) (l:List E3) (w:World) (hn:l.length≤1000) (h:jO w 110 v l) (ZU:∀e∈l,∃a n c,e.2.2=.slice a n c)
  (hin:∀e∈l,∀w',Below w.heap.size w w'→Calls Tryz.prog 173 #[.agg #[.int .i64 e.1,.string e.2.1,e.2.2]] w' fun e' w''=>e'=.returned (iy 4 (inn e))∧Below w'.heap.size w' w''):
  Calls Tryz.prog 115 #[.agg #[v]] w fun e w'=>e=.returned (iy 4 (kQ inn [] l))∧Below w.heap.size w w':=by
 obtain ⟨i0,hi,hz0,hz1,hz2⟩:=info_parts Tryz.info110;have HI:=af hi;have fG:=af hz0;have fH:=af hz1;have fI:=af hz2;clear hi hz0 hz1 hz2;obtain ⟨oa,oc,rfl⟩:=au h;have H:=af h;have WJ:=af ZU;have Hin:=af hin;generalize hR:kQ inn [] l=R;have Ev:=af hR;clear hR h ZU hin;go_enter Tryz.func115,Tryz.ntmps115;go_wp2_with fail
 go_loopw [12] (fun u wr=>∃(k:Nat) (sv:Value),k≤l.length∧u=.int .i64 k∧Below w.heap.size w wr∧ai wr (w.heap.size+1) #[sv] 75∧wr.ownsRow w.heap.size 110 3 sv k ((l.take k).flatMap c3)∧Hid (kQ inn (l.take k) (l.drop k)=R)) (fun u _=>l.length-(intOf u).toNat)
 case atStart=>exact ⟨0,_,by omega,rfl,((Below.refl _ _).alloc aeg _).alloc (by simp) _,ai.new' (w.alloc _) _ _ _ (by simp),World.ownsRow_nil _ _ _ _,Ev⟩
 case round=>
  obtain ⟨k,sv,hk,rfl,hb,hbl,ho,HQ⟩:=hrel;obtain ⟨sa,sc,rfl⟩:=au ho;have HB:=af hb;have HL:=af hbl;have HO:=af ho;have b0:wr.cell? ⟨w.heap.size+1,0,none⟩=some (.slice sa k sc):=hbl.cell rfl;have zb:=hbl.fz;have lb:=hbl.lt
  by_cases hlt:k<l.length
  ·have hR:=ae HQ;rw [Dg inn l k hlt] at hR;obtain ⟨g,c,e1,k0,k1,k2⟩:=((ae H).below hb).cell k hlt;simp only [Value.slice.injEq] at e1;obtain ⟨rfl,_,rfl⟩:=e1;obtain ⟨ua,um,un,hu⟩:=ae WJ l[k] (List.getElem_mem hlt);have hct:=KZ l k hlt;generalize hy:l[k]=y at*;obtain ⟨p,n,u⟩:=y;simp only at k0 k1 k2 hu hR;subst hu;have hgl:g<w.heap.size:=by
    obtain ⟨g',c',e1,WH,_⟩:=(ae H).cell k hlt;simp only [Value.slice.injEq,Option.some.injEq,Addr.mk.injEq] at e1;obtain ⟨⟨rfl,_⟩,_⟩:=e1;exact bU WH
   have Hct:=af hct;have Hy:=af hy;have HF:=af (show jO (wr.alloc (.cells #[.int .i64 p,.string n,.slice ua um un] 110)) 110 (.slice sa k sc) (l.take k) from by
    have:=aO (ho.alloc (.cells #[.int .i64 p,.string n,.slice ua um un] 110)) (Nat.zero_le _);unfold jO;rw [List.length_take,Nat.min_eq_left hk];exact this)
   clear hy hct hb hbl ho
   cases hf:jB n (l.take k) with
   |some y=>
    have hy1:∃a n c,y.2.2=.slice a n c:=ae WJ y (List.mem_of_mem_take (List.mem_of_find?_eq_some hf));rw [hf] at hR;simp only [Option.isSome_some,if_true] at hR;have dS:=af hR;have C:=af (sJ (.slice sa k sc) (l.take k) n _ (by rw [List.length_take];omega) (ae HF) y hf hy1);obtain ⟨yp,yn,yu⟩:=y;obtain ⟨ya,ym,yx,ZV⟩:=hy1;simp only at ZV;subst ZV;clear hR hf;go_wp2_with fail;refine (ae C).mono ?_;rintro e w2 ⟨rfl,hb2⟩;have B2:=af (((ae HB).alloc (ae HB).size (.cells #[.int .i64 p,.string n,.slice ua um un] 110)).trans (hb2.mono (by have:=(ae HB).size;simp;omega)));have E2:=(ai.new wr #[.int .i64 p,.string n,.slice ua um un] 110).below hb2;obtain ⟨q0,q1,q2⟩:=E2.three;have ql:=E2.lt;clear hb2 E2;go_wp2_with (go_at_call 73;refine (jP _ 4 _).mono ?_;rintro e w3 ⟨rfl,rfl⟩);go_ret;rw [←ae dS];exact ⟨rfl,(by with_reducible repeat (first|exact ae B2|refine Below.drew ?_|(refine Below.setCell ?_ ?_ _;rotate_left;exact (by first|omega|(simp;omega)|simp))|(refine Below.alloc ?_ ?_ _;rotate_left;exact (by first|omega|(simp;omega)|simp))))⟩
   |none=>
    rw [hf] at hR;simp only [Option.isSome_none,Bool.false_eq_true,if_false] at hR;have dS:=af hR;have C:=af (Bj (.slice sa k sc) (l.take k) n _ (by rw [List.length_take];omega) (ae HF) hf);clear hR hf;go_wp2_with fail;refine (ae C).mono ?_;rintro e w2 ⟨rfl,hb2⟩;have hbb:Below wr.heap.size wr w2:=((Below.refl _ _).alloc aeg (.cells #[.int .i64 p,.string n,.slice ua um un] 110)).trans (hb2.mono (by simp));have B2:=af ((ae HB).trans (hbb.mono (ae HB).size));have E2:=(ai.new wr #[.int .i64 p,.string n,.slice ua um un] 110).below hb2;obtain ⟨q0,q1,q2⟩:=E2.three;have ql:=E2.lt;have HE2:=af E2;have L2:=(ae HL).below hbb;have xG:=af L2;have m0:w2.cell? ⟨w.heap.size+1,0,none⟩=some (.slice sa k sc):=L2.cell rfl;have zm:=L2.fz;have ml:=L2.lt;have O2:=af (ak (ae HO) (fun g cs f _ hh=>hbb.block g (lt_of_some hh)));have nQ:=(ae HB).size;clear hb2 E2 L2 hbb b0 zb
    cases OZ:inn (p,n,.slice ua um un) with
    |some pq=>
     have Cn:=af (ae Hin (p,n,.slice ua um un) (by rw [←ae Hy];exact List.getElem_mem hlt) (w2.alloc (.cells #[.int .i64 0,.string ⟨#[]⟩,.slice none 0 0] 110)) ((ae B2).alloc (ae B2).size _));rw [OZ] at Cn;have WK:=ae dS;rw [OZ] at WK;have oZ:=af WK;clear OZ WK;unfold bn;go_wp2_with fail;refine (ae Cn).mono ?_;rintro e w3 ⟨rfl,hb3⟩;have B3:=af (((ae B2).alloc (ae B2).size (.cells #[.int .i64 0,.string ⟨#[]⟩,.slice none 0 0] 110)).trans (hb3.mono (by have:=(ae B2).size;simp;omega)));clear hb3;unfold iy gW;go_wp2;go_ret;rw [←ae oZ];exact ⟨rfl,ae B3⟩
    |none=>
     have Cn:=af (ae Hin (p,n,.slice ua um un) (by rw [←ae Hy];exact List.getElem_mem hlt) (w2.alloc (.cells #[.int .i64 0,.string ⟨#[]⟩,.slice none 0 0] 110)) ((ae B2).alloc (ae B2).size _));rw [OZ] at Cn;have WK:=ae dS;rw [OZ] at WK;have oZ:=af WK;clear OZ WK;unfold bn;go_wp2_with fail;refine (ae Cn).mono ?_;rintro e w3 ⟨rfl,hb3⟩;have hbc:Below w2.heap.size w2 w3:=((Below.refl _ _).alloc aeg (.cells #[.int .i64 0,.string ⟨#[]⟩,.slice none 0 0] 110)).trans (hb3.mono (by simp));have B3:=af ((ae B2).trans (hbc.mono (ae B2).size));have E3':=(ae HE2).below hbc;obtain ⟨q0,q1,q2⟩:=E3'.three;have ql:=E3'.lt;have L3:=(ae xG).below hbc;have IG:=af L3;have m0:w3.cell? ⟨w.heap.size+1,0,none⟩=some (.slice sa k sc):=L3.cell rfl;have zm:=L3.fz;have ml:=L3.lt;have O3:=af (ak (ae O2) (fun g cs f _ hh=>hbc.block g (lt_of_some hh)));have xH:=(ae B3).size;clear hb3 E3' L3 hbc;unfold iy;go_wp2_with (at_builtin;go_must (refine wpList_append_lies _ rfl _ _ 73 rfl w.heap.size 110 i0 _ 3 48 Tryz.underlying73 (ae HI) (ae fG) (ae fH) (ae fI) rfl (by decide) (.slice sa k sc) k ((l.take k).flatMap c3) rfl ?hown ⟨w3.heap.size,0,none⟩ 1 1 (c3 (p,n,.slice ua um un)) rfl rfl ?hnews ?hone (by decide) ?h63 ?hbytes ?hbase (w3.heap.size+1) ?hH ?hrest))
     case hown=>exact (ae O3).alloc _
     case hnews=>exact World.news_of_block (B:=w3.heap.size) (cs:=#[.int .i64 p,.string n,.slice ua um un]) (t:=110) (fr:=(0,0)) (ai.new w3 _ _)
     case hone=>
      intro u hu;simp [c3] at hu
      rcases hu with rfl|rfl|rfl<;>rfl
     case h63=>unfold maxLen;omega
     case hbytes=>omega
     case hbase=>simp;omega
     case hH=>simp
     case hrest=>
      intro g5 aD w5 aC aj aP di;have b0:Below w3.heap.size w3 (w3.alloc (.cells #[.int .i64 p,.string n,.slice ua um un] 110)):=(Below.refl _ _).alloc aeg _;have SS:=(ae IG).below b0;have fU:=(ae O3).alloc (.cells #[.int .i64 p,.string n,.slice ua um un] 110);have OY:=af (show ai w5 (w.heap.size+1) #[.slice sa k sc] 75 from (aj.block _ SS.lt (own_ne fU SS (by decide))).trans SS);have B5:=af (Below.grown ((ae B3).trans (b0.mono (ae B3).size)) aj (by have:=(ae B3).size;simp;omega) (fun k hk=>(fU.lt k hk).1));have O5:=af aC;have n0:w5.cell? ⟨w.heap.size+1,0,none⟩=some (.slice sa k sc):=(ae OY).cell rfl;have zn:=(ae OY).fz;have nl:=(ae OY).lt;clear b0 SS fU aC aj aP m0 zm q0 q1 q2;go_wp2;go_roundw
      case rel=>exact ⟨k+1,_,by omega,by go_num,(by with_reducible repeat (first|exact ae B5|refine Below.drew ?_|(refine Below.setCell ?_ ?_ _;rotate_left;exact (by first|omega|(simp;omega)|simp))|(refine Below.alloc ?_ ?_ _;rotate_left;exact (by first|omega|(simp;omega)|simp)))),(ae OY).set 0 _,by rw [ae Hct];exact aX (ae O5) (ae OY) (by decide) 0 _,oZ⟩
      case measure=>simp [intOf];omega
  ·have hR:=ae HQ;rw [List.drop_of_length_le (by omega)] at hR;have dS:=af hR;clear hb hbl ho hR;go_wp2;go_ret;rw [←ae dS];exact ⟨rfl,ae HB⟩
theorem dU (x:Value) (w:World):(Instr.typeAssert (.iface 236 x) 157 236 true).run Tryz.prog w=.ok (.tuple #[x,.bool true]) w:=by kernel_rfl
theorem yB (x:Value) (w:World):(Instr.typeAssert (.iface 236 x) 157 244 true).run Tryz.prog w=.ok (.tuple #[.agg #[.int .i64 0,.nilIface,.nilIface],.bool false]) w:=by kernel_rfl
theorem Dh (x:Value) (w:World):(Instr.typeAssert (.iface 236 x) 157 245 true).run Tryz.prog w=.ok (.tuple #[.agg #[.int .i64 0,.nilIface,.nilIface],.bool false]) w:=by kernel_rfl
theorem uH (x:Value) (w:World):(Instr.typeAssert (.iface 236 x) 157 246 true).run Tryz.prog w=.ok (.tuple #[.agg #[.int .i64 0,.nilIface,.nilIface],.bool false]) w:=by kernel_rfl
theorem fe (x:Value) (w:World):(Instr.typeAssert (.iface 238 x) 157 236 true).run Tryz.prog w=.ok (.tuple #[.agg #[.int .i64 0,.slice none 0 0],.bool false]) w:=by kernel_rfl
theorem iA (x:Value) (w:World):(Instr.typeAssert (.iface 238 x) 157 238 true).run Tryz.prog w=.ok (.tuple #[x,.bool true]) w:=by kernel_rfl
theorem Ay (x:Value) (w:World):(Instr.typeAssert (.iface 238 x) 157 244 true).run Tryz.prog w=.ok (.tuple #[.agg #[.int .i64 0,.nilIface,.nilIface],.bool false]) w:=by kernel_rfl
theorem EW (x:Value) (w:World):(Instr.typeAssert (.iface 238 x) 157 245 true).run Tryz.prog w=.ok (.tuple #[.agg #[.int .i64 0,.nilIface,.nilIface],.bool false]) w:=by kernel_rfl
theorem wJ (x:Value) (w:World):(Instr.typeAssert (.iface 238 x) 157 246 true).run Tryz.prog w=.ok (.tuple #[.agg #[.int .i64 0,.nilIface,.nilIface],.bool false]) w:=by kernel_rfl
theorem fo (x:Value) (w:World):(Instr.typeAssert (.iface 240 x) 157 236 true).run Tryz.prog w=.ok (.tuple #[.agg #[.int .i64 0,.slice none 0 0],.bool false]) w:=by kernel_rfl
theorem iB (x:Value) (w:World):(Instr.typeAssert (.iface 240 x) 157 238 true).run Tryz.prog w=.ok (.tuple #[.agg #[.int .i64 0,.string ⟨#[]⟩],.bool false]) w:=by kernel_rfl
theorem iC (x:Value) (w:World):(Instr.typeAssert (.iface 240 x) 157 240 true).run Tryz.prog w=.ok (.tuple #[x,.bool true]) w:=by kernel_rfl
theorem Az (x:Value) (w:World):(Instr.typeAssert (.iface 240 x) 157 244 true).run Tryz.prog w=.ok (.tuple #[.agg #[.int .i64 0,.nilIface,.nilIface],.bool false]) w:=by kernel_rfl
theorem EX (x:Value) (w:World):(Instr.typeAssert (.iface 240 x) 157 245 true).run Tryz.prog w=.ok (.tuple #[.agg #[.int .i64 0,.nilIface,.nilIface],.bool false]) w:=by kernel_rfl
theorem wK (x:Value) (w:World):(Instr.typeAssert (.iface 240 x) 157 246 true).run Tryz.prog w=.ok (.tuple #[.agg #[.int .i64 0,.nilIface,.nilIface],.bool false]) w:=by kernel_rfl
theorem cZ (x:Value) (w:World):(Instr.typeAssert (.iface 244 x) 157 236 true).run Tryz.prog w=.ok (.tuple #[.agg #[.int .i64 0,.slice none 0 0],.bool false]) w:=by kernel_rfl
theorem dY (x:Value) (w:World):(Instr.typeAssert (.iface 244 x) 157 238 true).run Tryz.prog w=.ok (.tuple #[.agg #[.int .i64 0,.string ⟨#[]⟩],.bool false]) w:=by kernel_rfl
theorem dZ (x:Value) (w:World):(Instr.typeAssert (.iface 244 x) 157 240 true).run Tryz.prog w=.ok (.tuple #[.agg #[.int .i64 0,.int .i64 0,.string ⟨#[]⟩,.int .i64 0,.string ⟨#[]⟩],.bool false]) w:=by kernel_rfl
theorem dx (x:Value) (w:World):(Instr.typeAssert (.iface 244 x) 157 244 true).run Tryz.prog w=.ok (.tuple #[x,.bool true]) w:=by kernel_rfl
theorem yC (x:Value) (w:World):(Instr.typeAssert (.iface 244 x) 157 246 true).run Tryz.prog w=.ok (.tuple #[.agg #[.int .i64 0,.nilIface,.nilIface],.bool false]) w:=by kernel_rfl
theorem dV (x:Value) (w:World):(Instr.typeAssert (.iface 245 x) 157 236 true).run Tryz.prog w=.ok (.tuple #[.agg #[.int .i64 0,.slice none 0 0],.bool false]) w:=by kernel_rfl
theorem gq (x:Value) (w:World):(Instr.typeAssert (.iface 245 x) 157 238 true).run Tryz.prog w=.ok (.tuple #[.agg #[.int .i64 0,.string ⟨#[]⟩],.bool false]) w:=by kernel_rfl
theorem gu (x:Value) (w:World):(Instr.typeAssert (.iface 245 x) 157 240 true).run Tryz.prog w=.ok (.tuple #[.agg #[.int .i64 0,.int .i64 0,.string ⟨#[]⟩,.int .i64 0,.string ⟨#[]⟩],.bool false]) w:=by kernel_rfl
theorem eD (x:Value) (w:World):(Instr.typeAssert (.iface 245 x) 157 244 true).run Tryz.prog w=.ok (.tuple #[.agg #[.int .i64 0,.nilIface,.nilIface],.bool false]) w:=by kernel_rfl
theorem gH (x:Value) (w:World):(Instr.typeAssert (.iface 245 x) 157 245 true).run Tryz.prog w=.ok (.tuple #[x,.bool true]) w:=by kernel_rfl
theorem Di (x:Value) (w:World):(Instr.typeAssert (.iface 245 x) 157 246 true).run Tryz.prog w=.ok (.tuple #[.agg #[.int .i64 0,.nilIface,.nilIface],.bool false]) w:=by kernel_rfl
theorem dW (x:Value) (w:World):(Instr.typeAssert (.iface 246 x) 157 236 true).run Tryz.prog w=.ok (.tuple #[.agg #[.int .i64 0,.slice none 0 0],.bool false]) w:=by kernel_rfl
theorem gz (x:Value) (w:World):(Instr.typeAssert (.iface 246 x) 157 238 true).run Tryz.prog w=.ok (.tuple #[.agg #[.int .i64 0,.string ⟨#[]⟩],.bool false]) w:=by kernel_rfl
theorem gB (x:Value) (w:World):(Instr.typeAssert (.iface 246 x) 157 240 true).run Tryz.prog w=.ok (.tuple #[.agg #[.int .i64 0,.int .i64 0,.string ⟨#[]⟩,.int .i64 0,.string ⟨#[]⟩],.bool false]) w:=by kernel_rfl
theorem eG (x:Value) (w:World):(Instr.typeAssert (.iface 246 x) 157 244 true).run Tryz.prog w=.ok (.tuple #[.agg #[.int .i64 0,.nilIface,.nilIface],.bool false]) w:=by kernel_rfl
theorem gI (x:Value) (w:World):(Instr.typeAssert (.iface 246 x) 157 245 true).run Tryz.prog w=.ok (.tuple #[.agg #[.int .i64 0,.nilIface,.nilIface],.bool false]) w:=by kernel_rfl
theorem fq (x:Value) (w:World):(Instr.typeAssert (.iface 246 x) 157 246 true).run Tryz.prog w=.ok (.tuple #[x,.bool true]) w:=by kernel_rfl
def SV:Array Value:=#[.int .i64 0,.nilIface,.nilIface]
theorem Dj (p:Nat) (ta:TypeId) (va:Value) (tb:TypeId) (vb:Value) (w:World):
  Calls Tryz.prog 212 #[.iface 244 (.agg #[.int .i64 p,.iface ta va,.iface tb vb])] w fun e w'=>e=.returned (.tuple #[.agg #[.int .i64 p,.iface ta va,.iface tb vb],.bool true])∧Below w.heap.size w w':=by
 have B0:=af (Below.refl w.heap.size w);have f0:=dx;go_enter Tryz.func212,Tryz.ntmps212;go_wp2;refine bodyPost_ret (v:=.tuple #[.agg #[.int .i64 p,.iface ta va,.iface tb vb],.bool true]) (aS Tryz.results212 _ _ w.heap.size _ 242 _ _ rfl rfl ?hB Tryz.underlying242 rfl (by kernel_rfl)) rfl ?post
 case hB=>exact ⟨_,(by first|exact ai.alloc (ai.new _ _ _) _|exact ai.new _ _ _),by rfl⟩
 case post=>exact ⟨rfl,(by with_reducible repeat (first|exact ae B0|refine Below.drew ?_|(refine Below.setCell ?_ ?_ _;rotate_left;exact (by first|omega|(simp;omega)|simp))|(refine Below.alloc ?_ ?_ _;rotate_left;exact (by first|omega|(simp;omega)|simp))))⟩
theorem I9 (p:Nat) (ta:TypeId) (va:Value) (tb:TypeId) (vb:Value) (w:World):
  Calls Tryz.prog 212 #[.iface 245 (.agg #[.int .i64 p,.iface ta va,.iface tb vb])] w fun e w'=>e=.returned (.tuple #[.agg #[.int .i64 p,.iface ta va,.iface tb vb],.bool true])∧Below w.heap.size w w':=by
 have B0:=af (Below.refl w.heap.size w);have f0:=eD;have f1:=gH;go_enter Tryz.func212,Tryz.ntmps212;go_wp2;refine bodyPost_ret (v:=.tuple #[.agg #[.int .i64 p,.iface ta va,.iface tb vb],.bool true]) (aS Tryz.results212 _ _ w.heap.size _ 242 _ _ rfl rfl ?hB Tryz.underlying242 rfl (by kernel_rfl)) rfl ?post
 case hB=>exact ⟨_,(by first|exact ai.alloc (ai.new _ _ _) _|exact ai.new _ _ _),by rfl⟩
 case post=>exact ⟨rfl,(by with_reducible repeat (first|exact ae B0|refine Below.drew ?_|(refine Below.setCell ?_ ?_ _;rotate_left;exact (by first|omega|(simp;omega)|simp))|(refine Below.alloc ?_ ?_ _;rotate_left;exact (by first|omega|(simp;omega)|simp))))⟩
theorem Ja (p:Nat) (ta:TypeId) (va:Value) (tb:TypeId) (vb:Value) (w:World):
  Calls Tryz.prog 212 #[.iface 246 (.agg #[.int .i64 p,.iface ta va,.iface tb vb])] w fun e w'=>e=.returned (.tuple #[.agg #[.int .i64 p,.iface ta va,.iface tb vb],.bool true])∧Below w.heap.size w w':=by
 have B0:=af (Below.refl w.heap.size w);have f0:=eG;have f1:=gI;have f2:=fq;go_enter Tryz.func212,Tryz.ntmps212;go_wp2;refine bodyPost_ret (v:=.tuple #[.agg #[.int .i64 p,.iface ta va,.iface tb vb],.bool true]) (aS Tryz.results212 _ _ w.heap.size _ 242 _ _ rfl rfl ?hB Tryz.underlying242 rfl (by kernel_rfl)) rfl ?post
 case hB=>exact ⟨_,(by first|exact ai.alloc (ai.new _ _ _) _|exact ai.new _ _ _),by rfl⟩
 case post=>exact ⟨rfl,(by with_reducible repeat (first|exact ae B0|refine Below.drew ?_|(refine Below.setCell ?_ ?_ _;rotate_left;exact (by first|omega|(simp;omega)|simp))|(refine Below.alloc ?_ ?_ _;rotate_left;exact (by first|omega|(simp;omega)|simp))))⟩
theorem Jb (x:Value) (w:World):
  Calls Tryz.prog 212 #[.iface 236 x] w fun e w'=>e=.returned (.tuple #[.agg SV,.bool false])∧Below w.heap.size w w':=by
 have B0:=af (Below.refl w.heap.size w);have f0:=yB;have f1:=Dh;have f2:=uH;go_enter Tryz.func212,Tryz.ntmps212;go_wp2;refine bodyPost_ret (v:=.tuple #[.agg SV,.bool false]) (aS Tryz.results212 _ _ w.heap.size _ 242 _ _ rfl rfl ?hB Tryz.underlying242 rfl (by kernel_rfl)) rfl ?post
 case hB=>exact ⟨_,(by first|exact ai.alloc (ai.new _ _ _) _|exact ai.new _ _ _),by rfl⟩
 case post=>exact ⟨rfl,(by with_reducible repeat (first|exact ae B0|refine Below.drew ?_|(refine Below.setCell ?_ ?_ _;rotate_left;exact (by first|omega|(simp;omega)|simp))|(refine Below.alloc ?_ ?_ _;rotate_left;exact (by first|omega|(simp;omega)|simp))))⟩
theorem Mq (x:Value) (w:World):
  Calls Tryz.prog 212 #[.iface 238 x] w fun e w'=>e=.returned (.tuple #[.agg SV,.bool false])∧Below w.heap.size w w':=by
 have B0:=af (Below.refl w.heap.size w);have f0:=Ay;have f1:=EW;have f2:=wJ;go_enter Tryz.func212,Tryz.ntmps212;go_wp2;refine bodyPost_ret (v:=.tuple #[.agg SV,.bool false]) (aS Tryz.results212 _ _ w.heap.size _ 242 _ _ rfl rfl ?hB Tryz.underlying242 rfl (by kernel_rfl)) rfl ?post
 case hB=>exact ⟨_,(by first|exact ai.alloc (ai.new _ _ _) _|exact ai.new _ _ _),by rfl⟩
 case post=>exact ⟨rfl,(by with_reducible repeat (first|exact ae B0|refine Below.drew ?_|(refine Below.setCell ?_ ?_ _;rotate_left;exact (by first|omega|(simp;omega)|simp))|(refine Below.alloc ?_ ?_ _;rotate_left;exact (by first|omega|(simp;omega)|simp))))⟩
theorem Mr (x:Value) (w:World):
  Calls Tryz.prog 212 #[.iface 240 x] w fun e w'=>e=.returned (.tuple #[.agg SV,.bool false])∧Below w.heap.size w w':=by
 have B0:=af (Below.refl w.heap.size w);have f0:=Az;have f1:=EX;have f2:=wK;go_enter Tryz.func212,Tryz.ntmps212;go_wp2;refine bodyPost_ret (v:=.tuple #[.agg SV,.bool false]) (aS Tryz.results212 _ _ w.heap.size _ 242 _ _ rfl rfl ?hB Tryz.underlying242 rfl (by kernel_rfl)) rfl ?post
 case hB=>exact ⟨_,(by first|exact ai.alloc (ai.new _ _ _) _|exact ai.new _ _ _),by rfl⟩
 case post=>exact ⟨rfl,(by with_reducible repeat (first|exact ae B0|refine Below.drew ?_|(refine Below.setCell ?_ ?_ _;rotate_left;exact (by first|omega|(simp;omega)|simp))|(refine Below.alloc ?_ ?_ _;rotate_left;exact (by first|omega|(simp;omega)|simp))))⟩
