import Derived.Test.YtlbpnlngckgcbaaGreatDoorM36
set_option linter.all false
set_option maxHeartbeats 4000000
set_option maxRecDepth 100000
namespace Go.Proofs.YtlbpnlngckgcbaaGreatDoor
open Go.RowKit Go.PlainAid Go.Proofs.Tryz
def I0(x th rel who w)(I:who.size<=maxLen)(D:bS who=false):
  Calls prog 26 #[bc x,aj th,aj rel,aj who] w fun e w'=>e=bj (.tuple #[.bool false,ar 2])/\an w w':=by
 have h:=o8 who w I;rw [D] at h;generalize aG who 58=C at*;obtain ⟨a,b,J⟩:=C;simp only at h ⊢;go_enter func26,ntmps26;go_wp2_with fail;refine h.mono ?_;rintro e w1 ⟨rfl,A⟩;go_wp2;go_ret2;exact ⟨rfl,(A.alloc A.size (cP aj a aj b))⟩
def tJ(x c:Nat)(k i r th rel who w)(Y:who.size<=1000)(V:bS who=true)(R:kj w)(U:1<w.heap.size)(Z:c=2\/c=5)(Q:∀w',an w w'->Calls prog 56 #[bc x,aj th,aj rel] w' fun e w''=>e=bj (.tuple #[.agg #[aj k,aj i,aj r],ar c])/\an w' w''):
  Calls prog 26 #[bc x,aj th,aj rel,aj who] w fun e w'=>e=bj (.tuple #[.bool false,ar c])/\an w w':=by
 have A:=fD Mn who w Y R U;rw [V] at A;generalize aG who 58=I at*;obtain ⟨a,b,ac⟩:=I;simp only at A ⊢;have ab:((c:Int) != 0)=true:=by rw [gV];omega
 go_enter func26,ntmps26;go_wp2_with fail;refine A.mono ?_;rintro e w1 ⟨rfl,C⟩;have h:=C.alloc C.size (cP aj a aj b);go_wp2_with fail;refine (Q _ h).mono ?_;rintro e ad ⟨rfl,D⟩;have J:=D.alloc D.size (bT aj k aj i aj r);go_wp2;go_ret2;exact ⟨rfl,(h.trans (J.mono h.size))⟩
def I3(x bm mv lv gv ts gs tl k i th rel who w)(h:PU w x mv lv gv gs)(ab:MC bm w mv ts tl)(aF:who.size<=1000)(aE:bS who=true)(aB:kj w)(aC:1<w.heap.size)(az:Laid w)(ay:bX ts (aG who 58).1=none)(av:∀w',an w w'->Calls prog 56 #[bc x,aj th,aj rel] w' fun e w''=>e=bj (.tuple #[.agg #[aj k,aj i,aj rel],ar 0])/\an w' w''):
  Calls prog 26 #[bc x,aj th,aj rel,aj who] w fun e w'=>e=bj (.tuple #[.bool false,ar 5])/\an w w':=by
 have I:=fD Mn who w aF aB aC;rw [aE] at I;obtain ⟨af,mn,mc,rfl⟩:=ab.form;have V:=(fun w' k=>qj bm _ ts tl (aG who 58).1 w' (ab.below k) ay:∀w',an w w'->Calls prog 57 #[.agg #[aw af mn mc],aj (aG who 58).1] w' fun e w''=>e=bj (.tuple #[.agg #[ar 0,aj ⟨#[]⟩,aw none 0 0],cm 5])/\an w' w'');have ak:=(fun w' k=>az.below k ai:∀w',an w w'->Laid w');generalize aG who 58=au at*;obtain ⟨a,b,aR⟩:=au;simp only at I V ⊢;go_enter func26,ntmps26;go_wp2_with fail;refine I.mono ?_;rintro e w1 ⟨rfl,ac⟩;have D:=ac.alloc ac.size (cP aj a aj b);have al:=aL.new w1 #[aj a,aj b] 98;go_wp2_with fail;refine (av _ D).mono ?_;rintro e Q ⟨rfl,J⟩;have Z:=J.alloc J.size (bT aj k aj i aj rel);have C:=D.trans (Z.mono D.size);have ap:=al.below Z;have aH:=aL.new Q #[aj k,aj i,aj rel] 102;have l2:w1.heap.size<Q.heap.size:=by have:=J.size;simp at this;omega
 go_wp2_with fail;generalize (Q.alloc (bT aj k aj i aj rel))=W at*;have U:=aA W.heap.size W;have Y:=(h.below C).blk;obtain ⟨ag,aS,aT⟩:=three Y;have t0:W.cell? (aN w1.heap.size)=some (aj a):=ap.cell rfl;have ae:=C.size;have aQ:¬(x=W.heap.size):=by have:=Y.lt;omega
 go_region_held3 (fun w'=>w'.cell? (aN x)=some (aw af mn mc)/\w'.cell? (aN w1.heap.size)=some (aj a)) ((first|go_keep|refine ⟨am ag ?_,am t0 ?_⟩<;>(with_reducible repeat (first|exact A|exact U|refine Below.drew ?_|(refine Below.setCell ?_ ?_ _;rotate_left;exact mL)|(refine Below.alloc ?_ ?_ _;rotate_left;exact mL)))))
  ((go_at_call 57;refine (V _ ((cq C):an w _)).mono ?_;rintro e aU ⟨rfl,ad⟩;have A:=(Below.trans (a:=W) (B:=W.heap.size) ((cq U):an W _) (ad.mono wZ));have d0:=am ag A;have d1:=am t0 A;(first|(have R:=(aL.new W #[ar 0,aj ⟨#[]⟩,aw none 0 0] 110).drew.below ad;obtain ⟨aJ,aK,aM⟩:=three R;have aP:=R.fz;have aO:=R.lt)|skip);have aI:=A.size))
 all_goals (
  go_wp2_with fail;refine (kq 5 _ (ak _ (C.trans (((cq A):an W _).mono ae)))).mono ?_;rintro e aV ⟨rfl,ax⟩;have ah:=Below.trans (a:=W) (B:=W.heap.size) ((cq A):an W _) (ax.mono vK);go_wp2;go_ret2;exact ⟨rfl,(C.trans (ah.mono ae))⟩)
