import Derived.Test.YtlbpnlngckgcbaaGreatDoorM36
set_option linter.all false
set_option maxHeartbeats 4000000
set_option maxRecDepth 100000
namespace Go.Proofs.YtlbpnlngckgcbaaGreatDoor
open Go.RowKit Go.PlainAid Go.Proofs.Tryz
def Jw(x th rel who w)(I:who.size<=maxLen)(D:bT who=false):
  Calls prog 26 #[bu x,an th,an rel,an who] w fun e w'=>e=bi (.tuple #[.bool false,au 2])/\am w w':=by
 have h:=py who w I;rw [D] at h;generalize aG who 58=C at*;obtain ⟨a,b,J⟩:=C;simp only at h ⊢;go_enter func26,ntmps26;go_wp2_with fail;refine h.mono ?_;rintro e w1 ⟨rfl,A⟩;go_wp2;go_ret2;exact ⟨rfl,(A.alloc A.size (dK a b))⟩
def ul(x c:Nat)(k i r th rel who w)(Y:who.size<=1000)(V:bT who=true)(R:ko w)(U:1<w.heap.size)(Z:c=2\/c=5)(Q:∀w',am w w'->Calls prog 56 #[bu x,an th,an rel] w' fun e w''=>e=bi (.tuple #[.agg #[an k,an i,an r],au c])/\am w' w''):
  Calls prog 26 #[bu x,an th,an rel,an who] w fun e w'=>e=bi (.tuple #[.bool false,au c])/\am w w':=by
 have A:=fC MW who w Y R U;rw [V] at A;generalize aG who 58=I at*;obtain ⟨a,b,ac⟩:=I;simp only at A ⊢;have ab:((c:Int) != 0)=true:=by rw [gX];omega
 go_enter func26,ntmps26;go_wp2_with fail;refine A.mono ?_;rintro e w1 ⟨rfl,C⟩;have h:=C.alloc C.size (dK a b);go_wp2_with fail;refine (Q _ h).mono ?_;rintro e ad ⟨rfl,D⟩;have J:=D.alloc D.size (cf k i r);go_wp2;go_ret2;exact ⟨rfl,(h.trans (J.mono h.size))⟩
def Jx(x bm mv lv gv ts gs tl k i th rel who w)(h:PU w x mv lv gv gs)(ab:MC bm w mv ts tl)(aF:who.size<=1000)(aE:bT who=true)(aB:ko w)(aC:1<w.heap.size)(ay:Laid w)(ax:bW ts (aG who 58).1=none)(av:∀w',am w w'->Calls prog 56 #[bu x,an th,an rel] w' fun e w''=>e=bi (.tuple #[.agg #[an k,an i,an rel],au 0])/\am w' w''):
  Calls prog 26 #[bu x,an th,an rel,an who] w fun e w'=>e=bi (.tuple #[.bool false,au 5])/\am w w':=by
 have I:=fC MW who w aF aB aC;rw [aE] at I;obtain ⟨af,mn,mc,rfl⟩:=ab.form;have V:=(fun w' k=>qG bm _ ts tl (aG who 58).1 w' (ab.below k) ax:∀w',am w w'->Calls prog 57 #[.agg #[aA af mn mc],an (aG who 58).1] w' fun e w''=>e=bi (.tuple #[.agg #[au 0,an ⟨#[]⟩,aA none 0 0],cm 5])/\am w' w'');have aj:=(fun w' k=>ay.below k ai:∀w',am w w'->Laid w');generalize aG who 58=ar at*;obtain ⟨a,b,aR⟩:=ar;simp only at I V ⊢;go_enter func26,ntmps26;go_wp2_with fail;refine I.mono ?_;rintro e w1 ⟨rfl,ac⟩;have D:=ac.alloc ac.size (dK a b);have al:=aL.new w1 #[an a,an b] 98;go_wp2_with fail;refine (av _ D).mono ?_;rintro e Q ⟨rfl,J⟩;have Z:=J.alloc J.size (cf k i rel);have C:=D.trans (Z.mono D.size);have ap:=al.below Z;have aH:=aL.new Q #[an k,an i,an rel] 102;have l2:w1.heap.size<Q.heap.size:=by have:=J.size;simp at this;omega
 go_wp2_with fail;generalize (Q.alloc (cf k i rel))=W at*;have U:=az W.heap.size W;have Y:=(h.below C).blk;obtain ⟨ag,aS,aT⟩:=three Y;have t0:W.cell? (aP w1.heap.size)=some (an a):=ap.cell rfl;have ae:=C.size;have aQ:¬(x=W.heap.size):=by have:=Y.lt;omega
 go_region_held3 (fun w'=>w'.cell? (aP x)=some (aA af mn mc)/\w'.cell? (aP w1.heap.size)=some (an a)) ((first|go_keep|refine ⟨ak ag ?_,ak t0 ?_⟩<;>(with_reducible repeat (first|exact A|exact U|refine Below.drew ?_|(refine Below.setCell ?_ ?_ _;rotate_left;exact mU)|(refine Below.alloc ?_ ?_ _;rotate_left;exact mU)))))
  ((go_at_call 57;refine (V _ ((cq C):am w _)).mono ?_;rintro e aU ⟨rfl,ad⟩;have A:=(Below.trans (a:=W) (B:=W.heap.size) ((cq U):am W _) (ad.mono xG));have d0:=ak ag A;have d1:=ak t0 A;(first|(have R:=(aL.new W fG 110).drew.below ad;obtain ⟨aJ,aK,aM⟩:=three R;have aO:=R.fz;have aN:=R.lt)|skip);have aI:=A.size))
 all_goals (
  go_wp2_with fail;refine (kw 5 _ (aj _ (C.trans (((cq A):am W _).mono ae)))).mono ?_;rintro e aV ⟨rfl,aw⟩;have ah:=Below.trans (a:=W) (B:=W.heap.size) ((cq A):am W _) (aw.mono wm);go_wp2;go_ret2;exact ⟨rfl,(C.trans (ah.mono ae))⟩)
