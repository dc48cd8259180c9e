import Derived.Test.YtlbpnlngckgcbaaGreatDoorM34
import Derived.Test.YtlbpnlngckgcbaaGreatDoorM35
import Derived.Test.YtlbpnlngckgcbaaGreatDoorM32
import Derived.Test.YtlbpnlngckgcbaaGreatDoorM33
import Derived.Deep.Slices
import Derived.ChangeArms
import Derived.SizedLaws
import Derived.Lib.LaidTab
import Derived.Shelf.Vars
import Derived.ChangeSame
import Derived.DataShut
import Derived.OpenShut
import Derived.ChangeVars
import Derived.ChangeSlices
import Derived.Carry
import Derived.LaidLaws
import Derived.LaidHandle
import Derived.LaidMore
import Derived.LaidSub
set_option linter.all false
set_option maxHeartbeats 4000000
set_option maxRecDepth 100000
namespace Go.Proofs.YtlbpnlngckgcbaaGreatDoor
open Go.RowKit Go.PlainAid Go.Proofs.Tryz
structure UG(ts:List Ty)(gs:List Tu):Prop where
 few:gs.length<=1000
 low:∀t∈gs,t.kind.size<=maxLen/\t.id.size<=maxLen/\m0 (gx t)
 ln:∀g∈cZ ts,∀x∈g,TM x
 ok:H7 (cZ ts) (eB gs)
 sum:((cZ ts).map List.length).sum<=1000000
def Sv(ts:List Ty)(gs:List Tu)(s:Sj)(who:Tg)(w:af)(e:Ending)(w':af):Prop:=∃kb,e=.returned (.tuple #[.bool (kb s),.int .i64 0])/\Below w.heap.size w w'/\nL who (eB gs) ((cZ ts).map (List.map l8)) (fun _=>false) kb
theorem MI(X t):(eP X [t] 1).length=if X.testBit 0 then 1 else 0:=by
 cases h:X.testBit 0 with
 |true=>rw [wE (t:=t) rfl h];simp [eP]
 |false=>rw [Bg (t:=t) rfl h];simp [eP]
theorem MJ(x mv lv gv ts gs w)(C:UQ w x mv lv gv ts gs)(O:UG ts gs)(th rel who)(hs:th.size<=1000)(be:bQ th=true)(bu:rel.size<=1000)(bb:bp rel=true)(t)(a4:bL ts (aC th 58).1=some t)(r)(ba:bP t rel=some r)(bg:who.size<=1000)(bf:bQ who=true)(t')(a5:bL ts (aC who 58).1=some t')(aM:kO w)(ap:1<w.heap.size):
  Calls prog 26 #[.pointer (some ⟨x,0,none⟩),.string th,.string rel,.string who] w (Sv ts gs ⟨(aC th 58).1,(aC th 58).2.1,rel⟩ ⟨(aC who 58).1,(aC who 58).2.1⟩ w):=by
 obtain ⟨bm,tl,af⟩:=C.m;have R:=eb th 58;have bD:=eb who 58;have ac:=ai (et Dy who w bg aM ap);rw [bf] at ac;have aA:=ai (fun w' (k:Below w.heap.size w w')=>Bh x bm mv lv gv ts gs tl w' (C.p.below k) (af.below k) th rel hs be ey bb t a4 r ba (aM.below k ap) (cg ap k.size));obtain ⟨bk,mn,mc,rfl⟩:=af.form;have aS:=ai (show ∀w',Below w.heap.size w w'->Calls prog 57 #[.agg #[.slice bk mn mc],.string (aC who 58).1] w' fun e w''=>∃au ax av,e=.returned (.tuple #[.agg #[.int .i64 t'.place,.string t'.name,.slice au ax av],.nilIface])/\Below w'.heap.size w' w'' from fun w' k=>by
  obtain ⟨au,ax,av,rl,_,aG⟩:=zm bm _ ts tl (aC who 58).1 w af t' a5;exact (aG w' k).mono fun e w'' C=>⟨au,ax,av,C⟩)
 have bK:=C.p.blk.lt;obtain ⟨ga,gc,rfl⟩:=ay C.p.row;obtain ⟨qs,a8,_⟩:=C.l;obtain ⟨bh,bi,rfl⟩:=ay a8.row;obtain ⟨ln,a7⟩:∃n,n=qs.length:=⟨_,rfl⟩;rw [<-a7] at C;obtain ⟨aZ,a6⟩:∃n,n=gs.length:=⟨_,rfl⟩;rw [<-a6] at C;have aD:=ai (fun w' g (k:Below w.heap.size w w') (cr:yM w' (.slice (some ⟨g,0,none⟩) 1 1) [⟨(aC who 58).1,(aC who 58).2.1⟩])=>Ik bh ga ln bi g 1 1 aZ gc w' ts gs [⟨(aC who 58).1,(aC who 58).2.1⟩] ⟨(aC th 58).1,(aC th 58).2.1,rel⟩ ⟨xN.below _ _ _ _ C.l k,cr,aE C.p.row k,O.few,O.low,⟨by unfold maxLen;show (aC th 58).1.size<=_;omega,by unfold maxLen;show (aC th 58).2.1.size<=_;omega,by unfold maxLen;show rel.size<=_;omega⟩,O.ln,O.ok,O.sum⟩ an az ey);have br:=ai (fun g bt x bv=>(O.ln g bt x bv).wf);have H:=ai C.p;generalize aC th 58=X at*;obtain ⟨k,i,ok⟩:=X;generalize aC who 58=bs at*;obtain ⟨a,b,bU⟩:=bs;simp only at ac aA aS aD ⊢;clear aM ap hs be bu bb a4 ba af C O bg bf a5 R bD a7 a6 a8;go_enter func26,ntmps26;go_wp2_with fail;refine (ak ac).mono ?_;rintro e w1 ⟨rfl,ag⟩;have Z:=ai (ag.alloc ag.size (df a b));have aY:=ai (aB.new w1 #[.string a,.string b] 98);have l1:=ag.size;have aR:=ai (ak aA _ Z.u);clear ag ac aA;go_wp2_with fail;refine aR.u.mono ?_;rintro e Q ⟨rfl,ah⟩;have aI:=ah.alloc ah.size (b8 k i rel);have ab:=ai (Z.u.trans (aI.mono Z.u.size));have ad:=ai (aY.u.below aI);have aX:=ai (aB.new Q #[.string k,.string i,.string rel] 102);have bM:w1.heap.size<Q.heap.size:=by have:=ah.size;simp at this;omega
 clear ah aR aY Z aI;go_wp2_with fail;generalize (Q.alloc (b8 k i rel))=W at*;have aQ:=ai (aw W.heap.size W);have aH:=(H.u.below ab.u).blk;obtain ⟨bl,bV,bW⟩:=three aH;have t0:W.cell? ⟨w1.heap.size,0,none⟩=some (.string a):=ad.u.cell rfl;have bw:=ab.u.size;have bO:=ad.u.lt;have bN:=aX.u.lt;have bT:¬(x=W.heap.size):=by have:=aH.lt;omega
 have bS:¬(w1.heap.size=W.heap.size):=aj;have ns:¬(Q.heap.size=W.heap.size):=aj;clear aH
 go_region_held3 (fun w'=>w'.cell? ⟨x,0,none⟩=some (.slice bk mn mc)/\w'.cell? ⟨w1.heap.size,0,none⟩=some (.string a)) ((first|go_keep|refine ⟨am bl ?_,am t0 ?_⟩<;>(with_reducible repeat (first|exact V.u|exact aQ.u|refine Below.drew ?_|(refine sr ?_ ?_ _;rotate_left;exact jZ)|(refine Below.alloc ?_ ?_ _;rotate_left;exact jZ)))))
  ((go_at_call 57;refine (ak aS _ (show Below w.heap.size w _ from (bB ab))).mono ?_;rintro e bY ⟨au,ax,av,rfl,aJ⟩;have V:=ai (gQ (a:=W) (B:=W.heap.size) (show Below W.heap.size W _ from (bB aQ)) (aJ.mono rA));have d0:=am bl V.u;have d1:=am t0 V.u;(first|(have R:=(aB.new W #[.int .i64 0,.string ⟨#[]⟩,.slice none 0 0] 110).drew.below aJ;obtain ⟨bF,bG,bH⟩:=three R;have bJ:=R.fz;have bI:=R.lt;clear R)|skip);have bE:=V.u.size;clear aJ))
 all_goals (
  go_wp2_with fail;refine (pj _).mono ?_;rintro e D ⟨rfl,a3⟩;have Y:=gQ (a:=W) (B:=W.heap.size) (show Below W.heap.size W _ from (bB V)) (a3.mono q8);have U:=ai (ab.u.trans (Y.mono bw));obtain ⟨bX,bn,bx⟩:=three (H.u.below U.u).blk;have bo:D.cell? ⟨w1.heap.size,0,none⟩=some (.string a):=(ad.u.below Y).cell rfl;have bz:D.cell? ⟨w1.heap.size,1,none⟩=some (.string b):=(ad.u.below Y).cell rfl;obtain ⟨bq,bA,bC⟩:=three (aX.u.below Y);have ae:=((aw D.heap.size D).alloc az (df a b)).drew;have ar:=(aB.new D #[.string a,.string b] 98).drew;have cr:yM (D.alloc (df a b)).drew (.slice (some ⟨D.heap.size,0,none⟩) 1 1) [⟨a,b⟩]:=⟨D.heap.size,0,1,rfl,ar.lt,an,fun j y aL=>by
   rcases j with _|j
   ·simp only [List.getElem?_cons_zero,aK] at aL;subst aL;exact ⟨ar.cell rfl,ar.cell rfl⟩
   simp at aL⟩
  have aG:=ai (ak aD _ D.heap.size (U.u.trans (ae.mono U.u.size)) cr);have J:=ai ae;have aO:=ai (U.u.trans (ae.mono U.u.size));have n1:=bj D _ bn;have n2:=bj D _ bo;have bR:=bj D _ bq;clear a3 Y ae ar cr aD;go_wp2_with fail
  go_region_held3 (fun w'=>w'.cell? ⟨x,1,none⟩=some (.slice bh ln bi)/\w'.cell? ⟨x,2,none⟩=some (.slice ga aZ gc)/\w'.cell? ⟨w1.heap.size,0,none⟩=some (.string a)/\w'.cell? ⟨w1.heap.size,1,none⟩=some (.string b)/\w'.cell? ⟨Q.heap.size,0,none⟩=some (.string k)/\w'.cell? ⟨Q.heap.size,1,none⟩=some (.string i)/\w'.cell? ⟨Q.heap.size,2,none⟩=some (.string rel)) (go_keep)
   ((go_at_call 58;refine aG.u.mono ?_;rintro e w5 ⟨v,K,rfl,I,bc,a9⟩;obtain ⟨pa,pc,rfl⟩:=ay a9;have aW:=ai bc;have aN:=MI (K ⟨k,i,rel⟩) ⟨a,b⟩;change (eP (K ⟨k,i,rel⟩) [⟨a,b⟩] [(⟨a,b⟩:Tg)].length).length=_ at aN;generalize (eP (K ⟨k,i,rel⟩) [⟨a,b⟩] [(⟨a,b⟩:Tg)].length).length=pn at*;have aU:=ai aN;have aP:=ai (aO.u.trans (I.mono aO.u.size));have f0:=am (am bn J.u) I;have f1:=am (am bx J.u) I;have f2:=am (am bo J.u) I;have f3:=am (am bz J.u) I;have f4:=am (am bq J.u) I;have f5:=am (am bA J.u) I;have f6:=am (am bC J.u) I;clear I a9 bc aN))
  have aT:=ai (show nL ⟨a,b⟩ (eB gs) ((cZ ts).map (List.map l8)) (fun _=>false) (fun s=>(K s).testBit 0) from by
   have:=QK (i:=0) (who:=⟨a,b⟩) an rfl br.u aW.u
   simpa using this)
  clear f0 f1 f2 f3 f4 f5 f6 aW
  cases al:(K ⟨k,i,rel⟩).testBit 0
  ·obtain rfl:pn=0:=by rw [aU.u,al];rfl
   go_wp2;go_ret2;refine ⟨_,?_,aP.u,aT.u⟩
   show _=Ending.returned (.tuple #[.bool ((K ⟨k,i,rel⟩).testBit 0),.int .i64 0])
   rw [al]
   rfl
  ·obtain rfl:pn=1:=by rw [aU.u,al];rfl
   go_wp2;go_ret2;refine ⟨_,?_,aP.u,aT.u⟩
   show _=Ending.returned (.tuple #[.bool ((K ⟨k,i,rel⟩).testBit 0),.int .i64 0])
   rw [al]
   rfl)
def Sy(n:Nat):ae:=(⟨#[48,49,50,51,52,53,54,55,56,57]⟩:ae).extract n (n+1)
def FI(n:Nat):ae:=(⟨#[117,115,101,114,58,117]⟩:ae)++Sy n
def yw(n:Nat):ae:=(⟨#[103,114,111,117,112,58,103]⟩:ae)++Sy n
def Bq(n:Nat):ae:=(⟨#[100,111,99,58,100]⟩:ae)++Sy n
def grB(k a b:Nat):ae:=match k with
 |0=>(yw a++⟨#[35,109,101,109,98,101,114,64]⟩)++FI b
 |1=>((yw a++⟨#[35,109,101,109,98,101,114,64]⟩)++yw b)++⟨#[35,109,101,109,98,101,114]⟩
 |2=>(Bq a++⟨#[35,112,97,114,101,110,116,64]⟩)++Bq b
 |3=>(Bq a++⟨#[35,111,119,110,101,114,64]⟩)++FI b
 |4=>(Bq a++⟨#[35,101,100,105,116,111,114,64]⟩)++FI b
 |5=>((Bq a++⟨#[35,101,100,105,116,111,114,64]⟩)++yw b)++⟨#[35,109,101,109,98,101,114]⟩
 |6=>Bq a++⟨#[35,118,105,101,119,101,114,64,117,115,101,114,58,42]⟩
 |7=>Bq a++⟨#[35,98,97,110,110,101,100,64,117,115,101,114,58,42]⟩
 |_=>(Bq a++⟨#[35,98,97,110,110,101,100,64]⟩)++FI b
end Go.Proofs.YtlbpnlngckgcbaaGreatDoor
namespace Go.Proofs.YtlbpnlngckgcbaaGreatDoor
open Go.ChangeShapes Go.WideShapes Go.RowKit
end Go.Proofs.YtlbpnlngckgcbaaGreatDoor
namespace Go.Proofs.YtlbpnlngckgcbaaGreatDoor
open Go.RowKit Go.PlainAid Go.Proofs.Tryz
section
variable {B:Nat}{w w':af}{x y:Nat}{ts ts' ts2:List Ty}{gs gs' gs2:List Tu}
end
section
variable {B:Nat}{w w':af}{x:Nat}{ts ts2:List Ty}{gs gs2:List Tu}
end
section
variable {B:Nat}{w w':af}{x y:Nat}{ts ts' ts2:List Ty}{gs gs' gs2:List Tu}
end
def tt(s:ae):Tu:=(bU s).1
section
variable {B:Nat}{w w':af}{x y:Nat}{ts ts':List Ty}{gs':List Tu}{ss:List ae}{s:ae}
end
section
variable {B:Nat}{w w':af}{x y:Nat}{ts ts':List Ty}{gs gs':List Tu}
end
section
variable {B:Nat}{w w':af}{x:Nat}{ts:List Ty}{gs:List Tu}{ss:List ae}{s:ae}
end
def MP(M:Nat->Nat->Bool):Nat->Nat->Nat->Bool
 |0,i,j=>M i j
 |k+1,i,j=>MP M k i j||(MP M k i k&&MP M k k j)
def S8(ss:List ae)(k a b:Nat):Bool:=ss.any fun s=>decide (s=grB k a b)
section
variable {who:Tg}{gs:List Tu}{g:List R3}{k0 k1 kb:Sj->Bool}
end
section
variable {ss:List ae}{i:Nat}{p:Tu->Bool}
end
def in1(ss:List ae)(i j:Nat):Bool:=S8 ss 1 i j||decide (i=j)
def in2(ss:List ae)(i j:Nat):Bool:=S8 ss 2 i j||decide (i=j)
section
variable {who:Tg}{m:Nat->Bool}{ss:List ae}{k0 k1 k3 kb:Sj->Bool}{i:Nat}
end
def lU:Nat->(Nat->Bool)->Bool
 |0,_=>false
 |k+1,f=>lU k f||f k
theorem m7{f}:∀{n:Nat},lU n f=true↔∃k,k<n/\f k=true
 |0=>by
  constructor
  ·intro C;cases C
  rintro ⟨k,D,_⟩;omega
 |n+1=>by
  rw [lU,oE,m7]
  constructor
  ·rintro (⟨k,D,C⟩|C)
   ·exact ⟨k,aj,C⟩
   exact ⟨n,aj,C⟩
  rintro ⟨k,D,C⟩
  by_cases e:k=n
  ·subst e;exact .inr C
  exact .inl ⟨k,aj,C⟩
def memX(ss:List ae)(i j:Nat):Bool:=lU 4 fun k=>MP (in1 ss) 4 i k&&S8 ss 0 k j
def edtX(ss:List ae)(d j:Nat):Bool:=(S8 ss 3 d j||S8 ss 4 d j)||lU 4 fun g=>S8 ss 5 d g&&memX ss g j
section
variable {ss:List ae}{i j:Nat}{kb:Sj->Bool}
end
def eF(ss:List ae)(i j:Nat):Nat->Bool:=fun d=>MP (in2 ss) 4 i d&&edtX ss d j
section
variable {ss:List ae}{me mk a n b e d i j:Nat}
end
def DS(n:Nat)(f:Nat->Bool):List Bool:=(List.range n).map f
variable {n i:Nat}
theorem MQ(f)(h:i<(DS n f).length):(DS n f)[i]=f i:=by simp [DS]
theorem Sz(f v):(DS n f).set i v=DS n (fun q=>if q=i then v else f q):=by
 apply List.ext_getElem
 ·simp [DS]
 intro q h1 h2;rw [List.getElem_set,MQ,MQ]
 by_cases e:i=q
 ·rw [if_pos e,if_pos e.symm]
 rw [if_neg e,if_neg (fun e'=>e e'.symm)]
theorem MR{f g}(h:∀q,q<n->f q=g q):DS n f=DS n g:=by
 unfold DS;exact List.map_congr_left (fun q A=>h q (List.mem_range.1 A))
def vk(w:af)(g n:Nat)(f:Nat->Bool)(T:TypeId):Prop:=aB w g ((DS n f).map Value.bool).toArray T
section
variable {w w':af}{g n:Nat}{f f':Nat->Bool}{T:TypeId}
variable {i:Nat}
theorem vk.cell(h:vk w g n f T)(hi:i<n):w.cell? ⟨g,i,none⟩=some (.bool (f i)):=aB.cell h (by simp [DS,hi])
theorem vk.set(h:vk w g n f T)(i v):vk (w.setCell ⟨g,i,none⟩ (.bool v)) g n (fun q=>if q=i then v else f q) T:=by
 have:=aB.set h i (.bool v);unfold vk;rw [<-Sz,oF]
 simpa using this
theorem vk.congr(h:vk w g n f T)(e:∀q,q<n->f q=f' q):vk w g n f' T:=by
 unfold vk at h ⊢;rw [<-MR e];exact h
theorem vk.fz(h:vk w g n f T)(o):w.frozen? ⟨g,o,none⟩=false:=aB.fz h o
theorem vk.lt(h:vk w g n f T):g<w.heap.size:=aB.lt h
theorem vk.below(h:vk w g n f T)(k:Below w.heap.size w w'):vk w' g n f T:=aB.below h k
end
