import Derived.Test.YtlbpnlngckgcbaaGreatDoorM16
set_option linter.all false
set_option maxHeartbeats 4000000
set_option maxRecDepth 100000
namespace Go.Proofs.YtlbpnlngckgcbaaGreatDoor
open Go.RowKit Go.PlainAid
theorem UL:bJ (mk [])=false:=by decide
theorem jb {s:aei} (h:bJ s=true):0<s.size∧s.size≤8:=by
 unfold bJ at h;simp only [Bool.and_eq_true,decide_eq_true_eq] at h;exact h.1
theorem iF {s:aei} {c:UInt8} (h:(aB s c).2.2=false):(aB s c).1=s∧(aB s c).2.1=mk []:=by
 obtain ⟨h1,h2⟩:=mi c (bi s) h;unfold aB;simp only [h1,h2,gV,List.drop_nil,and_self]
theorem lV {s:aei} {c:UInt8} (h:bJ (aB s c).2.1=true):(aB s c).2.2=true:=by
 cases hf:(aB s c).2.2
 ·rw [(iF hf).2,UL] at h
  cases h
 ·rfl
theorem kX {s:aei} {c:UInt8} (h:(aB s c).2.2=true):bi s=bi (aB s c).1++c::bi (aB s c).2.1:=by
 have hc:(bi s).contains c=true:=h;have key:∀l:List UInt8,l.contains c=true→l=l.takeWhile (· != c)++c::(l.dropWhile (· != c)).drop 1:=by
  intro l
  induction l with
  |nil=>intro h;simp at h
  |cons b l ih=>
   intro h
   by_cases e:b=c
   ·subst e;simp
   ·have h2:(b != c)=true:=by simpa using e
    rw [List.takeWhile_cons,List.dropWhile_cons,if_pos h2,if_pos h2,List.cons_append,←ih (by
     rw [List.contains_cons,Bool.or_eq_true] at h
     rcases h with h|h
     ·exact absurd (beq_iff_eq.1 h).symm e
     ·exact h)]
 exact key _ hc
theorem oh (s:aei):(kE s).2.2=fK s:=by
 unfold kE fK;simp only
 cases h:bJ (aB s 58).2.1
 ·simp
 ·rw [lV h];simp
theorem Ye (x xW:aei) (al:Bool):((uJ x al).2.2&&(!al||bJ xW))=mo x xW al:=by
 unfold uJ mo;rw [oh];have hs:eqs (aB x 58).2.1 jR=eqs (aB x 58).2.1 dN:=rfl
 cases al
 ·cases ht:fK x
  ·simp only [Bool.not_false,Bool.and_self,if_true,Bool.true_or,Bool.and_true,Bool.false_eq_true,if_false,Bool.false_or,hs]
   cases he:eqs (aB x 58).2.1 dN
   ·simp
   ·have hf:(aB x 58).2.2=true:=by
     cases hf:(aB x 58).2.2
     ·rw [(iF hf).2] at he;exact absurd he (by decide)
     ·rfl
    rw [hf];simp
  ·simp [oh,ht]
 ·simp [oh]
theorem Qp:mo (mk []) (mk []) false=false:=by decide
theorem Qq (c:UInt8):aB (mk []) c=(mk [],mk [],false):=rfl
def dK (s:aei):Bool:=fK (aB (aB s 64).1 35).1&&mo (aB (aB s 64).2.1 35).1 (aB (aB s 64).2.1 35).2.1 (aB (aB s 64).2.1 35).2.2&&bJ (aB (aB s 64).1 35).2.1
theorem Qr (s:aei):(bE s).2=dK s:=by
 unfold bE dK;simp only;rw [oh];have e:=Ye (aB (aB s 64).2.1 35).1 (aB (aB s 64).2.1 35).2.1 (aB (aB s 64).2.1 35).2.2;rw [Bool.and_assoc,e]
 cases h1:(aB s 64).2.2
 ·rw [(iF h1).2,Qq];simp [Qp]
 ·cases h2:bJ (aB (aB s 64).1 35).2.1
  ·simp
  ·rw [lV h2]
   cases fK (aB (aB s 64).1 35).1<;>simp
theorem kK {s:aei} {c:UInt8} (h:(aB s c).2.2=true):s.size=(aB s c).1.size+1+(aB s c).2.1.size:=by
 have:=congrArg List.length (kX h);rw [List.length_append,List.length_cons,aG,aG,aG] at this;omega
theorem Lr {b:aei} (h:eqs b dN=true):b=dN:=by
 unfold eqs at h;rw [beq_iff_eq] at h;rw [←gV b,h]
 rfl
theorem qZ {s:aei} (h:dK s=true):s.size≤53∧(qm s)=(#[.string (bE s).1.kind,.string (bE s).1.id,.string (bE s).1.rel,.string (bE s).1.sub,.string (bE s).1.who,.string (bE s).1.of],true)∧
  bi s=bi (bE s).1.kind++58::bi (bE s).1.id++35::bi (bE s).1.rel++64::(bi (bE s).1.sub++58::bi (bE s).1.who++(if (bE s).1.of.size=0 then [] else 35::bi (bE s).1.of)):=by
 have h0:=h;unfold dK at h;simp only [Bool.and_eq_true] at h;obtain ⟨⟨h1,h2⟩,h3⟩:=h;have f1:(aB s 64).2.2=true:=by
  cases f:(aB s 64).2.2
  ·rw [(iF f).2,Qq] at h2;exact absurd h2 (by rw [Qp];simp)
  ·rfl
 have f2:=lV h3;have h1':=h1;unfold fK at h1;simp only [Bool.and_eq_true] at h1;have f3:=lV h1.2;have z1:=jb h1.1;have z2:=jb h1.2;have z3:=jb h3;have j1:=kK f1;have j2:=kK f2;have j3:=kK f3;have l1:=kX f1;have l2:=kX f2;have l3:=kX f3;have tk:(bE s).1.kind=(aB (aB (aB s 64).1 35).1 58).1:=rfl;have ti:(bE s).1.id=(aB (aB (aB s 64).1 35).1 58).2.1:=rfl;have tr:(bE s).1.rel=(aB (aB s 64).1 35).2.1:=rfl;have ts:(bE s).1.sub=(uJ (aB (aB s 64).2.1 35).1 (aB (aB s 64).2.1 35).2.2).1:=rfl;have tw:(bE s).1.who=(uJ (aB (aB s 64).2.1 35).1 (aB (aB s 64).2.1 35).2.2).2.1:=rfl;have to:(bE s).1.of=(aB (aB s 64).2.1 35).2.1:=rfl;have hP:s.size≤53→qm s=(#[.string (aB (aB (aB s 64).1 35).1 58).1,.string (aB (aB (aB s 64).1 35).1 58).2.1,.string (aB (aB s 64).1 35).2.1,.string (aB (aB (aB s 64).2.1 35).1 58).1,.string (aB (aB (aB s 64).2.1 35).1 58).2.1,.string (aB (aB s 64).2.1 35).2.1],true):=fun hz=>by
  unfold qm;rw [if_neg (by omega)];unfold dK at h0;rw [h0]
 rw [tk,ti,tr,ts,tw,to];have hs:(aB s 64).2.1.size≤26∧(uJ (aB (aB s 64).2.1 35).1 (aB (aB s 64).2.1 35).2.2).1=(aB (aB (aB s 64).2.1 35).1 58).1∧(uJ (aB (aB s 64).2.1 35).1 (aB (aB s 64).2.1 35).2.2).2.1=(aB (aB (aB s 64).2.1 35).1 58).2.1∧
   bi (aB s 64).2.1=bi (aB (aB (aB s 64).2.1 35).1 58).1++58::bi (aB (aB (aB s 64).2.1 35).1 58).2.1++(if (aB (aB s 64).2.1 35).2.1.size=0 then [] else 35::bi (aB (aB s 64).2.1 35).2.1):=by
  generalize (aB s 64).2.1=r at*;clear l1 l2 l3 tk ti tr ts tw to hP j1 j2 j3 z1 z2 z3 f1 f2 f3 h0 h1 h1' h3;unfold mo at h2;unfold uJ;rw [oh]
  cases al:(aB r 35).2.2
  ·rw [al] at h2;simp only [Bool.false_eq_true,if_false,Bool.or_eq_true,Bool.and_eq_true] at h2;obtain ⟨u1,u2⟩:=iF al;rw [u1] at h2;rw [u1,u2];simp only [Bool.not_false,Bool.and_true]
   rcases h2 with h2|⟨h2,h4⟩
   ·have ht:=h2;unfold fK at h2;simp only [Bool.and_eq_true] at h2;have f:=lV h2.2;have y1:=jb h2.1;have y2:=jb h2.2;have y3:=kK f;rw [ht];refine ⟨by omega,rfl,rfl,?_⟩;rw [if_pos (by rfl),List.append_nil];exact kX f
   ·have f:(aB r 58).2.2=true:=by
     cases f:(aB r 58).2.2
     ·rw [(iF f).2] at h2;exact absurd h2 (by decide)
     ·rfl
    have y1:=jb h4;have y3:=kK f;have hb:=Lr h2;have y2:(aB r 58).2.1.size=1:=by rw [hb];rfl
    have ht:fK r=false:=by unfold fK;rw [hb];simp [show bJ dN=false by decide]
    rw [ht];refine ⟨by omega,rfl,hb.symm,?_⟩;rw [if_pos (by rfl),List.append_nil];exact kX f
  ·rw [al] at h2;simp only [if_true,Bool.and_eq_true] at h2;have ht:=h2.1;obtain ⟨h4,h5⟩:=h2;unfold fK at h4;simp only [Bool.and_eq_true] at h4;have f:=lV h4.2;have y1:=jb h4.1;have y2:=jb h4.2;have y3:=kK f;have y4:=kK al;have y5:=jb h5;simp only [Bool.not_true,Bool.and_false,Bool.false_eq_true,if_false];refine ⟨by omega,rfl,rfl,?_⟩;rw [if_neg (by omega),←kX f];exact kX al
 obtain ⟨k1,k2,k3,k4⟩:=hs;refine ⟨by omega,by rw [hP (by omega),k2,k3],?_⟩;rw [k2,k3,←k4,←l3,←l2];exact l1
theorem Qs {s:aei} (h:53<s.size):dK s=false:=by
 cases hk:dK s
 ·rfl
 ·have:=(qZ hk).1;omega
theorem Ls (s:aei):(qm s).2=dK s:=by
 by_cases h:53<s.size
 ·rw [Qs h];unfold qm;rw [if_pos h]
 ·unfold qm dK;rw [if_neg h]
attribute [local go_sem ↓] Go.wp_at_zero Go.wp_at_succ
theorem UM {l:List Tu} {x:Tu} {k:Nat} (h:nE l x=k):k<l.length:=by
 unfold nE at h
 split at h
 ·rename_i i hi;rw [List.findIdx?_eq_some_iff_getElem] at hi;obtain ⟨hl,_⟩:=hi;omega
 ·omega
def JR (gs:List Tu) (s:aei):Nat×List Tu:=if dK s=false then (2,gs) else if nE gs (bE s).1<0 then (9,gs) else (0,gs.eraseIdx (nE gs (bE s).1).toNat)
def lC (b:Nat) (mv lv gv:Value) (w:World) (r:Nat×List Tu) (e:Ending) (w':World):Prop:=∃gv',e=.returned (.int .i64 r.1)∧PU w' b mv lv gv' r.2∧bW (EF b gv) w w'∧(∀k,EF b gv' k→EF b gv k∨w.heap.size≤k)
theorem lC.same {b:Nat} {mv lv gv:Value} {w w':World} {gs:List Tu} (h:PU w b mv lv gv gs) (k:Below w.heap.size w w') (c:Nat):lC b mv lv gv w (c,gs) (.returned (.int .i64 c)) w':=⟨gv,rfl,h.below k,.of_below k,fun _ h=> .inl h⟩
theorem Cc (s:aei):∃t:Tu,(qm s).1=#[.string t.kind,.string t.id,.string t.rel,.string t.sub,.string t.who,.string t.of]∧(dK s=true→t=(bE s).1):=by
 cases h:dK s
 ·by_cases hz:53<s.size
  ·refine ⟨⟨⟨#[]⟩,⟨#[]⟩,⟨#[]⟩,⟨#[]⟩,⟨#[]⟩,⟨#[]⟩⟩,?_,by simp⟩;unfold qm;rw [if_pos hz]
  ·refine ⟨⟨(aB (aB (aB s 64).1 35).1 58).1,(aB (aB (aB s 64).1 35).1 58).2.1,(aB (aB s 64).1 35).2.1,(aB (aB (aB s 64).2.1 35).1 58).1,(aB (aB (aB s 64).2.1 35).1 58).2.1,(aB (aB s 64).2.1 35).2.1⟩,?_,by simp⟩;unfold qm;rw [if_neg hz]
 ·refine ⟨(bE s).1,?_,fun _=>rfl⟩;rw [(qZ h).2.1]
theorem FY (PC:Ju) (b:Nat) (s:aei) (w:World) (mv lv gv:Value) (gs:List Tu) (h:PU w b mv lv gv gs) (hm:uW w) (hw:1<w.heap.size):
  Calls Tryz.prog 35 #[.pointer (some ⟨b,0,none⟩),.string s] w (lC b mv lv gv w (JR gs s)):=by
 have C1:=af (Cb PC s w hm hw);have H:=af h;rw [Ls s] at C1;obtain ⟨t,ht,hk⟩:=Cc s;rw [ht] at C1;unfold JR;clear ht
 cases ho:dK s
 ·rw [ho] at C1;rw [if_pos rfl];clear h hm hw PC ho hk;go_enter Tryz.func35,Tryz.ntmps35;go_wp2_with fail;refine (ae C1).mono ?_;rintro e w1 ⟨rfl,hb1⟩;have B1:=af (hb1.alloc hb1.size (.cells #[.string t.kind,.string t.id,.string t.rel,.string t.sub,.string t.who,.string t.of] 123));clear hb1 C1;go_wp2;go_ret;exact lC.same (ae H) (ae B1) 2
 ·rw [if_neg (by simp),←hk ho];rw [ho] at C1;clear ho hk;obtain ⟨ga,gc,rfl⟩:=au h.row;have zf:=h.most;have CI:=af (fun w' (k:Below w.heap.size w w')=>Li 0 _ gs t w' (by omega) (ay h.row k));have hbl:=h.blk.lt;clear h hm hw PC
  by_cases hi:nE gs t<0
  ·rw [if_pos hi];generalize nE gs t=n at*;go_enter Tryz.func35,Tryz.ntmps35;go_wp2_with fail;refine (ae C1).mono ?_;rintro e w1 ⟨rfl,hb1⟩;have B1:=af (hb1.alloc hb1.size (.cells #[.string t.kind,.string t.id,.string t.rel,.string t.sub,.string t.who,.string t.of] 123));have U1:=af ((ae H).below (ae B1));have T1:=af (ai.new w1 #[.string t.kind,.string t.id,.string t.rel,.string t.sub,.string t.who,.string t.of] 123);have hne:¬(w1.heap.size=b):=by have:=hb1.size;omega
   have fT:¬(b=w1.heap.size):=by have:=hb1.size;omega
   clear hb1 C1;go_wp2_with fail;have l1:=(ae B1).size;generalize (w1.alloc (.cells #[.string t.kind,.string t.id,.string t.rel,.string t.sub,.string t.who,.string t.of] 123))=W at*;obtain ⟨c0,c1,c2⟩:=three (ae U1).blk;obtain ⟨t0,t1,t2,t3,t4,t5⟩:=(ae T1).six;have CI2:=af (ae CI W.drew (ae B1).drew);clear CI
   go_region_held3 (fun w'=>w'.cell? ⟨b,2,none⟩=some (.slice ga gs.length gc)∧w'.cell? ⟨w1.heap.size,0,none⟩=some (.string t.kind)∧w'.cell? ⟨w1.heap.size,1,none⟩=some (.string t.id)∧w'.cell? ⟨w1.heap.size,2,none⟩=some (.string t.rel)∧w'.cell? ⟨w1.heap.size,3,none⟩=some (.string t.sub)∧w'.cell? ⟨w1.heap.size,4,none⟩=some (.string t.who)∧w'.cell? ⟨w1.heap.size,5,none⟩=some (.string t.of)) (go_keep)
    ((go_at_call 68;refine (ae CI2).mono ?_;rintro e w2 ⟨rfl,hb2⟩;have BB:=af (show Below W.heap.size W w2 from (Below.refl _ W).drew.trans hb2);have d0:=ag c2 (ae BB);have d1:=ag t0 (ae BB);have d2:=ag t1 (ae BB);have d3:=ag t2 (ae BB);have d4:=ag t3 (ae BB);have d5:=ag t4 (ae BB);have d6:=ag t5 (ae BB);clear hb2))
   have B2:=af ((ae B1).trans ((ae BB).mono l1));clear CI2 d0 d1 d2 d3 d4 d5 d6 t0 t1 t2 t3 t4 t5 c0 c1 c2 U1 T1 B1 BB;go_wp2;go_ret;exact lC.same (ae H) (ae B2) 9
  ·rw [if_neg hi];obtain ⟨k,hkk⟩:∃k:Nat,nE gs t=k:=⟨(nE gs t).toNat,by omega⟩;have hkl:=UM hkk;rw [hkk] at CI ⊢;clear hi hkk;obtain ⟨g,c,e1,_⟩:=(ae H).row.form (n:=gs.length) (by omega);simp only [Value.slice.injEq,true_and] at e1;obtain ⟨rfl,rfl⟩:=e1;have hgb:=(ae H).apart g _ _ rfl;rw [Int.toNat_natCast];have WY:¬((k:Int)<0):=by omega
   go_enter Tryz.func35,Tryz.ntmps35;go_wp2_with fail;refine (ae C1).mono ?_;rintro e w1 ⟨rfl,hb1⟩;have B1:=af (hb1.alloc hb1.size (.cells #[.string t.kind,.string t.id,.string t.rel,.string t.sub,.string t.who,.string t.of] 123));have U1:=af ((ae H).below (ae B1));have T1:=af (ai.new w1 #[.string t.kind,.string t.id,.string t.rel,.string t.sub,.string t.who,.string t.of] 123);have hne:¬(w1.heap.size=b):=by have:=hb1.size;omega
   have fT:¬(b=w1.heap.size):=by have:=hb1.size;omega
   clear hb1 C1;go_wp2_with fail;have l1:=(ae B1).size;generalize (w1.alloc (.cells #[.string t.kind,.string t.id,.string t.rel,.string t.sub,.string t.who,.string t.of] 123))=W at*;obtain ⟨c0,c1,c2⟩:=three (ae U1).blk;obtain ⟨t0,t1,t2,t3,t4,t5⟩:=(ae T1).six;have CI2:=af (ae CI W.drew (ae B1).drew);clear CI
   go_region_held3 (fun w'=>w'.cell? ⟨b,2,none⟩=some (.slice (some ⟨g,0,none⟩) gs.length gc)∧w'.cell? ⟨w1.heap.size,0,none⟩=some (.string t.kind)∧w'.cell? ⟨w1.heap.size,1,none⟩=some (.string t.id)∧w'.cell? ⟨w1.heap.size,2,none⟩=some (.string t.rel)∧w'.cell? ⟨w1.heap.size,3,none⟩=some (.string t.sub)∧w'.cell? ⟨w1.heap.size,4,none⟩=some (.string t.who)∧w'.cell? ⟨w1.heap.size,5,none⟩=some (.string t.of)) (go_keep)
    ((go_at_call 68;refine (ae CI2).mono ?_;rintro e w2 ⟨rfl,hb2⟩;have BB:=af (show Below W.heap.size W w2 from (Below.refl _ W).drew.trans hb2);have d0:=ag c2 (ae BB);have d1:=ag t0 (ae BB);have d2:=ag t1 (ae BB);have d3:=ag t2 (ae BB);have d4:=ag t3 (ae BB);have d5:=ag t4 (ae BB);have d6:=ag t5 (ae BB);clear hb2))
   have B2:=af ((ae B1).trans ((ae BB).mono l1));clear CI2 d0 d1 d2 d3 d4 d5 d6 t0 t1 t2 t3 t4 t5 c0 c1 c2 U1 T1 B1 BB;have U2:=(ae H).below (ae B2);have D:=af (Qg 0 g gc gs k w2 hkl (by omega) U2.row);obtain ⟨c0,c1,c2⟩:=three U2.blk;have cz:=U2.blk.fz;have UB:=af U2.blk;have l2:=U2.blk.lt;have hgb':¬(b=g):=fun e=>hgb e.symm
   clear U2;go_wp2_with fail;refine (ae D).mono ?_;rintro e w3 ⟨rfl,hr3,hb3⟩;have UB3:=af ((ae UB).but hb3 hgb');obtain ⟨x0,x1,x2⟩:=three (ae UB3);have xz:=(ae UB3).fz;have oZ:=af hr3;have HB3:=af hb3;clear hr3 hb3 c0 c1 c2 cz D;go_wp2;go_ret;have hlen:(gs.eraseIdx k).length=gs.length-1:=List.length_eraseIdx_of_lt hkl;have hS1:EF b (.slice (some ⟨g,0,none⟩) gs.length gc) g:=.inr ⟨_,_,rfl⟩;have hS2:EF b (.slice (some ⟨g,0,none⟩) gs.length gc) b:=.inl rfl;refine ⟨.slice (some ⟨g,0,none⟩) (gs.length-1) gc,rfl,⟨(ae UB3).set 2 _,?_,?_,by show (gs.eraseIdx k).length≤1000;omega⟩,((bW.of_below (ae B2)).trans (.of_but (ae HB3) hS1)).set hS2 _,?_⟩
   ·show World.ownsRow _ 0 123 6 _ (gs.eraseIdx k).length _
    rw [hlen];refine ak (ae oZ) (fun g' cs f _ hh=>Below.heap_setCell _ _ _ _ (fun (e':g'=b)=> ?_));subst e';have:=ae UB3;unfold ai at this;rw [hh] at this;simp at this
   ·intro g' n c e;simp only [Value.slice.injEq,Option.some.injEq,Addr.mk.injEq,and_true] at e;exact fun e'=>hgb (e.1.trans e')
   ·rintro k' (rfl|⟨n,c,e⟩)
    ·exact .inl (.inl rfl)
    ·simp only [Value.slice.injEq,Option.some.injEq,Addr.mk.injEq,and_true] at e;exact .inl (.inr ⟨_,_,by rw [e.1]⟩)
def nH (i r:aei):Nat:=if r.size=0 then (if eqs i dN then 1 else 0) else 2
theorem M8 (k i r:aei) (w:World):
  Calls Tryz.prog 154 #[.agg #[.string k,.string i,.string r]] w fun e w'=>e=.returned (.int .i64 (nH i r))∧Below w.heap.size w w':=by
 have B0:=af ((Below.refl w.heap.size w).alloc aeg (.cells #[.string k,.string i,.string r] 102));unfold nH
 by_cases h0:r.size=0
 ·rw [if_pos h0];have hr:(r.toList== [])=true:=by rw [aF,beq_iff_eq];exact List.eq_nil_of_length_eq_zero (by rw [aG];exact h0)
  have hr2:r.toList.isEmpty=true:=by rw [aF,List.isEmpty_iff];exact List.eq_nil_of_length_eq_zero (by rw [aG];exact h0)
  have hbs:eqs i dN=(i.toList== [42]):=by unfold eqs dN;rw [aF];rfl
  rw [hbs];clear h0 hbs
  cases hst:(i.toList== [42])
  ·rw [if_neg (by simp)];go_enter Tryz.func154,Tryz.ntmps154;go_wp2;go_ret;exact ⟨rfl,ae B0⟩
  ·rw [if_pos rfl];go_enter Tryz.func154,Tryz.ntmps154;go_wp2;go_ret;exact ⟨rfl,ae B0⟩
 ·rw [if_neg h0];have hr2:r.toList.isEmpty=false:=by
   rw [aF,Bool.eq_false_iff];intro h;rw [List.isEmpty_iff] at h;exact h0 (by rw [←aG,h];rfl)
  have hr:(r.toList== [])=false:=by rw [aF] at hr2 ⊢;revert hr2;cases bi r<;>simp
  clear h0;go_enter Tryz.func154,Tryz.ntmps154;go_wp2;go_ret;exact ⟨rfl,ae B0⟩
def jd (g:Gr) (t:Tu):Bool:=eqs g.ty t.sub&&((g.reach==nH t.who t.of)&&eqs g.rel t.of)
theorem M9 (g:Gr) (t:Tu) (w:World):
  Calls Tryz.prog 104 #[Bc g,.agg #[.string t.sub,.string t.who,.string t.of]] w fun e w'=>e=.returned (.bool (jd g t))∧Below w.heap.size w w':=by
 obtain ⟨R,hR⟩:∃R,R=jd g t:=⟨_,rfl⟩;rw [←hR];unfold jd at hR;unfold Bc bg;have C:=af (fun w=>M8 t.sub t.who t.of w);generalize nH t.who t.of=n at*;have B0:=af (((Below.refl w.heap.size w).alloc aeg (.cells #[.int .i64 g.tp,.string g.ty,.int .i64 g.reach,.int .i64 g.rp,.string g.rel] 207)).alloc (by simp) (.cells #[.string t.sub,.string t.who,.string t.of] 102));have G0:=af ((ai.new w #[.int .i64 g.tp,.string g.ty,.int .i64 g.reach,.int .i64 g.rp,.string g.rel] 207).alloc (.cells #[.string t.sub,.string t.who,.string t.of] 102));have S0:=af (ai.new' (w.alloc (.cells #[.int .i64 g.tp,.string g.ty,.int .i64 g.reach,.int .i64 g.rp,.string g.rel] 207)) #[.string t.sub,.string t.who,.string t.of] 102 (w.heap.size+1) (by simp))
 cases h1:eqs g.ty t.sub
 ·rw [h1,Bool.false_and] at hR;subst hR;have h1':(g.ty.toList==t.sub.toList)=false:=by rw [←aV];exact h1
  clear h1;go_enter Tryz.func104,Tryz.ntmps104;go_wp2_with fail;generalize ((w.alloc (.cells #[.int .i64 g.tp,.string g.ty,.int .i64 g.reach,.int .i64 g.rp,.string g.rel] 207)).alloc (.cells #[.string t.sub,.string t.who,.string t.of] 102))=W at*;have g1:W.cell? ⟨w.heap.size,1,none⟩=some (.string g.ty):=(ae G0).cell rfl;have s0:W.cell? ⟨w.heap.size+1,0,none⟩=some (.string t.sub):=(ae S0).cell rfl
  go_quiet (fail)
  go_wp2;go_ret;exact ⟨rfl,below_drewN (ae B0) _⟩
 ·have e1:g.ty=t.sub:=(bq _ _).1 h1;rw [h1,Bool.true_and] at hR;rw [e1] at G0 S0 B0 ⊢;clear h1
  cases h2:(g.reach==n)
  ·rw [h2,Bool.false_and] at hR;subst hR;have h2':((g.reach:Int)==(n:Int))=false:=by rw [beq_eq_false_iff_ne] at h2 ⊢;omega
   clear h2;go_enter Tryz.func104,Tryz.ntmps104;go_wp2_with fail;generalize ((w.alloc (.cells #[.int .i64 g.tp,.string t.sub,.int .i64 g.reach,.int .i64 g.rp,.string g.rel] 207)).alloc (.cells #[.string t.sub,.string t.who,.string t.of] 102))=W at*;have g1:W.cell? ⟨w.heap.size,1,none⟩=some (.string t.sub):=(ae G0).cell rfl;have g2:W.cell? ⟨w.heap.size,2,none⟩=some (.int .i64 g.reach):=(ae G0).cell rfl;have g4:W.cell? ⟨w.heap.size,4,none⟩=some (.string g.rel):=(ae G0).cell rfl;have s0:W.cell? ⟨w.heap.size+1,0,none⟩=some (.string t.sub):=(ae S0).cell rfl;have s1:W.cell? ⟨w.heap.size+1,1,none⟩=some (.string t.who):=(ae S0).cell rfl;have s2:W.cell? ⟨w.heap.size+1,2,none⟩=some (.string t.of):=(ae S0).cell rfl;have D:=af (ae C W.drew);clear C G0 S0 e1;refine wp_region_held_drew (S:=fun w'=>w'.cell? ⟨w.heap.size,1,none⟩=some (.string t.sub)∧w'.cell? ⟨w.heap.size,2,none⟩=some (.int .i64 g.reach)∧w'.cell? ⟨w.heap.size,4,none⟩=some (.string g.rel)∧w'.cell? ⟨w.heap.size+1,0,none⟩=some (.string t.sub)∧w'.cell? ⟨w.heap.size+1,1,none⟩=some (.string t.who)∧w'.cell? ⟨w.heap.size+1,2,none⟩=some (.string t.of)) (by kernel_rfl) (by go_keep) (fun hHeld=> ?_);refine wpAnyH_take (i:=0) (v:= ?v0) rfl (by kernel_rfl) (by kernel_rfl) (by kernel_rfl) (fun _ _ _ h=>h) (Or.inl ⟨by rfl,?hy0⟩) (by assumption) ?_
   case hy0=>(intro w' hSw;(try dsimp only at hSw);go_simp)<;>with_reducible rfl
   simp only [Act.put,List.setIfInBounds_toArray,List.set_cons_zero,List.set_cons_succ,List.getElem_toArray,List.getElem_cons_zero,List.getElem_cons_succ];refine wpAnyH_take (i:=1) (v:= ?v1) rfl (by kernel_rfl) (by kernel_rfl) (by kernel_rfl) (fun _ _ _ h=>h) (Or.inl ⟨by rfl,?hy1⟩) (by assumption) ?_
   case hy1=>(intro w' hSw;(try dsimp only at hSw);go_simp)<;>with_reducible rfl
   simp only [Act.put,List.setIfInBounds_toArray,List.set_cons_zero,List.set_cons_succ,List.getElem_toArray,List.getElem_cons_zero,List.getElem_cons_succ];refine wpAnyH_take (i:=2) (v:= ?v2) rfl (by kernel_rfl) (by kernel_rfl) (by kernel_rfl) (fun _ _ _ h=>h) (Or.inl ⟨by rfl,?hy2⟩) (by assumption) ?_
   case hy2=>(intro w' hSw;(try dsimp only at hSw);go_simp)<;>with_reducible rfl
   simp only [Act.put,List.setIfInBounds_toArray,List.set_cons_zero,List.set_cons_succ,List.getElem_toArray,List.getElem_cons_zero,List.getElem_cons_succ];refine wpAnyH_take (i:=3) (v:= ?v3) rfl (by kernel_rfl) (by kernel_rfl) (by kernel_rfl) (fun _ _ _ h=>h) (Or.inl ⟨by rfl,?hy3⟩) (by assumption) ?_
   case hy3=>(intro w' hSw;(try dsimp only at hSw);go_simp)<;>with_reducible rfl
   simp only [Act.put,List.setIfInBounds_toArray,List.set_cons_zero,List.set_cons_succ,List.getElem_toArray,List.getElem_cons_zero,List.getElem_cons_succ];refine wpAnyH_take (i:=4) (v:= ?v4) rfl (by kernel_rfl) (by kernel_rfl) (by kernel_rfl) (fun _ _ _ h=>h) (Or.inl ⟨by rfl,?hy4⟩) (by assumption) ?_
   case hy4=>(intro w' hSw;(try dsimp only at hSw);go_simp)<;>with_reducible rfl
   simp only [Act.put,List.setIfInBounds_toArray,List.set_cons_zero,List.set_cons_succ,List.getElem_toArray,List.getElem_cons_zero,List.getElem_cons_succ];refine wpAnyH_take (i:=5) (v:= ?v5) rfl (by kernel_rfl) (by kernel_rfl) (by kernel_rfl) (fun _ _ _ h=>h) (Or.inl ⟨by rfl,?hy5⟩) (by assumption) ?_
   case hy5=>(intro w' hSw;(try dsimp only at hSw);go_simp)<;>with_reducible rfl
   simp only [Act.put,List.setIfInBounds_toArray,List.set_cons_zero,List.set_cons_succ,List.getElem_toArray,List.getElem_cons_zero,List.getElem_cons_succ];refine wpAnyH_take (i:=6) (v:= ?v6) rfl (by kernel_rfl) (by kernel_rfl) (by kernel_rfl) (fun _ _ _ h=>h) (Or.inl ⟨by rfl,?hy6⟩) (by assumption) ?_
   case hy6=>(intro w' hSw;(try dsimp only at hSw);go_simp)<;>with_reducible rfl
   simp only [Act.put,List.setIfInBounds_toArray,List.set_cons_zero,List.set_cons_succ,List.getElem_toArray,List.getElem_cons_zero,List.getElem_cons_succ];refine wpAnyH_take (i:=7) (v:= ?v7) rfl (by kernel_rfl) (by kernel_rfl) (by kernel_rfl) (fun _ _ _ h=>h) (Or.inl ⟨by rfl,?hy7⟩) (by assumption) ?_
   case hy7=>(intro w' hSw;(try dsimp only at hSw);go_simp)<;>with_reducible rfl
   simp only [Act.put,List.setIfInBounds_toArray,List.set_cons_zero,List.set_cons_succ,List.getElem_toArray,List.getElem_cons_zero,List.getElem_cons_succ];refine wpAnyH_take (i:=8) (v:= ?v8) rfl (by kernel_rfl) (by kernel_rfl) (by kernel_rfl) (fun _ _ _ h=>h) (Or.inl ⟨by rfl,?hy8⟩) (by assumption) ?_
   case hy8=>(intro w' hSw;(try dsimp only at hSw);go_simp)<;>with_reducible rfl
   simp only [Act.put,List.setIfInBounds_toArray,List.set_cons_zero,List.set_cons_succ,List.getElem_toArray,List.getElem_cons_zero,List.getElem_cons_succ];refine wpAnyH_take (i:=9) (v:= ?v9) rfl (by kernel_rfl) (by kernel_rfl) (by kernel_rfl) (fun _ _ _ h=>h) (Or.inl ⟨by rfl,?hy9⟩) (by assumption) ?_
   case hy9=>(intro w' hSw;(try dsimp only at hSw);go_simp)<;>with_reducible rfl
   simp only [Act.put,List.setIfInBounds_toArray,List.set_cons_zero,List.set_cons_succ,List.getElem_toArray,List.getElem_cons_zero,List.getElem_cons_succ];refine wpAnyH_take (i:=10) (v:= ?v10) rfl (by kernel_rfl) (by kernel_rfl) (by kernel_rfl) (fun _ _ _ h=>h) (Or.inl ⟨by rfl,?hy10⟩) (by assumption) ?_
   case hy10=>(intro w' hSw;(try dsimp only at hSw);go_simp)<;>with_reducible rfl
   simp only [Act.put,List.setIfInBounds_toArray,List.set_cons_zero,List.set_cons_succ,List.getElem_toArray,List.getElem_cons_zero,List.getElem_cons_succ];refine wpAnyH_ready (rs:=[11]) (by kernel_rfl) (by simp) ?_;refine AllReadyH.cons rfl (fun K hK=> ?_) AllReadyH.nil
   go_simp
   refine (ae D).mono ?_;rintro e w1 ⟨rfl,hb1⟩;have BB:=af (show Below W.heap.size W w1 from (Below.refl _ W).drew.trans hb1);have d1:=ag g1 (ae BB);have d2:=ag g2 (ae BB);have d4:=ag g4 (ae BB);have Zl:=ag s0 (ae BB);have s1':=ag s1 (ae BB);have s2':=ag s2 (ae BB);clear hb1;refine hK.out _ _ ⟨d1,d2,d4,Zl,s1',s2'⟩ (fun Yf=> ?_);clear hK K hHeld
   try simp only [Act.put,List.setIfInBounds_toArray,List.set_cons_zero,List.set_cons_succ,List.getElem_toArray,List.getElem_cons_zero,List.getElem_cons_succ]
   refine wpAnyH_take (i:=12) (v:= ?v12) rfl (by kernel_rfl) (by kernel_rfl) (by kernel_rfl) (fun _ _ _ h=>h) (Or.inl ⟨by rfl,?hy12⟩) (by assumption) ?_
   case hy12=>(intro w' hSw;(try dsimp only at hSw);go_simp)<;>with_reducible rfl
   simp only [Act.put,List.setIfInBounds_toArray,List.set_cons_zero,List.set_cons_succ,List.getElem_toArray,List.getElem_cons_zero,List.getElem_cons_succ];refine wpAnyH_take (i:=13) (v:= ?v13) rfl (by kernel_rfl) (by kernel_rfl) (by kernel_rfl) (fun _ _ _ h=>h) (Or.inl ⟨by rfl,?hy13⟩) (by assumption) ?_
   case hy13=>(intro w' hSw;(try dsimp only at hSw);go_simp)<;>with_reducible rfl
   simp only [Act.put,List.setIfInBounds_toArray,List.set_cons_zero,List.set_cons_succ,List.getElem_toArray,List.getElem_cons_zero,List.getElem_cons_succ];refine wpAnyH_take (i:=14) (v:= ?v14) rfl (by kernel_rfl) (by kernel_rfl) (by kernel_rfl) (fun _ _ _ h=>h) (Or.inl ⟨by rfl,?hy14⟩) (by assumption) ?_
   case hy14=>(intro w' hSw;(try dsimp only at hSw);go_simp)<;>with_reducible rfl
   simp only [Act.put,List.setIfInBounds_toArray,List.set_cons_zero,List.set_cons_succ,List.getElem_toArray,List.getElem_cons_zero,List.getElem_cons_succ];refine wpAnyH_take (i:=15) (v:=undef) rfl (by kernel_rfl) (by kernel_rfl) (by kernel_rfl) (fun _ _ _ h=>h) (Or.inr ⟨by rfl,rfl⟩) (by assumption) ?_;simp only [Act.put,List.setIfInBounds_toArray,List.set_cons_zero,List.set_cons_succ,List.getElem_toArray,List.getElem_cons_zero,List.getElem_cons_succ];refine wpAnyH_take (i:=16) (v:=undef) rfl (by kernel_rfl) (by kernel_rfl) (by kernel_rfl) (fun _ _ _ h=>h) (Or.inr ⟨by rfl,rfl⟩) (by assumption) ?_;simp only [Act.put,List.setIfInBounds_toArray,List.set_cons_zero,List.set_cons_succ,List.getElem_toArray,List.getElem_cons_zero,List.getElem_cons_succ];refine wpAnyH_take (i:=17) (v:=undef) rfl (by kernel_rfl) (by kernel_rfl) (by kernel_rfl) (fun _ _ _ h=>h) (Or.inr ⟨by rfl,rfl⟩) (by assumption) ?_;simp only [Act.put,List.setIfInBounds_toArray,List.set_cons_zero,List.set_cons_succ,List.getElem_toArray,List.getElem_cons_zero,List.getElem_cons_succ];refine wpAnyH_take (i:=18) (v:=undef) rfl (by kernel_rfl) (by kernel_rfl) (by kernel_rfl) (fun _ _ _ h=>h) (Or.inr ⟨by rfl,rfl⟩) (by assumption) ?_;simp only [Act.put,List.setIfInBounds_toArray,List.set_cons_zero,List.set_cons_succ,List.getElem_toArray,List.getElem_cons_zero,List.getElem_cons_succ];refine wpAnyH_take (i:=19) (v:=undef) rfl (by kernel_rfl) (by kernel_rfl) (by kernel_rfl) (fun _ _ _ h=>h) (Or.inr ⟨by rfl,rfl⟩) (by assumption) ?_;simp only [Act.put,List.setIfInBounds_toArray,List.set_cons_zero,List.set_cons_succ,List.getElem_toArray,List.getElem_cons_zero,List.getElem_cons_succ];refine wpAnyH_take (i:=20) (v:=undef) rfl (by kernel_rfl) (by kernel_rfl) (by kernel_rfl) (fun _ _ _ h=>h) (Or.inr ⟨by rfl,rfl⟩) (by assumption) ?_;simp only [Act.put,List.setIfInBounds_toArray,List.set_cons_zero,List.set_cons_succ,List.getElem_toArray,List.getElem_cons_zero,List.getElem_cons_succ];refine wpAnyH_take (i:=21) (v:= ?v21) rfl (by kernel_rfl) (by kernel_rfl) (by kernel_rfl) (fun _ _ _ h=>h) (Or.inl ⟨by rfl,?hy21⟩) (by assumption) ?_
   case hy21=>(intro w' hSw;(try dsimp only at hSw);go_simp)<;>with_reducible rfl
   simp only [Act.put,List.setIfInBounds_toArray,List.set_cons_zero,List.set_cons_succ,List.getElem_toArray,List.getElem_cons_zero,List.getElem_cons_succ];refine wpAnyH_take (i:=22) (v:= ?v22) rfl (by kernel_rfl) (by kernel_rfl) (by kernel_rfl) (fun _ _ _ h=>h) (Or.inl ⟨by rfl,?hy22⟩) (by assumption) ?_
   case hy22=>(intro w' hSw;(try dsimp only at hSw);go_simp)<;>with_reducible rfl
   simp only [Act.put,List.setIfInBounds_toArray,List.set_cons_zero,List.set_cons_succ,List.getElem_toArray,List.getElem_cons_zero,List.getElem_cons_succ];refine wpAnyH_done (by kernel_rfl) ?_ _;clear Yf;have B1:=af ((ae B0).trans ((ae BB).mono (ae B0).size));go_wp2;go_ret;exact ⟨rfl,ae B1⟩
  ·rw [h2,Bool.true_and,aV] at hR;subst hR;have h2':((g.reach:Int)==(n:Int))=true:=by rw [beq_iff_eq] at h2 ⊢;omega
   clear h2;go_enter Tryz.func104,Tryz.ntmps104;go_wp2_with fail;generalize ((w.alloc (.cells #[.int .i64 g.tp,.string t.sub,.int .i64 g.reach,.int .i64 g.rp,.string g.rel] 207)).alloc (.cells #[.string t.sub,.string t.who,.string t.of] 102))=W at*;have g1:W.cell? ⟨w.heap.size,1,none⟩=some (.string t.sub):=(ae G0).cell rfl;have g2:W.cell? ⟨w.heap.size,2,none⟩=some (.int .i64 g.reach):=(ae G0).cell rfl;have g4:W.cell? ⟨w.heap.size,4,none⟩=some (.string g.rel):=(ae G0).cell rfl;have s0:W.cell? ⟨w.heap.size+1,0,none⟩=some (.string t.sub):=(ae S0).cell rfl;have s1:W.cell? ⟨w.heap.size+1,1,none⟩=some (.string t.who):=(ae S0).cell rfl;have s2:W.cell? ⟨w.heap.size+1,2,none⟩=some (.string t.of):=(ae S0).cell rfl;have D:=af (ae C W.drew);clear C G0 S0 e1
   go_region_held3 (fun w'=>w'.cell? ⟨w.heap.size,1,none⟩=some (.string t.sub)∧w'.cell? ⟨w.heap.size,2,none⟩=some (.int .i64 g.reach)∧w'.cell? ⟨w.heap.size,4,none⟩=some (.string g.rel)∧w'.cell? ⟨w.heap.size+1,0,none⟩=some (.string t.sub)∧w'.cell? ⟨w.heap.size+1,1,none⟩=some (.string t.who)∧w'.cell? ⟨w.heap.size+1,2,none⟩=some (.string t.of)) (go_keep)
    ((go_at_call 154;refine (ae D).mono ?_;rintro e w1 ⟨rfl,hb1⟩;have BB:=af (show Below W.heap.size W w1 from (Below.refl _ W).drew.trans hb1);have d1:=ag g1 (ae BB);have d2:=ag g2 (ae BB);have d4:=ag g4 (ae BB);have Zl:=ag s0 (ae BB);have s1':=ag s1 (ae BB);have s2':=ag s2 (ae BB);clear hb1))
   have B1:=af ((ae B0).trans ((ae BB).mono (ae B0).size));go_wp2;go_ret;exact ⟨rfl,ae B1⟩
theorem Yg (g:Gr) (t:Tu) (q:Nat) (w:World) (hx:ai w q #[.string t.kind,.string t.id,.string t.rel,.string t.sub,.string t.who,.string t.of] 123):
  Calls Tryz.prog 103 #[Bc g,.pointer (some ⟨q,0,none⟩)] w fun e w'=>e=.returned (.bool (jd g t))∧Below w.heap.size w w':=by
 have C:=af (fun w=>M9 g t w);have hl:=hx.lt;unfold Bc bg at C ⊢;have b0:Below w.heap.size w (w.alloc (.cells #[.int .i64 g.tp,.string g.ty,.int .i64 g.reach,.int .i64 g.rp,.string g.rel] 207)):=(Below.refl _ w).alloc aeg _;have B0:=af b0;have X0:=af (hx.below b0);have G0:=af (ai.new w #[.int .i64 g.tp,.string g.ty,.int .i64 g.reach,.int .i64 g.rp,.string g.rel] 207);have hne:¬(q=w.heap.size):=by omega
 have fT:¬(w.heap.size=q):=by omega
 obtain ⟨x0,x1,x2,x3,x4,x5⟩:=hx.six;clear hx b0;go_enter Tryz.func103,Tryz.ntmps103;go_wp2_with fail;refine (ae C _).mono ?_;rintro e w1 ⟨rfl,hb1⟩;have B1:=af ((ae B0).trans (hb1.mono (ae B0).size));clear hb1 C;go_wp2;go_ret;exact ⟨rfl,ae B1⟩
theorem Yh {l:List Gr} {t:Tu} {k:Nat} (hk:k<l.length) (he:jd l[k] t=true):l.any (fun g=>jd g t)=true:=List.any_eq_true.2 ⟨l[k],List.getElem_mem hk,he⟩
theorem Yi {l:List Gr} {t:Tu} (hn:∀j,(h:j<l.length)→jd l[j] t=false):l.any (fun g=>jd g t)=false:=by
 rw [List.any_eq_false];intro y hy;obtain ⟨j,hj,rfl⟩:=List.getElem_of_mem hy;rw [hn j hj];simp
theorem JS (base:Nat) (v:Value) (l:List Gr) (t:Tu) (q:Nat) (w:World) (hn:l.length≤1000) (h:w.ownsRow base 207 5 v l.length (bG l)) (hx:ai w q #[.string t.kind,.string t.id,.string t.rel,.string t.sub,.string t.who,.string t.of] 123):
  Calls Tryz.prog 155 #[v,.func (.func 103) #[] #[.pointer (some ⟨q,0,none⟩)]] w fun e w'=>∃n:Int,e=.returned (.int .i64 n)∧decide (0≤n)=l.any (fun g=>jd g t)∧Below w.heap.size w w':=by
 obtain ⟨sa,sc,rfl⟩:=au h;have H:=af h;have HX:=af hx;clear h hx;go_enter Tryz.func155,Tryz.ntmps155;go_wp2
 go_loopw [5,8] (fun u i wr=>∃k:Nat,k≤l.length∧i=.int .i64 k∧Below w.heap.size w wr∧Hid (∀j,(h:j<l.length)→j<k→jd l[j] t=false)) (fun _ i _=>l.length-(intOf i).toNat)
 case atStart=>exact ⟨0,by omega,rfl,Below.refl _ _,af (fun j e h=>by omega)⟩
 case round=>
  obtain ⟨k,hk,rfl,hb,jX⟩:=hrel;have HB:=af hb
  by_cases hlt:k<l.length
  ·obtain ⟨g,c,e1,hc⟩:=bP (fun g=>(bg g).toList) 5 (fun _=>rfl) (ay (ae H) hb) k l[k] (aeh hlt);simp only [Value.slice.injEq] at e1;obtain ⟨rfl,_,rfl⟩:=e1;have WG:=af ((ae HX).below hb);have xy:=af (fun (he:jd l[k] t=true)=>Yh hlt he);have Lt:=af (fun (he:jd l[k] t=false)=>(show ∀j,(h:j<l.length)→j<k+1→jd l[j] t=false from fun j h h'=>by
     by_cases e:j=k
     ·subst e;exact he
     ·exact ae jX j h (by omega)))
   have C:=af (Yg l[k] t q wr (ae WG));unfold Bc bg at C;generalize l[k]=y at*;have k0:wr.cell? ⟨g,k*5,none⟩=some (.int .i64 y.tp):=hc 0 _ (by omega) rfl;have k1:wr.cell? ⟨g,k*5+1,none⟩=some (.string y.ty):=hc 1 _ (by omega) rfl;have k2:wr.cell? ⟨g,k*5+2,none⟩=some (.int .i64 y.reach):=hc 2 _ (by omega) rfl;have k3:wr.cell? ⟨g,k*5+3,none⟩=some (.int .i64 y.rp):=hc 3 _ (by omega) rfl;have k4:wr.cell? ⟨g,k*5+4,none⟩=some (.string y.rel):=hc 4 _ (by omega) rfl;have hkn:(k:Int)<(l.length:Int):=by omega
   clear hb hc
   cases he:jd y t
   ·rw [he] at C;have Hn:=af (ae Lt he);clear he xy Lt;go_wp2_with fail;refine (ae C).mono ?_;rintro e w2 ⟨rfl,hb2⟩;have IJ:=af ((ae HB).trans (hb2.mono (ae HB).size));clear hb2;go_wp2;go_roundw
    case rel=>exact ⟨k+1,by omega,by go_num,ae IJ,Hn⟩
    case measure=>simp [intOf];omega
   ·rw [he] at C;have iW:=af (ae xy he);clear he xy Lt;go_wp2_with fail;refine (ae C).mono ?_;rintro e w2 ⟨rfl,hb2⟩;have IJ:=af ((ae HB).trans (hb2.mono (ae HB).size));clear hb2;go_wp2;go_ret;exact ⟨k,rfl,by rw [ae iW];simp,ae IJ⟩
  ·have iW:=af (Yi (t:=t) (fun j hj=>ae jX j hj (by omega)));have hkn:¬((k:Int)<(l.length:Int)):=by omega
   clear hb;go_wp2;go_ret;exact ⟨-1,rfl,by rw [ae iW];decide,ae HB⟩
theorem AQ (base:Nat) (v:Value) (l:List Gr) (t:Tu) (q:Nat) (w:World) (hn:l.length≤1000) (h:w.ownsRow base 207 5 v l.length (bG l)) (hx:ai w q #[.string t.kind,.string t.id,.string t.rel,.string t.sub,.string t.who,.string t.of] 123):
  Calls Tryz.prog 105 #[v,.func (.func 103) #[] #[.pointer (some ⟨q,0,none⟩)]] w fun e w'=>e=.returned (.bool (l.any (fun g=>jd g t)))∧Below w.heap.size w w':=by
 have C:=af (JS base v l t q w hn h hx);obtain ⟨sa,sc,rfl⟩:=au h;clear h hx;go_enter Tryz.func105,Tryz.ntmps105;go_wp2_with fail;refine (ae C).mono ?_;rintro e w1 ⟨n,rfl,Aq,hb1⟩;have B1:=af hb1;have HN:=af Aq;clear Aq hb1;go_wp2;go_ret;exact ⟨by rw [←ae HN];rfl,ae B1⟩
def vk (ts:List Ty) (t:Tu):Nat:=match dn ts t.kind with
 |none=>5
 |some y=>match cu y t.rel with
  |none=>5
  |some r=>if (bH r.body).any (fun g=>jd g t) then 0 else 7
def UN (n:Nat):Value:=if n=0 then .nilIface else bn n
theorem FZ (sa:Option Addr) (sn sc:Nat) (t:Tu) (w:World) (yp:Nat) (yn:aei) (va:Option Addr) (vn vc:Nat)
  (C0:Calls Tryz.prog 94 #[.agg #[.slice sa sn sc],.string t.kind,.string t.rel] ((w.alloc (.cells #[.slice sa sn sc] 75)).alloc (.cells #[.string t.kind,.string t.id,.string t.rel,.string t.sub,.string t.who,.string t.of] 123)) fun e w''=>e=.returned (.tuple #[.agg #[.int .i64 yp,.string yn,.slice va vn vc],.agg #[.int .i64 0,.string ⟨#[]⟩,.nilIface],bn 5])∧Below ((w.alloc (.cells #[.slice sa sn sc] 75)).alloc (.cells #[.string t.kind,.string t.id,.string t.rel,.string t.sub,.string t.who,.string t.of] 123)).heap.size ((w.alloc (.cells #[.slice sa sn sc] 75)).alloc (.cells #[.string t.kind,.string t.id,.string t.rel,.string t.sub,.string t.who,.string t.of] 123)) w''):
  Calls Tryz.prog 61 #[.agg #[.slice sa sn sc],.agg #[.string t.kind,.string t.id,.string t.rel,.string t.sub,.string t.who,.string t.of]] w fun e w'=>e=.returned (bn 5)∧Below w.heap.size w w':=by
 have B0:=af (((Below.refl w.heap.size w).alloc aeg (.cells #[.slice sa sn sc] 75)).alloc (by simp) (.cells #[.string t.kind,.string t.id,.string t.rel,.string t.sub,.string t.who,.string t.of] 123));have C:=af C0;clear C0;unfold bn at C ⊢;go_enter Tryz.func61,Tryz.ntmps61;go_wp2_with fail;refine (ae C).mono ?_;rintro e w1 ⟨rfl,hb1⟩;have b1:=(ae B0).trans (hb1.mono (ae B0).size);have B2:=af ((b1.alloc b1.size (.cells #[.int .i64 yp,.string yn,.slice va vn vc] 110)).alloc (by have:=b1.size;simp;omega) (.cells #[.int .i64 0,.string ⟨#[]⟩,.nilIface] 159));clear hb1 C b1;go_wp2;go_ret;exact ⟨rfl,ae B2⟩
theorem Qt (b:Nat) (sa:Option Addr) (sn sc:Nat) (t:Tu) (w:World) (yp:Nat) (yn:aei) (va:Option Addr) (vn vc rp:Nat) (rn:aei) (ra:TypeId) (rv:Value) (e:Ex) (hb:b<w.heap.size) (h:aH b ((w.alloc (.cells #[.slice sa sn sc] 75)).alloc (.cells #[.string t.kind,.string t.id,.string t.rel,.string t.sub,.string t.who,.string t.of] 123)) e (.iface ra rv)) (hp:(ax e).length≤1000) (hg:(bH e).length≤1000) (hwf:WF e)
  (C0:Calls Tryz.prog 94 #[.agg #[.slice sa sn sc],.string t.kind,.string t.rel] ((w.alloc (.cells #[.slice sa sn sc] 75)).alloc (.cells #[.string t.kind,.string t.id,.string t.rel,.string t.sub,.string t.who,.string t.of] 123)) fun e w''=>e=.returned (.tuple #[.agg #[.int .i64 yp,.string yn,.slice va vn vc],.agg #[.int .i64 rp,.string rn,.iface ra rv],.nilIface])∧Below ((w.alloc (.cells #[.slice sa sn sc] 75)).alloc (.cells #[.string t.kind,.string t.id,.string t.rel,.string t.sub,.string t.who,.string t.of] 123)).heap.size ((w.alloc (.cells #[.slice sa sn sc] 75)).alloc (.cells #[.string t.kind,.string t.id,.string t.rel,.string t.sub,.string t.who,.string t.of] 123)) w''):
  Calls Tryz.prog 61 #[.agg #[.slice sa sn sc],.agg #[.string t.kind,.string t.id,.string t.rel,.string t.sub,.string t.who,.string t.of]] w fun e' w'=>e'=.returned (UN (if (bH e).any (fun g=>jd g t) then 0 else 7))∧Below w.heap.size w w':=by
 have B0:=af (((Below.refl w.heap.size w).alloc aeg (.cells #[.slice sa sn sc] 75)).alloc (by simp) (.cells #[.string t.kind,.string t.id,.string t.rel,.string t.sub,.string t.who,.string t.of] 123));have X0:=af (ai.new' (w.alloc (.cells #[.slice sa sn sc] 75)) #[.string t.kind,.string t.id,.string t.rel,.string t.sub,.string t.who,.string t.of] 123 (w.heap.size+1) (by simp));have C:=af C0;have CG:=af (fun w' (k:Below ((w.alloc (.cells #[.slice sa sn sc] 75)).alloc (.cells #[.string t.kind,.string t.id,.string t.rel,.string t.sub,.string t.who,.string t.of] 123)).heap.size ((w.alloc (.cells #[.slice sa sn sc] 75)).alloc (.cells #[.string t.kind,.string t.id,.string t.rel,.string t.sub,.string t.who,.string t.of] 123)) w')=>sP rp rn b e (.iface ra rv) w' (by have:=k.size;simp at this;omega) (h.but (But.of_below k)) hp hg hwf);have CF:=af (fun (base:Nat) (v:Value) (w':World) (hr:w'.ownsRow base 207 5 v (bH e).length (bG (bH e))) (hx:ai w' (w.heap.size+1) #[.string t.kind,.string t.id,.string t.rel,.string t.sub,.string t.who,.string t.of] 123)=>AQ base v (bH e) t (w.heap.size+1) w' hg hr hx);obtain ⟨R,hR⟩:∃R,R=(bH e).any (fun g=>jd g t):=⟨_,rfl⟩;rw [←hR] at CF ⊢;have hlw:w.heap.size<(w.alloc (.cells #[.slice sa sn sc] 75)).heap.size:=by simp
 clear C0 h hb hp hg hwf hR;go_enter Tryz.func61,Tryz.ntmps61;go_wp2_with fail;refine (ae C).mono ?_;rintro e w1 ⟨rfl,hb1⟩;have b1:=(ae B0).trans (hb1.mono (ae B0).size);have b2:=(b1.alloc b1.size (.cells #[.int .i64 yp,.string yn,.slice va vn vc] 110)).alloc (by have:=b1.size;simp;omega) (.cells #[.int .i64 rp,.string rn,.iface ra rv] 159);have B2:=af b2;have X2:=af ((((ae X0).below hb1).alloc (.cells #[.int .i64 yp,.string yn,.slice va vn vc] 110)).alloc (.cells #[.int .i64 rp,.string rn,.iface ra rv] 159));have D:=af (ae CG _ ((hb1.alloc hb1.size (.cells #[.int .i64 yp,.string yn,.slice va vn vc] 110)).alloc (by have:=hb1.size;simp at this ⊢;omega) (.cells #[.int .i64 rp,.string rn,.iface ra rv] 159)));clear hb1 C B0 X0 b1 b2 CG;go_wp2_with fail;refine (ae D).mono ?_;rintro e w3 ⟨gv,rfl,hb3,hr3⟩;obtain ⟨ga,gc,rfl⟩:=au hr3;have B3:=af ((ae B2).trans (hb3.mono (ae B2).size));have E:=af (ae CF _ _ w3 hr3 ((ae X2).below hb3));clear hb3 hr3 D B2 X2 CF;go_wp2_with fail;refine (ae E).mono ?_;rintro e w4 ⟨rfl,hb4⟩;have B4:=af ((ae B3).trans (hb4.mono (ae B3).size));clear hb4 E B3
 cases R
 ·go_wp2;go_ret;exact ⟨rfl,ae B4⟩
 ·go_wp2;go_ret;exact ⟨rfl,ae B4⟩
theorem Qu (b:Nat) (sv:Value) (ts:List Ty) (tl:List (Ty×Value)) (t:Tu) (w:World) (h:MC b w sv ts tl):
  Calls Tryz.prog 61 #[.agg #[sv],.agg #[.string t.kind,.string t.id,.string t.rel,.string t.sub,.string t.who,.string t.of]] w fun e w'=>e=.returned (UN (vk ts t))∧Below w.heap.size w w':=by
 obtain ⟨sa,sn,sc,rfl⟩:=h.form;have k:Below w.heap.size w ((w.alloc (.cells #[.slice sa sn sc] 75)).alloc (.cells #[.string t.kind,.string t.id,.string t.rel,.string t.sub,.string t.who,.string t.of] 123)):=((Below.refl w.heap.size w).alloc aeg (.cells #[.slice sa sn sc] 75)).alloc (by simp) (.cells #[.string t.kind,.string t.id,.string t.rel,.string t.sub,.string t.who,.string t.of] 123);unfold vk
 cases h1:dn ts t.kind with
 |none=>exact FZ sa sn sc t w 0 ⟨#[]⟩ none 0 0 (yN b _ ts tl t.kind t.rel _ (h.below k) h1)
 |some y=>
  cases h2:cu y t.rel with
  |none=>
   simp only [h2];obtain ⟨va,vn,vc,hc⟩:=yO b _ ts tl t.kind t.rel _ (h.below k) y h1 h2;exact FZ sa sn sc t w _ _ va vn vc hc
  |some r=>
   simp only [h2];obtain ⟨va,vn,vc,rl,ra,rv,hmem,hrc,dF,hc⟩:=Bq b _ ts tl t.kind t.rel _ (h.below k) y h1 r h2;exact Qt b sa sn sc t w _ _ va vn vc _ _ ra rv r.body h.blt dF (hrc.okp r hmem) (hrc.okg r hmem) (hrc.wf r hmem) hc
def Yj (ts:List Ty) (gs:List Tu) (s:aei):Nat×List Tu:=if dK s=false then (2,gs) else if vk ts (bE s).1≠0 then (vk ts (bE s).1,gs) else if 0≤nE gs (bE s).1 then (4,gs) else if gs.length=24 then (8,gs) else (0,gs++[(bE s).1])
theorem Na (n:Nat) (w:World) (hg:Laid w):Calls Tryz.prog 41 #[UN n] w fun e w'=>e=.returned (.tuple #[.int .i64 n,.int .i64 0])∧Below w.heap.size w w':=by
 unfold UN
 by_cases h:n=0
 ·subst h;rw [if_pos rfl];exact FV w
 ·rw [if_neg h];exact ze n w hg
theorem Tryz.infoTu:(Tryz.prog.info? 123).map (fun i=>(i.zero,i.size,i.bytes))=some (some (.agg #[.string ⟨#[]⟩,.string ⟨#[]⟩,.string ⟨#[]⟩,.string ⟨#[]⟩,.string ⟨#[]⟩,.string ⟨#[]⟩]),6,96):=by kernel_rfl
theorem eQ {S:Nat→Prop} {x y:World} {row:Option Nat} (h:x.grownBy y row) (hS:∀k,row=some k→S k):bW S x y:=⟨h.os,h.tape,h.output,h.size,fun k hk hs=>h.block k hk (fun e=>hs (hS k e.symm))⟩
theorem Qv {b:Nat} {mv lv:Value} {ga:Option Addr} {gc:Nat} {gs:List Tu} {t:Tu} {w W w5:World} {o:Obj} {g5 aD:Nat} (H:PU w b mv lv (.slice ga gs.length gc) gs) (hB:Below w.heap.size w W) (EG:gs.length<1000)
  (G5:(W.alloc o).drew.grownBy w5 (Value.slice ga gs.length gc).ownBlock) (O5:w5.ownsRow 0 123 6 (.slice (some ⟨g5,0,none⟩) (gs.length+1) aD) (gs.length+1) (gs.flatMap tF++tF t)) (A5:(Value.slice ga gs.length gc).ownBlock=some g5∨g5=W.heap.size+1)
  (K5:ai w5 b #[mv,lv,.slice ga gs.length gc] 117):
  lC b mv lv (.slice ga gs.length gc) w (0,gs++[t]) (.returned (.int .i64 0)) (w5.setCell ⟨b,2,none⟩ (.slice (some ⟨g5,0,none⟩) (gs.length+1) aD)):=by
 have vZ:∀k,(Value.slice ga gs.length gc).ownBlock=some k→EF b (.slice ga gs.length gc) k:=fun k hk=>by
  rcases H.row.2 with ⟨e,_⟩|⟨g',cap,cur,e,_,_,_⟩
  ·rw [e] at hk;simp [Value.ownBlock] at hk
  ·rw [e] at hk ⊢;simp only [Value.ownBlock,Option.some.injEq] at hk;exact .inr ⟨_,_,by rw [hk]⟩
 have b2:=(hB.alloc hB.size o).drew;have hbl:=H.blk.lt;refine ⟨_,rfl,⟨K5.set 2 _,?_,?_,by show (gs++[t]).length≤1000;simp;omega⟩,((bW.of_below b2).trans (eQ G5 vZ)).set (.inl rfl) _,?_⟩
 ·show World.ownsRow _ 0 123 6 _ (gs++[t]).length ((gs++[t]).flatMap tF)
  have:=aX O5 K5 (by decide) 2 (.slice (some ⟨g5,0,none⟩) (gs.length+1) aD);rw [List.flatMap_append,List.flatMap_singleton,List.length_append];exact this
 ·intro g n c e e';simp only [Value.slice.injEq,Option.some.injEq,Addr.mk.injEq,and_true] at e;obtain ⟨rfl,_,_⟩:=e;obtain ⟨cur,hc,_⟩:=jQ O5;subst e';unfold ai at hc K5;rw [K5] at hc;simp at hc
 ·rintro k (rfl|⟨n,c,e⟩)
  ·exact .inl (.inl rfl)
  ·simp only [Value.slice.injEq,Option.some.injEq,Addr.mk.injEq,and_true] at e;obtain ⟨rfl,_,_⟩:=e
   rcases A5 with h|h
   ·exact .inl (vZ _ h)
   ·exact .inr (by have:=hB.size;omega)
theorem JU (PC:Ju) (b bm:Nat) (s:aei) (w:World) (mv lv gv:Value) (gs:List Tu) (ts:List Ty) (tl:List (Ty×Value)) (h:PU w b mv lv gv gs) (hM:MC bm w mv ts tl) (hm:uW w) (hw:1<w.heap.size) (hg:Laid w) (h999:gs.length<1000):
  Calls Tryz.prog 28 #[.pointer (some ⟨b,0,none⟩),.string s] w (lC b mv lv gv w (Yj ts gs s)):=by
 have C1:=af (Cb PC s w hm hw);have H:=af h;rw [Ls s] at C1;obtain ⟨t,ht,hk⟩:=Cc s;rw [ht] at C1;unfold Yj;clear ht
 cases ho:dK s
 ·rw [ho] at C1;rw [if_pos rfl];clear h hm hw PC ho hk hM hg;go_enter Tryz.func28,Tryz.ntmps28;go_wp2_with fail;refine (ae C1).mono ?_;rintro e w1 ⟨rfl,hb1⟩;have B1:=af (hb1.alloc hb1.size (.cells #[.string t.kind,.string t.id,.string t.rel,.string t.sub,.string t.who,.string t.of] 123));clear hb1 C1;go_wp2;go_ret;exact lC.same (ae H) (ae B1) 2
 ·rw [if_neg (by simp),←hk ho];rw [ho] at C1;clear ho hk;obtain ⟨ga,gc,rfl⟩:=au h.row;obtain ⟨sa,sn,sc,rfl⟩:=hM.form;have zf:=h.most;have CL:=af (fun w' (k:Below w.heap.size w w')=>Qu bm _ ts tl t w' (hM.below k));have hbl:=h.blk.lt;have HG:=af hg;have CI:=af (fun w' (k:Below w.heap.size w w')=>Jt 0 _ gs t w' (by omega) (ay h.row k));clear h hm hw PC hM hg;generalize vk ts t=n at*;obtain ⟨r,hr⟩:∃r,r=(if n≠0 then (n,gs) else if 0≤nE gs t then (4,gs) else if gs.length=24 then (8,gs) else (0,gs++[t])):=⟨_,rfl⟩;rw [←hr];have Ar:=af hr;clear hr;generalize nE gs t=m at*;go_enter Tryz.func28,Tryz.ntmps28;go_wp2_with fail;refine (ae C1).mono ?_;rintro e w1 ⟨rfl,hb1⟩;have B1:=af (hb1.alloc hb1.size (.cells #[.string t.kind,.string t.id,.string t.rel,.string t.sub,.string t.who,.string t.of] 123));have U1:=af ((ae H).below (ae B1));have T1:=af (ai.new w1 #[.string t.kind,.string t.id,.string t.rel,.string t.sub,.string t.who,.string t.of] 123);have hne:¬(w1.heap.size=b):=by have:=hb1.size;omega
  have fT:¬(b=w1.heap.size):=by have:=hb1.size;omega
  clear hb1 C1;go_wp2_with fail;have l1:=(ae B1).size;generalize (w1.alloc (.cells #[.string t.kind,.string t.id,.string t.rel,.string t.sub,.string t.who,.string t.of] 123))=W at*;obtain ⟨c0,c1,c2⟩:=three (ae U1).blk;obtain ⟨t0,t1,t2,t3,t4,t5⟩:=(ae T1).six;have D:=af (ae CL W.drew (ae B1).drew);have hl0:=(ae HG).lt;have HTD:=af (fun w' (k:Below w.heap.size w w')=>Na n w' ((ae HG).below k hl0));clear CL
  go_region_held3 (fun w'=>w'.cell? ⟨b,0,none⟩=some (.slice sa sn sc)∧w'.cell? ⟨w1.heap.size,0,none⟩=some (.string t.kind)∧w'.cell? ⟨w1.heap.size,1,none⟩=some (.string t.id)∧w'.cell? ⟨w1.heap.size,2,none⟩=some (.string t.rel)∧w'.cell? ⟨w1.heap.size,3,none⟩=some (.string t.sub)∧w'.cell? ⟨w1.heap.size,4,none⟩=some (.string t.who)∧w'.cell? ⟨w1.heap.size,5,none⟩=some (.string t.of)) (go_keep)
   (first
   |(have xx:=BB;go_at_call 41;refine (ae HTD _ ((ae B1).trans ((ae BB).mono l1))).mono ?_;rintro e w3 ⟨rfl,hb3⟩;have BC:=af ((ae BB).trans (hb3.mono (ae BB).size));have f0:=ag c0 (ae BC);have f1:=ag t0 (ae BC);have f2:=ag t1 (ae BC);have f3:=ag t2 (ae BC);have f4:=ag t3 (ae BC);have f5:=ag t4 (ae BC);have f6:=ag t5 (ae BC);clear hb3 xx)
   |(go_at_call 61;refine (ae D).mono ?_;rintro e w2 ⟨rfl,hb2⟩;have BB:=af (show Below W.heap.size W w2 from (Below.refl _ W).drew.trans hb2);have d0:=ag c0 (ae BB);have d1:=ag t0 (ae BB);have d2:=ag t1 (ae BB);have d3:=ag t2 (ae BB);have d4:=ag t3 (ae BB);have d5:=ag t4 (ae BB);have d6:=ag t5 (ae BB);clear hb2))
  have B3:=af ((ae B1).trans ((ae BC).mono l1));have U3:=af ((ae H).below (ae B3));have T3:=af ((ae T1).below (ae BC));have l3:=(ae B3).size;clear d0 d1 d2 d3 d4 d5 d6 f0 f1 f2 f3 f4 f5 f6 c0 c1 c2 t0 t1 t2 t3 t4 t5 BB BC D HTD U1 T1 B1
  by_cases hn:n=0
  ·have hn0:((n:Int) != 0)=false:=by rw [hn];rfl
   have Aq:((n:Int)==0)=true:=by rw [hn];rfl
   have hr:=ae Ar;rw [if_neg (by simpa using hn)] at hr;have dS:=af hr;obtain ⟨c0,c1,c2⟩:=three (ae U3).blk;obtain ⟨t0,t1,t2,t3,t4,t5⟩:=(ae T3).six;have E:=af (ae CI w3.drew (ae B3).drew);clear hr Ar hn CI;go_wp2_with fail
   go_region_held3 (fun w'=>w'.cell? ⟨b,2,none⟩=some (.slice ga gs.length gc)∧w'.cell? ⟨w1.heap.size,0,none⟩=some (.string t.kind)∧w'.cell? ⟨w1.heap.size,1,none⟩=some (.string t.id)∧w'.cell? ⟨w1.heap.size,2,none⟩=some (.string t.rel)∧w'.cell? ⟨w1.heap.size,3,none⟩=some (.string t.sub)∧w'.cell? ⟨w1.heap.size,4,none⟩=some (.string t.who)∧w'.cell? ⟨w1.heap.size,5,none⟩=some (.string t.of)) (go_keep)
    ((go_at_call 62;refine (ae E).mono ?_;rintro e w4 ⟨rfl,hb4⟩;have BB:=af (show Below w3.heap.size w3 w4 from (Below.refl _ w3).drew.trans hb4);have d0:=ag c2 (ae BB);have d1:=ag t0 (ae BB);have d2:=ag t1 (ae BB);have d3:=ag t2 (ae BB);have d4:=ag t3 (ae BB);have d5:=ag t4 (ae BB);have d6:=ag t5 (ae BB);clear hb4))
   have B4:=af ((ae B3).trans ((ae BB).mono l3));have U4:=af ((ae H).below (ae B4));have T4:=af ((ae T3).below (ae BB));have l4:=(ae B4).size;clear d0 d1 d2 d3 d4 d5 d6 c0 c1 c2 t0 t1 t2 t3 t4 t5 BB E U3 T3 B3
   by_cases hm:0≤m
   ·have hr:=ae dS;rw [if_pos hm] at hr;subst hr;rw [decide_eq_true hm];clear dS;go_wp2;go_ret;exact lC.same (ae H) (ae B4) 4
   ·have hr:=ae dS;rw [if_neg hm] at hr;rw [decide_eq_false hm];have oZ:=af hr;obtain ⟨c0,c1,c2⟩:=three (ae U4).blk;obtain ⟨t0,t1,t2,t3,t4,t5⟩:=(ae T4).six;clear hr dS hm
    by_cases EG:gs.length=24
    ·have hr:=ae oZ;rw [if_pos EG] at hr;subst hr;have Yk:((gs.length:Int)==24)=true:=by rw [EG];rfl
     clear oZ EG;go_wp2;go_ret;exact lC.same (ae H) (ae B4) 8
    ·have hr:=ae oZ;rw [if_neg EG] at hr;subst hr;have Yk:((gs.length:Int)==24)=false:=by rw [beq_eq_false_iff_ne];omega
     clear oZ EG;go_wp2_with fail;obtain ⟨i0,hi0,hz0,hz1,hz2⟩:=info_parts Tryz.infoTu;have HI:=af hi0;have fG:=af hz0;have fH:=af hz1;have fI:=af hz2;clear hi0 hz0 hz1 hz2;have hbk:=(ae U4).blk;have hz:=hbk.fz;have HO:=af (ae U4).row;have m7:=World.new_ne w4 _ c2;have m8:=World.new_ne w4 _ t0;have c7:(w4.alloc (.cells #[.string t.kind,.string t.id,.string t.rel,.string t.sub,.string t.who,.string t.of] 123)).cell? ⟨b,2,none⟩=some (.slice ga gs.length gc):=(hbk.alloc _).cell rfl;have aaK:¬(b=w4.heap.size):=by have:=hbk.lt;omega
     have uO:=af hbk;clear hbk;have rM:=af (show ∀u∈tF t,u.oneCell'=true from by
      intro u hu;simp only [tF,List.mem_cons,List.not_mem_nil,or_false] at hu
      rcases hu with rfl|rfl|rfl|rfl|rfl|rfl<;>rfl)
     have Dy:=af (show gs.length+1≤maxLen from by unfold maxLen;omega);have AC:=af (show (gs.length+1)*96≤140737488355328 from by omega);have HS:=af (show 0≤(w4.alloc (.cells #[.string t.kind,.string t.id,.string t.rel,.string t.sub,.string t.who,.string t.of] 123)).drew.heap.size from Nat.zero_le _);have HH:=af (show (w4.alloc (.cells #[.string t.kind,.string t.id,.string t.rel,.string t.sub,.string t.who,.string t.of] 123)).drew.heap.size=w4.heap.size+1 from by simp)
     go_region_law (refine step_append_lies _ rfl (.tmp 45) (.tmp 47) 115 rfl 0 123 i0 _ 6 96 Tryz.underlying115 (ae HI) (ae fG) (ae fH) (ae fI) rfl (by decide) (.slice ga gs.length gc) gs.length (gs.flatMap tF) (by simp [Act.eval,Act.put]) (bK ((ae HO).alloc _)) ⟨w4.heap.size,0,none⟩ 1 1 (tF t) (by simp [Act.eval,Act.put]) rfl (World.news_of_block (B:=w4.heap.size) (cs:=#[.string t.kind,.string t.id,.string t.rel,.string t.sub,.string t.who,.string t.of]) (t:=123) (fr:=(0,0)) (ai.new w4 _ _).drew) (ae rM) (by decide) (ae Dy) (ae AC) (ae HS) (w4.heap.size+1) (ae HH) ?_;intro g5 aD w5 aC aj aP di;have fU:=bK ((ae HO).alloc (.cells #[.string t.kind,.string t.id,.string t.rel,.string t.sub,.string t.who,.string t.of] 123));have uP:=((ae uO).alloc (.cells #[.string t.kind,.string t.id,.string t.rel,.string t.sub,.string t.who,.string t.of] 123)).drew;have K5:ai w5 b _ 117:=(aj.block b uP.lt (own_ne fU uP (by decide))).trans uP;obtain ⟨q0,q1,q2⟩:=three K5;have zq:=K5.fz;have Xg:=af K5;have G5:=af aj;have O5:=af aC;have A5:=af aP;have lq:=K5.lt;clear fU uP K5 aj aC aP)
     all_goals
      go_wp2;go_ret;exact Qv (ae H) (ae B4) (by omega) (ae G5) (ae O5) (ae A5) (ae Xg)
  ·have hn0:((n:Int) != 0)=true:=by rw [bne_iff_ne];omega
   have Aq:((n:Int)==0)=false:=by rw [beq_eq_false_iff_ne];omega
   have hr:=ae Ar;rw [if_pos hn] at hr;subst hr;clear hn Ar;go_wp2;go_ret;exact lC.same (ae H) (ae B3) n
def Lu (s:aei):List Value:=[.string (bE s).1.kind,.string (bE s).1.id,.string (bE s).1.rel,.string (bE s).1.sub,.string (bE s).1.who,.string (bE s).1.of,.string s]
structure DU (w:World) (b:Nat) (mp tv:Value) (ss:List aei):Prop where
 blk:ai w b #[mp,tv] 262
 row:w.ownsRow 0 264 7 tv ss.length (ss.flatMap Lu)
 apart:∀g n c,tv=.slice (some ⟨g,0,none⟩) n c→g≠b
 most:ss.length≤1000
theorem DU.below {w w':World} {b:Nat} {mp tv:Value} {ss:List aei} (h:DU w b mp tv ss) (k:Below w.heap.size w w'):DU w' b mp tv ss:=⟨h.blk.below k,ay h.row k,h.apart,h.most⟩
def mD (l:List aei) (x:aei):Int:=match l.findIdx? (fun y=>eqs y x) with
 |some i=>(i:Int)
 |none=> -1
theorem UO {l:List aei} {x:aei} {k:Nat} (hk:k<l.length) (hn:∀j,(h:j<l.length)→j<k→eqs l[j] x=false) (he:eqs l[k] x=true):mD l x=k:=by
 unfold mD;have:l.findIdx? (fun y=>eqs y x)=some k:=by
  rw [List.findIdx?_eq_some_iff_getElem];exact ⟨hk,he,fun j hj=>by rw [hn j (by omega) hj];simp⟩
 rw [this]
theorem Nb {l:List aei} {x:aei} (hn:∀j,(h:j<l.length)→eqs l[j] x=false):mD l x= -1:=by
 unfold mD;have:l.findIdx? (fun y=>eqs y x)=none:=by
  rw [List.findIdx?_eq_none_iff];intro y hy;obtain ⟨j,hj,rfl⟩:=List.getElem_of_mem hy;exact hn j hj
 rw [this]
theorem iH {w:World} {g:Nat} {a b:Value} {T:TypeId} (h:ai w g #[a,b] T):w.cell? ⟨g,0,none⟩=some a∧w.cell? ⟨g,1,none⟩=some b:=⟨h.cell rfl,h.cell rfl⟩
theorem Ce (b:Nat) (s:aei) (w:World) (mp tv:Value) (ss:List aei) (h:DU w b mp tv ss):
  Calls Tryz.prog 134 #[.pointer (some ⟨b,0,none⟩),.string s] w fun e w'=>e=.returned (.int .i64 (mD ss s))∧Below w.heap.size w w':=by
 obtain ⟨ta,tc,rfl⟩:=au h.row;have H:=af h;have zf:=h.most;obtain ⟨R,hR⟩:∃R,R=mD ss s:=⟨_,rfl⟩;rw [←hR];have HR:=af hR;clear h hR;go_enter Tryz.func134,Tryz.ntmps134;go_wp2_with fail
 go_loopw [5] (fun u wr=>∃k:Nat,k≤ss.length∧u=.int .i64 k∧Below w.heap.size w wr∧Hid (∀j,(h:j<ss.length)→j<k→eqs ss[j] s=false)) (fun u _=>ss.length-(intOf u).toNat)
 case atStart=>exact ⟨0,by omega,rfl,Below.refl _ _,af (fun j h h'=>by omega)⟩
 case round=>
  obtain ⟨k,hk,rfl,hb,HN⟩:=hrel;have HB:=af hb;obtain ⟨c0,c1⟩:=iH ((ae H).below hb).blk
  by_cases hlt:k<ss.length
  ·have hkn:(k:Int)<(ss.length:Int):=by omega
   obtain ⟨g,c,e1,hc⟩:=bP Lu 7 (fun _=>rfl) ((ae H).below hb).row k ss[k] (aeh hlt);simp only [Value.slice.injEq,true_and] at e1;obtain ⟨rfl,rfl⟩:=e1;have k6:=hc 6 _ (by omega) rfl
   cases he:eqs ss[k] s
   ·have he':(ss[k].toList==s.toList)=false:=by rw [←aV];exact he
    have Ao:=af (show ∀j,(h:j<ss.length)→j<k+1→eqs ss[j] s=false from fun j h h'=>by
     by_cases e:j=k
     ·subst e;exact he
     ·exact ae HN j h (by omega))
    generalize ss[k]=y at*;clear hb hc he;go_wp2;go_roundw
    case rel=>exact ⟨k+1,by omega,by go_num,ae HB,Ao⟩
    case measure=>simp [intOf];omega
   ·have he':(ss[k].toList==s.toList)=true:=by rw [←aV];exact he
    have hF:=UO hlt (ae HN) he;rw [←ae HR] at hF;subst hF;generalize ss[k]=y at*;clear hb hc he;go_wp2;go_ret;exact ⟨rfl,ae HB⟩
  ·have hkn:¬((k:Int)<(ss.length:Int)):=by omega
   have hF:=Nb (fun j hj=>ae HN j hj (by omega));rw [←ae HR] at hF;subst hF;clear hb;go_wp2;go_ret;exact ⟨rfl,ae HB⟩
