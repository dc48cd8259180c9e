import Derived.Test.YtlbpnlngckgcbaaGreatDoorM12
set_option linter.all false
set_option maxHeartbeats 4000000
set_option maxRecDepth 100000
namespace Go.Proofs.YtlbpnlngckgcbaaGreatDoor
open Go.RowKit Go.PlainAid Go.Proofs.Tryz
variable {aD bq:Prop}
def X5 (h:aD:=by
 rw [hq] at hf;obtain rfl:=aE hf;clear hf;exact RI):aD:=h
def X6 (h:aD:=by
 obtain rfl:=aE hf;clear hbs hf;exact RI):aD:=h
def RJ (h:aD:=by
 rcases four ok has thing word with rfl|⟨rfl,rfl⟩|⟨rfl,rfl,rfl⟩|⟨rfl,rfl,rfl,rfl⟩|⟨rfl,rfl,rfl,rfl⟩
 all_goals (
  go_wp2;refine bE (v:=.tuple #[.agg ((Tu.mk kind id rel su sw Dg).cells s),.bool _]) (ce results131 _ _ w.heap.size _ 264 _ _ rfl rfl ?_ underlying264 rfl aM) rfl ?_
  ·exact ⟨_,(cY R6),bQ⟩
  ·exact ⟨rfl,(cq B6)⟩)):aD:=h
def RI (h:aD:=by
 go_wp2_with fail;refine (C9 _).mono ?_;rintro e A ⟨rfl,rfl⟩;have V:=R7.fz;have D:A.cell? (aP w.heap.size)=some (an ⟨#[]⟩):=R7.cell rfl;have I:A.cell? (aC w.heap.size 1)=some (an ⟨#[]⟩):=R7.cell rfl;have J:A.cell? (aC w.heap.size 2)=some (an ⟨#[]⟩):=R7.cell rfl;have r3:A.cell? (aC w.heap.size 3)=some (an ⟨#[]⟩):=R7.cell rfl;have Q:A.cell? (aC w.heap.size 4)=some (an ⟨#[]⟩):=R7.cell rfl;have R:A.cell? (aC w.heap.size 5)=some (an ⟨#[]⟩):=R7.cell rfl;have U:A.cell? (aC w.heap.size 6)=some (an ⟨#[]⟩):=R7.cell rfl;have rl:=R7.lt;have C:¬(w.heap.size=A.heap.size):=ai
 rcases four ok has thing word with rfl|⟨rfl,rfl⟩|⟨rfl,rfl,rfl⟩|⟨rfl,rfl,rfl,rfl⟩|⟨rfl,rfl,rfl,rfl⟩
 all_goals (
  go_wp2;refine bE (v:=.tuple #[.agg ((Tu.mk kind id rel su jR Dg).cells s),.bool _]) (ce results131 _ _ w.heap.size _ 264 _ _ rfl rfl ?_ underlying264 rfl aM) rfl ?_
  ·exact ⟨_,(cY R7),bQ⟩
  ·exact ⟨rfl,(cq B7)⟩)):aD:=h
def RK(q:bq) (h:cj bq->aD:=by
 intro zq;have rz:=R6.fz;have r0:w9.cell? (aP w.heap.size)=some (an ⟨#[]⟩):=R6.cell rfl;have r1:w9.cell? (aC w.heap.size 1)=some (an ⟨#[]⟩):=R6.cell rfl;have r2:w9.cell? (aC w.heap.size 2)=some (an ⟨#[]⟩):=R6.cell rfl;have r3:w9.cell? (aC w.heap.size 3)=some (an ⟨#[]⟩):=R6.cell rfl;have r4:w9.cell? (aC w.heap.size 4)=some (an ⟨#[]⟩):=R6.cell rfl;have r5:w9.cell? (aC w.heap.size 5)=some (an ⟨#[]⟩):=R6.cell rfl;have r6:w9.cell? (aC w.heap.size 6)=some (an ⟨#[]⟩):=R6.cell rfl;have rl:=R6.lt;have D5:¬(w.heap.size=w9.heap.size):=ai
 revert rz r0 r1 r2 r3 r4 r5 r6 rl D5
 exact zq.1):aD:=h ⟨q⟩
def four(a b c d):a=false\/(a=true/\b=false)\/(a=true/\b=true/\c=false)\/(a=true/\b=true/\c=true/\d=false)\/(a=true/\b=true/\c=true/\d=true):=by
 cases a<;>cases b<;>cases c<;>cases d<;>simp
def xd(s w)(hs:s.size<=maxLen):
  Calls prog 131 #[an s] w fun e w'=>e=bi (.tuple #[.agg ((b7 s).1.cells s),.bool (b7 s).2])/\am w w':=by
 unfold b7;have aN:=eo s 64;have ag:=fun w=>lE s 64 64 rfl w hs
 generalize aG s 64=aR at*;obtain ⟨l,r,ok⟩:=aR;simp only at aN ag ⊢;have aO:=eo l 35;have ah:=fun w=>lE l 35 35 rfl w ai
 generalize aG l 35=aS at*;obtain ⟨what,rel,has⟩:=aS;simp only at aO ah ⊢;have aj:=fun w=>mm what w ai
 generalize c9 what=aU at*;obtain ⟨kind,id,thing⟩:=aU;simp only at aj ⊢;have aA:=fun w=>iP rel w
 generalize bC rel=word at*;have aQ:=eo r 35;have ak:=fun w=>lE r 35 35 rfl w ai
 generalize aG r 35=aV at*;obtain ⟨who,Dg,all⟩:=aV;simp only at aQ ak ⊢;have al:=fun w=>mm who w ai
 have ap:=fun w=>lE who 58 58 rfl w ai
 have C9:=fun w=>iP Dg w
 generalize bC Dg=q at*;have aB:=fun w=>iP (aG who 58).1 w
 obtain ⟨⟨su,sw,a0⟩,Y⟩:∃S,S=nA who all:=⟨_,rfl⟩;rw [<-Y];unfold nA at Y;generalize c9 who=aW at*;generalize aG who 58=aX at*;obtain ⟨sub,ww,aY⟩:=aW;obtain ⟨a,b,two⟩:=aX;simp only at al ap aB Y ⊢;generalize bC a=p at*;have Z:=Y;clear aN aO aQ hs Y;go_enter func131,ntmps131;have ab:=((az _ w).alloc aH _:am w (w.alloc (.cells #[an ⟨#[]⟩,an ⟨#[]⟩,an ⟨#[]⟩,an ⟨#[]⟩,an ⟨#[]⟩,an ⟨#[]⟩,an ⟨#[]⟩] 264)));have aF:=aL.new w #[an ⟨#[]⟩,an ⟨#[]⟩,an ⟨#[]⟩,an ⟨#[]⟩,an ⟨#[]⟩,an ⟨#[]⟩,an ⟨#[]⟩] 264;go_wp2_with fail;refine (ag _).mono ?_;rintro e w1 ⟨rfl,ar⟩;have ac:=ab.trans (ar.mono ab.size);have aI:=aF.below ar;clear ar ab aF ag;go_wp2_with fail;refine (ah _).mono ?_;rintro e a1 ⟨rfl,au⟩;have ad:=ac.trans (au.mono ac.size);have aJ:=aI.below au;clear au ac aI ah;go_wp2_with fail;refine (aj _).mono ?_;rintro e a2 ⟨rfl,av⟩;have ae:=ad.trans (av.mono ad.size);have R3:=aJ.below av;clear av ad aJ aj;go_wp2_with fail;refine (aA _).mono ?_;rintro e a3 ⟨rfl,rfl⟩;go_wp2_with fail;refine (ak _).mono ?_;rintro e w5 ⟨rfl,aw⟩;have af:=ae.trans (aw.mono ae.size);have aK:=R3.below aw;clear aw ae R3 aA ak;go_wp2_with fail;refine (al _).mono ?_;rintro e a4 ⟨rfl,ax⟩;have B6:=af.trans (ax.mono af.size);have R6:=aK.below ax;clear ax af aK al
 cases aY
 ·cases all
  ·have Y:=Z;simp only [Bool.not_false,Bool.and_self,if_true,gY] at Y;obtain ⟨rfl,rfl,hf⟩:=Y;clear Z;go_wp2_with fail;refine (ap _).mono ?_;rintro e a5 ⟨rfl,ay⟩;have B7:=B6.trans (ay.mono B6.size);have R7:=R6.below ay;clear ay B6 R6 ap;go_wp2_with fail;refine (aB _).mono ?_;rintro e a6 ⟨rfl,rfl⟩;have hbs:eqs b jR=(b.toList== [42]):=by unfold eqs jR;rw [aT];rfl
   cases two
   ·simp only [eM] at hf;exact X6
   cases p
   ·simp only [fT,eM] at hf;exact X6
   simp only [fT] at hf;rw [hbs] at hf;clear hbs
   cases hq:(b.toList== [42])
   ·exact X5
   exact X5
  have Y:=Z;simp only [Bool.not_false,Bool.not_true,pB,bJ,aZ,gY] at Y;obtain ⟨rfl,rfl,rfl⟩:=Y;clear Z;go_wp2_with fail;refine (C9 _).mono ?_;rintro e w9 ⟨rfl,rfl⟩;refine RK ?_;intro rz r0 r1 r2 r3 r4 r5 r6 rl D5;exact RJ
 ·have Y:=Z;simp only [Bool.not_true,eM,bJ,aZ,gY] at Y;obtain ⟨rfl,rfl,rfl⟩:=Y;clear Z;go_wp2_with fail;refine (C9 _).mono ?_;rintro e w9 ⟨rfl,rfl⟩;refine RK ?_;intro rz r0 r1 r2 r3 r4 r5 r6 rl D5
  cases all
  ·skip
   exact RJ
  skip
  exact RJ
