import Derived.Test.YtlbpnlngckgcbaaGreatDoorM12
set_option linter.all false
set_option maxHeartbeats 4000000
set_option maxRecDepth 100000
namespace Go.Proofs.YtlbpnlngckgcbaaGreatDoor
open Go.RowKit Go.PlainAid Go.Proofs.Tryz
variable {aD br:Prop}
def XA (h:aD:=by
 rw [hq] at hf;obtain rfl:=aE hf;clear hf;exact Re):aD:=h
def XC (h:aD:=by
 obtain rfl:=aE hf;clear hbs hf;exact Re):aD:=h
def Rf (h:aD:=by
 rcases four ok has thing word with rfl|⟨rfl,rfl⟩|⟨rfl,rfl,rfl⟩|⟨rfl,rfl,rfl,rfl⟩|⟨rfl,rfl,rfl,rfl⟩
 all_goals (
  go_wp2;refine bF (v:=.tuple #[.agg ((Tu.mk kind id rel su sw CC).cells s),.bool _]) (cf results131 _ _ w.heap.size _ 264 _ _ rfl rfl ?_ underlying264 rfl aM) rfl ?_
  ·exact ⟨_,(cZ R6),bL⟩
  ·exact ⟨rfl,(cq B6)⟩)):aD:=h
def Re (h:aD:=by
 go_wp2_with fail;refine (C9 _).mono ?_;rintro e A ⟨rfl,rfl⟩;have V:=R7.fz;have D:A.cell? (aN w.heap.size)=some (aj ⟨#[]⟩):=R7.cell rfl;have I:A.cell? (aC w.heap.size 1)=some (aj ⟨#[]⟩):=R7.cell rfl;have J:A.cell? (aC w.heap.size 2)=some (aj ⟨#[]⟩):=R7.cell rfl;have r3:A.cell? (aC w.heap.size 3)=some (aj ⟨#[]⟩):=R7.cell rfl;have Q:A.cell? (aC w.heap.size 4)=some (aj ⟨#[]⟩):=R7.cell rfl;have R:A.cell? (aC w.heap.size 5)=some (aj ⟨#[]⟩):=R7.cell rfl;have U:A.cell? (aC w.heap.size 6)=some (aj ⟨#[]⟩):=R7.cell rfl;have rl:=R7.lt;have C:¬(w.heap.size=A.heap.size):=ai
 rcases four ok has thing word with rfl|⟨rfl,rfl⟩|⟨rfl,rfl,rfl⟩|⟨rfl,rfl,rfl,rfl⟩|⟨rfl,rfl,rfl,rfl⟩
 all_goals (
  go_wp2;refine bF (v:=.tuple #[.agg ((Tu.mk kind id rel su jO CC).cells s),.bool _]) (cf results131 _ _ w.heap.size _ 264 _ _ rfl rfl ?_ underlying264 rfl aM) rfl ?_
  ·exact ⟨_,(cZ R7),bL⟩
  ·exact ⟨rfl,(cq B7)⟩)):aD:=h
def Rg(q:br) (h:cj br->aD:=by
 intro zq;have rz:=R6.fz;have r0:w9.cell? (aN w.heap.size)=some (aj ⟨#[]⟩):=R6.cell rfl;have r1:w9.cell? (aC w.heap.size 1)=some (aj ⟨#[]⟩):=R6.cell rfl;have r2:w9.cell? (aC w.heap.size 2)=some (aj ⟨#[]⟩):=R6.cell rfl;have r3:w9.cell? (aC w.heap.size 3)=some (aj ⟨#[]⟩):=R6.cell rfl;have r4:w9.cell? (aC w.heap.size 4)=some (aj ⟨#[]⟩):=R6.cell rfl;have r5:w9.cell? (aC w.heap.size 5)=some (aj ⟨#[]⟩):=R6.cell rfl;have r6:w9.cell? (aC w.heap.size 6)=some (aj ⟨#[]⟩):=R6.cell rfl;have rl:=R6.lt;have Dz:¬(w.heap.size=w9.heap.size):=ai
 revert rz r0 r1 r2 r3 r4 r5 r6 rl Dz
 exact zq.1):aD:=h ⟨q⟩
def four(a b c d):a=false\/(a=true/\b=false)\/(a=true/\b=true/\c=false)\/(a=true/\b=true/\c=true/\d=false)\/(a=true/\b=true/\c=true/\d=true):=by
 cases a<;>cases b<;>cases c<;>cases d<;>simp
def wB(s w)(hs:s.size<=maxLen):
  Calls prog 131 #[aj s] w fun e w'=>e=bj (.tuple #[.agg ((b8 s).1.cells s),.bool (b8 s).2])/\an w w':=by
 unfold b8;have aO:=ej s 64;have ag:=fun w=>lu s 64 64 rfl w hs
 generalize aG s 64=aR at*;obtain ⟨l,r,ok⟩:=aR;simp only at aO ag ⊢;have aP:=ej l 35;have ah:=fun w=>lu l 35 35 rfl w ai
 generalize aG l 35=aS at*;obtain ⟨what,rel,has⟩:=aS;simp only at aP ah ⊢;have ak:=fun w=>l8 what w ai
 generalize db what=aU at*;obtain ⟨kind,id,thing⟩:=aU;simp only at ak ⊢;have az:=fun w=>iL rel w
 generalize bC rel=word at*;have aQ:=ej r 35;have al:=fun w=>lu r 35 35 rfl w ai
 generalize aG r 35=aV at*;obtain ⟨who,CC,all⟩:=aV;simp only at aQ al ⊢;have am:=fun w=>l8 who w ai
 have ap:=fun w=>lu who 58 58 rfl w ai
 have C9:=fun w=>iL CC w
 generalize bC CC=q at*;have aB:=fun w=>iL (aG who 58).1 w
 obtain ⟨⟨su,sw,aZ⟩,Y⟩:∃S,S=nj who all:=⟨_,rfl⟩;rw [<-Y];unfold nj at Y;generalize db who=aW at*;generalize aG who 58=aX at*;obtain ⟨sub,ww,aY⟩:=aW;obtain ⟨a,b,two⟩:=aX;simp only at am ap aB Y ⊢;generalize bC a=p at*;have Z:=Y;clear aO aP aQ hs Y;go_enter func131,ntmps131;have ab:=((aA _ w).alloc aH _:an w (w.alloc (.cells #[aj ⟨#[]⟩,aj ⟨#[]⟩,aj ⟨#[]⟩,aj ⟨#[]⟩,aj ⟨#[]⟩,aj ⟨#[]⟩,aj ⟨#[]⟩] 264)));have aF:=aL.new w #[aj ⟨#[]⟩,aj ⟨#[]⟩,aj ⟨#[]⟩,aj ⟨#[]⟩,aj ⟨#[]⟩,aj ⟨#[]⟩,aj ⟨#[]⟩] 264;go_wp2_with fail;refine (ag _).mono ?_;rintro e w1 ⟨rfl,ar⟩;have ac:=ab.trans (ar.mono ab.size);have aI:=aF.below ar;clear ar ab aF ag;go_wp2_with fail;refine (ah _).mono ?_;rintro e a0 ⟨rfl,au⟩;have ad:=ac.trans (au.mono ac.size);have aJ:=aI.below au;clear au ac aI ah;go_wp2_with fail;refine (ak _).mono ?_;rintro e a1 ⟨rfl,av⟩;have ae:=ad.trans (av.mono ad.size);have R3:=aJ.below av;clear av ad aJ ak;go_wp2_with fail;refine (az _).mono ?_;rintro e a2 ⟨rfl,rfl⟩;go_wp2_with fail;refine (al _).mono ?_;rintro e w5 ⟨rfl,aw⟩;have af:=ae.trans (aw.mono ae.size);have aK:=R3.below aw;clear aw ae R3 az al;go_wp2_with fail;refine (am _).mono ?_;rintro e a3 ⟨rfl,ax⟩;have B6:=af.trans (ax.mono af.size);have R6:=aK.below ax;clear ax af aK am
 cases aY
 ·cases all
  ·have Y:=Z;simp only [Bool.not_false,Bool.and_self,if_true,gW] at Y;obtain ⟨rfl,rfl,hf⟩:=Y;clear Z;go_wp2_with fail;refine (ap _).mono ?_;rintro e a4 ⟨rfl,ay⟩;have B7:=B6.trans (ay.mono B6.size);have R7:=R6.below ay;clear ay B6 R6 ap;go_wp2_with fail;refine (aB _).mono ?_;rintro e a5 ⟨rfl,rfl⟩;have hbs:eqs b jO=(b.toList== [42]):=by unfold eqs jO;rw [aT];rfl
   cases two
   ·simp only [eK] at hf;exact XC
   cases p
   ·simp only [fS,eK] at hf;exact XC
   simp only [fS] at hf;rw [hbs] at hf;clear hbs
   cases hq:(b.toList== [42])
   ·exact XA
   exact XA
  have Y:=Z;simp only [Bool.not_false,Bool.not_true,pe,bJ,a8,gW] at Y;obtain ⟨rfl,rfl,rfl⟩:=Y;clear Z;go_wp2_with fail;refine (C9 _).mono ?_;rintro e w9 ⟨rfl,rfl⟩;refine Rg ?_;intro rz r0 r1 r2 r3 r4 r5 r6 rl Dz;exact Rf
 ·have Y:=Z;simp only [Bool.not_true,eK,bJ,a8,gW] at Y;obtain ⟨rfl,rfl,rfl⟩:=Y;clear Z;go_wp2_with fail;refine (C9 _).mono ?_;rintro e w9 ⟨rfl,rfl⟩;refine Rg ?_;intro rz r0 r1 r2 r3 r4 r5 r6 rl Dz
  cases all
  ·skip
   exact Rf
  skip
  exact Rf
