import Derived.Test.YtlbpnlngckgcbaaGreatDoorM10
set_option linter.all false
set_option maxHeartbeats 4000000
set_option maxRecDepth 100000
namespace Go.Proofs.YtlbpnlngckgcbaaGreatDoor
open Go.RowKit Go.PlainAid Go.Proofs.Tryz
variable {aF cD:Prop}
def Qw (ab:aF:=by
 rw [hq] at HF;obtain rfl:=ak HF;clear HF;exact LK):aF:=ab
def Qx (ab:aF:=by
 obtain rfl:=ak HF;clear hbs HF;exact LK):aF:=ab
def LL (C:aF:=by
 rcases four ok has thing word with rfl|⟨rfl,rfl⟩|⟨rfl,rfl,rfl⟩|⟨rfl,rfl,rfl,rfl⟩|⟨rfl,rfl,rfl,rfl⟩
 all_goals (
  go_wp2;refine bc (v:=.tuple #[.agg ((Tu.mk kind id rel su sw yI).cells s),.bool _]) (bC results131 _ _ w.heap.size _ 264 _ _ rfl rfl ?_ underlying264 rfl au) rfl ?_
  ·exact ⟨_,(b4 R6),aS⟩
  ·exact ⟨rfl,(bB B6)⟩)):aF:=C
def LK (D:aF:=by
 go_wp2_with fail;refine (C9.u _).mono ?_;rintro e C ⟨rfl,rfl⟩;have Z:=R7.u.fz;have O:C.cell? ⟨w.heap.size,0,none⟩=some (.string ⟨#[]⟩):=R7.u.cell rfl;have Q:C.cell? ⟨w.heap.size,1,none⟩=some (.string ⟨#[]⟩):=R7.u.cell rfl;have R:C.cell? ⟨w.heap.size,2,none⟩=some (.string ⟨#[]⟩):=R7.u.cell rfl;have r3:C.cell? ⟨w.heap.size,3,none⟩=some (.string ⟨#[]⟩):=R7.u.cell rfl;have U:C.cell? ⟨w.heap.size,4,none⟩=some (.string ⟨#[]⟩):=R7.u.cell rfl;have V:C.cell? ⟨w.heap.size,5,none⟩=some (.string ⟨#[]⟩):=R7.u.cell rfl;have Y:C.cell? ⟨w.heap.size,6,none⟩=some (.string ⟨#[]⟩):=R7.u.cell rfl;have rl:=R7.u.lt;have I:¬(C.heap.size=w.heap.size):=aj;have J:¬(w.heap.size=C.heap.size):=aj
 rcases four ok has thing word with rfl|⟨rfl,rfl⟩|⟨rfl,rfl,rfl⟩|⟨rfl,rfl,rfl,rfl⟩|⟨rfl,rfl,rfl,rfl⟩
 all_goals (
  go_wp2;refine bc (v:=.tuple #[.agg ((Tu.mk kind id rel su jg yI).cells s),.bool _]) (bC results131 _ _ w.heap.size _ 264 _ _ rfl rfl ?_ underlying264 rfl au) rfl ?_
  ·exact ⟨_,(b4 R7),aS⟩
  ·exact ⟨rfl,(bB B7)⟩)):aF:=D
theorem four(a b c d):a=false\/(a=true/\b=false)\/(a=true/\b=true/\c=false)\/(a=true/\b=true/\c=true/\d=false)\/(a=true/\b=true/\c=true/\d=true):=by
 cases a<;>cases b<;>cases c<;>cases d<;>simp
theorem uk(s w)(hs:s.size<=maxLen):
  Calls prog 131 #[.string s] w fun e w'=>e=.returned (.tuple #[.agg ((bU s).1.cells s),.bool (bU s).2])/\Below w.heap.size w w':=by
 unfold bU;have aT:=eb s 64;have an:=ai (fun w=>my s 64 64 rfl w hs);generalize aC s 64=aX at*;obtain ⟨l,r,ok⟩:=aX;simp only at aT an ⊢;have aU:=eb l 35;have ap:=ai (fun w=>my l 35 35 rfl w aj);generalize aC l 35=aY at*;obtain ⟨what,rel,has⟩:=aY;simp only at aU ap ⊢;have ar:=ai (fun w=>lk what w aj);generalize cJ what=aZ at*;obtain ⟨kind,id,thing⟩:=aZ;simp only at ar ⊢;have aJ:=ai (fun w=>io rel w);generalize bp rel=word at*;have aW:=eb r 35;have av:=ai (fun w=>my r 35 35 rfl w aj);generalize aC r 35=a0 at*;obtain ⟨who,yI,all⟩:=a0;simp only at aW av ⊢;have ax:=ai (fun w=>lk who w aj);have ay:=ai (fun w=>my who 58 58 rfl w aj);have C9:=ai (fun w=>io yI w);generalize bp yI=q at*;have aK:=ai (fun w=>io (aC who 58).1 w);obtain ⟨⟨su,sw,bf⟩,ad⟩:∃S,S=mB who all:=⟨_,rfl⟩;rw [<-ad];unfold mB at ad;generalize cJ who=a1 at*;generalize aC who 58=a2 at*;obtain ⟨sub,ww,a3⟩:=a1;obtain ⟨a,b,two⟩:=a2;simp only at ax ay aK ad ⊢;generalize bp a=p at*;have ae:=ai ad;clear aT aU aW hs ad;go_enter func131,ntmps131;have af:=ai (show Below w.heap.size w (w.alloc (.cells #[.string ⟨#[]⟩,.string ⟨#[]⟩,.string ⟨#[]⟩,.string ⟨#[]⟩,.string ⟨#[]⟩,.string ⟨#[]⟩,.string ⟨#[]⟩] 264)) from (aw _ w).alloc az _);have aL:=ai (aB.new w #[.string ⟨#[]⟩,.string ⟨#[]⟩,.string ⟨#[]⟩,.string ⟨#[]⟩,.string ⟨#[]⟩,.string ⟨#[]⟩,.string ⟨#[]⟩] 264);go_wp2_with fail;refine (ak an _).mono ?_;rintro e w1 ⟨rfl,aA⟩;have ag:=ai (af.u.trans (aA.mono af.u.size));have aM:=ai (aL.u.below aA);clear aA af aL an;go_wp2_with fail;refine (ak ap _).mono ?_;rintro e bg ⟨rfl,aD⟩;have ah:=ai (ag.u.trans (aD.mono ag.u.size));have aN:=ai (aM.u.below aD);clear aD ag aM ap;go_wp2_with fail;refine (ak ar _).mono ?_;rintro e bh ⟨rfl,aE⟩;have al:=ai (ah.u.trans (aE.mono ah.u.size));have R3:=ai (aN.u.below aE);clear aE ah aN ar;go_wp2_with fail;refine (aJ.u _).mono ?_;rintro e bi ⟨rfl,rfl⟩;go_wp2_with fail;refine (ak av _).mono ?_;rintro e w5 ⟨rfl,aG⟩;have am:=ai (al.u.trans (aG.mono al.u.size));have aQ:=ai (R3.u.below aG);clear aG al R3 aJ av;go_wp2_with fail;refine (ak ax _).mono ?_;rintro e bj ⟨rfl,aH⟩;have B6:=ai (am.u.trans (aH.mono am.u.size));have R6:=ai (aQ.u.below aH);clear aH am aQ ax
 cases a3
 ·cases all
  ·have ad:=ae.u;simp only [Bool.not_false,Bool.and_self,if_true,hA] at ad;obtain ⟨rfl,rfl,aR⟩:=ad;have HF:=ai aR;clear aR ae;go_wp2_with fail;refine (ak ay _).mono ?_;rintro e bk ⟨rfl,aI⟩;have B7:=ai (B6.u.trans (aI.mono B6.u.size));have R7:=ai (R6.u.below aI);clear aI B6 R6 ay;go_wp2_with fail;refine (ak aK _).mono ?_;rintro e bl ⟨rfl,rfl⟩;have hbs:eqs b jg=(b.toList== [42]):=by unfold eqs jg;rw [aO];rfl
   cases two
   ·simp only [dR] at HF;exact Qx
   cases p
   ·simp only [fE,dR] at HF;exact Qx
   simp only [fE] at HF;rw [hbs] at HF;clear hbs
   cases hq:(b.toList== [42])
   ·exact Qw
   exact Qw
  have ad:=ae.u;simp only [Bool.not_false,Bool.not_true,nZ,bz,aP,hA] at ad;obtain ⟨rfl,rfl,rfl⟩:=ad;clear ae;go_wp2_with fail;refine (C9.u _).mono ?_;rintro e ac ⟨rfl,rfl⟩;have be:=R6.u.fz;have a6:ac.cell? ⟨w.heap.size,0,none⟩=some (.string ⟨#[]⟩):=R6.u.cell rfl;have a7:ac.cell? ⟨w.heap.size,1,none⟩=some (.string ⟨#[]⟩):=R6.u.cell rfl;have a8:ac.cell? ⟨w.heap.size,2,none⟩=some (.string ⟨#[]⟩):=R6.u.cell rfl;have r3:ac.cell? ⟨w.heap.size,3,none⟩=some (.string ⟨#[]⟩):=R6.u.cell rfl;have a9:ac.cell? ⟨w.heap.size,4,none⟩=some (.string ⟨#[]⟩):=R6.u.cell rfl;have ba:ac.cell? ⟨w.heap.size,5,none⟩=some (.string ⟨#[]⟩):=R6.u.cell rfl;have bb:ac.cell? ⟨w.heap.size,6,none⟩=some (.string ⟨#[]⟩):=R6.u.cell rfl;have rl:=R6.u.lt;have a4:¬(ac.heap.size=w.heap.size):=aj;have a5:¬(w.heap.size=ac.heap.size):=aj;exact LL
 ·have ad:=ae.u;simp only [Bool.not_true,dR,bz,aP,hA] at ad;obtain ⟨rfl,rfl,rfl⟩:=ad;clear ae;go_wp2_with fail;refine (C9.u _).mono ?_;rintro e ac ⟨rfl,rfl⟩;have be:=R6.u.fz;have a6:ac.cell? ⟨w.heap.size,0,none⟩=some (.string ⟨#[]⟩):=R6.u.cell rfl;have a7:ac.cell? ⟨w.heap.size,1,none⟩=some (.string ⟨#[]⟩):=R6.u.cell rfl;have a8:ac.cell? ⟨w.heap.size,2,none⟩=some (.string ⟨#[]⟩):=R6.u.cell rfl;have r3:ac.cell? ⟨w.heap.size,3,none⟩=some (.string ⟨#[]⟩):=R6.u.cell rfl;have a9:ac.cell? ⟨w.heap.size,4,none⟩=some (.string ⟨#[]⟩):=R6.u.cell rfl;have ba:ac.cell? ⟨w.heap.size,5,none⟩=some (.string ⟨#[]⟩):=R6.u.cell rfl;have bb:ac.cell? ⟨w.heap.size,6,none⟩=some (.string ⟨#[]⟩):=R6.u.cell rfl;have rl:=R6.u.lt;have a4:¬(ac.heap.size=w.heap.size):=aj;have a5:¬(w.heap.size=ac.heap.size):=aj
  cases all
  ·skip
   exact LL
  skip
  exact LL
