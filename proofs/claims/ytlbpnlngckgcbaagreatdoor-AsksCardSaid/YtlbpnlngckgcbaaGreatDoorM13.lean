import Derived.Test.YtlbpnlngckgcbaaGreatDoorM10
set_option linter.all false
set_option maxHeartbeats 4000000
set_option maxRecDepth 100000
namespace Go.Proofs.YtlbpnlngckgcbaaGreatDoor
open Go.RowKit Go.PlainAid Go.Proofs.Tryz
variable {aA aU:Prop}
def XL (h:aA:=by
 rw [hq] at HF;obtain rfl:=ak HF;clear HF;exact Q6):aA:=h
def XN (h:aA:=by
 obtain rfl:=ak HF;clear hbs HF;exact Q6):aA:=h
def Q7 (h:aA:=by
 rcases four ok has thing word with rfl|⟨rfl,rfl⟩|⟨rfl,rfl,rfl⟩|⟨rfl,rfl,rfl,rfl⟩|⟨rfl,rfl,rfl,rfl⟩
 all_goals (
  go_wp2;refine bq (v:=.tuple #[.agg ((Tu.mk kind id rel su sw BR).cells s),.bool _]) (bR results131 _ _ w.heap.size _ 264 _ _ rfl rfl ?_ underlying264 rfl aw) rfl ?_
  ·exact ⟨_,(cM R6),bc⟩
  ·exact ⟨rfl,(cd B6)⟩)):aA:=h
def Q6 (h:aA:=by
 go_wp2_with fail;refine (C9.u _).mono ?_;rintro e A ⟨rfl,rfl⟩;have V:=R7.u.fz;have D:A.cell? ⟨w.heap.size,0,none⟩=some (.string ⟨#[]⟩):=R7.u.cell rfl;have I:A.cell? ⟨w.heap.size,1,none⟩=some (.string ⟨#[]⟩):=R7.u.cell rfl;have J:A.cell? ⟨w.heap.size,2,none⟩=some (.string ⟨#[]⟩):=R7.u.cell rfl;have r3:A.cell? ⟨w.heap.size,3,none⟩=some (.string ⟨#[]⟩):=R7.u.cell rfl;have Q:A.cell? ⟨w.heap.size,4,none⟩=some (.string ⟨#[]⟩):=R7.u.cell rfl;have R:A.cell? ⟨w.heap.size,5,none⟩=some (.string ⟨#[]⟩):=R7.u.cell rfl;have U:A.cell? ⟨w.heap.size,6,none⟩=some (.string ⟨#[]⟩):=R7.u.cell rfl;have rl:=R7.u.lt;have C:¬(w.heap.size=A.heap.size):=aj
 rcases four ok has thing word with rfl|⟨rfl,rfl⟩|⟨rfl,rfl,rfl⟩|⟨rfl,rfl,rfl,rfl⟩|⟨rfl,rfl,rfl,rfl⟩
 all_goals (
  go_wp2;refine bq (v:=.tuple #[.agg ((Tu.mk kind id rel su jB BR).cells s),.bool _]) (bR results131 _ _ w.heap.size _ 264 _ _ rfl rfl ?_ underlying264 rfl aw) rfl ?_
  ·exact ⟨_,(cM R7),bc⟩
  ·exact ⟨rfl,(cd B7)⟩)):aA:=h
def Q8(q:aU) (h:bF aU->aA:=by
 intro zq;have rz:=R6.u.fz;have r0:w9.cell? ⟨w.heap.size,0,none⟩=some (.string ⟨#[]⟩):=R6.u.cell rfl;have r1:w9.cell? ⟨w.heap.size,1,none⟩=some (.string ⟨#[]⟩):=R6.u.cell rfl;have r2:w9.cell? ⟨w.heap.size,2,none⟩=some (.string ⟨#[]⟩):=R6.u.cell rfl;have r3:w9.cell? ⟨w.heap.size,3,none⟩=some (.string ⟨#[]⟩):=R6.u.cell rfl;have r4:w9.cell? ⟨w.heap.size,4,none⟩=some (.string ⟨#[]⟩):=R6.u.cell rfl;have r5:w9.cell? ⟨w.heap.size,5,none⟩=some (.string ⟨#[]⟩):=R6.u.cell rfl;have r6:w9.cell? ⟨w.heap.size,6,none⟩=some (.string ⟨#[]⟩):=R6.u.cell rfl;have rl:=R6.u.lt;have C8:¬(w.heap.size=w9.heap.size):=aj
 revert rz r0 r1 r2 r3 r4 r5 r6 rl C8
 exact zq.1):aA:=h ⟨q⟩
def four(a b c d):a=false\/(a=true/\b=false)\/(a=true/\b=true/\c=false)\/(a=true/\b=true/\c=true/\d=false)\/(a=true/\b=true/\c=true/\d=true):=by
 cases a<;>cases b<;>cases c<;>cases d<;>simp
def wh(s w)(hs:s.size<=maxLen):
  Calls prog 131 #[.string s] w fun e w'=>e=.returned (.tuple #[.agg ((bQ s).1.cells s),.bool (bQ s).2])/\an w w':=by
 unfold bQ;have aN:=eM s 64;have ag:=ai (fun w=>lB s 64 64 rfl w hs);generalize aG s 64=aR at*;obtain ⟨l,r,ok⟩:=aR;simp only at aN ag ⊢;have aP:=eM l 35;have ah:=ai (fun w=>lB l 35 35 rfl w aj);generalize aG l 35=aS at*;obtain ⟨what,rel,has⟩:=aS;simp only at aP ah ⊢;have al:=ai (fun w=>pj what w aj);generalize ej what=aW at*;obtain ⟨kind,id,thing⟩:=aW;simp only at al ⊢;have aF:=ai (fun w=>iD rel w);generalize bz rel=word at*;have aQ:=eM r 35;have am:=ai (fun w=>lB r 35 35 rfl w aj);generalize aG r 35=aX at*;obtain ⟨who,BR,all⟩:=aX;simp only at aQ am ⊢;have ap:=ai (fun w=>pj who w aj);have ar:=ai (fun w=>lB who 58 58 rfl w aj);have C9:=ai (fun w=>iD BR w);generalize bz BR=q at*;have aH:=ai (fun w=>iD (aG who 58).1 w);obtain ⟨⟨su,sw,a1⟩,Y⟩:∃S,S=np who all:=⟨_,rfl⟩;rw [<-Y];unfold np at Y;generalize ej who=aY at*;generalize aG who 58=aZ at*;obtain ⟨sub,ww,a0⟩:=aY;obtain ⟨a,b,two⟩:=aZ;simp only at ap ar aH Y ⊢;generalize bz a=p at*;have Z:=ai Y;clear aN aP aQ hs Y;go_enter func131,ntmps131;have ab:=ai ((az _ w).alloc aD _:an w (w.alloc (.cells #[.string ⟨#[]⟩,.string ⟨#[]⟩,.string ⟨#[]⟩,.string ⟨#[]⟩,.string ⟨#[]⟩,.string ⟨#[]⟩,.string ⟨#[]⟩] 264)));have aI:=ai (aE.new w #[.string ⟨#[]⟩,.string ⟨#[]⟩,.string ⟨#[]⟩,.string ⟨#[]⟩,.string ⟨#[]⟩,.string ⟨#[]⟩,.string ⟨#[]⟩] 264);go_wp2_with fail;refine (ak ag _).mono ?_;rintro e w1 ⟨rfl,au⟩;have ac:=ai (ab.u.trans (au.mono ab.u.size));have aJ:=ai (aI.u.below au);clear au ab aI ag;go_wp2_with fail;refine (ak ah _).mono ?_;rintro e a2 ⟨rfl,av⟩;have ad:=ai (ac.u.trans (av.mono ac.u.size));have aK:=ai (aJ.u.below av);clear av ac aJ ah;go_wp2_with fail;refine (ak al _).mono ?_;rintro e a3 ⟨rfl,ax⟩;have ae:=ai (ad.u.trans (ax.mono ad.u.size));have R3:=ai (aK.u.below ax);clear ax ad aK al;go_wp2_with fail;refine (aF.u _).mono ?_;rintro e a4 ⟨rfl,rfl⟩;go_wp2_with fail;refine (ak am _).mono ?_;rintro e w5 ⟨rfl,ay⟩;have af:=ai (ae.u.trans (ay.mono ae.u.size));have aL:=ai (R3.u.below ay);clear ay ae R3 aF am;go_wp2_with fail;refine (ak ap _).mono ?_;rintro e a5 ⟨rfl,aB⟩;have B6:=ai (af.u.trans (aB.mono af.u.size));have R6:=ai (aL.u.below aB);clear aB af aL ap
 cases a0
 ·cases all
  ·have Y:=Z.u;simp only [Bool.not_false,Bool.and_self,if_true,gM] at Y;obtain ⟨rfl,rfl,aM⟩:=Y;have HF:=ai aM;clear aM Z;go_wp2_with fail;refine (ak ar _).mono ?_;rintro e a6 ⟨rfl,aC⟩;have B7:=ai (B6.u.trans (aC.mono B6.u.size));have R7:=ai (R6.u.below aC);clear aC B6 R6 ar;go_wp2_with fail;refine (ak aH _).mono ?_;rintro e a7 ⟨rfl,rfl⟩;have hbs:eqs b jB=(b.toList== [42]):=by unfold eqs jB;rw [aO];rfl
   cases two
   ·simp only [eB] at HF;exact XN
   cases p
   ·simp only [fE,eB] at HF;exact XN
   simp only [fE] at HF;rw [hbs] at HF;clear hbs
   cases hq:(b.toList== [42])
   ·exact XL
   exact XL
  have Y:=Z.u;simp only [Bool.not_false,Bool.not_true,oY,bH,aV,gM] at Y;obtain ⟨rfl,rfl,rfl⟩:=Y;clear Z;go_wp2_with fail;refine (C9.u _).mono ?_;rintro e w9 ⟨rfl,rfl⟩;refine Q8 ?_;intro rz r0 r1 r2 r3 r4 r5 r6 rl C8;exact Q7
 ·have Y:=Z.u;simp only [Bool.not_true,eB,bH,aV,gM] at Y;obtain ⟨rfl,rfl,rfl⟩:=Y;clear Z;go_wp2_with fail;refine (C9.u _).mono ?_;rintro e w9 ⟨rfl,rfl⟩;refine Q8 ?_;intro rz r0 r1 r2 r3 r4 r5 r6 rl C8
  cases all
  ·skip
   exact Q7
  skip
  exact Q7
