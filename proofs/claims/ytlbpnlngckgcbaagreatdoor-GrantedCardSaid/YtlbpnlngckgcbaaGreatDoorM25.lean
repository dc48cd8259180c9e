import Derived.Test.YtlbpnlngckgcbaaGreatDoorM24
set_option linter.all false
set_option maxHeartbeats 4000000
set_option maxRecDepth 100000
namespace Go.Proofs.YtlbpnlngckgcbaaGreatDoor
open Go.RowKit Go.PlainAid
def kZ (T:Tu) (g:Gr):Bool:=eqs g.ty T.sub&&eqs (bB g) (if eqs T.who jR then jR else T.of)
theorem NZ (b bm:Nat) (s:aei) (T:Tu) (w:World) (kv rv pv tv:Value) (kl:List (aei×Nat)) (rl:List RV) (pl:List PV) (l:List PX) (ss:List aei) (h:DU w b (.pointer (some ⟨bm,5,none⟩)) tv ss) (hd:DM w bm kv rv pv kl rl pl l) (r:Nat) (G:List Gr) (hf:aQ T.kind T.rel rl 0=(r:Int)) (hG:GrC rl pl r G) (hl:G.length≤1000000):
  Calls Tryz.prog 133 #[.pointer (some ⟨b,0,none⟩),.agg #[.string T.kind,.string T.id,.string T.rel,.string T.sub,.string T.who,.string T.of,.string s]] w fun e w'=>e=.returned (.bool (G.any (kZ T)))∧Below w.heap.size w w':=by
 have C1:=af (fun w' (k:Below w.heap.size w w')=>gT bm kv rv pv kl rl pl l T.kind T.rel w' (hd.below k));rw [hf] at C1;have C2:=af (fun w' (k:Below w.heap.size w w')=>hG bm kv rv pv kl l w' (hd.below k));have H:=af h;obtain ⟨R,hR⟩:∃R,R=G.any (kZ T):=⟨_,rfl⟩;rw [←hR];have HR:=af hR;have b0:=(Below.refl w.heap.size w).alloc aeg (.cells #[.string T.kind,.string T.id,.string T.rel,.string T.sub,.string T.who,.string T.of,.string s] 264);have B0:=af b0;have T0:=af (ai.new w #[.string T.kind,.string T.id,.string T.rel,.string T.sub,.string T.who,.string T.of,.string s] 264);have hbl:=h.blk.lt;have hne:¬(w.heap.size=b):=by omega
 have fT:¬(b=w.heap.size):=by omega
 obtain ⟨u0,u1⟩:=iH h.blk;clear hR b0 h hd hG hf;go_enter Tryz.func133,Tryz.ntmps133;go_wp2_with fail;have l0:=(ae B0).size;have U0:=af ((ae H).below (ae B0)).blk;generalize (w.alloc (.cells #[.string T.kind,.string T.id,.string T.rel,.string T.sub,.string T.who,.string T.of,.string s] 264))=W at*;clear u0 u1;obtain ⟨u0,u1⟩:=iH (ae U0);have x0:W.cell? ⟨w.heap.size,0,none⟩=some (.string T.kind):=(ae T0).cell rfl;have x2:W.cell? ⟨w.heap.size,2,none⟩=some (.string T.rel):=(ae T0).cell rfl;have D:=af (ae C1 W.drew (ae B0).drew);clear C1
 go_region_held3 (fun w'=>w'.cell? ⟨b,0,none⟩=some (.pointer (some ⟨bm,5,none⟩))∧w'.cell? ⟨w.heap.size,0,none⟩=some (.string T.kind)∧w'.cell? ⟨w.heap.size,2,none⟩=some (.string T.rel)) (go_keep)
  ((go_at_call 132;refine (ae D).mono ?_;rintro e w1 ⟨rfl,hb1⟩;have BB:=af (show Below W.heap.size W w1 from (Below.refl _ W).drew.trans hb1);have d0:=ag u0 (ae BB);have d1:=ag x0 (ae BB);have d2:=ag x2 (ae BB);clear hb1))
 have B1:=af ((ae B0).trans ((ae BB).mono l0));have T1:=af ((ae T0).below (ae BB));have U1:=af ((ae U0).below (ae BB));clear d0 d1 d2 u0 u1 x0 x2 D BB T0 U0 B0;obtain ⟨u0,u1⟩:=iH (ae U1);have l1:=(ae B1).size;have D2:=af (ae C2 w1 (ae B1));clear C2;go_wp2_with fail;refine (ae D2).mono ?_;rintro e w2 ⟨sv,rfl,hb2,hs2⟩;obtain ⟨ga,gc,rfl⟩:=au hs2;have B2:=af ((ae B1).trans (hb2.mono l1));have T2:=af ((ae T1).below hb2);have HS:=af hs2;have l2:=(ae B2).size;clear hb2 hs2 D2 T1 U1 B1 u0 u1;go_wp2_with fail
 go_loopw [7] (fun u wr=>∃k:Nat,k≤G.length∧u=.int .i64 k∧Below w2.heap.size w2 wr∧Hid (∀j,(h:j<G.length)→j<k→kZ T G[j]=false)) (fun u _=>G.length-(intOf u).toNat)
 case atStart=>exact ⟨0,by omega,rfl,Below.refl _ _,af (fun j h h'=>by omega)⟩
 case round=>
  obtain ⟨k,hk,rfl,hb,HN⟩:=hrel;have HB:=af ((ae B2).trans (hb.mono l2));have IJ:=af hb;have x3:wr.cell? ⟨w.heap.size,3,none⟩=some (.string T.sub):=((ae T2).below hb).cell rfl;have x4:wr.cell? ⟨w.heap.size,4,none⟩=some (.string T.who):=((ae T2).below hb).cell rfl;have x5:wr.cell? ⟨w.heap.size,5,none⟩=some (.string T.of):=((ae T2).below hb).cell rfl
  by_cases hlt:k<G.length
  ·have hkn:(k:Int)<(G.length:Int):=by omega
   obtain ⟨g,c,e1,hc⟩:=bP aJ 4 (fun _=>rfl) (ay (ae HS) hb) k G[k] (aeh hlt);simp only [Value.slice.injEq,true_and] at e1;obtain ⟨rfl,rfl⟩:=e1;have xy:=af (fun (he:kZ T G[k]=true)=>(show G.any (kZ T)=true from List.any_eq_true.2 ⟨G[k],List.getElem_mem hlt,he⟩));have Lt:=af (fun (he:kZ T G[k]=false)=>(show ∀j,(h:j<G.length)→j<k+1→kZ T G[j]=false from fun j h h'=>by
    by_cases e:j=k
    ·subst e;exact he
    ·exact ae HN j h (by omega)))
   generalize G[k]=y at*;have Vf:kZ T y=(eqs y.ty T.sub&&eqs (bB y) (if eqs T.who jR then jR else T.of)):=rfl;have hws:eqs T.who jR=(T.who.toList== [42]):=by unfold eqs jR;rw [aF];rfl
   rw [hws] at Vf
   cases hst:(T.who.toList== [42])
   ·rw [hst] at Vf;simp only [Bool.false_eq_true,if_false] at Vf;have N8:=af Vf;clear hws Vf;have g0:wr.cell? ⟨g,k*4,none⟩=some (.string y.ty):=hc 0 _ (by omega) rfl;have g1:wr.cell? ⟨g,k*4+1,none⟩=some (.string (bB y)):=hc 1 _ (by omega) rfl;generalize bB y=yr at*;have hE:eqs yr T.of=(yr.toList==T.of.toList):=aV _ _
    cases A7:eqs y.ty T.sub
    ·have YN:(y.ty.toList==T.sub.toList)=false:=by rw [←aV];exact A7
     have Ao:=af (ae Lt (by rw [ae N8,A7,Bool.false_and]));clear hb hc A7 Lt xy hE N8;go_wp2
     go_quiet (fail)
     go_wp2;go_roundw
     case rel=>exact ⟨k+1,by omega,by go_num,below_drewN (ae IJ) _,Ao⟩
     case measure=>simp [intOf];omega
    ·have YN:(y.ty.toList==T.sub.toList)=true:=by rw [←aV];exact A7
     cases sV:eqs yr T.of
     ·have U6:(yr.toList==T.of.toList)=false:=by rw [←hE];exact sV
      have Ao:=af (ae Lt (by rw [ae N8,A7,Bool.true_and];exact sV));clear hb hc A7 sV Lt xy hE N8;go_wp2
      go_quiet (fail)
      go_wp2;go_roundw
      case rel=>exact ⟨k+1,by omega,by go_num,below_drewN (ae IJ) _,Ao⟩
      case measure=>simp [intOf];omega
     ·have U6:(yr.toList==T.of.toList)=true:=by rw [←hE];exact sV
      have HF:=af (ae xy (by rw [ae N8,A7,Bool.true_and];exact sV));clear hb hc A7 sV Lt xy hE N8;go_wp2
      go_quiet (fail)
      go_wp2;go_ret;exact ⟨by rw [ae HR,ae HF];rfl,below_drewN (ae HB) _⟩
   ·rw [hst] at Vf;simp only [if_true] at Vf;have N8:=af Vf;clear hws Vf;have g0:wr.cell? ⟨g,k*4,none⟩=some (.string y.ty):=hc 0 _ (by omega) rfl;have g1:wr.cell? ⟨g,k*4+1,none⟩=some (.string (bB y)):=hc 1 _ (by omega) rfl;generalize bB y=yr at*;have hE:eqs yr jR=(yr.toList== [42]):=by unfold eqs jR;rw [aF];rfl
    cases A7:eqs y.ty T.sub
    ·have YN:(y.ty.toList==T.sub.toList)=false:=by rw [←aV];exact A7
     have Ao:=af (ae Lt (by rw [ae N8,A7,Bool.false_and]));clear hb hc A7 Lt xy hE N8;go_wp2
     go_quiet (fail)
     go_wp2;go_roundw
     case rel=>exact ⟨k+1,by omega,by go_num,below_drewN (ae IJ) _,Ao⟩
     case measure=>simp [intOf];omega
    ·have YN:(y.ty.toList==T.sub.toList)=true:=by rw [←aV];exact A7
     cases sV:eqs yr jR
     ·have U6:(yr.toList== [42])=false:=by rw [←hE];exact sV
      have Ao:=af (ae Lt (by rw [ae N8,A7,Bool.true_and];exact sV));clear hb hc A7 sV Lt xy hE N8;go_wp2
      go_quiet (fail)
      go_wp2;go_roundw
      case rel=>exact ⟨k+1,by omega,by go_num,below_drewN (ae IJ) _,Ao⟩
      case measure=>simp [intOf];omega
     ·have U6:(yr.toList== [42])=true:=by rw [←hE];exact sV
      have HF:=af (ae xy (by rw [ae N8,A7,Bool.true_and];exact sV));clear hb hc A7 sV Lt xy hE N8;go_wp2
      go_quiet (fail)
      go_wp2;go_ret;exact ⟨by rw [ae HR,ae HF];rfl,below_drewN (ae HB) _⟩
  ·have hkn:¬((k:Int)<(G.length:Int)):=by omega
   have HF:=af (show G.any (kZ T)=false from by
    rw [List.any_eq_false];intro y hy;obtain ⟨j,hj,rfl⟩:=List.getElem_of_mem hy;rw [ae HN j hj (by omega)];simp)
   clear hb;go_wp2;go_ret;exact ⟨by rw [ae HR,ae HF];rfl,ae HB⟩
theorem four (a b c d:Bool):a=false∨(a=true∧b=false)∨(a=true∧b=true∧c=false)∨(a=true∧b=true∧c=true∧d=false)∨(a=true∧b=true∧c=true∧d=true):=by
 cases a<;>cases b<;>cases c<;>cases d<;>simp
theorem zY (s:aei) (w:World) (hs:s.size≤maxLen):
  Calls Tryz.prog 131 #[.string s] w fun e w'=>e=.returned (.tuple #[.agg ((bE s).1.cells s),.bool (bE s).2])∧Below w.heap.size w w':=by
 unfold bE;have z1:=kT s 64;have C1:=af (fun w=>pY s 64 64 rfl w hs);generalize aB s 64=X1 at*;obtain ⟨l,r,ok⟩:=X1;simp only at z1 C1 ⊢;have z2:=kT l 35;have C2:=af (fun w=>pY l 35 35 rfl w (by omega));generalize aB l 35=X2 at*;obtain ⟨what,rel,has⟩:=X2;simp only at z2 C2 ⊢;have C3:=af (fun w=>yL what w (by omega));generalize kE what=X3 at*;obtain ⟨kind,id,thing⟩:=X3;simp only at C3 ⊢;have C4:=af (fun w=>mh rel w);generalize bJ rel=word at*;have z5:=kT r 35;have C5:=af (fun w=>pY r 35 35 rfl w (by omega));generalize aB r 35=X5 at*;obtain ⟨who,xW,all⟩:=X5;simp only at z5 C5 ⊢;have C6:=af (fun w=>yL who w (by omega));have C7:=af (fun w=>pY who 58 58 rfl w (by omega));have C9:=af (fun w=>mh xW w);generalize bJ xW=q at*;have C8:=af (fun w=>mh (aB who 58).1 w);obtain ⟨⟨su,sw,sf⟩,hS⟩:∃S,S=uJ who all:=⟨_,rfl⟩;rw [←hS];unfold uJ at hS;generalize kE who=X6 at*;generalize aB who 58=X7 at*;obtain ⟨sub,ww,fine⟩:=X6;obtain ⟨a,b,two⟩:=X7;simp only at C6 C7 C8 hS ⊢;generalize bJ a=p at*;have HS:=af hS;clear z1 z2 z5 hs hS;go_enter Tryz.func131,Tryz.ntmps131;have B0:=af (show Below w.heap.size w (w.alloc (.cells #[.string ⟨#[]⟩,.string ⟨#[]⟩,.string ⟨#[]⟩,.string ⟨#[]⟩,.string ⟨#[]⟩,.string ⟨#[]⟩,.string ⟨#[]⟩] 264)) from (Below.refl _ w).alloc aeg _);have R0:=af (ai.new w #[.string ⟨#[]⟩,.string ⟨#[]⟩,.string ⟨#[]⟩,.string ⟨#[]⟩,.string ⟨#[]⟩,.string ⟨#[]⟩,.string ⟨#[]⟩] 264);go_wp2_with fail;refine (ae C1 _).mono ?_;rintro e w1 ⟨rfl,hb1⟩;have B1:=af ((ae B0).trans (hb1.mono (ae B0).size));have R1:=af ((ae R0).below hb1);clear hb1 B0 R0 C1;go_wp2_with fail;refine (ae C2 _).mono ?_;rintro e w2 ⟨rfl,hb2⟩;have B2:=af ((ae B1).trans (hb2.mono (ae B1).size));have R2:=af ((ae R1).below hb2);clear hb2 B1 R1 C2;go_wp2_with fail;refine (ae C3 _).mono ?_;rintro e w3 ⟨rfl,hb3⟩;have B3:=af ((ae B2).trans (hb3.mono (ae B2).size));have R3:=af ((ae R2).below hb3);clear hb3 B2 R2 C3;go_wp2_with fail;refine (ae C4 _).mono ?_;rintro e w4 ⟨rfl,rfl⟩;go_wp2_with fail;refine (ae C5 _).mono ?_;rintro e w5 ⟨rfl,bV⟩;have B5:=af ((ae B3).trans (bV.mono (ae B3).size));have R5:=af ((ae R3).below bV);clear bV B3 R3 C4 C5;go_wp2_with fail;refine (ae C6 _).mono ?_;rintro e w6 ⟨rfl,tL⟩;have B6:=af ((ae B5).trans (tL.mono (ae B5).size));have R6:=af ((ae R5).below tL);clear tL B5 R5 C6
 cases fine
 ·cases all
  ·have hS:=ae HS;simp only [Bool.not_false,Bool.and_self,if_true,Prod.mk.injEq] at hS;obtain ⟨rfl,rfl,hf⟩:=hS;have HF:=af hf;clear hf HS;go_wp2_with fail;refine (ae C7 _).mono ?_;rintro e w7 ⟨rfl,qg⟩;have B7:=af ((ae B6).trans (qg.mono (ae B6).size));have R7:=af ((ae R6).below qg);clear qg B6 R6 C7;go_wp2_with fail;refine (ae C8 _).mono ?_;rintro e w8 ⟨rfl,rfl⟩;have hbs:eqs b jR=(b.toList== [42]):=by unfold eqs jR;rw [aF];rfl
   cases two
   ·simp only [Bool.false_and] at HF;obtain rfl:=ae HF;clear hbs HF;go_wp2_with fail;refine (ae C9 _).mono ?_;rintro e w9 ⟨rfl,rfl⟩;have rz:=(ae R7).fz;have r0:w9.cell? ⟨w.heap.size,0,none⟩=some (.string ⟨#[]⟩):=(ae R7).cell rfl;have r1:w9.cell? ⟨w.heap.size,1,none⟩=some (.string ⟨#[]⟩):=(ae R7).cell rfl;have r2:w9.cell? ⟨w.heap.size,2,none⟩=some (.string ⟨#[]⟩):=(ae R7).cell rfl;have r3:w9.cell? ⟨w.heap.size,3,none⟩=some (.string ⟨#[]⟩):=(ae R7).cell rfl;have r4:w9.cell? ⟨w.heap.size,4,none⟩=some (.string ⟨#[]⟩):=(ae R7).cell rfl;have r5:w9.cell? ⟨w.heap.size,5,none⟩=some (.string ⟨#[]⟩):=(ae R7).cell rfl;have r6:w9.cell? ⟨w.heap.size,6,none⟩=some (.string ⟨#[]⟩):=(ae R7).cell rfl;have rl:=(ae R7).lt;have hne:¬(w9.heap.size=w.heap.size):=by omega
    have fT:¬(w.heap.size=w9.heap.size):=by omega
    rcases four ok has thing word with rfl|⟨rfl,rfl⟩|⟨rfl,rfl,rfl⟩|⟨rfl,rfl,rfl,rfl⟩|⟨rfl,rfl,rfl,rfl⟩
    all_goals (
     go_wp2;refine bodyPost_ret (v:=.tuple #[.agg ((Tu.mk kind id rel su jR xW).cells s),.bool _]) (aS Tryz.results131 _ _ w.heap.size _ 264 _ _ rfl rfl ?_ Tryz.underlying264 rfl (by kernel_rfl)) rfl ?_
     ·exact ⟨_,(by with_reducible repeat (first|exact ae R7|apply ai.alloc|apply ai.drew|apply ai.set|(apply ai.other;case ha=>exact (by first|omega|(simp;omega)|simp)))),by rfl⟩
     ·exact ⟨rfl,(by with_reducible repeat (first|exact ae B7|refine Below.drew ?_|(refine Below.setCell ?_ ?_ _;rotate_left;exact (by first|omega|(simp;omega)|simp))|(refine Below.alloc ?_ ?_ _;rotate_left;exact (by first|omega|(simp;omega)|simp))))⟩)
   ·cases p
    ·simp only [Bool.true_and,Bool.false_and] at HF;obtain rfl:=ae HF;clear hbs HF;go_wp2_with fail;refine (ae C9 _).mono ?_;rintro e w9 ⟨rfl,rfl⟩;have rz:=(ae R7).fz;have r0:w9.cell? ⟨w.heap.size,0,none⟩=some (.string ⟨#[]⟩):=(ae R7).cell rfl;have r1:w9.cell? ⟨w.heap.size,1,none⟩=some (.string ⟨#[]⟩):=(ae R7).cell rfl;have r2:w9.cell? ⟨w.heap.size,2,none⟩=some (.string ⟨#[]⟩):=(ae R7).cell rfl;have r3:w9.cell? ⟨w.heap.size,3,none⟩=some (.string ⟨#[]⟩):=(ae R7).cell rfl;have r4:w9.cell? ⟨w.heap.size,4,none⟩=some (.string ⟨#[]⟩):=(ae R7).cell rfl;have r5:w9.cell? ⟨w.heap.size,5,none⟩=some (.string ⟨#[]⟩):=(ae R7).cell rfl;have r6:w9.cell? ⟨w.heap.size,6,none⟩=some (.string ⟨#[]⟩):=(ae R7).cell rfl;have rl:=(ae R7).lt;have hne:¬(w9.heap.size=w.heap.size):=by omega
     have fT:¬(w.heap.size=w9.heap.size):=by omega
     rcases four ok has thing word with rfl|⟨rfl,rfl⟩|⟨rfl,rfl,rfl⟩|⟨rfl,rfl,rfl,rfl⟩|⟨rfl,rfl,rfl,rfl⟩
     all_goals (
      go_wp2;refine bodyPost_ret (v:=.tuple #[.agg ((Tu.mk kind id rel su jR xW).cells s),.bool _]) (aS Tryz.results131 _ _ w.heap.size _ 264 _ _ rfl rfl ?_ Tryz.underlying264 rfl (by kernel_rfl)) rfl ?_
      ·exact ⟨_,(by with_reducible repeat (first|exact ae R7|apply ai.alloc|apply ai.drew|apply ai.set|(apply ai.other;case ha=>exact (by first|omega|(simp;omega)|simp)))),by rfl⟩
      ·exact ⟨rfl,(by with_reducible repeat (first|exact ae B7|refine Below.drew ?_|(refine Below.setCell ?_ ?_ _;rotate_left;exact (by first|omega|(simp;omega)|simp))|(refine Below.alloc ?_ ?_ _;rotate_left;exact (by first|omega|(simp;omega)|simp))))⟩)
    ·simp only [Bool.true_and] at HF;rw [hbs] at HF;clear hbs
     cases hq:(b.toList== [42])
     ·rw [hq] at HF;obtain rfl:=ae HF;clear HF;go_wp2_with fail;refine (ae C9 _).mono ?_;rintro e w9 ⟨rfl,rfl⟩;have rz:=(ae R7).fz;have r0:w9.cell? ⟨w.heap.size,0,none⟩=some (.string ⟨#[]⟩):=(ae R7).cell rfl;have r1:w9.cell? ⟨w.heap.size,1,none⟩=some (.string ⟨#[]⟩):=(ae R7).cell rfl;have r2:w9.cell? ⟨w.heap.size,2,none⟩=some (.string ⟨#[]⟩):=(ae R7).cell rfl;have r3:w9.cell? ⟨w.heap.size,3,none⟩=some (.string ⟨#[]⟩):=(ae R7).cell rfl;have r4:w9.cell? ⟨w.heap.size,4,none⟩=some (.string ⟨#[]⟩):=(ae R7).cell rfl;have r5:w9.cell? ⟨w.heap.size,5,none⟩=some (.string ⟨#[]⟩):=(ae R7).cell rfl;have r6:w9.cell? ⟨w.heap.size,6,none⟩=some (.string ⟨#[]⟩):=(ae R7).cell rfl;have rl:=(ae R7).lt;have hne:¬(w9.heap.size=w.heap.size):=by omega
      have fT:¬(w.heap.size=w9.heap.size):=by omega
      rcases four ok has thing word with rfl|⟨rfl,rfl⟩|⟨rfl,rfl,rfl⟩|⟨rfl,rfl,rfl,rfl⟩|⟨rfl,rfl,rfl,rfl⟩
      all_goals (
       go_wp2;refine bodyPost_ret (v:=.tuple #[.agg ((Tu.mk kind id rel su jR xW).cells s),.bool _]) (aS Tryz.results131 _ _ w.heap.size _ 264 _ _ rfl rfl ?_ Tryz.underlying264 rfl (by kernel_rfl)) rfl ?_
       ·exact ⟨_,(by with_reducible repeat (first|exact ae R7|apply ai.alloc|apply ai.drew|apply ai.set|(apply ai.other;case ha=>exact (by first|omega|(simp;omega)|simp)))),by rfl⟩
       ·exact ⟨rfl,(by with_reducible repeat (first|exact ae B7|refine Below.drew ?_|(refine Below.setCell ?_ ?_ _;rotate_left;exact (by first|omega|(simp;omega)|simp))|(refine Below.alloc ?_ ?_ _;rotate_left;exact (by first|omega|(simp;omega)|simp))))⟩)
     ·rw [hq] at HF;obtain rfl:=ae HF;clear HF;go_wp2_with fail;refine (ae C9 _).mono ?_;rintro e w9 ⟨rfl,rfl⟩;have rz:=(ae R7).fz;have r0:w9.cell? ⟨w.heap.size,0,none⟩=some (.string ⟨#[]⟩):=(ae R7).cell rfl;have r1:w9.cell? ⟨w.heap.size,1,none⟩=some (.string ⟨#[]⟩):=(ae R7).cell rfl;have r2:w9.cell? ⟨w.heap.size,2,none⟩=some (.string ⟨#[]⟩):=(ae R7).cell rfl;have r3:w9.cell? ⟨w.heap.size,3,none⟩=some (.string ⟨#[]⟩):=(ae R7).cell rfl;have r4:w9.cell? ⟨w.heap.size,4,none⟩=some (.string ⟨#[]⟩):=(ae R7).cell rfl;have r5:w9.cell? ⟨w.heap.size,5,none⟩=some (.string ⟨#[]⟩):=(ae R7).cell rfl;have r6:w9.cell? ⟨w.heap.size,6,none⟩=some (.string ⟨#[]⟩):=(ae R7).cell rfl;have rl:=(ae R7).lt;have hne:¬(w9.heap.size=w.heap.size):=by omega
      have fT:¬(w.heap.size=w9.heap.size):=by omega
      rcases four ok has thing word with rfl|⟨rfl,rfl⟩|⟨rfl,rfl,rfl⟩|⟨rfl,rfl,rfl,rfl⟩|⟨rfl,rfl,rfl,rfl⟩
      all_goals (
       go_wp2;refine bodyPost_ret (v:=.tuple #[.agg ((Tu.mk kind id rel su jR xW).cells s),.bool _]) (aS Tryz.results131 _ _ w.heap.size _ 264 _ _ rfl rfl ?_ Tryz.underlying264 rfl (by kernel_rfl)) rfl ?_
       ·exact ⟨_,(by with_reducible repeat (first|exact ae R7|apply ai.alloc|apply ai.drew|apply ai.set|(apply ai.other;case ha=>exact (by first|omega|(simp;omega)|simp)))),by rfl⟩
       ·exact ⟨rfl,(by with_reducible repeat (first|exact ae B7|refine Below.drew ?_|(refine Below.setCell ?_ ?_ _;rotate_left;exact (by first|omega|(simp;omega)|simp))|(refine Below.alloc ?_ ?_ _;rotate_left;exact (by first|omega|(simp;omega)|simp))))⟩)
  ·have hS:=ae HS;simp only [Bool.not_false,Bool.not_true,Bool.and_false,Bool.false_eq_true,if_false,Prod.mk.injEq] at hS;obtain ⟨rfl,rfl,rfl⟩:=hS;clear HS;go_wp2_with fail;refine (ae C9 _).mono ?_;rintro e w9 ⟨rfl,rfl⟩;have rz:=(ae R6).fz;have r0:w9.cell? ⟨w.heap.size,0,none⟩=some (.string ⟨#[]⟩):=(ae R6).cell rfl;have r1:w9.cell? ⟨w.heap.size,1,none⟩=some (.string ⟨#[]⟩):=(ae R6).cell rfl;have r2:w9.cell? ⟨w.heap.size,2,none⟩=some (.string ⟨#[]⟩):=(ae R6).cell rfl;have r3:w9.cell? ⟨w.heap.size,3,none⟩=some (.string ⟨#[]⟩):=(ae R6).cell rfl;have r4:w9.cell? ⟨w.heap.size,4,none⟩=some (.string ⟨#[]⟩):=(ae R6).cell rfl;have r5:w9.cell? ⟨w.heap.size,5,none⟩=some (.string ⟨#[]⟩):=(ae R6).cell rfl;have r6:w9.cell? ⟨w.heap.size,6,none⟩=some (.string ⟨#[]⟩):=(ae R6).cell rfl;have rl:=(ae R6).lt;have hne:¬(w9.heap.size=w.heap.size):=by omega
   have fT:¬(w.heap.size=w9.heap.size):=by omega
   rcases four ok has thing word with rfl|⟨rfl,rfl⟩|⟨rfl,rfl,rfl⟩|⟨rfl,rfl,rfl,rfl⟩|⟨rfl,rfl,rfl,rfl⟩
   all_goals (
    go_wp2;refine bodyPost_ret (v:=.tuple #[.agg ((Tu.mk kind id rel su sw xW).cells s),.bool _]) (aS Tryz.results131 _ _ w.heap.size _ 264 _ _ rfl rfl ?_ Tryz.underlying264 rfl (by kernel_rfl)) rfl ?_
    ·exact ⟨_,(by with_reducible repeat (first|exact ae R6|apply ai.alloc|apply ai.drew|apply ai.set|(apply ai.other;case ha=>exact (by first|omega|(simp;omega)|simp)))),by rfl⟩
    ·exact ⟨rfl,(by with_reducible repeat (first|exact ae B6|refine Below.drew ?_|(refine Below.setCell ?_ ?_ _;rotate_left;exact (by first|omega|(simp;omega)|simp))|(refine Below.alloc ?_ ?_ _;rotate_left;exact (by first|omega|(simp;omega)|simp))))⟩)
 ·have hS:=ae HS;simp only [Bool.not_true,Bool.false_and,Bool.false_eq_true,if_false,Prod.mk.injEq] at hS;obtain ⟨rfl,rfl,rfl⟩:=hS;clear HS;go_wp2_with fail;refine (ae C9 _).mono ?_;rintro e w9 ⟨rfl,rfl⟩;have rz:=(ae R6).fz;have r0:w9.cell? ⟨w.heap.size,0,none⟩=some (.string ⟨#[]⟩):=(ae R6).cell rfl;have r1:w9.cell? ⟨w.heap.size,1,none⟩=some (.string ⟨#[]⟩):=(ae R6).cell rfl;have r2:w9.cell? ⟨w.heap.size,2,none⟩=some (.string ⟨#[]⟩):=(ae R6).cell rfl;have r3:w9.cell? ⟨w.heap.size,3,none⟩=some (.string ⟨#[]⟩):=(ae R6).cell rfl;have r4:w9.cell? ⟨w.heap.size,4,none⟩=some (.string ⟨#[]⟩):=(ae R6).cell rfl;have r5:w9.cell? ⟨w.heap.size,5,none⟩=some (.string ⟨#[]⟩):=(ae R6).cell rfl;have r6:w9.cell? ⟨w.heap.size,6,none⟩=some (.string ⟨#[]⟩):=(ae R6).cell rfl;have rl:=(ae R6).lt;have hne:¬(w9.heap.size=w.heap.size):=by omega
  have fT:¬(w.heap.size=w9.heap.size):=by omega
  cases all
  ·skip
   rcases four ok has thing word with rfl|⟨rfl,rfl⟩|⟨rfl,rfl,rfl⟩|⟨rfl,rfl,rfl,rfl⟩|⟨rfl,rfl,rfl,rfl⟩
   all_goals (
    go_wp2;refine bodyPost_ret (v:=.tuple #[.agg ((Tu.mk kind id rel su sw xW).cells s),.bool _]) (aS Tryz.results131 _ _ w.heap.size _ 264 _ _ rfl rfl ?_ Tryz.underlying264 rfl (by kernel_rfl)) rfl ?_
    ·exact ⟨_,(by with_reducible repeat (first|exact ae R6|apply ai.alloc|apply ai.drew|apply ai.set|(apply ai.other;case ha=>exact (by first|omega|(simp;omega)|simp)))),by rfl⟩
    ·exact ⟨rfl,(by with_reducible repeat (first|exact ae B6|refine Below.drew ?_|(refine Below.setCell ?_ ?_ _;rotate_left;exact (by first|omega|(simp;omega)|simp))|(refine Below.alloc ?_ ?_ _;rotate_left;exact (by first|omega|(simp;omega)|simp))))⟩)
  ·skip
   rcases four ok has thing word with rfl|⟨rfl,rfl⟩|⟨rfl,rfl,rfl⟩|⟨rfl,rfl,rfl,rfl⟩|⟨rfl,rfl,rfl,rfl⟩
   all_goals (
    go_wp2;refine bodyPost_ret (v:=.tuple #[.agg ((Tu.mk kind id rel su sw xW).cells s),.bool _]) (aS Tryz.results131 _ _ w.heap.size _ 264 _ _ rfl rfl ?_ Tryz.underlying264 rfl (by kernel_rfl)) rfl ?_
    ·exact ⟨_,(by with_reducible repeat (first|exact ae R6|apply ai.alloc|apply ai.drew|apply ai.set|(apply ai.other;case ha=>exact (by first|omega|(simp;omega)|simp)))),by rfl⟩
    ·exact ⟨rfl,(by with_reducible repeat (first|exact ae B6|refine Below.drew ?_|(refine Below.setCell ?_ ?_ _;rotate_left;exact (by first|omega|(simp;omega)|simp))|(refine Below.alloc ?_ ?_ _;rotate_left;exact (by first|omega|(simp;omega)|simp))))⟩)
def Ha (ss:List aei) (s:aei):Nat×List aei:=if dK s=false then (2,ss) else if mD ss s<0 then (9,ss) else (0,ss.eraseIdx (mD ss s).toNat)
def Kq (b:Nat) (tv:Value) (k:Nat):Prop:=k=b∨∃n c,tv=.slice (some ⟨k,0,none⟩) n c
def kN (b:Nat) (mp tv:Value) (w:World) (r:Nat×List aei) (e:Ending) (w':World):Prop:=∃tv',e=.returned (.int .i64 r.1)∧DU w' b mp tv' r.2∧bW (Kq b tv) w w'∧(∀k,Kq b tv' k→Kq b tv k∨w.heap.size≤k)
theorem kN.same {b:Nat} {mp tv:Value} {w w':World} {ss:List aei} (h:DU w b mp tv ss) (k:Below w.heap.size w w') (c:Nat):kN b mp tv w (c,ss) (.returned (.int .i64 c)) w':=⟨tv,rfl,h.below k,.of_below k,fun _ h=> .inl h⟩
theorem Tryz.infoDT:(Tryz.prog.info? 264).map (fun i=>(i.zero,i.size,i.bytes))=some (some (.agg #[.string ⟨#[]⟩,.string ⟨#[]⟩,.string ⟨#[]⟩,.string ⟨#[]⟩,.string ⟨#[]⟩,.string ⟨#[]⟩,.string ⟨#[]⟩]),7,112):=by kernel_rfl
theorem Vg {l:List aei} {x:aei} {k:Nat} (h:mD l x=k):k<l.length:=by
 unfold mD at h
 split at h
 ·rename_i i hi;rw [List.findIdx?_eq_some_iff_getElem] at hi;obtain ⟨hl,_⟩:=hi;omega
 ·omega
theorem Kr {ss:List aei} {k a:Nat} (hk:k<ss.length) (hn:k≠a):(ss.take (k+1)).eraseIdx a=(ss.take k).eraseIdx a++[ss[k]]:=by
 rw [List.take_succ_eq_append_getElem hk]
 by_cases h:a<k
 ·rw [List.eraseIdx_append_of_lt_length (by rw [List.length_take];omega)]
 ·rw [List.eraseIdx_of_length_le (by simp;omega),List.eraseIdx_of_length_le (by rw [List.length_take];omega)]
theorem Rf {ss:List aei} {a:Nat} (hk:a<ss.length):(ss.take (a+1)).eraseIdx a=(ss.take a).eraseIdx a:=by
 rw [List.take_succ_eq_append_getElem hk,List.eraseIdx_append_of_length_le (by rw [List.length_take];omega),List.eraseIdx_of_length_le (l:=ss.take a) (by rw [List.length_take];omega)];have:a-(ss.take a).length=0:=by rw [List.length_take];omega
 rw [this];simp
theorem Hd (b:Nat) (s:aei) (w:World) (mp tv:Value) (ss:List aei) (h:DU w b mp tv ss) (hs:s.size≤maxLen):
  Calls Tryz.prog 85 #[.pointer (some ⟨b,0,none⟩),.string s] w (kN b mp tv w (Ha ss s)):=by
 have C1:=af (zY s w hs);rw [Qr] at C1;unfold Tu.cells at C1;have H:=af h;have CP:=af (fun w' (k:Below w.heap.size w w')=>Ce b s w' mp tv ss (h.below k));have hbl:=h.blk.lt;unfold Ha;generalize hT:(bE s).1=T at C1;clear hT
 cases ho:dK s
 ·rw [ho] at C1;rw [if_pos rfl];generalize mD ss s=n at*;clear h hs ho;go_enter Tryz.func85,Tryz.ntmps85;go_wp2_with fail;refine (ae C1).mono ?_;rintro e w1 ⟨rfl,hb1⟩;have B1:=af (hb1.alloc hb1.size (.cells #[.string T.kind,.string T.id,.string T.rel,.string T.sub,.string T.who,.string T.of,.string s] 264));clear hb1 C1;go_wp2_with fail;refine (ae CP _ (ae B1)).mono ?_;rintro e w2 ⟨rfl,hb2⟩;have B2:=af ((ae B1).trans (hb2.mono (ae B1).size));clear hb2 CP B1;go_wp2;go_ret;exact kN.same (ae H) (ae B2) 2
 ·rw [ho] at C1;rw [if_neg (by simp)];clear ho hs
  by_cases hi:mD ss s<0
  ·rw [if_pos hi];generalize mD ss s=n at*;clear h;go_enter Tryz.func85,Tryz.ntmps85;go_wp2_with fail;refine (ae C1).mono ?_;rintro e w1 ⟨rfl,hb1⟩;have B1:=af (hb1.alloc hb1.size (.cells #[.string T.kind,.string T.id,.string T.rel,.string T.sub,.string T.who,.string T.of,.string s] 264));clear hb1 C1;go_wp2_with fail;refine (ae CP _ (ae B1)).mono ?_;rintro e w2 ⟨rfl,hb2⟩;have B2:=af ((ae B1).trans (hb2.mono (ae B1).size));clear hb2 CP B1;go_wp2;go_ret;exact kN.same (ae H) (ae B2) 9
  ·rw [if_neg hi];obtain ⟨a,ha⟩:∃a:Nat,mD ss s=a:=⟨(mD ss s).toNat,by omega⟩;have hal:=Vg ha;rw [ha,Int.toNat_natCast];rw [ha] at CP;obtain ⟨ta,tc,rfl⟩:=au h.row;have zf:=h.most;have ha0:¬((a:Int)<0):=by omega
   obtain ⟨i0,hi0,hz0,hz1,hz2⟩:=info_parts Tryz.infoDT;have HI:=af hi0;have fG:=af hz0;have fH:=af hz1;have fI:=af hz2;clear h hi ha hi0 hz0 hz1 hz2;go_enter Tryz.func85,Tryz.ntmps85;go_wp2_with fail;refine (ae C1).mono ?_;rintro e w1 ⟨rfl,hb1⟩;have B1:=af (hb1.alloc hb1.size (.cells #[.string T.kind,.string T.id,.string T.rel,.string T.sub,.string T.who,.string T.of,.string s] 264));clear hb1 C1;go_wp2_with fail;refine (ae CP _ (ae B1)).mono ?_;rintro e w2 ⟨rfl,hb2⟩;have B2:=af ((ae B1).trans (hb2.mono (ae B1).size));clear hb2 CP B1;go_wp2_with fail
   go_loopw [8,9] (fun vl vi wr=>∃(k:Nat) (L:List aei),k≤ss.length∧vi=.int .i64 k∧Below w.heap.size w wr∧wr.ownsRow w.heap.size 264 7 vl L.length (L.flatMap Lu)∧L.length≤k∧Hid (L=(ss.take k).eraseIdx a)) (fun _ vi _=>ss.length-(intOf vi).toNat)
   case atStart=>exact ⟨0,[],by omega,rfl,ae B2,World.ownsRow_nil _ _ _ _,by simp,af (by simp)⟩
   case round=>
    obtain ⟨k,L,hk,rfl,hb,hrow,hLk,HL⟩:=hrel;obtain ⟨la,lc,rfl⟩:=au hrow;have HB:=af hb;have HR:=af hrow;have hwr:=hb.size;have hd:=(ae H).below hb;obtain ⟨c0,c1⟩:=iH hd.blk
    by_cases hlt:k<ss.length
    ·have hkn:(k:Int)<(ss.length:Int):=by omega
     obtain ⟨g,c,e1,hc⟩:=bP Lu 7 (fun _=>rfl) hd.row k ss[k] (aeh hlt);simp only [Value.slice.injEq,true_and] at e1;obtain ⟨rfl,rfl⟩:=e1;have hL:=ae HL
     by_cases hka:k=a
     ·have hq:((k:Int) != (a:Int))=false:=by rw [hka];simp
      have lJ:((k:Int)==(a:Int))=true:=by rw [hka];simp
      have xG:=af (show L=(ss.take (k+1)).eraseIdx a from by rw [hL,hka];exact (Rf (by omega)).symm);clear hb hrow hd hc hL hka;go_wp2;go_roundw
      case rel=>exact ⟨k+1,L,by omega,by go_num,ae HB,ae HR,by omega,xG⟩
      case measure=>simp [intOf];omega
     ·have hq:((k:Int) != (a:Int))=true:=by rw [bne_iff_ne];omega
      have lJ:((k:Int)==(a:Int))=false:=by rw [beq_eq_false_iff_ne];omega
      have xG:=af (show L++[ss[k]]=(ss.take (k+1)).eraseIdx a from by rw [hL,Kr hlt hka]);generalize ss[k]=y at*;have k0:wr.cell? ⟨g,k*7,none⟩=some (.string (bE y).1.kind):=hc 0 _ (by omega) rfl;have k1:=hc 1 _ (by omega) rfl;have k2:=hc 2 _ (by omega) rfl;have k3:=hc 3 _ (by omega) rfl;have k4:=hc 4 _ (by omega) rfl;have k5:=hc 5 _ (by omega) rfl;have k6:=hc 6 _ (by omega) rfl;have hYC:Lu y=[.string (bE y).1.kind,.string (bE y).1.id,.string (bE y).1.rel,.string (bE y).1.sub,.string (bE y).1.who,.string (bE y).1.of,.string y]:=rfl;generalize (bE y).1=Y at*;have HYC:=af hYC;clear hb hrow hd hc hL hka hYC;go_wp2_with (at_builtin;go_must (refine wpList_append_lies _ rfl _ _ 260 rfl w.heap.size 264 i0 _ 7 112 Tryz.underlying260 (ae HI) (ae fG) (ae fH) (ae fI) rfl (by decide) (.slice la L.length lc) L.length (L.flatMap Lu) rfl ?hown ⟨wr.heap.size,0,none⟩ 1 1 [.string Y.kind,.string Y.id,.string Y.rel,.string Y.sub,.string Y.who,.string Y.of,.string y] rfl rfl ?hnews ?hone (by decide) ?h63 ?hbytes ?hbase (wr.heap.size+1) ?hH ?hrest))
      case hown=>exact (ae HR).alloc _
      case hnews=>exact World.news_of_block (B:=wr.heap.size) (cs:=#[.string Y.kind,.string Y.id,.string Y.rel,.string Y.sub,.string Y.who,.string Y.of,.string y]) (t:=264) (fr:=(0,0)) (ai.new _ _ _)
      case hone=>
       intro u hu;simp at hu
       rcases hu with rfl|rfl|rfl|rfl|rfl|rfl|rfl<;>rfl
      case h63=>unfold maxLen;omega
      case hbytes=>omega
      case hbase=>have:=(ae HB).size;simp;omega
      case hH=>simp
      case hrest=>
       intro g5 aD w5 aC aj aP di;have fU:=(ae HR).alloc (.cells #[.string Y.kind,.string Y.id,.string Y.rel,.string Y.sub,.string Y.who,.string Y.of,.string y] 264);have B5:=af (Below.grown ((ae HB).alloc (ae HB).size (.cells #[.string Y.kind,.string Y.id,.string Y.rel,.string Y.sub,.string Y.who,.string Y.of,.string y] 264)) aj (by have:=(ae HB).size;simp;omega) (fun k hk=>(fU.lt k hk).1));have O5:=af (show w5.ownsRow w.heap.size 264 7 (.slice (some ⟨g5,0,none⟩) (L.length+1) aD) (L++[y]).length ((L++[y]).flatMap Lu) from by
        rw [show (L++[y]).length=L.length+1 by simp,List.flatMap_append,List.flatMap_singleton,ae HYC];exact aC)
       clear fU aC aj aP;go_wp2;go_roundw
       case rel=>exact ⟨k+1,L++[y],by omega,by go_num,ae B5,(by have:=ae O5;rw [show (L++[y]).length=L.length+1 by simp] at this ⊢;exact this),by simp;omega,xG⟩
       case measure=>simp [intOf];omega
    ·have hkn:¬((k:Int)<(ss.length:Int)):=by omega
     have hL:L=ss.eraseIdx a:=by
      have:=ae HL;rw [List.take_of_length_le (by omega)] at this;exact this
     have UB:=af hd.blk;have cz:=hd.blk.fz;have HLE:=af hL;clear hb hrow hd HL hL;go_wp2;go_ret;have hL:=ae HLE;have hS:Kq b (.slice ta ss.length tc) b:=.inl rfl;have vZ:∀g n c,Value.slice la L.length lc=.slice (some ⟨g,0,none⟩) n c→w.heap.size≤g:=fun g n c e=>by
      have hr:=ae HR;simp only [Value.slice.injEq] at e;obtain ⟨rfl,_,_⟩:=e;obtain ⟨cur,hb,hge⟩:=jQ hr;exact hge
     refine ⟨.slice la L.length lc,rfl,⟨(ae UB).set 1 _,?_,?_,by show (ss.eraseIdx a).length≤1000;rw [←hL];omega⟩,(bW.of_below (ae HB)).set hS _,?_⟩
     ·show World.ownsRow _ 0 264 7 _ (ss.eraseIdx a).length ((ss.eraseIdx a).flatMap Lu)
      rw [←hL];refine ak (fB (ae HR)) (fun g' cs f _ hh=>Below.heap_setCell _ _ _ _ (fun (e':g'=b)=> ?_));subst e';have:=ae UB;unfold ai at this;rw [hh] at this;simp at this
     ·intro g n c e e';have:=vZ g n c e;omega
     ·rintro k' (rfl|⟨n,c,e⟩)
      ·exact .inl (.inl rfl)
      ·exact .inr (vZ k' n c e)
def Sk (rl:List RV) (bz:Nat→List Gr) (ss:List aei) (s:aei):Nat×List aei:=if dK s=false then (2,ss) else if aQ (bE s).1.kind (bE s).1.rel rl 0<0 then (5,ss) else if (bz (aQ (bE s).1.kind (bE s).1.rel rl 0).toNat).any (kZ (bE s).1)=false then (7,ss) else if 0≤mD ss s then (4,ss) else if ss.length=24 then (8,ss) else (0,ss++[s])
theorem Rh {b:Nat} {mp:Value} {ta:Option Addr} {tc:Nat} {ss:List aei} {s:aei} {w W w5:World} {o:Obj} {g5 aD:Nat} (H:DU w b mp (.slice ta ss.length tc) ss) (hB:Below w.heap.size w W) (EG:ss.length<1000)
  (G5:(W.alloc o).drew.grownBy w5 (Value.slice ta ss.length tc).ownBlock) (O5:w5.ownsRow 0 264 7 (.slice (some ⟨g5,0,none⟩) (ss.length+1) aD) (ss.length+1) (ss.flatMap Lu++Lu s)) (A5:(Value.slice ta ss.length tc).ownBlock=some g5∨g5=W.heap.size+1)
  (K5:ai w5 b #[mp,.slice ta ss.length tc] 262):
  kN b mp (.slice ta ss.length tc) w (0,ss++[s]) (.returned (.int .i64 0)) (w5.setCell ⟨b,1,none⟩ (.slice (some ⟨g5,0,none⟩) (ss.length+1) aD)):=by
 have vZ:∀k,(Value.slice ta ss.length tc).ownBlock=some k→Kq b (.slice ta ss.length tc) k:=fun k hk=>by
  rcases H.row.2 with ⟨e,_⟩|⟨g',cap,cur,e,_,_,_⟩
  ·rw [e] at hk;simp [Value.ownBlock] at hk
  ·rw [e] at hk ⊢;simp only [Value.ownBlock,Option.some.injEq] at hk;exact .inr ⟨_,_,by rw [hk]⟩
 have b2:=(hB.alloc hB.size o).drew;refine ⟨_,rfl,⟨K5.set 1 _,?_,?_,by show (ss++[s]).length≤1000;simp;omega⟩,((bW.of_below b2).trans (eQ G5 vZ)).set (.inl rfl) _,?_⟩
 ·show World.ownsRow _ 0 264 7 _ (ss++[s]).length ((ss++[s]).flatMap Lu)
  have:=aX O5 K5 (by decide) 1 (.slice (some ⟨g5,0,none⟩) (ss.length+1) aD);rw [List.flatMap_append,List.flatMap_singleton,List.length_append];exact this
 ·intro g n c e e';simp only [Value.slice.injEq,Option.some.injEq,Addr.mk.injEq,and_true] at e;obtain ⟨rfl,_,_⟩:=e;obtain ⟨cur,hc,_⟩:=jQ O5;subst e';unfold ai at hc K5;rw [K5] at hc;simp at hc
 ·rintro k (rfl|⟨n,c,e⟩)
  ·exact .inl (.inl rfl)
  ·simp only [Value.slice.injEq,Option.some.injEq,Addr.mk.injEq,and_true] at e;obtain ⟨rfl,_,_⟩:=e
   rcases A5 with h|h
   ·exact .inl (vZ _ h)
   ·exact .inr (by have:=hB.size;omega)
theorem Kt (b bm:Nat) (s:aei) (w:World) (kv rv pv tv:Value) (kl:List (aei×Nat)) (rl:List RV) (pl:List PV) (l:List PX) (ss:List aei) (bz:Nat→List Gr) (h:DU w b (.pointer (some ⟨bm,5,none⟩)) tv ss) (hd:DM w bm kv rv pv kl rl pl l) (hG:vD rl pl bz) (hs:s.size≤maxLen) (h999:ss.length<1000):
  Calls Tryz.prog 84 #[.pointer (some ⟨b,0,none⟩),.string s] w (kN b (.pointer (some ⟨bm,5,none⟩)) tv w (Sk rl bz ss s)):=by
 have C1:=af (zY s w hs);rw [Qr] at C1;unfold Tu.cells at C1;have H:=af h;have CP:=af (fun w' (k:Below w.heap.size w w')=>Ce b s w' _ tv ss (h.below k));have hbl:=h.blk.lt;have HTC:=af (show Lu s=[.string (bE s).1.kind,.string (bE s).1.id,.string (bE s).1.rel,.string (bE s).1.sub,.string (bE s).1.who,.string (bE s).1.of,.string s] from rfl);unfold Sk;generalize (bE s).1=T at*;obtain ⟨r,hr⟩:∃r,r=(if dK s=false then (2,ss) else if aQ T.kind T.rel rl 0<0 then (5,ss) else if (bz (aQ T.kind T.rel rl 0).toNat).any (kZ T)=false then (7,ss) else if 0≤mD ss s then (4,ss) else if ss.length=24 then (8,ss) else (0,ss++[s])):=⟨_,rfl⟩;rw [←hr]
 cases ho:dK s
 ·rw [ho] at C1 hr;rw [if_pos rfl] at hr;subst hr;clear h hs ho hd hG;go_enter Tryz.func84,Tryz.ntmps84;go_wp2_with fail;refine (ae C1).mono ?_;rintro e w1 ⟨rfl,hb1⟩;have B1:=af (hb1.alloc hb1.size (.cells #[.string T.kind,.string T.id,.string T.rel,.string T.sub,.string T.who,.string T.of,.string s] 264));clear hb1 C1;go_wp2;go_ret;exact kN.same (ae H) (ae B1) 2
 ·rw [ho] at C1 hr;rw [if_neg (by simp)] at hr;have Ar:=af hr;have CF:=af (fun w' (k:Below w.heap.size w w')=>gT bm kv rv pv kl rl pl l T.kind T.rel w' (hd.below k));have CL:=af (fun (q:Nat) (hq:aQ T.kind T.rel rl 0=(q:Int)) (hql:q<rl.length) w' (k:Below w.heap.size w w')=>NZ b bm s T w' kv rv pv tv kl rl pl l ss (h.below k) (hd.below k) q (bz q) hq (hG q hql).1 (hG q hql).2);have HFC:=af (cK T.kind T.rel rl 0);obtain ⟨ta,tc,rfl⟩:=au h.row;clear h hs ho hd hG hr;go_enter Tryz.func84,Tryz.ntmps84;go_wp2_with fail;refine (ae C1).mono ?_;rintro e w1 ⟨rfl,hb1⟩;have B1:=af (hb1.alloc hb1.size (.cells #[.string T.kind,.string T.id,.string T.rel,.string T.sub,.string T.who,.string T.of,.string s] 264));have U1:=af ((ae H).below (ae B1)).blk;have T1:=af (ai.new w1 #[.string T.kind,.string T.id,.string T.rel,.string T.sub,.string T.who,.string T.of,.string s] 264);have hne:¬(w1.heap.size=b):=by have:=hb1.size;omega
  have fT:¬(b=w1.heap.size):=by have:=hb1.size;omega
  clear hb1 C1;go_wp2_with fail;have l1:=(ae B1).size;generalize (w1.alloc (.cells #[.string T.kind,.string T.id,.string T.rel,.string T.sub,.string T.who,.string T.of,.string s] 264))=W at*;obtain ⟨u0,u1⟩:=iH (ae U1);have x0:W.cell? ⟨w1.heap.size,0,none⟩=some (.string T.kind):=(ae T1).cell rfl;have x2:W.cell? ⟨w1.heap.size,2,none⟩=some (.string T.rel):=(ae T1).cell rfl;have D:=af (ae CF W.drew (ae B1).drew);obtain ⟨n,hn⟩:∃n,n=aQ T.kind T.rel rl 0:=⟨_,rfl⟩;rw [←hn] at D HFC Ar CL;clear CF hn
  go_region_held3 (fun w'=>w'.cell? ⟨b,0,none⟩=some (.pointer (some ⟨bm,5,none⟩))∧w'.cell? ⟨w1.heap.size,0,none⟩=some (.string T.kind)∧w'.cell? ⟨w1.heap.size,2,none⟩=some (.string T.rel)) (go_keep)
   ((go_at_call 132;refine (ae D).mono ?_;rintro e w2 ⟨rfl,hb2⟩;have BB:=af (show Below W.heap.size W w2 from (Below.refl _ W).drew.trans hb2);have d0:=ag u0 (ae BB);have d1:=ag x0 (ae BB);have d2:=ag x2 (ae BB);clear hb2))
  have B2:=af ((ae B1).trans ((ae BB).mono l1));have T2:=af ((ae T1).below (ae BB));have l2:=(ae B2).size;clear d0 d1 d2 u0 u1 x0 x2 D BB T1 U1 B1
  by_cases hn:n<0
  ·have hr:=ae Ar;rw [if_pos hn] at hr;subst hr;clear Ar;go_wp2;go_ret;exact kN.same (ae H) (ae B2) 5
  ·have hr:=ae Ar;rw [if_neg hn] at hr;obtain ⟨q,hq,hql⟩:∃q:Nat,n=q∧q<rl.length:=by
    rcases ae HFC with h|⟨j,h,_,h2⟩
    ·omega
    ·exact ⟨j,h,by omega⟩
   subst hq;rw [Int.toNat_natCast] at hr;have dS:=af hr;have E:=af (ae CL q rfl hql w2 (ae B2));obtain ⟨y0,y1,y2,y3,y4,y5,y6⟩:w2.cell? ⟨w1.heap.size,0,none⟩=some (.string T.kind)∧w2.cell? ⟨w1.heap.size,1,none⟩=some (.string T.id)∧w2.cell? ⟨w1.heap.size,2,none⟩=some (.string T.rel)∧w2.cell? ⟨w1.heap.size,3,none⟩=some (.string T.sub)∧w2.cell? ⟨w1.heap.size,4,none⟩=some (.string T.who)∧w2.cell? ⟨w1.heap.size,5,none⟩=some (.string T.of)∧w2.cell? ⟨w1.heap.size,6,none⟩=some (.string s):=⟨(ae T2).cell rfl,(ae T2).cell rfl,(ae T2).cell rfl,(ae T2).cell rfl,(ae T2).cell rfl,(ae T2).cell rfl,(ae T2).cell rfl⟩;generalize (bz q).any (kZ T)=may at*;clear hr Ar HFC CL;go_wp2_with fail;refine (ae E).mono ?_;rintro e w3 ⟨rfl,hb3⟩;have B3:=af ((ae B2).trans (hb3.mono l2));have T3:=af ((ae T2).below hb3);have F:=af (ae CP w3 (ae B3));have l3:=(ae B3).size;clear hb3 E CP B2 T2 y0 y1 y2 y3 y4 y5 y6;generalize mD ss s=m at*;go_wp2_with fail;refine (ae F).mono ?_;rintro e w4 ⟨rfl,hb4⟩;have B4:=af ((ae B3).trans (hb4.mono l3));have T4:=af ((ae T3).below hb4);have U4:=af ((ae H).below (ae B4));obtain ⟨u0,u1⟩:=iH (ae U4).blk;clear hb4 F B3 T3
   cases may
   ·have hr:=ae dS;rw [if_pos rfl] at hr;subst hr;clear dS;go_wp2;go_ret;exact kN.same (ae H) (ae B4) 7
   ·have hr:=ae dS;rw [if_neg (by simp)] at hr
    by_cases hm:0≤m
    ·rw [if_pos hm] at hr;subst hr;clear dS;go_wp2;go_ret;exact kN.same (ae H) (ae B4) 4
    ·rw [if_neg hm] at hr;have hm':decide (0≤m)=false:=decide_eq_false hm
     by_cases EG:ss.length=24
     ·rw [if_pos EG] at hr;subst hr;have Yk:((ss.length:Int)==24)=true:=by rw [EG];rfl
      clear dS EG;go_wp2;go_ret;exact kN.same (ae H) (ae B4) 8
     ·rw [if_neg EG] at hr;subst hr;have Yk:((ss.length:Int)==24)=false:=by rw [beq_eq_false_iff_ne];omega
      clear dS EG;have y0:w4.cell? ⟨w1.heap.size,0,none⟩=some (.string T.kind):=(ae T4).cell rfl;have y1:w4.cell? ⟨w1.heap.size,1,none⟩=some (.string T.id):=(ae T4).cell rfl;have y2:w4.cell? ⟨w1.heap.size,2,none⟩=some (.string T.rel):=(ae T4).cell rfl;have y3:w4.cell? ⟨w1.heap.size,3,none⟩=some (.string T.sub):=(ae T4).cell rfl;have y4:w4.cell? ⟨w1.heap.size,4,none⟩=some (.string T.who):=(ae T4).cell rfl;have y5:w4.cell? ⟨w1.heap.size,5,none⟩=some (.string T.of):=(ae T4).cell rfl;have y6:w4.cell? ⟨w1.heap.size,6,none⟩=some (.string s):=(ae T4).cell rfl;go_wp2_with fail;obtain ⟨i0,hi0,hz0,hz1,hz2⟩:=info_parts Tryz.infoDT;have HI:=af hi0;have fG:=af hz0;have fH:=af hz1;have fI:=af hz2;clear hi0 hz0 hz1 hz2;have hbk:=(ae U4).blk;have hz:=hbk.fz;have HO:=af (ae U4).row;have m7:=World.new_ne w4 _ u1;have m8:=World.new_ne w4 _ y0;have c7:(w4.alloc (.cells #[.string T.kind,.string T.id,.string T.rel,.string T.sub,.string T.who,.string T.of,.string s] 264)).cell? ⟨b,1,none⟩=some (.slice ta ss.length tc):=(hbk.alloc _).cell rfl;have aaK:¬(b=w4.heap.size):=by have:=hbk.lt;omega
      have uO:=af hbk;clear hbk;have rM:=af (show ∀u∈([.string T.kind,.string T.id,.string T.rel,.string T.sub,.string T.who,.string T.of,.string s]:List Value),u.oneCell'=true from by
       intro u hu;simp only [List.mem_cons,List.not_mem_nil,or_false] at hu
       rcases hu with rfl|rfl|rfl|rfl|rfl|rfl|rfl<;>rfl)
      have Dy:=af (show ss.length+1≤maxLen from by unfold maxLen;omega);have AC:=af (show (ss.length+1)*112≤140737488355328 from by omega);have HS:=af (show 0≤(w4.alloc (.cells #[.string T.kind,.string T.id,.string T.rel,.string T.sub,.string T.who,.string T.of,.string s] 264)).drew.heap.size from Nat.zero_le _);have HH:=af (show (w4.alloc (.cells #[.string T.kind,.string T.id,.string T.rel,.string T.sub,.string T.who,.string T.of,.string s] 264)).drew.heap.size=w4.heap.size+1 from by simp)
      go_region_law (refine step_append_lies _ rfl (.tmp 51) (.tmp 53) 260 rfl 0 264 i0 _ 7 112 Tryz.underlying260 (ae HI) (ae fG) (ae fH) (ae fI) rfl (by decide) (.slice ta ss.length tc) ss.length (ss.flatMap Lu) (by simp [Act.eval,Act.put]) (bK ((ae HO).alloc _)) ⟨w4.heap.size,0,none⟩ 1 1 [.string T.kind,.string T.id,.string T.rel,.string T.sub,.string T.who,.string T.of,.string s] (by simp [Act.eval,Act.put]) rfl (World.news_of_block (B:=w4.heap.size) (cs:=#[.string T.kind,.string T.id,.string T.rel,.string T.sub,.string T.who,.string T.of,.string s]) (t:=264) (fr:=(0,0)) (ai.new w4 _ _).drew) (ae rM) (by decide) (ae Dy) (ae AC) (ae HS) (w4.heap.size+1) (ae HH) ?_;intro g5 aD w5 aC aj aP di;have fU:=bK ((ae HO).alloc (.cells #[.string T.kind,.string T.id,.string T.rel,.string T.sub,.string T.who,.string T.of,.string s] 264));have uP:=((ae uO).alloc (.cells #[.string T.kind,.string T.id,.string T.rel,.string T.sub,.string T.who,.string T.of,.string s] 264)).drew;have K5:ai w5 b _ 262:=(aj.block b uP.lt (own_ne fU uP (by decide))).trans uP;obtain ⟨q0,q1⟩:=iH K5;have zq:=K5.fz;have Xg:=af K5;have G5:=af aj;have O5:=af aC;have A5:=af aP;have lq:=K5.lt;clear fU uP K5 aj aC aP)
      all_goals
       go_wp2;go_ret;exact Rh (ae H) (ae B4) (by omega) (ae G5) (by rw [ae HTC];exact ae O5) (ae A5) (ae Xg)
theorem gU (a c:aei):(a++c).size=a.size+c.size:=ByteArray.size_append
theorem zZ (k i:aei) (w:World) (hz:k.size+i.size≤1000):
  Calls Tryz.prog 66 #[.agg #[.string k,.string i]] w fun e w'=>e=.returned (.string ((k++sg 58)++i))∧Below w.heap.size w w':=by
 have B0:=af (Below.refl w.heap.size w);go_enter Tryz.func66,Tryz.ntmps66;go_wp2;go_ret;exact ⟨rfl,(by with_reducible repeat (first|exact ae B0|refine Below.drew ?_|(refine Below.setCell ?_ ?_ _;rotate_left;exact (by first|omega|(simp;omega)|simp))|(refine Below.alloc ?_ ?_ _;rotate_left;exact (by first|omega|(simp;omega)|simp))))⟩
def z8 (k i r:aei):aei:=if r.size=0 then (k++sg 58)++i else (((k++sg 58)++i)++sg 35)++r
theorem En (k i r:aei) (w:World) (hz:k.size+i.size+r.size≤900):
  Calls Tryz.prog 107 #[.agg #[.string k,.string i,.string r]] w fun e w'=>e=.returned (.string (z8 k i r))∧Below w.heap.size w w':=by
 have hz1:((k++sg 58)++i).size+r.size≤1000:=by rw [gU,gU,show (sg 58).size=1 from rfl];omega
 have B0:=af ((Below.refl w.heap.size w).alloc aeg (.cells #[.string k,.string i,.string r] 102));have K0:=af (ai.new w #[.string k,.string i,.string r] 102);have C:=af (fun w=>zZ k i w (by omega));unfold z8
 by_cases h0:r.size=0
 ·rw [if_pos h0];have hr:(r.toList== [])=true:=by rw [aF,beq_iff_eq];exact List.eq_nil_of_length_eq_zero (by rw [aG];exact h0)
  have hr2:r.toList.isEmpty=true:=by rw [aF,List.isEmpty_iff];exact List.eq_nil_of_length_eq_zero (by rw [aG];exact h0)
  clear h0;go_enter Tryz.func107,Tryz.ntmps107;go_wp2_with fail;refine (ae C _).mono ?_;rintro e w1 ⟨rfl,hb1⟩;have B1:=af ((ae B0).trans (hb1.mono (ae B0).size));clear hb1 C;go_wp2;go_ret;exact ⟨rfl,ae B1⟩
 ·rw [if_neg h0];have hr2:r.toList.isEmpty=false:=by
   rw [aF,Bool.eq_false_iff];intro h;rw [List.isEmpty_iff] at h;exact h0 (by rw [←aG,h];rfl)
  have hr:(r.toList== [])=false:=by rw [aF] at hr2 ⊢;revert hr2;cases bi r<;>simp
  clear h0;generalize (k++sg 58)++i=x at*;have q1:¬9223372036854775807<x.size+1:=by omega
  have q2:¬9223372036854775807<x.size+1+r.size:=by omega
  go_enter Tryz.func107,Tryz.ntmps107;go_wp2_with fail;generalize (w.alloc (.cells #[.string k,.string i,.string r] 102))=W at*;have k0:W.cell? ⟨w.heap.size,0,none⟩=some (.string k):=(ae K0).cell rfl;have k1:W.cell? ⟨w.heap.size,1,none⟩=some (.string i):=(ae K0).cell rfl;have k2:W.cell? ⟨w.heap.size,2,none⟩=some (.string r):=(ae K0).cell rfl;have D:=af (ae C W.drew);clear C
  go_region_held3 (fun w'=>w'.cell? ⟨w.heap.size,0,none⟩=some (.string k)∧w'.cell? ⟨w.heap.size,1,none⟩=some (.string i)∧w'.cell? ⟨w.heap.size,2,none⟩=some (.string r)) (go_keep)
   ((go_at_call 66;refine (ae D).mono ?_;rintro e w1 ⟨rfl,hb1⟩;have BB:=af (show Below W.heap.size W w1 from (Below.refl _ W).drew.trans hb1);have d0:=ag k0 (ae BB);have d1:=ag k1 (ae BB);have d2:=ag k2 (ae BB);clear hb1))
  have B1:=af ((ae B0).trans ((ae BB).mono (ae B0).size));clear BB B0 K0 D k0 k1 k2 d0 d1 d2;go_wp2;go_ret;exact ⟨rfl,ae B1⟩
theorem Ku (k i r sk si sr:aei) (w:World) (hz:k.size+i.size+r.size+sk.size+si.size+sr.size≤500):
  Calls Tryz.prog 63 #[.agg #[.string k,.string i,.string r,.string sk,.string si,.string sr]] w fun e w'=>e=.returned (.string (((((k++sg 58)++i)++sg 35)++r)++sg 64++z8 sk si sr))∧Below w.heap.size w w':=by
 have hz1:((k++sg 58)++i).size+r.size+(z8 sk si sr).size≤1000:=by
  have:(z8 sk si sr).size≤sk.size+si.size+sr.size+2:=by
   unfold z8
   split
   ·rw [gU,gU,show (sg 58).size=1 from rfl];omega
   ·rw [gU,gU,gU,gU,show (sg 58).size=1 from rfl,show (sg 35).size=1 from rfl];omega
  rw [gU,gU,show (sg 58).size=1 from rfl];omega
 have B0:=af ((Below.refl w.heap.size w).alloc aeg (.cells #[.string k,.string i,.string r,.string sk,.string si,.string sr] 123));have K0:=af (ai.new w #[.string k,.string i,.string r,.string sk,.string si,.string sr] 123);have C:=af (fun w=>zZ k i w (by omega));have C2:=af (fun w=>En sk si sr w (by omega));generalize (k++sg 58)++i=x at*;generalize z8 sk si sr=y at*;have q1:¬9223372036854775807<x.size+1:=by omega
 have q2:¬9223372036854775807<x.size+1+r.size:=by omega
 have q3:¬9223372036854775807<x.size+1+r.size+1:=by omega
 have q4:¬9223372036854775807<x.size+1+r.size+1+y.size:=by omega
 go_enter Tryz.func63,Tryz.ntmps63;go_wp2_with fail;generalize (w.alloc (.cells #[.string k,.string i,.string r,.string sk,.string si,.string sr] 123))=W at*;have k0:W.cell? ⟨w.heap.size,0,none⟩=some (.string k):=(ae K0).cell rfl;have k1:W.cell? ⟨w.heap.size,1,none⟩=some (.string i):=(ae K0).cell rfl;have k2:W.cell? ⟨w.heap.size,2,none⟩=some (.string r):=(ae K0).cell rfl;have k3:W.cell? ⟨w.heap.size,3,none⟩=some (.string sk):=(ae K0).cell rfl;have k4:W.cell? ⟨w.heap.size,4,none⟩=some (.string si):=(ae K0).cell rfl;have k5:W.cell? ⟨w.heap.size,5,none⟩=some (.string sr):=(ae K0).cell rfl;have D:=af (ae C W.drew);clear C
 go_region_held3 (fun w'=>w'.cell? ⟨w.heap.size,0,none⟩=some (.string k)∧w'.cell? ⟨w.heap.size,1,none⟩=some (.string i)∧w'.cell? ⟨w.heap.size,2,none⟩=some (.string r)∧w'.cell? ⟨w.heap.size,3,none⟩=some (.string sk)∧w'.cell? ⟨w.heap.size,4,none⟩=some (.string si)∧w'.cell? ⟨w.heap.size,5,none⟩=some (.string sr)) (go_keep)
  (first
  |(have xx:=BB;go_at_call 107;refine (ae C2 _).mono ?_;rintro e w2 ⟨rfl,hb2⟩;have BC:=af ((ae BB).trans (hb2.mono (ae BB).size));have e0:=ag k0 (ae BC);have e1:=ag k1 (ae BC);have e2:=ag k2 (ae BC);have e3:=ag k3 (ae BC);have e4:=ag k4 (ae BC);have e5:=ag k5 (ae BC);clear hb2 xx)
  |(go_at_call 66;refine (ae D).mono ?_;rintro e w1 ⟨rfl,hb1⟩;have BB:=af (show Below W.heap.size W w1 from (Below.refl _ W).drew.trans hb1);have d0:=ag k0 (ae BB);have d1:=ag k1 (ae BB);have d2:=ag k2 (ae BB);have d3:=ag k3 (ae BB);have d4:=ag k4 (ae BB);have d5:=ag k5 (ae BB);clear hb1))
 have B1:=af ((ae B0).trans ((ae BC).mono (ae B0).size));go_wp2;go_ret;exact ⟨rfl,ae B1⟩
theorem Aa {s:aei} (h:dK s=true):((((((bE s).1.kind++sg 58)++(bE s).1.id)++sg 35)++(bE s).1.rel)++sg 64++z8 (bE s).1.sub (bE s).1.who (bE s).1.of)=s:=by
 obtain ⟨_,_,hl⟩:=qZ h;have e:∀a b:aei,bi (a++b)=bi a++bi b:=fun a b=>by simp [bi,ByteArray.data_append]
 have e2:∀c:UInt8,bi (sg c)=[c]:=fun c=>rfl
 generalize (bE s).1=t at*;have key:bi ((((((t.kind++sg 58)++t.id)++sg 35)++t.rel)++sg 64++z8 t.sub t.who t.of))=bi s:=by
  rw [hl];unfold z8
  split<;>simp [e,e2]
 rw [←gV s,←key,gV]
def Ab (s:aei):Tu:=(bE s).1
structure xC (gs:List Tu) (ss:List aei):Prop where
 eq:gs=ss.map Ab
 ok:∀y∈ss,dK y=true
theorem LG {s y:aei} (h:dK s=true) (k:dK y=true) (e:Ab s=Ab y):s=y:=by
 rw [←Aa h,←Aa k];have e':(bE s).1=(bE y).1:=e;rw [e']
theorem CB {s:aei} (hs:dK s=true):∀ss:List aei,(∀y∈ss,dK y=true)→(ss.map Ab).findIdx? (tH (Ab s))=ss.findIdx? (fun y=>eqs y s)
 | [],_=>rfl
 |y::ss,h=>by
  rw [List.map_cons,List.findIdx?_cons,List.findIdx?_cons,CB hs ss (fun y hy=>h y (by simp [hy]))];have e:tH (Ab s) (Ab y)=eqs y s:=by
   rw [Bool.eq_iff_iff,Qf,bq];exact ⟨fun e=>(LG hs (h y (by simp)) e).symm,fun e=>by rw [e]⟩
  rw [e]
theorem Hf {gs:List Tu} {ss:List aei} (h:xC gs ss) {s:aei} (hs:dK s=true):nE gs (bE s).1=mD ss s:=by
 rw [h.eq];unfold nE mD;rw [show (bE s).1=Ab s from rfl,CB hs ss h.ok]
 cases ss.findIdx? (fun y=>eqs y s)<;>rfl
theorem Ri {gs:List Tu} {ss:List aei} (h:xC gs ss) (s:aei):(JR gs s).1=(Ha ss s).1∧xC (JR gs s).2 (Ha ss s).2:=by
 unfold JR Ha
 by_cases h1:dK s=false
 ·rw [if_pos h1,if_pos h1];exact ⟨rfl,h⟩
 ·rw [if_neg h1,if_neg h1,Hf h (by simpa using h1)]
  by_cases h2:mD ss s<0
  ·rw [if_pos h2,if_pos h2];exact ⟨rfl,h⟩
  ·rw [if_neg h2,if_neg h2];refine ⟨rfl,?_,fun y hy=>h.ok y (List.mem_of_mem_eraseIdx hy)⟩;rw [h.eq,List.eraseIdx_eq_take_drop_succ,List.eraseIdx_eq_take_drop_succ,List.map_append,List.map_take,List.map_drop]
theorem Rj {s:aei} (h:dK s=true):((bE s).1.who=dN∧(bE s).1.of.size=0)∨(bJ (bE s).1.who=true∧(bE s).1.of.size=0)∨(bJ (bE s).1.who=true∧bJ (bE s).1.of=true):=by
 unfold dK at h;simp only [Bool.and_eq_true] at h;obtain ⟨⟨_,h2⟩,_⟩:=h;have tw:(bE s).1.who=(uJ (aB (aB s 64).2.1 35).1 (aB (aB s 64).2.1 35).2.2).2.1:=rfl;have to:(bE s).1.of=(aB (aB s 64).2.1 35).2.1:=rfl;rw [tw,to];generalize (aB s 64).2.1=r at*;clear tw to;unfold mo at h2;unfold uJ;rw [oh]
 cases al:(aB r 35).2.2
 ·rw [al] at h2;simp only [Bool.false_eq_true,if_false,Bool.or_eq_true,Bool.and_eq_true] at h2;obtain ⟨u1,u2⟩:=iF al;rw [u1] at h2;rw [u1,u2];simp only [Bool.not_false,Bool.and_true]
  rcases h2 with h2|⟨h2,h4⟩
  ·have ht:=h2;unfold fK at h2;simp only [Bool.and_eq_true] at h2;rw [ht];exact .inr (.inl ⟨h2.2,rfl⟩)
  ·have hb:=Lr h2;have ht:fK r=false:=by unfold fK;rw [hb];simp [show bJ dN=false by decide]
   rw [ht];exact .inl ⟨rfl,rfl⟩
 ·rw [al] at h2;simp only [if_true,Bool.and_eq_true] at h2;obtain ⟨h4,h5⟩:=h2;unfold fK at h4;simp only [Bool.and_eq_true] at h4;simp only [Bool.not_true,Bool.and_false,Bool.false_eq_true,if_false];exact .inr (.inr ⟨h4.2,h5⟩)
theorem LH {s:aei} (h:s.size=0):s=em:=by
 have e:bi s=[]:=List.eq_nil_of_length_eq_zero (by rw [aG];exact h);rw [←gV s,e]
 rfl
theorem qJ {a c:aei} (h:a≠c):eqs a c=false:=by
 rw [Bool.eq_false_iff];exact fun e=>h ((bq _ _).1 e)
theorem Hg (a:aei):eqs a a=true:=(bq _ _).2 rfl
theorem Vh {T:Tu} (hT:(T.who=dN∧T.of.size=0)∨(bJ T.who=true∧T.of.size=0)∨(bJ T.who=true∧bJ T.of=true)) {g:Gr} (h1:mG g) (h2:AZ g):jd g T=kZ T g:=by
 have hstar:(jR:aei)=dN:=rfl;have EE:∀x:aei,bJ x=true→x≠dN:=fun x hx e=>by rw [e] at hx;exact absurd hx (by decide)
 have Aq:∀x:aei,dh x=true→x≠dN:=fun x hx e=>by rw [e] at hx;exact absurd hx (by decide)
 have OZ:∀x:aei,dh x=true→x≠em:=fun x hx e=>by rw [e] at hx;exact absurd hx (by decide)
 have p9:g.reach=1→bB g=dN:=fun e=>by unfold bB;rw [if_pos e];rfl
 have N9:g.reach≠1→bB g=g.rel:=fun e=>by unfold bB;rw [if_neg e]
 unfold jd kZ;rw [hstar]
 cases eqs g.ty T.sub
 ·rfl
 rw [Bool.true_and,Bool.true_and]
 rcases hT with ⟨hw,ho⟩|⟨hw,ho⟩|⟨hw,ho⟩
 ·have hr:nH T.who T.of=1:=by unfold nH;rw [if_pos ho,hw,Hg,if_pos rfl]
  have hv:(if eqs T.who dN=true then dN else T.of)=dN:=by rw [hw,Hg,if_pos rfl]
  rw [hr,hv,LH ho]
  rcases h1 with ⟨r0,e⟩|r1|⟨r2,hn⟩
  ·rw [N9 (by omega),r0,e];decide
  ·rw [p9 r1,r1,h2 r1];decide
  ·rw [N9 (by omega),r2,qJ (Aq _ hn)];simp
 ·have hr:nH T.who T.of=0:=by unfold nH;rw [if_pos ho,qJ (EE _ hw)];rfl
  have hv:(if eqs T.who dN=true then dN else T.of)=T.of:=by rw [qJ (EE _ hw)];rfl
  rw [hr,hv,LH ho]
  rcases h1 with ⟨r0,e⟩|r1|⟨r2,hn⟩
  ·rw [N9 (by omega),r0,e];decide
  ·rw [p9 r1,r1,h2 r1];decide
  ·rw [N9 (by omega),r2,qJ (OZ _ hn)];simp
 ·have hp:=jb ho;have hr:nH T.who T.of=2:=by unfold nH;rw [if_neg (by omega)]
  have hv:(if eqs T.who dN=true then dN else T.of)=T.of:=by rw [qJ (EE _ hw)];rfl
  have Lf:em≠T.of:=fun e=>by rw [←e] at hp;exact absurd hp.1 (by decide)
  rw [hr,hv]
  rcases h1 with ⟨r0,e⟩|r1|⟨r2,hn⟩
  ·rw [N9 (by omega),r0,e,qJ Lf];simp
  ·rw [p9 r1,r1,h2 r1,qJ Lf,qJ (fun e=>EE _ ho e.symm)];simp
  ·rw [N9 (by omega),r2];simp
theorem Rk {l:List Gr} {f g:Gr→Bool} (h:∀x∈l,f x=g x):l.any f=l.any g:=by
 induction l with
 |nil=>rfl
 |cons a l ih=>rw [List.any_cons,List.any_cons,h a (by simp),ih (fun x hx=>h x (by simp [hx]))]
structure Mod (ts:List Ty) (pl:List PV) (rl:List RV) (bz:Nat→List Gr):Prop where
 d:gN ts
 b:dE pl rl (aR ts)
 g:∀(j:Nat) (k:aei) (r:Rl),(aR ts)[j]? =some (k,r)→bz j=bH r.body
 ok:∀t∈ts,∀r∈t.rels,∀x∈bH r.body,mG x∧AZ x
theorem Ac {ts:List Ty} {pl:List PV} {rl:List RV} {bz:Nat→List Gr} (hm:Mod ts pl rl bz) {gs:List Tu} {ss:List aei} (h:xC gs ss) (s:aei):(Yj ts gs s).1=(Sk rl bz ss s).1∧xC (Yj ts gs s).2 (Sk rl bz ss s).2:=by
 unfold Yj Sk
 by_cases h1:dK s=false
 ·rw [if_pos h1,if_pos h1];exact ⟨rfl,h⟩
 ·have ho:dK s=true:=by simpa using h1
  rw [if_neg h1,if_neg h1,Hf h ho];have hT:=Rj ho;have hlen:gs.length=ss.length:=by rw [h.eq,List.length_map]
  have happ:xC (gs++[(bE s).1]) (ss++[s]):=⟨by rw [h.eq,List.map_append];rfl,fun y hy=>by
   rcases List.mem_append.1 hy with hy|hy
   ·exact h.ok y hy
   ·rw [List.mem_singleton] at hy;rw [hy];exact ho⟩
  generalize (bE s).1=T at*
  rcases fM hm.d hm.b T.kind T.rel with ⟨e,hno⟩|⟨j,t,r,e,h4,h5,h6⟩
  ·have e5:vk ts T=5:=by
    unfold vk
    split
    ·rfl
    ·rename_i t ht;rw [hno t ht]
   rw [e5,e,if_pos (by omega),if_pos (by omega)];exact ⟨rfl,h⟩
  ·rw [e,Int.toNat_natCast,if_neg (show ¬((j:Int)<0) by omega),hm.g j _ r h6];have hr:=(iJ h5).1;have ht:=(jI h4).1;have ea:(bH r.body).any (fun g=>jd g T)=(bH r.body).any (kZ T):=Rk (fun x hx=>Vh hT (hm.ok t ht r hr x hx).1 (hm.ok t ht r hr x hx).2);have em:vk ts T=if (bH r.body).any (kZ T) then 0 else 7:=by
    unfold vk;rw [h4];simp only [h5];rw [ea]
   rw [em]
   cases hv:(bH r.body).any (kZ T)
   ·rw [if_pos rfl,if_pos (by simp)];exact ⟨rfl,h⟩
   ·simp only [if_true,ne_eq,not_true_eq_false,if_false,Bool.true_eq_false]
    by_cases hi:0≤mD ss s
    ·rw [if_pos hi,if_pos hi];exact ⟨rfl,h⟩
    ·rw [if_neg hi,if_neg hi,hlen]
     by_cases EG:ss.length=24
     ·rw [if_pos EG,if_pos EG];exact ⟨rfl,h⟩
     ·rw [if_neg EG,if_neg EG];exact ⟨rfl,happ⟩
