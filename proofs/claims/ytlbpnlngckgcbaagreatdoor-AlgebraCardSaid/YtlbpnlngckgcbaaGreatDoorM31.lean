import Derived.Test.YtlbpnlngckgcbaaGreatDoorM30
import Derived.Test.YtlbpnlngckgcbaaGreatDoorRows
import Derived.Test.YtlbpnlngckgcbaaGreatDoorTie
import Derived.Test.YtlbpnlngckgcbaaGreatDoorCards
import Derived.SevenTiedAt
import Derived.HandedShaped
import Derived.JoinedOf
import Derived.Stop.Joined
set_option linter.all false
set_option maxHeartbeats 4000000
set_option maxRecDepth 100000
namespace Go.Proofs.YtlbpnlngckgcbaaGreatDoor
open Go.RowKit Go.PlainAid
theorem xW (v:Value) (n:Nat) (w:World) (h:IW w v n) (hn:n≤4398046511104) (hE:qY w):
  Calls Tryz.prog 12 #[v] w fun e w'=>e=.returned (.bool true)∧Below w.heap.size w w':=by
 have hv:∃a c,v=.slice a n c∧(0<n→∃ad,a=some ad):=by
  rcases h with ⟨rfl,rfl⟩|⟨ad,c,z,rfl,h1,_⟩
  ·exact ⟨_,_,rfl,by omega⟩
  ·exact ⟨_,_,rfl,fun _=>⟨_,rfl⟩⟩
 obtain ⟨ra,rc,rfl,hra⟩:=hv;obtain ⟨ts,ht⟩:=FX false;obtain ⟨ts',ht'⟩:=FX true;have hlt:=hE.lt;have C1:=ae (qW false w);have C2:=ae (tL (lF false) ts ht.read w hE.laid);have C3:=ae (fun w'=>qW true w');have C4:=ae (fun w' (k:Below w.heap.size w w')=>tL (lF true) ts' ht'.read w' (hE.laid.below k (by omega)));simp only [Bool.false_eq_true,if_false] at C1;simp only [if_true] at C3;have HR:=ae h;have HRA:=ae hra;have HE:=ae hE;have HT:=ae ht;have Mv:=ae ht';clear h hra hE ht ht';go_enter Tryz.func12,Tryz.ntmps12;go_wp2_with fail;refine (aa C1).mono ?_;rintro e w0 ⟨rfl,hw0⟩;rw [hw0];clear hw0 w0;go_wp2_with fail;refine (aa C2).mono ?_;rintro e w1 ⟨mv,lv,x,rfl,hu,hb1,hx⟩;have HU:=ae hu;have FL:=ae hb1;have hxl:=hu.p.blk.lt;clear hu hb1 C1 C2;go_wp2_with fail;refine (aa C3 _).mono ?_;rintro e w0 ⟨rfl,hw0⟩;rw [hw0];clear hw0 w0;go_wp2_with fail;refine (aa C4 _ (aa FL)).mono ?_;rintro e w2 ⟨mv',DU,y,rfl,hv,hb2,hy⟩;have mO:=ae ((aa FL).trans (hb2.mono (aa FL).size));have HS:=ae (show q9 w.heap.size w2 x y ts ts' [] [] from ⟨mv,lv,_,mv',DU,_,(aa HU).below hb2,hv,(fun k hk hk'=>by
   rcases hk with rfl|⟨_,_,e⟩
   ·rcases hk' with rfl|⟨_,_,e⟩
    ·omega
    ·cases e
   ·cases e),(fun k hk=>by
   rcases hk with rfl|⟨_,_,e⟩
   ·exact hx
   ·cases e),fun k hk=>by
   rcases hk with rfl|⟨_,_,e⟩
   ·have:=(aa FL).size;omega
   ·cases e⟩)
 clear hv hb2 HU FL C3 C4 hx hy hxl;go_wp2_with fail
 go_loopw [5] (fun u wr=>∃(i:Nat) (gs:List Tu),u=.int .i64 i∧i≤n∧Below w.heap.size w wr∧q9 w.heap.size wr x y ts ts' gs gs∧Hid (oG gs∧gs.length≤24)) (fun u _=>n-(intOf u).toNat)
 case atStart=>exact ⟨0,[],rfl,by omega,aa mO,aa HS,ae ⟨(fun _ h=>by cases h),by simp⟩⟩
 case round=>
  obtain ⟨i,gs,rfl,hi,hb,hS,HG⟩:=hrel
  by_cases hit:i<n
  ·have hin:(i:Int)<(n:Int):=by omega
   obtain ⟨ad,rfl⟩:=aa HRA (by omega);obtain ⟨o,Qt,x0,x1,x2,x3⟩:=(aa HR).cell hb hit;have hbs:=hb.size;have ba:=(Below.refl wr.heap.size wr).alloc Qv (.cells #[.int .i64 o.kd,.int .i64 o.a,.int .i64 o.b,.bool o.less] 50);have HB:=ae (hb.trans (ba.mono hbs));have HSS:=ae (hS.below ba);have o0:(wr.alloc (.cells #[.int .i64 o.kd,.int .i64 o.a,.int .i64 o.b,.bool o.less] 50)).cell? ⟨wr.heap.size,0,none⟩=some (.int .i64 o.kd):=(ag.new wr _ _).cell rfl;have o1:(wr.alloc (.cells #[.int .i64 o.kd,.int .i64 o.a,.int .i64 o.b,.bool o.less] 50)).cell? ⟨wr.heap.size,1,none⟩=some (.int .i64 o.a):=(ag.new wr _ _).cell rfl;have o2:(wr.alloc (.cells #[.int .i64 o.kd,.int .i64 o.a,.int .i64 o.b,.bool o.less] 50)).cell? ⟨wr.heap.size,2,none⟩=some (.int .i64 o.b):=(ag.new wr _ _).cell rfl;have o3:(wr.alloc (.cells #[.int .i64 o.kd,.int .i64 o.a,.int .i64 o.b,.bool o.less] 50)).cell? ⟨wr.heap.size,3,none⟩=some (.bool o.less):=(ag.new wr _ _).cell rfl;have P1:=ae (fun w'=>kY o.kd 3 w' Qt.kd (by omega) (by omega));have P2:=ae (fun w'=>kY o.a 2 w' Qt.a (by omega) (by omega));have P3:=ae (fun w'=>kY o.b 5 w' Qt.b (by omega) (by omega));have P4:=ae (fun w'=>kY (wrap64 (o.a.tdiv 2)) 2 w' (vz (wrap64_wf _)) (by omega) (by omega));have l1:=vB o.kd (n:=3) (by omega);have l2:=vB o.a (n:=2) (by omega);have l3:=vB o.b (n:=5) (by omega);have l4:=vB (wrap64 (o.a.tdiv 2)) (n:=2) (by omega);generalize JK o.kd 3=kc at*;generalize JK o.a 2=ki at*;generalize JK o.b 5=kk at*;generalize JK (wrap64 (o.a.tdiv 2)) 2=kj at*;clear hb hS ba;go_wp2_with fail;refine (aa P1 _).mono ?_;rintro e w3 ⟨rfl,rfl⟩;go_wp2_with fail
   go_quiet ((go_at_call 19;exact Calls.quiet_of_same (aa P2 _)))
   have bq:=below_drewN (Below.refl (wr.alloc (.cells #[.int .i64 o.kd,.int .i64 o.a,.int .i64 o.b,.bool o.less] 50)).heap.size (wr.alloc (.cells #[.int .i64 o.kd,.int .i64 o.a,.int .i64 o.b,.bool o.less] 50))) nq;have mq:=ae ((aa HB).trans (bq.mono (aa HB).size));have kN:=ae ((aa HSS).below bq);have q1:=af o1 bq;have q2:=af o2 bq;have q3:=af o3 bq;have hne:¬(w.heap.size=wr.heap.size+1)∨True:=.inr trivial;generalize (wr.alloc (.cells #[.int .i64 o.kd,.int .i64 o.a,.int .i64 o.b,.bool o.less] 50)).drewN nq=W at*;obtain ⟨T1,Qu⟩:∃t,t=xR ki kc:=⟨_,rfl⟩;have F9:=ae Qu;have hT2:({data:=#[116,58]}++({data:=#[107,108]}:Qx).extract ki (ki+1)++{data:=#[35]}++({data:=#[97,98,99]}:Qx).extract kc (kc+1)++{data:=#[64]}:Qx)=T1:=Qu.symm;rw [hT2];clear Qu hT2 o0 o1 o2 o3 x0 x1 x2 x3 bq HSS HB hne;go_wp2_with fail;refine (aa P3 _).mono ?_;rintro e w5 ⟨rfl,hw5⟩;rw [hw5];clear hw5 w5;have hsz:T1.size=6:=by rw [aa F9];exact DV l2 l1
   have rf:=ae ((aa HE).below (aa mq) hlt)
   rcases kk with _|_|_|_|_|kk
   ·obtain ⟨p,hp,hp0,hS⟩:=F7 l2 l1 (show 0<3 by omega);have hpc:p.2=0∨p.2=7∧kc=2:=.inl hp0;rw [←aa F9] at hS;have kZ:=ae hS;clear hS hp0
    cases iQ:o.less
    ·rw [iQ] at q3;go_wp2_with fail;refine (kI (aa kN) (aa rf) (aa HT) hp (aa kZ) (aa HG).2).mono ?_;rintro e w6 ⟨rfl,lG,kC⟩;have B6:=ae ((aa mq).trans kC);have S6:=ae lG.swap;have E6:=ae ((aa HE).below (aa B6) hlt);clear lG kC kN rf mq;go_wp2_with fail;refine (kI (aa S6) (aa E6) (aa Mv) hp (aa kZ) (aa HG).2).mono ?_;rintro e w7 ⟨rfl,lH,jy⟩;have B7:=ae ((aa B6).trans jy);have S7:=ae lH.swap;have nO:=ae (qV (aa HG).1 (aa HG).2 hp);have hcs:=xP gs p;clear lH jy S6 E6 B6 kZ hp;generalize vo gs p=rr at*;obtain ⟨nP,rg⟩:=rr;simp only at hcs S7 nO;have hcs':nP=0∨nP=4∨nP=8∨nP=7∧kc=2:=by
      rcases hcs with ⟨h1,h2⟩|⟨_,h1|h1|h1⟩
      ·rcases hpc with h3|h3
       ·exact absurd h3 h2
       ·exact .inr (.inr (.inr ⟨h1.trans h3.1,h3.2⟩))
      ·exact .inl h1
      ·exact .inr (.inl h1)
      ·exact .inr (.inr (.inl h1))
     clear hcs hpc
     rcases hcs' with rfl|rfl|rfl|⟨rfl,rfl⟩<;>(
      go_wp2;go_roundw
      case rel=>exact ⟨i+1,rg,by go_num,by omega,aa B7,aa S7,nO⟩
      case measure=>simp [intOf];omega)
    ·rw [iQ] at q3;obtain ⟨S0,Bd⟩:∃S0,S0=mk p.1:=⟨_,rfl⟩;rw [←Bd] at kZ;clear hp hpc Bd;go_wp2_with fail;rw [show _=S0 from aa kZ];refine (dN (aa kN) (aa rf) S0).mono ?_;rintro e w6 ⟨rfl,lG,kC⟩;have B6:=ae ((aa mq).trans kC);have S6:=ae lG.swap;have E6:=ae ((aa HE).below (aa B6) hlt);clear lG kC kN rf mq;go_wp2_with fail;refine (dN (aa S6) (aa E6) S0).mono ?_;rintro e w7 ⟨rfl,lH,jy⟩;have B7:=ae ((aa B6).trans jy);have S7:=ae lH.swap;have nO:=ae (nN (aa HG).1 (aa HG).2 S0);clear lH jy S6 E6 B6 kZ;generalize nE gs S0=rr at*;obtain ⟨nP,rg⟩:=rr;simp only at S7 nO;go_wp2;go_roundw
     case rel=>exact ⟨i+1,rg,by go_num,by omega,aa B7,aa S7,nO⟩
     case measure=>simp [intOf];omega
   ·obtain ⟨p,hp,hp0,hS⟩:=F7 l2 l1 (show 1<3 by omega);have hpc:p.2=0∨p.2=7∧kc=2:=.inl hp0;rw [←aa F9] at hS;have kZ:=ae hS;clear hS hp0
    cases iQ:o.less
    ·rw [iQ] at q3;go_wp2_with fail;refine (kI (aa kN) (aa rf) (aa HT) hp (aa kZ) (aa HG).2).mono ?_;rintro e w6 ⟨rfl,lG,kC⟩;have B6:=ae ((aa mq).trans kC);have S6:=ae lG.swap;have E6:=ae ((aa HE).below (aa B6) hlt);clear lG kC kN rf mq;go_wp2_with fail;refine (kI (aa S6) (aa E6) (aa Mv) hp (aa kZ) (aa HG).2).mono ?_;rintro e w7 ⟨rfl,lH,jy⟩;have B7:=ae ((aa B6).trans jy);have S7:=ae lH.swap;have nO:=ae (qV (aa HG).1 (aa HG).2 hp);have hcs:=xP gs p;clear lH jy S6 E6 B6 kZ hp;generalize vo gs p=rr at*;obtain ⟨nP,rg⟩:=rr;simp only at hcs S7 nO;have hcs':nP=0∨nP=4∨nP=8∨nP=7∧kc=2:=by
      rcases hcs with ⟨h1,h2⟩|⟨_,h1|h1|h1⟩
      ·rcases hpc with h3|h3
       ·exact absurd h3 h2
       ·exact .inr (.inr (.inr ⟨h1.trans h3.1,h3.2⟩))
      ·exact .inl h1
      ·exact .inr (.inl h1)
      ·exact .inr (.inr (.inl h1))
     clear hcs hpc
     rcases hcs' with rfl|rfl|rfl|⟨rfl,rfl⟩<;>(
      go_wp2;go_roundw
      case rel=>exact ⟨i+1,rg,by go_num,by omega,aa B7,aa S7,nO⟩
      case measure=>simp [intOf];omega)
    ·rw [iQ] at q3;obtain ⟨S0,Bd⟩:∃S0,S0=mk p.1:=⟨_,rfl⟩;rw [←Bd] at kZ;clear hp hpc Bd;go_wp2_with fail;rw [show _=S0 from aa kZ];refine (dN (aa kN) (aa rf) S0).mono ?_;rintro e w6 ⟨rfl,lG,kC⟩;have B6:=ae ((aa mq).trans kC);have S6:=ae lG.swap;have E6:=ae ((aa HE).below (aa B6) hlt);clear lG kC kN rf mq;go_wp2_with fail;refine (dN (aa S6) (aa E6) S0).mono ?_;rintro e w7 ⟨rfl,lH,jy⟩;have B7:=ae ((aa B6).trans jy);have S7:=ae lH.swap;have nO:=ae (nN (aa HG).1 (aa HG).2 S0);clear lH jy S6 E6 B6 kZ;generalize nE gs S0=rr at*;obtain ⟨nP,rg⟩:=rr;simp only at S7 nO;go_wp2;go_roundw
     case rel=>exact ⟨i+1,rg,by go_num,by omega,aa B7,aa S7,nO⟩
     case measure=>simp [intOf];omega
   ·obtain ⟨p,hp,hp0,hS⟩:=F7 l2 l1 (show 2<3 by omega);have hpc:p.2=0∨p.2=7∧kc=2:=.inl hp0;rw [←aa F9] at hS;have kZ:=ae hS;clear hS hp0
    cases iQ:o.less
    ·rw [iQ] at q3;go_wp2_with fail;refine (kI (aa kN) (aa rf) (aa HT) hp (aa kZ) (aa HG).2).mono ?_;rintro e w6 ⟨rfl,lG,kC⟩;have B6:=ae ((aa mq).trans kC);have S6:=ae lG.swap;have E6:=ae ((aa HE).below (aa B6) hlt);clear lG kC kN rf mq;go_wp2_with fail;refine (kI (aa S6) (aa E6) (aa Mv) hp (aa kZ) (aa HG).2).mono ?_;rintro e w7 ⟨rfl,lH,jy⟩;have B7:=ae ((aa B6).trans jy);have S7:=ae lH.swap;have nO:=ae (qV (aa HG).1 (aa HG).2 hp);have hcs:=xP gs p;clear lH jy S6 E6 B6 kZ hp;generalize vo gs p=rr at*;obtain ⟨nP,rg⟩:=rr;simp only at hcs S7 nO;have hcs':nP=0∨nP=4∨nP=8∨nP=7∧kc=2:=by
      rcases hcs with ⟨h1,h2⟩|⟨_,h1|h1|h1⟩
      ·rcases hpc with h3|h3
       ·exact absurd h3 h2
       ·exact .inr (.inr (.inr ⟨h1.trans h3.1,h3.2⟩))
      ·exact .inl h1
      ·exact .inr (.inl h1)
      ·exact .inr (.inr (.inl h1))
     clear hcs hpc
     rcases hcs' with rfl|rfl|rfl|⟨rfl,rfl⟩<;>(
      go_wp2;go_roundw
      case rel=>exact ⟨i+1,rg,by go_num,by omega,aa B7,aa S7,nO⟩
      case measure=>simp [intOf];omega)
    ·rw [iQ] at q3;obtain ⟨S0,Bd⟩:∃S0,S0=mk p.1:=⟨_,rfl⟩;rw [←Bd] at kZ;clear hp hpc Bd;go_wp2_with fail;rw [show _=S0 from aa kZ];refine (dN (aa kN) (aa rf) S0).mono ?_;rintro e w6 ⟨rfl,lG,kC⟩;have B6:=ae ((aa mq).trans kC);have S6:=ae lG.swap;have E6:=ae ((aa HE).below (aa B6) hlt);clear lG kC kN rf mq;go_wp2_with fail;refine (dN (aa S6) (aa E6) S0).mono ?_;rintro e w7 ⟨rfl,lH,jy⟩;have B7:=ae ((aa B6).trans jy);have S7:=ae lH.swap;have nO:=ae (nN (aa HG).1 (aa HG).2 S0);clear lH jy S6 E6 B6 kZ;generalize nE gs S0=rr at*;obtain ⟨nP,rg⟩:=rr;simp only at S7 nO;go_wp2;go_roundw
     case rel=>exact ⟨i+1,rg,by go_num,by omega,aa B7,aa S7,nO⟩
     case measure=>simp [intOf];omega
   ·obtain ⟨p,hp,hp0,hS⟩:=alT_t l2 l1 l4;have hpc:p.2=0∨p.2=7∧kc=2:=.inl hp0;rw [←aa F9] at hS;have kZ:=ae hS;clear hS hp0;go_wp2_with fail
    go_quiet ((go_at_call 19;exact Calls.quiet_of_same (aa P4 _)))
    have bq:=below_drewN (Below.refl W.heap.size W) nq;have L9:=ae ((aa mq).trans (bq.mono (aa mq).size));have OT:=ae ((aa kN).below bq);have HE4:=ae ((aa HE).below (aa L9) hlt);have q4:=af q3 bq;clear q1 q2 q3 mq kN rf;generalize W.drewN nq=W5 at*;have mq:=L9;have kN:=OT;have rf:=HE4;have q3:=q4;clear L9 OT HE4 q4 bq
    cases iQ:o.less
    ·rw [iQ] at q3;go_wp2_with fail;refine (kI (aa kN) (aa rf) (aa HT) hp (aa kZ) (aa HG).2).mono ?_;rintro e w6 ⟨rfl,lG,kC⟩;have B6:=ae ((aa mq).trans kC);have S6:=ae lG.swap;have E6:=ae ((aa HE).below (aa B6) hlt);clear lG kC kN rf mq;go_wp2_with fail;refine (kI (aa S6) (aa E6) (aa Mv) hp (aa kZ) (aa HG).2).mono ?_;rintro e w7 ⟨rfl,lH,jy⟩;have B7:=ae ((aa B6).trans jy);have S7:=ae lH.swap;have nO:=ae (qV (aa HG).1 (aa HG).2 hp);have hcs:=xP gs p;clear lH jy S6 E6 B6 kZ hp;generalize vo gs p=rr at*;obtain ⟨nP,rg⟩:=rr;simp only at hcs S7 nO;have hcs':nP=0∨nP=4∨nP=8∨nP=7∧kc=2:=by
      rcases hcs with ⟨h1,h2⟩|⟨_,h1|h1|h1⟩
      ·rcases hpc with h3|h3
       ·exact absurd h3 h2
       ·exact .inr (.inr (.inr ⟨h1.trans h3.1,h3.2⟩))
      ·exact .inl h1
      ·exact .inr (.inl h1)
      ·exact .inr (.inr (.inl h1))
     clear hcs hpc
     rcases hcs' with rfl|rfl|rfl|⟨rfl,rfl⟩<;>(
      go_wp2;go_roundw
      case rel=>exact ⟨i+1,rg,by go_num,by omega,aa B7,aa S7,nO⟩
      case measure=>simp [intOf];omega)
    ·rw [iQ] at q3;obtain ⟨S0,Bd⟩:∃S0,S0=mk p.1:=⟨_,rfl⟩;rw [←Bd] at kZ;clear hp hpc Bd;go_wp2_with fail;rw [show _=S0 from aa kZ];refine (dN (aa kN) (aa rf) S0).mono ?_;rintro e w6 ⟨rfl,lG,kC⟩;have B6:=ae ((aa mq).trans kC);have S6:=ae lG.swap;have E6:=ae ((aa HE).below (aa B6) hlt);clear lG kC kN rf mq;go_wp2_with fail;refine (dN (aa S6) (aa E6) S0).mono ?_;rintro e w7 ⟨rfl,lH,jy⟩;have B7:=ae ((aa B6).trans jy);have S7:=ae lH.swap;have nO:=ae (nN (aa HG).1 (aa HG).2 S0);clear lH jy S6 E6 B6 kZ;generalize nE gs S0=rr at*;obtain ⟨nP,rg⟩:=rr;simp only at S7 nO;go_wp2;go_roundw
     case rel=>exact ⟨i+1,rg,by go_num,by omega,aa B7,aa S7,nO⟩
     case measure=>simp [intOf];omega
   ·obtain ⟨p,hp,hpc,hS⟩:=alT_a l2 l1;rw [←aa F9] at hS;have kZ:=ae hS;clear hS
    cases iQ:o.less
    ·rw [iQ] at q3;go_wp2_with fail;refine (kI (aa kN) (aa rf) (aa HT) hp (aa kZ) (aa HG).2).mono ?_;rintro e w6 ⟨rfl,lG,kC⟩;have B6:=ae ((aa mq).trans kC);have S6:=ae lG.swap;have E6:=ae ((aa HE).below (aa B6) hlt);clear lG kC kN rf mq;go_wp2_with fail;refine (kI (aa S6) (aa E6) (aa Mv) hp (aa kZ) (aa HG).2).mono ?_;rintro e w7 ⟨rfl,lH,jy⟩;have B7:=ae ((aa B6).trans jy);have S7:=ae lH.swap;have nO:=ae (qV (aa HG).1 (aa HG).2 hp);have hcs:=xP gs p;clear lH jy S6 E6 B6 kZ hp;generalize vo gs p=rr at*;obtain ⟨nP,rg⟩:=rr;simp only at hcs S7 nO;have hcs':nP=0∨nP=4∨nP=8∨nP=7∧kc=2:=by
      rcases hcs with ⟨h1,h2⟩|⟨_,h1|h1|h1⟩
      ·rcases hpc with h3|h3
       ·exact absurd h3 h2
       ·exact .inr (.inr (.inr ⟨h1.trans h3.1,h3.2⟩))
      ·exact .inl h1
      ·exact .inr (.inl h1)
      ·exact .inr (.inr (.inl h1))
     clear hcs hpc
     rcases hcs' with rfl|rfl|rfl|⟨rfl,rfl⟩<;>(
      go_wp2;go_roundw
      case rel=>exact ⟨i+1,rg,by go_num,by omega,aa B7,aa S7,nO⟩
      case measure=>simp [intOf];omega)
    ·rw [iQ] at q3;obtain ⟨S0,Bd⟩:∃S0,S0=mk p.1:=⟨_,rfl⟩;rw [←Bd] at kZ;clear hp hpc Bd;go_wp2_with fail;rw [show _=S0 from aa kZ];refine (dN (aa kN) (aa rf) S0).mono ?_;rintro e w6 ⟨rfl,lG,kC⟩;have B6:=ae ((aa mq).trans kC);have S6:=ae lG.swap;have E6:=ae ((aa HE).below (aa B6) hlt);clear lG kC kN rf mq;go_wp2_with fail;refine (dN (aa S6) (aa E6) S0).mono ?_;rintro e w7 ⟨rfl,lH,jy⟩;have B7:=ae ((aa B6).trans jy);have S7:=ae lH.swap;have nO:=ae (nN (aa HG).1 (aa HG).2 S0);clear lH jy S6 E6 B6 kZ;generalize nE gs S0=rr at*;obtain ⟨nP,rg⟩:=rr;simp only at S7 nO;go_wp2;go_roundw
     case rel=>exact ⟨i+1,rg,by go_num,by omega,aa B7,aa S7,nO⟩
     case measure=>simp [intOf];omega
   ·omega
  ·have hin:¬((i:Int)<(n:Int)):=by omega
   have mq:=ae hb;have kN:=ae hS;clear hb hS;go_wp2_with fail
   go_loopw [14] (fun u wi=>∃t:Nat,u=.int .i64 t∧t≤2∧Below w.heap.size w wi∧q9 w.heap.size wi x y ts ts' gs gs) (fun u _=>2-(intOf u).toNat)
   case atStart=>exact ⟨0,rfl,by omega,aa mq,aa kN⟩
   case round=>
    obtain ⟨t,rfl,ht2,hb,hS⟩:=hrel
    by_cases uH:t<2
    ·have htn:(t:Int)<2:=by omega
     have L9:=ae hb;have OT:=ae hS;clear hb hS;go_wp2_with fail
     go_loopw [15] (fun u wj=>∃j:Nat,u=.int .i64 j∧j≤4∧Below w.heap.size w wj∧q9 w.heap.size wj x y ts ts' gs gs) (fun u _=>4-(intOf u).toNat)
     case atStart=>exact ⟨0,rfl,by omega,aa L9,aa OT⟩
     case round=>
      obtain ⟨j,rfl,Md,hb,hS⟩:=hrel
      by_cases AA:j<4
      ·have hjn:(j:Int)<4:=by omega
       have CA:=ae (F8 (hS.below (Below.refl _ _).drew) ((aa HE).below hb.drew hlt) (aa HT) (aa Mv) (aa HG).1 (aa HG).2 uH AA);have IK:=ae hb.drew;have rJ:=ae (hS.below (Below.refl _ _).drew);have i1:IntKind.i64.wrap ((t:Int)+1)=(t:Int)+1:=IntWalk.i64_in _ ⟨by omega,by omega⟩;have i2:IntKind.i64.wrap ((j:Int)+1)=(j:Int)+1:=IntWalk.i64_in _ ⟨by omega,by omega⟩;have i3:(0:Int)≤(t:Int):=by omega
       have i4:(0:Int)≤(j:Int):=by omega
       have i5:(t:Int)≤(t:Int)+1:=by omega
       have i6:(j:Int)≤(j:Int)+1:=by omega
       have i7:(t:Int)+1≤2:=by omega
       have i8:(j:Int)+1≤4:=by omega
       have j1:¬(9223372036854775807<2+(min (t+1) 2-t)):=by omega
       have j2:¬(9223372036854775807<2+(min (j+1) 4-j)):=by omega
       clear hb hS;go_wp2_with fail
       go_region_held3 (fun _=>True) (trivial) ((go_at_call 39;refine (aa CA).mono ?_;rintro e w8 ⟨rfl,Ma⟩;have B8:=ae ((aa IK).trans (Ma.mono (aa IK).size));have S8:=ae ((aa rJ).below Ma);clear Ma))
       go_wp2;go_roundw
       case rel=>exact ⟨j+1,by go_num,by omega,aa B8,aa S8⟩
       case measure=>simp [intOf];omega
      ·have hjn:¬((j:Int)<4):=by omega
       have IK:=ae hb;have rJ:=ae hS;clear hb hS;go_wp2;go_roundw
       case rel=>exact ⟨t+1,by go_num,by omega,aa IK,aa rJ⟩
       case measure=>simp [intOf];omega
    ·have htn:¬((t:Int)<2):=by omega
     have L9:=ae hb;have C1:=ae (qW false wr);simp only [Bool.false_eq_true,if_false] at C1;have C2:=ae (I6 hS ((aa HE).below hb hlt) (lF false) (aa HT).read);clear hb hS;go_wp2_with fail;refine (aa C1).mono ?_;rintro e w0 ⟨rfl,hw0⟩;rw [hw0];clear hw0 w0;go_wp2_with fail;refine (aa C2).mono ?_;rintro e w6 ⟨rfl,lG,kC⟩;have B6:=ae ((aa L9).trans kC);have S6:=ae lG;clear lG kC C1 C2;go_wp2_with fail;refine (kI (aa S6) ((aa HE).below (aa B6) hlt) (aa HT) JL (show _=mk zL from rfl) (by simp)).mono ?_;rw [wrA_z];rintro e w7 ⟨rfl,lH,jy⟩;have B7:=ae ((aa B6).trans jy);have S7:=ae lH;clear lH jy S6;go_wp2_with fail;refine (xU (aa S7) ((aa HE).below (aa B7) hlt) (aa HT) JM (by simp) 122 109 114 (by kernel_rfl) (by kernel_rfl) (by simp)).mono ?_;rintro e w8 ⟨k1,rfl,Ma,hr8⟩;rw [(JJ hr8).1];have B8:=ae ((aa B7).trans (Ma.mono (aa B7).size));have S8:=ae ((aa S7).below Ma);clear Ma hr8 S7;go_wp2_with fail;refine (xU (aa S8) ((aa HE).below (aa B8) hlt) (aa HT) JM (by simp) 122 109 112 (by kernel_rfl) (by kernel_rfl) (by simp)).mono ?_;rintro e w9 ⟨k2,rfl,hb9,hr9⟩;rw [(JJ hr9).2];have B9:=ae ((aa B8).trans (hb9.mono (aa B8).size));clear hb9 hr9 S8;go_wp2;go_ret;exact ⟨rfl,aa B9⟩
end Go.Proofs.YtlbpnlngckgcbaaGreatDoor
namespace Go.Proofs.YtlbpnlngckgcbaaGreatDoor
open Go.ChangeShapes Go.WideShapes Go.RowKit
theorem qOwn:ownKnob Tryz.prog.godebug=none:=by kernel_rfl
theorem qVar:Tryz.prog.globalNamed "errors.errorType"=some 0:=by kernel_rfl
theorem qRt:(Tryz.prog.cutTypes.find? (·.1== "internal/reflectlite.rtype")).map (·.2)=some 325:=by kernel_rfl
theorem qSize:Tryz.prog.types.size=445:=by kernel_rfl
theorem qOne:((List.range 445).filter fun t=>Tryz.prog.rowNamed t [101,114,114,111,114])=[77]:=by kernel_rfl
theorem qLaid:laidOutB Tryz.prog=true:=by kernel_rfl
theorem JN:Tryz.prog.globals.size=5:=by kernel_rfl
theorem qFour:((begin Tryz.prog (fun _ _=>0) default).world.heap[4]?).bind Obj.row? =some ((((begin Tryz.prog (fun _ _=>0) default).world.heap[4]?).bind Obj.row?).getD (#[],0)):=by kernel_rfl
theorem vC {H:Type} {enc:TypeId×Value→H} {a:Assume} {C:Checked} {os:Os} {f:FuncId} {fn:Func} {s:ChangeSpec} {conds:List PathCond} {apart fresh handsOn again:Bool} {X:World→Array Value→Prop}
  (hX:∀(w w':World) (args:Array Value),w.heap=w'.heap→X w args→X w' args)
  (own:ownKnob C.prog.godebug=none) (started:os.Started) (noInit:C.prog.inits.idxOf? f=none) (hfn:C.prog.funcs[f]? =some fn)
  (witness:∃(w:World) (tape:Tape) (i:Input),w.os=os∧(w.forCall tape i).Shaped C.prog∧i.vars=[]∧Input.okWide C.prog (w.forCall tape i) .any w.heap.size f i∧
   ((s.pre enc C.prog fn conds apart (w.forCall tape i).memory i.args∧X (w.forCall tape i).memory i.args)∧sizedMet enc C.prog fn (OpenSpec.ofChange s) apart (w.forCall tape i).memory i.args)∧a.holds C.prog (lone (Frame.enter C.prog f i.args .normal) [] (w.forCall tape i)))
  (contract:∀(W:World) (base:Nat) (args:Array Value) (ds gs:List (DataW H)) (before:List MemPlace),
   (∀(j:Nat) t v,fn.params[j]? =some t→args[j]? =some v→Value.okWide C.prog W .any base t v)→
   DataW.Whole enc C.prog fn.params.toList s.vars apart W args.toList ds gs before→
   conds.all (PathCond.test C.prog ⟨fn.params.toList,ds,s.plain.varTypes C.prog,gs⟩)=true→
   (DataW.weightsEach C.prog (fn.params.toList++s.plain.varTypes C.prog) (ds++gs)).all (· ≤reachBytes)=true→W.ShapedOpen C.prog→X W args→
   a.holds C.prog (lone (Frame.enter C.prog f args .normal) [] W)→
   Calls C.prog f args W fun e W'=>∃v,e=.returned v∧s.post enc C.prog fn apart fresh handsOn again W args v W'):
  ReturnsInHanded a C os f .any (fun w args=>(s.pre enc C.prog fn conds apart w args∧X w args)∧sizedMet enc C.prog fn (OpenSpec.ofChange s) apart w args) (s.post enc C.prog fn apart fresh handsOn again):=by
 refine returnsInHanded_of_calls own started noInit witness ?_;intro w tape i _ hsh _ hok hpre hholds;obtain ⟨_,_,_,fn',hfn',_,_,_,_,hval⟩:=hok;have e:fn'=fn:=Option.some.inj (hfn'.symm.trans hfn);subst e;obtain ⟨⟨⟨ds,gs,before,hw,hc⟩,hx⟩,hz⟩:=hpre;have hw':=DataW.Whole.of_heap (w':=w.forCall tape i) (by rfl) hw;refine (contract (w.forCall tape i) w.heap.size i.args ds gs before hval hw' hc (hz.weights hw) hsh (hX _ _ _ (by rfl) hx) hholds).mono fun e W' ⟨v,he,hp⟩=> ?_
 subst he;exact ChangeSpec.post_blind hp
theorem xX {W:World} (h:laidMetH Tryz.prog Rows.algebraRow.laid W) (hs:W.ShapedOpen Tryz.prog):qY W:=by
 have h':laidMet Tryz.prog [] W∧handlesMet Tryz.prog Rows.algebraRow.laid W:=h;refine ⟨?_,?_,?_⟩
 ·obtain ⟨name,u,ty,e1,e2,e3,e4,e5⟩:=h'.2 _ (List.mem_singleton.2 rfl);have en:name=[101,114,114,111,114]:=(Option.some.inj e1).symm;subst en;obtain rfl:=Option.some.inj (qRt.symm.trans e2);have hm:ty∈(List.range 445).filter fun t=>Tryz.prog.rowNamed t [101,114,114,111,114]:=List.mem_filter.2 ⟨List.mem_range.2 (by rw [←qSize];exact e3),e4⟩
  rw [qOne] at hm;obtain rfl:=List.mem_singleton.1 hm;have hh:typeHandle Tryz.prog 77=.pointer (some ⟨5,77,none⟩):=by kernel_rfl
  rw [hh] at e5;unfold Laid
  simpa using World.var?_cell qVar e5 0
 ·exact cell_of_shapedOpen_int (t:=3) (zero:=#[.int .i64 0]) (k:=.i64) hs (by rw [JN];decide) (by kernel_rfl) rfl (by kernel_rfl) (by kernel_rfl) Tryz.underlying3
 ·obtain ⟨cs,hc,_⟩:=hs.1 4 _ _ (by rw [JN];decide) qFour;exact lt_of_some hc
theorem xY (os:Os) (args:Array Value):laidMetH Tryz.prog Rows.algebraRow.laid ((World.doorLaid Tryz.prog 31 os).forCall (fun _ _=>0) ⟨#[],args,[]⟩).memory:=
 laidMetH_of_parts (laidMet_nil _ _) (by kernel_rfl)
theorem qZ (os:Os) (started:os.Started) (H:Type) (enc:TypeId×Value→H):
  ReturnsInHanded {} Tryz.checked os 12 .any (fun w args=>(Rows.algebraSpec.pre enc Tryz.prog Tryz.f12 [] false w args∧laidMetH Tryz.prog Rows.algebraRow.laid w)∧sizedMet enc Tryz.prog Tryz.f12 (OpenSpec.ofChange Rows.algebraSpec) false w args)
   (Rows.algebraSpec.post enc Tryz.prog Tryz.f12 false true false false):=by
 refine vC (C:=Tryz.checked) (X:=fun w _=>laidMetH Tryz.prog Rows.algebraRow.laid w) (fun _ _ _ hh h=>h.of_heap hh) qOwn started (by kernel_rfl) Tryz.func12
  (ChangeSpec.witness_shaped (enc:=enc) (C:=Tryz.checked) (os:=os) (X:=fun w _=>laidMetH Tryz.prog Rows.algebraRow.laid w) false (World.doorLaid Tryz.prog 31 os) #[.slice none 0 0] 8 rfl (World.shaped_of_RefB (by kernel_rfl) (by kernel_rfl)) (by kernel_rfl) (by kernel_rfl) (by kernel_rfl) (xY os _)) ?_
 intro W base args ds gs before JO hW _ hwt hsh hL _;have hval:∀(j:Nat) t v,Tryz.f12.params[j]? =some t→args[j]? =some v→Value.okWide Tryz.prog W .any base t v:=JO;have hW':=hW;obtain ⟨p,q,hA0,hV0,rfl,hfz,hnd⟩:=hW;have hA:DataW.TrodAll enc Tryz.prog W 0 (fun _=>true) true Tryz.f12.params.toList args.toList ds p:=hA0;have hV:DataW.TrodVars enc Tryz.prog W (fun _=>true) [] gs q:=hV0;rw [Tryz.params12] at hA hval;obtain ⟨v0,vs0,d0,ds0,p0,q0,hargs,rfl,rfl,h0,r0⟩:=trodAll_cons hA;obtain ⟨rfl,rfl,rfl⟩:=trodAll_nil r0;obtain rfl:args=#[v0]:=by cases args;simp_all
 have hE:=xX hL hsh;obtain ⟨rfl,rfl⟩:gs=[]∧q=[]:=by
  cases gs with
  |nil=>exact ⟨rfl,hV⟩
  |cons g r=>exact absurd hV (by intro h;cases h)
 obtain ⟨a0,len,cap,rfl⟩:=okWide_slice Tryz.underlying44 (hval 0 44 v0 rfl rfl);clear hA0 JO;simp only [List.append_nil] at hW' hwt;obtain ⟨n,hraw,hlt,hd⟩:=IZ h0;have hn:n≤4398046511104:=by
  rcases hd with ⟨_,rfl⟩|⟨el,sp,rfl,rfl⟩
  ·omega
  ·have hb:(el.length+sp.length)*Tryz.prog.bytesOf 50≤reachBytes:=sized_slice (j:=0) (t:=44) hwt (by
    show (Tryz.f12.params.toList++[])[0]? =_
    rw [Tryz.params12]
    rfl) rfl Tryz.underlying44
   rw [IY] at hb;have:reachBytes=140737488351232:=rfl;omega
 refine (xW _ n W hraw hn hE).mono fun e W' ⟨he,hb⟩=> ?_
 subst he;exact ⟨_,rfl,_,_,_,[],p0,[],hW',trodAll_mk1 (shut_bool Tryz.underlying4 true),by
  have:=trodAll_cons_mk (Below.trod qLaid (by kernel_rfl) (of_decide_eq_true (by kernel_rfl)) h0 hb hlt) trodAll_mk0;simp only [List.append_nil] at this;exact this,rfl,hb.frame _,fun h=>by cases h⟩
theorem xZ:(Rows.algebraRow.inPlace==Tryz.prog.inPlace 12)=true:=by kernel_rfl
theorem x8:(Rows.algebraRow.unfollowed==Tryz.prog.unfollowed 12)=true:=by kernel_rfl
theorem x9:(Rows.algebraRow.recurses==Tryz.prog.recurses 12)=true:=by kernel_rfl
theorem yc:(Rows.algebraRow.named==Tryz.prog.varsNamed 12)=true:=by kernel_rfl
theorem Ak:joinedFacts Tryz.prog 12 Tryz.f12 Rows.algebraSpec Rows.algebraRow=true:=by
 unfold joinedFacts;rw [xZ,x8,x9,yc]
 kernel_rfl
theorem yf:Rows.AlgebraSaid:=
 OpenClaim.holds_of_wide 12 Tryz.f12 rfl rfl rfl rfl rfl rfl rfl ⟨rfl,rfl,rfl,rfl,rfl⟩ rfl rfl rfl rfl rfl (by kernel_rfl) Tryz.func12 Ak
  (of_decide_eq_true (by kernel_rfl)) (by unfold Func.isWrapper;rw [if_neg (of_decide_eq_false (by kernel_rfl))];exact ⟨rfl,rfl⟩)
  (fun os started H enc _=>qZ os started H enc)
theorem algebra_card:Rows.AlgebraCardSaid:=
 Claim7.holds_tied_plain_at .later [] [.handle] true (true,"fd20d6c549d17d85a810cd82a604e0c889f018ff3c871702bc764961d7eacfa8") true
  yf (fun _ h=>by cases h) (by kernel_rfl) (fun _ h=>by cases h) algebra_row_tie rfl ⟨rfl,rfl⟩ (by kernel_rfl) rfl
  (fun f fn hf hfn=>by
   obtain rfl:f=12:=Option.some.inj ((show Tryz.prog.funcNamed Tryz.f12.name=some 12 by kernel_rfl).symm.trans hf) |>.symm;obtain rfl:fn=Tryz.f12:=(Option.some.inj (Tryz.func12.symm.trans hfn)).symm;exact ⟨by kernel_rfl,fun j t ht=>by
    rw [Tryz.params12] at ht;have h3:t=44:=by
     rcases j with _|j
     ·simpa using ht.symm
     ·simp at ht
    rw [h3];exact (show Tryz.prog.wantsStandIn 44=false by kernel_rfl)⟩)
  (by kernel_rfl)
#print axioms algebra_card
end Go.Proofs.YtlbpnlngckgcbaaGreatDoor
