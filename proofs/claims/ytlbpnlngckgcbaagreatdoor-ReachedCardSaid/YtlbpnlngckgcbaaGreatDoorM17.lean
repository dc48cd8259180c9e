import Derived.Test.YtlbpnlngckgcbaaGreatDoorM16
import Derived.Shelf.Strings.Builder1
import Derived.Shelf.Strings.Builder2
import Derived.Shelf.Strings.OnBuilder
import Derived.Shelf.Strings.BuilderF
import Derived.Shelf.Strings.BuilderK
import Derived.Shelf.LaysM
import Derived.Shelf.Strconv.Clone
import Derived.Shelf.Strings.Search1
import Derived.Shelf.Strings.Search2
import Derived.Shelf.Strings.Cut
import Derived.Shelf.Strings.Shaped
import Derived.Test.YtlbpnlngckgcbaaGreatDoorM13
set_option linter.all false
set_option maxHeartbeats 4000000
set_option maxRecDepth 100000
namespace Go.Proofs.YtlbpnlngckgcbaaGreatDoor
open Go.RowKit Go.PlainAid
structure Bn (x:Ex) (n:Nat):Prop where
 p:(aj x).length≤n
 g:(aY x).length≤n
 wf:WF x
theorem Bn.le {x:Ex} {n m:Nat} (h:Bn x n) (hm:n≤m):Bn x m:=⟨Nat.le_trans h.p hm,Nat.le_trans h.g hm,h.wf⟩
theorem Bn.leaf (nd:Nd) (r:Option Ex) (n:Nat) (h1:1≤n) (h2:nd.kind=0→nd.gs.length≤n∧nd.gs≠ []):Bn ⟨nd,none,r⟩ n:=by
 refine ⟨by simp [aj];omega,?_,?_⟩
 ·simp only [aY,aj,List.flatMap_cons,List.flatMap_nil,List.append_nil,mi]
  split
  ·rename_i hk;exact (h2 hk).1
  ·simp
 ·intro p hp hl hk;simp only [aj,List.mem_singleton] at hp;subst hp;exact (h2 hk).2
theorem Bn.join {x y:Ex} {n m:Nat} (t:RJ) (p:Nat) (hx:Bn x n) (hy:Bn y m):Bn (qA t p x y) (n+1+m):=by
 refine ⟨?_,?_,?_⟩
 ·have h1:=hx.p;have h2:=hy.p;simp only [qA,aj,List.length_append,List.length_cons,List.length_nil];omega
 ·have h1:=hx.g;have h2:=hy.g;unfold aY at*;simp only [qA,aj,List.flatMap_append,List.flatMap_cons,List.flatMap_nil,List.append_nil,mi,List.length_append,List.length_nil,Nat.add_zero];omega
 ·intro q hq hl hk;simp only [qA,aj,List.mem_append,List.mem_singleton] at hq
  rcases hq with (hq|hq)|hq
  ·exact hx.wf q hq hl hk
  ·subst hq;simp at hl
  ·exact hy.wf q hq hl hk
def BN (r:Nat→fw Ex):Prop:=∀i x j,r i=.ok (x,j)→i<j∧Bn x (j-i)
theorem xg (T:Nat→RJ) (P:Nat→Nat):∀f acc i gs j,iP T P f acc i=.ok (gs,j)→gs≠ []∧gs.length+i<acc.length+j
 |0,_,i,x,j,h=>by simp [iP] at h
 |f+1,acc,i,x,j,h=>by
  unfold iP at h
  split at h
  ·simp at h
  ·rename_i hm;have:=iQ T P _ _ _ hm
   split at h
   ·have:=xg T P f _ _ _ _ h;refine ⟨this.1,?_⟩;have h2:=this.2;simp only [List.length_append,List.length_cons,List.length_nil] at h2;omega
   ·split at h<;>simp at h
    obtain ⟨rfl,rfl⟩:=h;simp;omega
theorem FC (T:Nat→RJ) (P:Nat→Nat):BN (sP T P):=by
 intro i x j h;refine ⟨qC T P _ _ _ h,?_⟩;unfold sP at h
 split at h
 ·simp at h
 ·rename_i hm;have:=xg T P _ _ _ _ _ hm;simp at h;obtain ⟨rfl,rfl⟩:=h;have h2:=this.2;simp only [List.length_nil] at h2;exact Bn.leaf _ _ _ (by omega) (fun _=>⟨by simp only;omega,this.1⟩)
theorem Db (T:Nat→RJ) (P:Nat→Nat):BN (lU T P):=by
 intro i x j h;have hm:=oZ T P _ _ _ h;refine ⟨hm,?_⟩;unfold lU at h
 split at h
 ·simp at h
 ·split at h
  ·split at h
   ·simp at h
   ·simp at h;obtain ⟨rfl,rfl⟩:=h;exact Bn.leaf _ _ _ (by omega) (fun h=>by simp at h)
  ·simp at h;obtain ⟨rfl,rfl⟩:=h;exact Bn.leaf _ _ _ (by omega) (fun h=>by simp at h)
theorem xh (T:Nat→RJ) (P:Nat→Nat) (room:Bool) (inner:Nat→fw Ex) (hi:BN inner):BN (nu T P room inner):=by
 intro i x j h;unfold nu at h
 split at h
 ·exact FC T P _ _ _ h
 ·split at h
  ·split at h
   ·split at h
    ·simp at h
    ·rename_i hm;have:=hi _ _ _ hm
     split at h<;>simp at h
     obtain ⟨rfl,rfl⟩:=h;exact ⟨by omega,this.2.le (by omega)⟩
   ·simp at h
  ·exact Db T P _ _ _ h
theorem xk (T:Nat→RJ) (P:Nat→Nat) (l:List RJ) (part:Nat→fw Ex) (hp:BN part) (i0:Nat):∀f y i x j,i0≤i→Bn y (i-i0)→joinL T P l part f y i=.ok (x,j)→i≤j∧Bn x (j-i0)
 |0,_,i,x,j,h0,hb,h=>by simp [joinL] at h
 |f+1,y,i,x,j,h0,hb,h=>by
  unfold joinL at h
  split at h
  ·split at h
   ·simp at h
   ·rename_i hm;obtain ⟨h1,h2⟩:=hp _ _ _ hm;have:=xk T P l part hp i0 f _ _ _ _ (by omega) ((hb.join _ _ h2).le (by omega)) h;exact ⟨by omega,this.2⟩
  ·simp at h;obtain ⟨rfl,rfl⟩:=h;exact ⟨Nat.le_refl _,hb⟩
theorem nN (T:Nat→RJ) (P:Nat→Nat) (l:List RJ) (part:Nat→fw Ex) (hp:BN part):BN (iq T P l part):=by
 intro i x j h;unfold iq at h
 split at h
 ·simp at h
 ·rename_i hm;obtain ⟨h1,h2⟩:=hp _ _ _ hm;have:=xk T P l part hp i _ _ _ _ _ (by omega) h2 h;exact ⟨by omega,this.2⟩
theorem xm (T:Nat→RJ) (P:Nat→Nat):∀n,BN (ny T P n)
 |0=>nN T P _ _ (nN T P _ _ (xh T P false _ (fun i x j h=>by simp at h)))
 |n+1=>nN T P _ _ (nN T P _ _ (xh T P true _ (xm T P n)))
theorem Jk (T:Nat→RJ) (P:Nat→Nat) (i:Nat) (r:Rl) (j:Nat) (h:uD T P i=.ok (r,j)):Bn r.body j:=by
 unfold uD at h
 split at h
 ·simp at h
 ·split at h
  ·simp at h
  ·rename_i hk;have:=xm T P _ _ _ _ hk
   split at h<;>simp at h
   obtain ⟨rfl,rfl⟩:=h;exact this.2.le (by omega)
theorem xu (T:Nat→RJ) (P:Nat→Nat):∀f acc i rs j,(∀r∈acc,Bn r.body i)→jV T P f acc i=.ok (rs,j)→(∀r∈rs,Bn r.body j)∧rs.length+i≤acc.length+j∧i<j
 |0,_,i,x,j,_,h=>by simp [jV] at h
 |f+1,acc,i,x,j,ha,h=>by
  unfold jV at h
  split at h
  ·simp at h;obtain ⟨rfl,rfl⟩:=h;exact ⟨fun r hr=>(ha r hr).le (by omega),by omega,by omega⟩
  ·split at h
   ·simp at h
   ·split at h
    ·simp at h
    ·rename_i hm;have h1:=kQ T P _ _ _ hm;have h2:=Jk T P _ _ _ hm;have:=xu T P f _ _ _ _ (by
      intro r hr;rw [List.mem_append,List.mem_singleton] at hr
      rcases hr with hr|rfl
      ·exact (ha r hr).le (by omega)
      ·exact h2) h
     obtain ⟨g1,g2,g3⟩:=this;simp only [List.length_append,List.length_cons,List.length_nil] at g2;exact ⟨g1,by omega,by omega⟩
theorem FD (T:Nat→RJ) (P:Nat→Nat) (i:Nat) (t:Ty) (j:Nat) (h:nz T P i=.ok (t,j)):(∀r∈t.rels,Bn r.body j)∧t.rels.length≤j:=by
 unfold nz at h
 split at h
 ·split at h
  ·simp at h
  ·split at h
   ·simp at h
   ·rename_i hk;have:=xu T P _ _ _ _ _ (by simp) hk;simp at h;obtain ⟨rfl,rfl⟩:=h;refine ⟨this.1,?_⟩;have h2:=this.2.1;simp only [List.length_nil] at h2;simp only;omega
 ·simp at h
def TB (t:Ty) (n:Nat):Prop:=(∀r∈t.rels,Bn r.body n)∧t.rels.length≤n
theorem TB.le {t:Ty} {n m:Nat} (h:TB t n) (hm:n≤m):TB t m:=⟨fun r hr=>(h.1 r hr).le hm,Nat.le_trans h.2 hm⟩
theorem tY (T:Nat→RJ) (P:Nat→Nat):∀f acc i ts j,(∀t∈acc,TB t i)→ko T P f acc i=.ok (ts,j)→(∀t∈ts,TB t j)∧ts.length+i≤acc.length+j∧i≤j
 |0,_,i,x,j,_,h=>by simp [ko] at h
 |f+1,acc,i,x,j,ha,h=>by
  unfold ko at h
  split at h
  ·simp at h;obtain ⟨rfl,rfl⟩:=h;exact ⟨ha,Nat.le_refl _,Nat.le_refl _⟩
  ·split at h
   ·simp at h
   ·split at h
    ·simp at h
    ·rename_i hm;have h1:=l6 T P _ _ _ hm;have h2:=FD T P _ _ _ hm;have:=tY T P f _ _ _ _ (by
      intro t ht;rw [List.mem_append,List.mem_singleton] at ht
      rcases ht with ht|rfl
      ·exact (ha t ht).le (by omega)
      ·exact h2) h
     obtain ⟨g1,g2,g3⟩:=this;simp only [List.length_append,List.length_cons,List.length_nil] at g2;exact ⟨g1,by omega,by omega⟩
theorem kV (T:Nat→RJ) (P:Nat→Nat) (ts:List Ty) (j:Nat) (h:lV T P=.ok (ts,j)):(∀t∈ts,TB t j)∧ts.length≤j:=by
 have:=tY T P _ _ _ _ _ (by simp) h;refine ⟨this.1,?_⟩;have h2:=this.2.1;simp only [List.length_nil] at h2;omega
theorem RC.of_rep {b:Nat} {w:World} {sv:Value} {rs:List Rl} {n:Nat} (h:fC (b+1) b w sv rs) (hb:∀r∈rs,Bn r.body n) (hl:rs.length≤n) (hn:n≤500):∃rl,RC b w sv rs rl:=by
 obtain ⟨l,h1,h2,h3⟩:=h;refine ⟨l,h1,?_,h2,by omega,fun r hr=>Nat.le_trans (hb r hr).p (by omega),fun r hr=>Nat.le_trans (hb r hr).g (by omega),fun r hr=>(hb r hr).wf⟩;unfold fD;rw [c3_r3,List.length_map,show l.length=rs.length by rw [←h1,List.length_map]];exact aA h3 (Nat.zero_le _)
theorem MC.of_rep {b:Nat} {w:World} {sv:Value} {ts:List Ty} {n:Nat} (h:jl (b+1) b w sv ts) (hb:∀t∈ts,TB t n) (hl:ts.length≤n) (hn:n≤500) (hlt:b<w.heap.size):∃tl,MC b w sv ts tl:=by
 obtain ⟨l,h1,h2,h3⟩:=h;refine ⟨l,h1,?_,?_,by omega,hlt⟩
 ·unfold fD;rw [c3_t3,List.length_map,show l.length=ts.length by rw [←h1,List.length_map]];exact aA h3 (Nat.zero_le _)
 ·intro p hp;have hm:p.1∈ts:=by rw [←h1];exact List.mem_map_of_mem hp
  exact RC.of_rep (h2 p hp) (hb p.1 hm).1 (hb p.1 hm).2 hn
end Go.Proofs.YtlbpnlngckgcbaaGreatDoor
namespace Go.Proofs
open Go.Shelf
def Tryz.laysM316_ren:Go.Shelf.Ren:=⟨fun|316=>110|n=>n,fun|9=>9|3=>3|4=>4|37=>151|0=>0|127=>247|5=>5|n=>n,fun|n=>n⟩
theorem Tryz.laysM316:Go.Proofs.LaysM.n316 Tryz.prog Tryz.laysM316_ren:={
 mixed:=by kernel_rfl
 f316:=Tryz.func110.trans (congrArg some (by kernel_rfl))
 t0:=Tryz.underlying0
 a0:=Tryz.isAgg0
 z0:=Tryz.sizeOf0
 v0:=Tryz.zeroValue0
 t3:=Tryz.underlying3
 a3:=Tryz.isAgg3
 z3:=Tryz.sizeOf3
 v3:=Tryz.zeroValue3
 t4:=Tryz.underlying4
 a4:=Tryz.isAgg4
 z4:=Tryz.sizeOf4
 v4:=Tryz.zeroValue4
 t9:=Tryz.underlying9
 a9:=Tryz.isAgg9
 z9:=Tryz.sizeOf9
 v9:=Tryz.zeroValue9
 t37:=Tryz.underlying151
 a37:=Tryz.isAgg151
 z37:=Tryz.sizeOf151
 v37:=Tryz.zeroValue151
 t127:=Tryz.underlying247
 a127:=Tryz.isAgg247
 z127:=Tryz.sizeOf247
 v127:=Tryz.zeroValue247
 t5:=Tryz.underlying5
 a5:=Tryz.isAgg5
 z5:=Tryz.sizeOf5
 v5:=Tryz.zeroValue5
 i0:=by kernel_rfl
 i3:=by kernel_rfl
 i4:=by kernel_rfl
 i5:=by kernel_rfl
 i9:=by kernel_rfl
 i37:=by kernel_rfl
 i127:=by kernel_rfl}
open Go.RowKit in
theorem Tryz.stringslite_Clone (s:ByteArray) (w:World) (hlim:s.size≤281474976710656):
  Calls Tryz.prog 110 #[.string s] w fun e w'=>e=.returned (.string s)∧Below w.heap.size w w':=Any.stringslite_Clone Tryz.laysM316 s w hlim
def Tryz.lays219_ren:Go.Shelf.Ren:=⟨fun|219=>202|217=>236|225=>237|224=>238|267=>239|266=>261|314=>262|n=>n,fun|9=>9|3=>3|4=>4|5=>5|46=>215|146=>407|51=>313|n=>n,fun|1=>1|n=>n⟩
def Tryz.lays145_ren:Go.Shelf.Ren:=⟨fun|145=>92|220=>143|219=>202|217=>236|225=>237|224=>238|267=>239|266=>261|314=>262|n=>n,fun|9=>9|4=>4|59=>176|3=>3|5=>5|46=>215|146=>407|51=>313|n=>n,fun|1=>1|n=>n⟩
theorem Tryz.lays145:Go.Proofs.Lays.n145 Tryz.prog Tryz.lays145_ren:={
 mixed:=by kernel_rfl
 f145:=Tryz.func92.trans (congrArg some (by kernel_rfl))
 f217:=Tryz.func236.trans (congrArg some (by kernel_rfl))
 f219:=Tryz.func202.trans (congrArg some (by kernel_rfl))
 f220:=Tryz.func143.trans (congrArg some (by kernel_rfl))
 f224:=Tryz.func238.trans (congrArg some (by kernel_rfl))
 f225:=Tryz.func237.trans (congrArg some (by kernel_rfl))
 f266:=Tryz.func261.trans (congrArg some (by kernel_rfl))
 f267:=Tryz.func239.trans (congrArg some (by kernel_rfl))
 f314:=Tryz.func262.trans (congrArg some (by kernel_rfl))
 t3:=Tryz.underlying3
 a3:=Tryz.isAgg3
 z3:=Tryz.sizeOf3
 v3:=Tryz.zeroValue3
 t4:=Tryz.underlying4
 a4:=Tryz.isAgg4
 z4:=Tryz.sizeOf4
 v4:=Tryz.zeroValue4
 t5:=Tryz.underlying5
 a5:=Tryz.isAgg5
 z5:=Tryz.sizeOf5
 v5:=Tryz.zeroValue5
 t9:=Tryz.underlying9
 a9:=Tryz.isAgg9
 z9:=Tryz.sizeOf9
 v9:=Tryz.zeroValue9
 t46:=Tryz.underlying215
 a46:=Tryz.isAgg215
 z46:=Tryz.sizeOf215
 v46:=Tryz.zeroValue215
 t51:=Tryz.underlying313
 a51:=Tryz.isAgg313
 z51:=Tryz.sizeOf313
 v51:=Tryz.zeroValue313
 t59:=Tryz.underlying176
 a59:=Tryz.isAgg176
 z59:=Tryz.sizeOf176
 v59:=Tryz.zeroValue176
 t146:=Tryz.underlying407
 a146:=Tryz.isAgg407
 z146:=Tryz.sizeOf407
 v146:=Tryz.zeroValue407
 g1:=by kernel_rfl}
end Go.Proofs
namespace Go.Proofs.YtlbpnlngckgcbaaGreatDoor
open Go.RowKit Go.PlainAid
theorem kW (s:RJ) (w:World) (hs:s.size≤500):Calls Tryz.prog 70 #[.string s] w fun e w'=>e=.returned (.string s)∧Below w.heap.size w w':=by
 have C:=ae (Tryz.stringslite_Clone s w (by omega));go_enter Tryz.func70,Tryz.ntmps70;go_wp2_with fail;refine (aa C).mono ?_;rintro e w' ⟨rfl,hb⟩;have HB:=ae hb;clear hb C;go_wp2;go_ret;exact ⟨rfl,aa HB⟩
def lM (s:RJ):Except (Option Nat×Nat) (List Ty):=if 500<s.size then .error (none,1) else match lV (TT s) (PP s) with
 | .error (c,j)=> .error (some (PP s j),c)
 | .ok (ts,_)=>match q8 ts with
  |some (p,c)=> .error (some p,c)
  |none=> .ok ts
def errR:Option Nat×Nat→Value
 |(none,c)=>aM c
 |(some p,c)=>eG p c
def kG (w:World) (r:Except (Option Nat×Nat) (List Ty)) (e:Ending) (w':World):Prop:=Below w.heap.size w w'∧match r with
 | .error x=>e=.returned (.tuple #[.agg #[.slice none 0 0],errR x])
 | .ok ts=>∃sv tl b,e=.returned (.tuple #[.agg #[sv],.nilIface])∧MC b w' sv ts tl
theorem Dc (s:RJ) (w:World) (hs:500<s.size):Calls Tryz.prog 40 #[.string s] w (kG w (.error (none,1))):=by
 have hn:(500:Int)<(s.size:Int):=by omega
 have R0:=ae (ag.new w #[.slice none 0 0] 75);have B0:=ae (Below.refl w.heap.size w);go_enter Tryz.func40,Tryz.ntmps40;go_wp2;refine bodyPost_ret (v:=.tuple #[.agg #[.slice none 0 0],aM 1]) (aK Tryz.results40 _ _ w.heap.size _ 75 _ _ rfl rfl ?hB Tryz.underlying75 rfl (by kernel_rfl)) rfl ?post
 case hB=>exact ⟨_,(by with_reducible repeat (first|exact aa R0|apply ag.alloc|apply ag.drew|apply ag.set|(apply ag.other;case ha=>exact (by first|omega|(simp;omega)|simp)))),by rfl⟩
 case post=>exact ⟨(by with_reducible repeat (first|exact aa B0|refine Below.drew ?_|(refine Below.setCell ?_ ?_ _;rotate_left;exact (by first|omega|(simp;omega)|simp))|(refine Below.alloc ?_ ?_ _;rotate_left;exact (by first|omega|(simp;omega)|simp)))),rfl⟩
theorem FE (s:RJ) (w:World) (hs:s.size≤500) (c j:Nat) (hm:lV (TT s) (PP s)=.error (c,j)):Calls Tryz.prog 40 #[.string s] w (kG w (.error (some (PP s j),c))):=by
 have HM:=ae hm;clear hm;have hn:¬((500:Int)<(s.size:Int)):=by omega
 have CL:=ae (kW s (w.alloc (.cells #[.slice none 0 0] 75)) hs);go_enter Tryz.func40,Tryz.ntmps40;go_wp2_with fail;refine (aa CL).mono ?_;rintro e w0 ⟨rfl,hb0⟩;have B0:=ae (((Below.refl _ w).alloc RH (.cells #[.slice none 0 0] 75)).trans (hb0.mono (by simp)));have R0:=ae ((ag.new w #[.slice none 0 0] 75).below hb0);have C0:=ae (gz s 0 0 w0 (by unfold maxLen;omega) (Nat.zero_le _) rfl);clear hb0 CL;go_wp2_with fail;refine (aa C0).mono ?_;rintro e w1 ⟨rfl,hb1⟩;have B1:=ae ((aa B0).trans (hb1.mono (aa B0).size));have R1:=ae ((aa R0).below hb1);have NV:=((aa R0).below hb1).lt;clear hb1 C0 R0 B0;have A1:At (w1.alloc (.cells #[.string s,.int .i64 (aV s 0),.string (aP s 0),.int .i64 0] 140)) w1.heap.size s 0 0:=⟨⟨⟨ag.new w1 _ _⟩,Nat.zero_le _⟩,Nat.zero_le _⟩;have C1:=ae (l7 w1.heap.size s 0 _ hs A1 rfl);have R2:=ae ((aa R1).alloc (.cells #[.string s,.int .i64 (aV s 0),.string (aP s 0),.int .i64 0] 140));have B2:=ae ((aa B1).alloc (aa B1).size (.cells #[.string s,.int .i64 (aV s 0),.string (aP s 0),.int .i64 0] 140));clear A1;rw [aa HM] at C1;go_wp2_with fail;refine (aa C1).mono ?_;rintro e w3 ⟨b3,v,d',rfl,⟨va,vn,vc,rfl⟩,a3⟩;have c1:w3.cell? ⟨w1.heap.size,1,none⟩=some (.int .i64 (PP s j)):=a3.pos.rd.c1;have szb:=a3.lt;have B3:=ae ((aa B2).trans (b3.below (by have:=(aa B1).size;omega) (by have:=(aa B2).size;omega)));have R3:=ae ((aa R2).but b3 (by omega));have r0:=(aa R3).cell (o:=0) rfl;simp only [List.getElem_toArray,List.getElem_cons_zero] at r0;have rz:=(aa R3).fz;have rl:=(aa R3).lt;have hne:¬(w3.heap.size=w.heap.size):=by omega
 have lX:¬(w.heap.size=w3.heap.size):=by omega
 clear a3 b3 C1;unfold aM;go_wp2_with (go_at_call 73;refine (fE _ c _).mono ?_;rintro e w4 ⟨rfl,rfl⟩);refine bodyPost_ret (v:=.tuple #[.agg #[.slice none 0 0],eG (PP s j) c]) (aK Tryz.results40 _ _ w.heap.size _ 75 _ _ rfl rfl ?hB Tryz.underlying75 rfl (by kernel_rfl)) rfl ?post
 case hB=>exact ⟨_,(by with_reducible repeat (first|exact aa R3|apply ag.alloc|apply ag.drew|apply ag.set|(apply ag.other;case ha=>exact (by first|omega|(simp;omega)|simp)))),by rfl⟩
 case post=>exact ⟨(by with_reducible repeat (first|exact aa B3|refine Below.drew ?_|(refine Below.setCell ?_ ?_ _;rotate_left;exact (by first|omega|(simp;omega)|simp))|(refine Below.alloc ?_ ?_ _;rotate_left;exact (by first|omega|(simp;omega)|simp)))),rfl⟩
theorem Aa (s:RJ) (w:World) (hs:s.size≤500) (ts:List Ty) (j p c:Nat) (hm:lV (TT s) (PP s)=.ok (ts,j)) (hc:q8 ts=some (p,c)):Calls Tryz.prog 40 #[.string s] w (kG w (.error (some p,c))):=by
 have HM:=ae hm;have HC:=ae hc;clear hm hc;have hn:¬((500:Int)<(s.size:Int)):=by omega
 have CL:=ae (kW s (w.alloc (.cells #[.slice none 0 0] 75)) hs);go_enter Tryz.func40,Tryz.ntmps40;go_wp2_with fail;refine (aa CL).mono ?_;rintro e w0 ⟨rfl,hb0⟩;have B0:=ae (((Below.refl _ w).alloc RH (.cells #[.slice none 0 0] 75)).trans (hb0.mono (by simp)));have R0:=ae ((ag.new w #[.slice none 0 0] 75).below hb0);have C0:=ae (gz s 0 0 w0 (by unfold maxLen;omega) (Nat.zero_le _) rfl);clear hb0 CL;go_wp2_with fail;refine (aa C0).mono ?_;rintro e w1 ⟨rfl,hb1⟩;have B1:=ae ((aa B0).trans (hb1.mono (aa B0).size));have R1:=ae ((aa R0).below hb1);have NV:=((aa R0).below hb1).lt;clear hb1 C0 R0 B0;have A1:At (w1.alloc (.cells #[.string s,.int .i64 (aV s 0),.string (aP s 0),.int .i64 0] 140)) w1.heap.size s 0 0:=⟨⟨⟨ag.new w1 _ _⟩,Nat.zero_le _⟩,Nat.zero_le _⟩;have C1:=ae (l7 w1.heap.size s 0 _ hs A1 rfl);have R2:=ae ((aa R1).alloc (.cells #[.string s,.int .i64 (aV s 0),.string (aP s 0),.int .i64 0] 140));have B2:=ae ((aa B1).alloc (aa B1).size (.cells #[.string s,.int .i64 (aV s 0),.string (aP s 0),.int .i64 0] 140));clear A1;rw [aa HM] at C1;go_wp2_with fail;refine (aa C1).mono ?_;rintro e w3 ⟨b3,v,rfl,⟨sv,rfl,bi⟩,a3⟩;obtain ⟨tl,xw⟩:=MC.of_rep bi (kV _ _ _ _ (aa HM)).1 (kV _ _ _ _ (aa HM)).2 (by have:=a3.le;omega) a3.lt;obtain ⟨ma,mn,mc,rfl⟩:=xw.form;have szb:=a3.lt;have B3:=ae ((aa B2).trans (b3.below (by have:=(aa B1).size;omega) (by have:=(aa B2).size;omega)));have R3:=ae ((aa R2).but b3 (by omega));have C4:=ae (tX _ _ ts tl _ (xw.below ((Below.refl _ _).alloc RH (.cells #[.slice ma mn mc] 75))));rw [aa HC] at C4;clear a3 b3 C1 bi xw;go_wp2_with fail;refine (aa C4).mono ?_;rintro e w4 ⟨rfl,hb4⟩;have B4:=ae ((aa B3).trans (((Below.refl _ w3).alloc RH (.cells #[.slice ma mn mc] 75)).trans (hb4.mono (by simp)) |>.mono (aa B3).size));have R4:=ae (((aa R3).alloc (.cells #[.slice ma mn mc] 75)).below hb4);have r0:=(aa R4).cell (o:=0) rfl;simp only [List.getElem_toArray,List.getElem_cons_zero] at r0;have rz:=(aa R4).fz;have rl:=(aa R4).lt;clear hb4 C4;unfold z8 eG aM;go_wp2;refine bodyPost_ret (v:=.tuple #[.agg #[.slice none 0 0],eG p c]) (aK Tryz.results40 _ _ w.heap.size _ 75 _ _ rfl rfl ?hB Tryz.underlying75 rfl (by kernel_rfl)) rfl ?post
 case hB=>exact ⟨_,(by with_reducible repeat (first|exact aa R4|apply ag.alloc|apply ag.drew|apply ag.set|(apply ag.other;case ha=>exact (by first|omega|(simp;omega)|simp)))),by rfl⟩
 case post=>exact ⟨(by with_reducible repeat (first|exact aa B4|refine Below.drew ?_|(refine Below.setCell ?_ ?_ _;rotate_left;exact (by first|omega|(simp;omega)|simp))|(refine Below.alloc ?_ ?_ _;rotate_left;exact (by first|omega|(simp;omega)|simp)))),rfl⟩
theorem Jl (s:RJ) (w:World) (hs:s.size≤500) (ts:List Ty) (j:Nat) (hm:lV (TT s) (PP s)=.ok (ts,j)) (hc:q8 ts=none):Calls Tryz.prog 40 #[.string s] w (kG w (.ok ts)):=by
 have HM:=ae hm;have HC:=ae hc;clear hm hc;have hn:¬((500:Int)<(s.size:Int)):=by omega
 have CL:=ae (kW s (w.alloc (.cells #[.slice none 0 0] 75)) hs);go_enter Tryz.func40,Tryz.ntmps40;go_wp2_with fail;refine (aa CL).mono ?_;rintro e w0 ⟨rfl,hb0⟩;have B0:=ae (((Below.refl _ w).alloc RH (.cells #[.slice none 0 0] 75)).trans (hb0.mono (by simp)));have R0:=ae ((ag.new w #[.slice none 0 0] 75).below hb0);have C0:=ae (gz s 0 0 w0 (by unfold maxLen;omega) (Nat.zero_le _) rfl);clear hb0 CL;go_wp2_with fail;refine (aa C0).mono ?_;rintro e w1 ⟨rfl,hb1⟩;have B1:=ae ((aa B0).trans (hb1.mono (aa B0).size));have R1:=ae ((aa R0).below hb1);have NV:=((aa R0).below hb1).lt;clear hb1 C0 R0 B0;have A1:At (w1.alloc (.cells #[.string s,.int .i64 (aV s 0),.string (aP s 0),.int .i64 0] 140)) w1.heap.size s 0 0:=⟨⟨⟨ag.new w1 _ _⟩,Nat.zero_le _⟩,Nat.zero_le _⟩;have C1:=ae (l7 w1.heap.size s 0 _ hs A1 rfl);have R2:=ae ((aa R1).alloc (.cells #[.string s,.int .i64 (aV s 0),.string (aP s 0),.int .i64 0] 140));have B2:=ae ((aa B1).alloc (aa B1).size (.cells #[.string s,.int .i64 (aV s 0),.string (aP s 0),.int .i64 0] 140));clear A1;rw [aa HM] at C1;go_wp2_with fail;refine (aa C1).mono ?_;rintro e w3 ⟨b3,v,rfl,⟨sv,rfl,bi⟩,a3⟩;obtain ⟨tl,xw⟩:=MC.of_rep bi (kV _ _ _ _ (aa HM)).1 (kV _ _ _ _ (aa HM)).2 (by have:=a3.le;omega) a3.lt;obtain ⟨ma,mn,mc,rfl⟩:=xw.form;have szb:=a3.lt;have B3:=ae ((aa B2).trans (b3.below (by have:=(aa B1).size;omega) (by have:=(aa B2).size;omega)));have R3:=ae ((aa R2).but b3 (by omega));have M3:=ae (xw.below ((Below.refl _ _).alloc RH (.cells #[.slice ma mn mc] 75)));have C4:=ae (tX _ _ ts tl _ (aa M3));rw [aa HC] at C4;clear a3 b3 C1 bi xw;go_wp2_with fail;refine (aa C4).mono ?_;rintro e w4 ⟨rfl,hb4⟩;have B4:=ae ((aa B3).trans (((Below.refl _ w3).alloc RH (.cells #[.slice ma mn mc] 75)).trans (hb4.mono (by simp)) |>.mono (aa B3).size));have R4:=ae (((aa R3).alloc (.cells #[.slice ma mn mc] 75)).below hb4);have M4:=ae ((aa M3).below hb4);have q0:w4.cell? ⟨w3.heap.size,0,none⟩=some (.slice ma mn mc):=((ag.new w3 #[.slice ma mn mc] 75).below hb4).cell rfl;have r0:=(aa R4).cell (o:=0) rfl;simp only [List.getElem_toArray,List.getElem_cons_zero] at r0;have rz:=(aa R4).fz;have rl:=(aa R4).lt;clear hb4 C4;unfold z8;go_wp2;refine bodyPost_ret (v:=.tuple #[.agg #[.slice ma mn mc],.nilIface]) (aK Tryz.results40 _ _ w.heap.size _ 75 _ _ rfl rfl ?hB Tryz.underlying75 rfl (by kernel_rfl)) rfl ?post
 case hB=>exact ⟨_,(by with_reducible repeat (first|exact aa R4|apply ag.alloc|apply ag.drew|apply ag.set|(apply ag.other;case ha=>exact (by first|omega|(simp;omega)|simp)))),by rfl⟩
 case post=>exact ⟨(by with_reducible repeat (first|exact aa B4|refine Below.drew ?_|(refine Below.setCell ?_ ?_ _;rotate_left;exact (by first|omega|(simp;omega)|simp))|(refine Below.alloc ?_ ?_ _;rotate_left;exact (by first|omega|(simp;omega)|simp)))),_,tl,_,rfl,(aa M4).kt (KT.set (aa R4) (by decide) 0 _) (by simp [World.setCell])⟩
theorem FH (s:RJ) (w:World):Calls Tryz.prog 40 #[.string s] w (kG w (lM s)):=by
 unfold lM
 split
 ·rename_i h;exact Dc s w h
 ·rename_i h;have hs:s.size≤500:=by omega
  split
  ·rename_i c j hm;exact FE s w hs c j hm
  ·rename_i ts j hm
   split
   ·rename_i p c hc;exact Aa s w hs ts j p c hm hc
   ·rename_i hc;exact Jl s w hs ts j hm hc
def kH (s:RJ):Array Value×Bool:=
 if 53<s.size then (#[.string ⟨#[]⟩,.string ⟨#[]⟩,.string ⟨#[]⟩,.string ⟨#[]⟩,.string ⟨#[]⟩,.string ⟨#[]⟩],false) else
 (#[.string (ax (ax (ax s 64).1 35).1 58).1,.string (ax (ax (ax s 64).1 35).1 58).2.1,.string (ax (ax s 64).1 35).2.1,.string (ax (ax (ax s 64).2.1 35).1 58).1,.string (ax (ax (ax s 64).2.1 35).1 58).2.1,.string (ax (ax s 64).2.1 35).2.1],
  dR (ax (ax s 64).1 35).1&&kC (ax (ax s 64).2.1 35).1 (ax (ax s 64).2.1 35).2.1 (ax (ax s 64).2.1 35).2.2&&dG (ax (ax s 64).1 35).2.1)
theorem Ab (s:RJ) (w:World) (hs:53<s.size):
  Calls Tryz.prog 60 #[.string s] w fun e w'=>e=.returned (.tuple #[.agg (kH s).1,.bool (kH s).2])∧Below w.heap.size w w':=by
 unfold kH;rw [if_pos hs];have hs':(53:Int)<(s.size:Int):=by omega
 have R0:=ae (ag.new w #[.string ⟨#[]⟩,.string ⟨#[]⟩,.string ⟨#[]⟩,.string ⟨#[]⟩,.string ⟨#[]⟩,.string ⟨#[]⟩] 123);have B0:=ae (Below.refl w.heap.size w);clear hs;go_enter Tryz.func60,Tryz.ntmps60;go_wp2;refine bodyPost_ret (v:=.tuple #[.agg #[.string ⟨#[]⟩,.string ⟨#[]⟩,.string ⟨#[]⟩,.string ⟨#[]⟩,.string ⟨#[]⟩,.string ⟨#[]⟩],.bool false]) (aK Tryz.results60 _ _ w.heap.size _ 123 _ _ rfl rfl ?hB Tryz.underlying123 rfl (by kernel_rfl)) rfl ?post
 case hB=>exact ⟨_,(by with_reducible repeat (first|exact aa R0|apply ag.alloc|apply ag.drew|apply ag.set|(apply ag.other;case ha=>exact (by first|omega|(simp;omega)|simp)))),by rfl⟩
 case post=>exact ⟨rfl,(by with_reducible repeat (first|exact aa B0|refine Below.drew ?_|(refine Below.setCell ?_ ?_ _;rotate_left;exact (by first|omega|(simp;omega)|simp))|(refine Below.alloc ?_ ?_ _;rotate_left;exact (by first|omega|(simp;omega)|simp))))⟩
theorem xy (PC:CY) (s:RJ) (w:World) (hs:s.size≤53) (hm:ow w) (hw:1<w.heap.size):
  Calls Tryz.prog 60 #[.string s] w fun e w'=>e=.returned (.tuple #[.agg (kH s).1,.bool (kH s).2])∧Below w.heap.size w w':=by
 unfold kH;rw [if_neg (by omega)];have hs':¬((53:Int)<(s.size:Int)):=by omega
 have b0:Below w.heap.size w (w.alloc (.cells #[.string ⟨#[]⟩,.string ⟨#[]⟩,.string ⟨#[]⟩,.string ⟨#[]⟩,.string ⟨#[]⟩,.string ⟨#[]⟩] 123)):=(Below.refl _ w).alloc RH _;have B0:=ae b0;have R0:=ae (ag.new w #[.string ⟨#[]⟩,.string ⟨#[]⟩,.string ⟨#[]⟩,.string ⟨#[]⟩,.string ⟨#[]⟩,.string ⟨#[]⟩] 123);have HM:=ae hm;have C0:=ae (kW s (w.alloc (.cells #[.string ⟨#[]⟩,.string ⟨#[]⟩,.string ⟨#[]⟩,.string ⟨#[]⟩,.string ⟨#[]⟩,.string ⟨#[]⟩] 123)) (by omega));have z1:=jB s 64;have C1:=ae (fun w hm=>PC s 64 w (by omega) hm);generalize ax s 64=X1 at*;obtain ⟨l,r,ok⟩:=X1;simp only at z1 C1 ⊢;have z2:=jB l 35;have C2:=ae (fun w hm=>PC l 35 w (by omega) hm);generalize ax l 35=X2 at*;obtain ⟨what,rel,has⟩:=X2;simp only at z2 C2 ⊢;have C3:=ae (fun w hm hw=>jm PC what w (by omega) hm hw);have C4:=ae (fun w hm hw=>pW PC r w (by omega) hm hw);have C5:=ae (fun w=>jA rel w (by unfold maxLen;omega));generalize dR what=th at*;generalize ax what 58=X3 at*;obtain ⟨kind,id,two⟩:=X3;generalize ax r 35=X4 at*;obtain ⟨x,FI,al⟩:=X4;simp only at C3 C4 ⊢;generalize kC x FI al=so at*;generalize ax x 58=X5 at*;obtain ⟨sub,who,two2⟩:=X5;simp only at C3 C4 ⊢;generalize dG rel=fr at*;clear z1 z2 b0 hm hs PC;go_enter Tryz.func60,Tryz.ntmps60;go_wp2_with fail;refine (aa C0).mono ?_;rintro e w1 ⟨rfl,hb1⟩;have B1:=ae ((aa B0).trans (hb1.mono (aa B0).size));have R1:=ae ((aa R0).below hb1);have D1:=ae (aa C1 w1 ((aa HM).below (aa B1) hw));clear hb1 C0 C1 B0 R0;go_wp2_with fail;refine (aa D1).mono ?_;rintro e w2 ⟨rfl,hb2⟩;have B2:=ae ((aa B1).trans (hb2.mono (aa B1).size));have R2:=ae ((aa R1).below hb2);have D2:=ae (aa C2 w2 ((aa HM).below (aa B2) hw));clear hb2 D1 C2 B1 R1;go_wp2_with fail;refine (aa D2).mono ?_;rintro e w3 ⟨rfl,hb3⟩;have B3:=ae ((aa B2).trans (hb3.mono (aa B2).size));have R3:=ae ((aa R2).below hb3);have D3:=ae (aa C3 w3 ((aa HM).below (aa B3) hw) (by have:=(aa B3).size;omega));clear hb3 D2 C3 B2 R2;go_wp2_with fail;refine (aa D3).mono ?_;rintro e w4 ⟨rfl,hb4⟩;have B4:=ae (((aa B3).trans (hb4.mono (aa B3).size)).alloc ((aa B3).trans (hb4.mono (aa B3).size)).size (.cells #[.string kind,.string id] 98));have R4:=ae (((aa R3).below hb4).alloc (.cells #[.string kind,.string id] 98));have T4:=ae (ag.new w4 #[.string kind,.string id] 98);have D4:=ae (aa C4 (w4.alloc (.cells #[.string kind,.string id] 98)) ((aa HM).below (aa B4) hw) (by have:=(aa B4).size;omega));have q4:=((aa R3).below hb4).lt;clear hb4 D3 C4 B3 R3;go_wp2_with fail;refine (aa D4).mono ?_;rintro e w5 ⟨rfl,gF⟩;have B5:=ae ((aa B4).trans (gF.mono (aa B4).size));have R5:=ae ((aa R4).below gF);have T5:=ae ((aa T4).below gF);clear gF D4 B4 R4 T4;go_wp2_with fail;have S6:=ae (ag.new w5 #[.string sub,.string who,.string FI] 102);have T6:=ae ((aa T5).alloc (.cells #[.string sub,.string who,.string FI] 102));have R6:=ae ((aa R5).alloc (.cells #[.string sub,.string who,.string FI] 102));have B6:=ae ((aa B5).alloc (aa B5).size (.cells #[.string sub,.string who,.string FI] 102));have l5:=(aa R5).lt;have l4:=(aa T5).lt;generalize (w5.alloc (.cells #[.string sub,.string who,.string FI] 102))=W at*;have n1:¬(w.heap.size=w4.heap.size):=by omega
 have n2:¬(w4.heap.size=w.heap.size):=by omega
 have n3:¬(w.heap.size=w5.heap.size):=by omega
 have n4:¬(w5.heap.size=w.heap.size):=by omega
 have rz:=(aa R6).fz;have r0:W.cell? ⟨w.heap.size,0,none⟩=some (.string ⟨#[]⟩):=(aa R6).cell rfl;have r1:W.cell? ⟨w.heap.size,1,none⟩=some (.string ⟨#[]⟩):=(aa R6).cell rfl;have r2:W.cell? ⟨w.heap.size,2,none⟩=some (.string ⟨#[]⟩):=(aa R6).cell rfl;have r3:W.cell? ⟨w.heap.size,3,none⟩=some (.string ⟨#[]⟩):=(aa R6).cell rfl;have r4:W.cell? ⟨w.heap.size,4,none⟩=some (.string ⟨#[]⟩):=(aa R6).cell rfl;have r5:W.cell? ⟨w.heap.size,5,none⟩=some (.string ⟨#[]⟩):=(aa R6).cell rfl;have t0:W.cell? ⟨w4.heap.size,0,none⟩=some (.string kind):=(aa T6).cell rfl;have t1:W.cell? ⟨w4.heap.size,1,none⟩=some (.string id):=(aa T6).cell rfl;have s0:W.cell? ⟨w5.heap.size,0,none⟩=some (.string sub):=(aa S6).cell rfl;have s1:W.cell? ⟨w5.heap.size,1,none⟩=some (.string who):=(aa S6).cell rfl;have s2:W.cell? ⟨w5.heap.size,2,none⟩=some (.string FI):=(aa S6).cell rfl;clear B5 R5 T5 T6 S6
 cases th
 ·go_region
  all_goals (
   go_wp2;refine bodyPost_ret (v:=.tuple #[.agg #[.string kind,.string id,.string rel,.string sub,.string who,.string FI],.bool _]) (aK Tryz.results60 _ _ w.heap.size _ 123 _ _ rfl rfl ?_ Tryz.underlying123 rfl (by kernel_rfl)) rfl ?_
   ·exact ⟨_,(by with_reducible repeat (first|exact aa R6|apply ag.alloc|apply ag.drew|apply ag.set|(apply ag.other;case ha=>exact (by first|omega|(simp;omega)|simp)))),by rfl⟩
   ·exact ⟨rfl,(by with_reducible repeat (first|exact aa B6|refine Below.drew ?_|(refine Below.setCell ?_ ?_ _;rotate_left;exact (by first|omega|(simp;omega)|simp))|(refine Below.alloc ?_ ?_ _;rotate_left;exact (by first|omega|(simp;omega)|simp))))⟩)
 ·cases so
  ·go_region
   all_goals (
    go_wp2;refine bodyPost_ret (v:=.tuple #[.agg #[.string kind,.string id,.string rel,.string sub,.string who,.string FI],.bool _]) (aK Tryz.results60 _ _ w.heap.size _ 123 _ _ rfl rfl ?_ Tryz.underlying123 rfl (by kernel_rfl)) rfl ?_
    ·exact ⟨_,(by with_reducible repeat (first|exact aa R6|apply ag.alloc|apply ag.drew|apply ag.set|(apply ag.other;case ha=>exact (by first|omega|(simp;omega)|simp)))),by rfl⟩
    ·exact ⟨rfl,(by with_reducible repeat (first|exact aa B6|refine Below.drew ?_|(refine Below.setCell ?_ ?_ _;rotate_left;exact (by first|omega|(simp;omega)|simp))|(refine Below.alloc ?_ ?_ _;rotate_left;exact (by first|omega|(simp;omega)|simp))))⟩)
  ·go_region_held3 (fun w'=>w'.cell? ⟨w4.heap.size,0,none⟩=some (.string kind)∧w'.cell? ⟨w4.heap.size,1,none⟩=some (.string id)∧w'.cell? ⟨w5.heap.size,0,none⟩=some (.string sub)∧w'.cell? ⟨w5.heap.size,1,none⟩=some (.string who)∧w'.cell? ⟨w5.heap.size,2,none⟩=some (.string FI)) (go_keep)
    ((go_at_call 93;refine (aa C5 _).mono ?_;rintro e w7 ⟨rfl,rfl⟩))
   go_wp2;refine bodyPost_ret (v:=.tuple #[.agg #[.string kind,.string id,.string rel,.string sub,.string who,.string FI],.bool _]) (aK Tryz.results60 _ _ w.heap.size _ 123 _ _ rfl rfl ?_ Tryz.underlying123 rfl (by kernel_rfl)) rfl ?_
   ·exact ⟨_,(by with_reducible repeat (first|exact aa R6|apply ag.alloc|apply ag.drew|apply ag.set|(apply ag.other;case ha=>exact (by first|omega|(simp;omega)|simp)))),by rfl⟩
   ·exact ⟨rfl,(by with_reducible repeat (first|exact aa B6|refine Below.drew ?_|(refine Below.setCell ?_ ?_ _;rotate_left;exact (by first|omega|(simp;omega)|simp))|(refine Below.alloc ?_ ?_ _;rotate_left;exact (by first|omega|(simp;omega)|simp))))⟩
