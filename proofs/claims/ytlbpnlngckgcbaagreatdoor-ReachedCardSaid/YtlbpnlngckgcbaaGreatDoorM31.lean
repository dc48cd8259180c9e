import Derived.Test.YtlbpnlngckgcbaaGreatDoorM30
import Derived.Deep.Slices
import Derived.ChangeArms
import Derived.SizedLaws
import Derived.Lib.LaidTab
import Derived.Shelf.Vars
import Derived.ChangeSame
import Derived.DataShut
import Derived.OpenShut
import Derived.ChangeVars
import Derived.ChangeSlices
import Derived.Carry
import Derived.LaidLaws
import Derived.LaidHandle
import Derived.LaidMore
import Derived.LaidSub
set_option linter.all false
set_option maxHeartbeats 4000000
set_option maxRecDepth 100000
namespace Go.Proofs.YtlbpnlngckgcbaaGreatDoor
open Go.RowKit Go.PlainAid
theorem Hf:(⟨#[]⟩:RJ)=ByteArray.empty:=rfl
theorem ED (x:RJ):iG [x]=[x]:=by
 unfold iG;simp [lQ]
def nY (id:RJ):Sj:=⟨eP,id,dM⟩
theorem Hg {g:List R3} {hs:List Hp} {k id c:RJ} (h:∀x∈g,x.nm≠c):¬sM g hs ⟨k,id,c⟩:=by
 rintro ⟨x,hx,y,_,_,e⟩;exact h x hx (congrArg Sj.rel e).symm
theorem BS {who:Tg} {hs:List Hp} {k0 k1:Sj→Bool} (h:Gu who hs [] k0 k1):k1=k0:=funext fun s=>h.old s (by rintro ⟨x,hx,_⟩;cases hx)
theorem Ho {who:Tg} {hs:List Hp} {kb:Sj→Bool} (h:oM who hs (p9++[vT]) (fun _=>false) kb) {y:Hp} (hy:y∈hs) (hk:y.kd=eP):
  ∃k1 k3,kb (nY y.id)=((y.ts.any (fun t=>decide (t.rel=dM)&&gV k3 who (ed t))||y.ts.any (fun t=>decide (t.rel=bH)&&gV k1 who (ed t)))||y.ts.any (fun t=>decide (t.rel=lw)&&x9 k3 (ed t) dM)):=by
 obtain ⟨k4,hA,k5,h5,e5⟩:=mU h;have Rz:kb=k5:=e5;subst Rz;obtain ⟨k1,h1,k2,h2,k3,h3,k4',h4,e4⟩:=hA;have e4':k4=k4':=e4;subst e4';obtain rfl:=BS h2;obtain rfl:=BS h4;refine ⟨k2,k4,?_⟩;have q1:kb (nY y.id)=k4 (nY y.id):=h5.old _ (Hg (fun x hx=>by
  simp only [vT,List.mem_singleton] at hx;subst hx
  decide))
 have q2:k4 ⟨eP,y.id,bH⟩=k2 ⟨eP,y.id,bH⟩:=h3.old _ (Hg (fun x hx=>by
  rw [List.mem_singleton] at hx;subst hx
  decide))
 have f1:=h1.fix ⟨eP,bH,gp⟩ (by simp) y hy hk;have f3:=h3.fix ⟨eP,dM,Nb⟩ (List.mem_singleton.2 rfl) y hy hk;rw [hk] at f1 f3;rw [q1];unfold nY;rw [←f3];simp only [Nb,gP,gp,rO,yA,eu,if_true];simp only [Nat.reduceEqDiff,if_false,if_true];rw [q2,←f1];simp [gp,eu]
theorem BU {who:Tg} {hs:List Hp} {kb:Sj→Bool} (h:oM who hs (p9++[vT]) (fun _=>false) kb) (id:RJ):∃kA,oM who hs p9 (fun _=>false) kA∧kb (nY id)=kA (nY id):=by
 obtain ⟨k4,hA,k5,h5,e5⟩:=mU h;have Rz:kb=k5:=e5;subst Rz;exact ⟨k4,hA,h5.old _ (Hg (fun x hx=>by
  simp only [vT,List.mem_singleton] at hx;subst hx
  decide))⟩
theorem EE:∀g∈p9,∀x∈g,kM x.sh=true:=by
 intro g hg x hx;have h:(p9.all fun g=>g.all fun x=>kM x.sh)=true:=by kernel_rfl
 exact List.all_eq_true.1 (List.all_eq_true.1 h g hg) x hx
theorem JX:p9.Pairwise (fun g g'=>∀x∈g,∀y∈g',¬(x.kd=y.kd∧x.nm=y.nm)):=by
 have h:((p9.map (List.map fun x=>(x.kd,x.nm))).Pairwise (fun g g'=>∀x∈g,∀y∈g',¬(x.1=y.1∧x.2=y.2))):=by decide
 rw [List.pairwise_map] at h;exact h.imp (fun hq x hx y hy=>hq (x.kd,x.nm) (List.mem_map.2 ⟨x,hx,rfl⟩) (y.kd,y.nm) (List.mem_map.2 ⟨y,hy,rfl⟩))
theorem Hq {who:Tg} {gs gs':List Tu} (hg:∀t∈gs,t∈gs') {kb kb':Sj→Bool} (h:oM who (bF gs) (p9++[vT]) (fun _=>false) kb) (h':oM who (bF gs') (p9++[vT]) (fun _=>false) kb') (id:RJ) (he:kb (nY id)=true):kb' (nY id)=true:=by
 obtain ⟨kA,hA,e⟩:=BU h id;obtain ⟨kA',hA',e'⟩:=BU h' id;rw [e'];rw [e] at he;exact yL (G7 hg) EE JX (fun _ _ _ _=>rfl) (fun _ h=>h) hA hA' _ he
theorem EC.wf {ts:List Ty} (h:EC ts):∀g∈aT ts,∀x∈g,Bq x.2.body:=by
 have hm:=h.mod;unfold JK at hm;simp only [Bool.and_eq_true,decide_eq_true_eq] at hm;exact fun g hg x hx=>(KL (List.all_eq_true.1 (List.all_eq_true.1 hm.1.2 g hg) x hx)).wf
theorem EC.bit {ts:List Ty} (h:EC ts) {gs:List Tu} {cs:List Tg} {K:Sj→Nat} (hr:Run cs (bF gs) (aT ts) (fun _=>0) K) (hl:cs.length≤64) {i:Nat} {t:Tg} (hi:cs[i]? =some t):oM t (bF gs) (p9++[vT]) (fun _=>false) (fun s=>(K s).testBit i):=by
 have:=KJ hl hi h.wf hr;rw [h.grp] at this
 simpa using this
theorem EF {ts:List Ty} {gs gs':List Tu} (hg:∀t∈gs,t∈gs') (x:Tg) (hx:x∈aH ts gs):x∈aH ts gs':=by
 unfold aH at hx ⊢
 rcases List.mem_append.1 hx with h|h
 ·exact List.mem_append_left _ h
 ·obtain ⟨t,ht,h⟩:=List.mem_flatMap.1 h;exact List.mem_append_right _ (List.mem_flatMap.2 ⟨t,hg t ht,h⟩)
theorem oV {ts:List Ty} (h:EC ts) {gs gs':List Tu} (hg:∀t∈gs,t∈gs') {K K':Sj→Nat} (hr:Run (aH ts gs) (bF gs) (aT ts) (fun _=>0) K) (hr':Run (aH ts gs') (bF gs') (aT ts) (fun _=>0) K') (hl:(aH ts gs).length≤64) (hl':(aH ts gs').length≤64) (id s:RJ)
  (hs:s∈iH (K (nY id)) (aH ts gs)):s∈iH (K' (nY id)) (aH ts gs'):=by
 rw [yM] at hs ⊢;obtain ⟨i,t,hi,hb,rfl⟩:=hs;obtain ⟨j,hj⟩:=List.mem_iff_getElem?.1 (EF hg t (List.mem_of_getElem? hi));exact ⟨j,t,hj,Hq hg (h.bit hr hl hi) (h.bit hr' hl' hj) id hb,rfl⟩
theorem Hu {ts:List Ty} (h:EC ts) {gs:List Tu} {K:Sj→Nat} (hr:Run (aH ts gs) (bF gs) (aT ts) (fun _=>0) K) (hl:(aH ts gs).length≤64) {id u:RJ} (ht:(⟨eP,id,bH,dP,u,⟨#[]⟩⟩:Tu)∈gs):uy ⟨dP,u⟩∈iH (K (nY id)) (aH ts gs):=by
 rw [yM];have hm:(⟨dP,u⟩:Tg)∈aH ts gs:=List.mem_append_right _ (List.mem_flatMap.2 ⟨_,ht,by simp [p8]⟩);obtain ⟨j,hj⟩:=List.mem_iff_getElem?.1 hm;refine ⟨j,_,hj,?_,rfl⟩;obtain ⟨y,hy,e⟩:=(jd gs).all _ ht;obtain ⟨e1,e2⟩:=dn.1 e;obtain ⟨k1,k3,q⟩:=Ho (h.bit hr hl hj) hy e1;rw [show y.id=id from e2] at q;refine q.trans ?_;have hty:(⟨eP,id,bH,dP,u,⟨#[]⟩⟩:Tu)∈y.ts:=by
  rw [((jd gs).ts y hy).1,List.mem_filter];exact ⟨ht,e⟩
 have:y.ts.any (fun t=>decide (t.rel=bH)&&gV k1 ⟨dP,u⟩ (ed t))=true:=List.any_eq_true.2 ⟨_,hty,by simp [gV,ed,jF,pY,(eT _ _).2 rfl,Hf]⟩;rw [this];simp
theorem pQ (X:Nat) (cs:List Tg) (p:Tg→Bool) (h:∀i t,cs[i]? =some t→X.testBit i=p t):∀j,j≤cs.length→bn X cs j=(cs.take j).filter p
 |0,_=>by simp [bn]
 |j+1,hj=>by
  have hl:j<cs.length:=by omega
  rw [bn,pQ X cs p h j (by omega),List.take_succ_eq_append_getElem hl,List.filter_append,RI hl]
  congr 1
  have:=h j _ (RI hl);simp only [this]
  cases hp:p cs[j]<;>simp [hp]
theorem EG {ts:List Ty} (h:EC ts) {id u:RJ} {K:Sj→Nat} (hu:u≠⟨#[42]⟩) (hr:Run (aH ts [⟨eP,id,bH,dP,u,⟨#[]⟩⟩]) (bF [⟨eP,id,bH,dP,u,⟨#[]⟩⟩]) (aT ts) (fun _=>0) K) (hl:(aH ts [⟨eP,id,bH,dP,u,⟨#[]⟩⟩]).length≤64):
  iH (K (nY id)) (aH ts [⟨eP,id,bH,dP,u,⟨#[]⟩⟩])=[uy ⟨dP,u⟩]:=by
 have hh:bF [⟨eP,id,bH,dP,u,⟨#[]⟩⟩]=[⟨eP,id,[⟨eP,id,bH,dP,u,⟨#[]⟩⟩]⟩]:=by simp [bF,pK,sN]
 have JP:∀i t,(aH ts [⟨eP,id,bH,dP,u,⟨#[]⟩⟩])[i]? =some t→(K (nY id)).testBit i=pY t ⟨dP,u⟩:=fun i t hi=>by
  have hb:=h.bit hr hl hi;rw [hh] at hb;obtain ⟨k1,k3,q⟩:=Ho hb (List.mem_singleton.2 rfl) rfl;refine q.trans ?_;have n1:¬(bH=dM):=by decide
  have n2:¬(bH=lw):=by decide
  have n3:(u.toList== [42])=false:=by
   rw [beq_eq_false_iff_ne];intro e;rw [aC] at e;exact hu (by rw [←lQ u,e];rfl)
  simp [n1,n2,gV,ed,jF,n3,Hf]
 unfold iH;rw [pQ _ _ _ JP _ RH,List.take_length];have hf:(aH ts [⟨eP,id,bH,dP,u,⟨#[]⟩⟩]).filter (fun t=>pY t ⟨dP,u⟩)=[⟨dP,u⟩]:=by
  unfold aH;rw [List.filter_append,List.filter_eq_nil_iff.2 (fun t ht=> ?_)]
  ·have n4:eqs eP dP=false:=by
    cases e:eqs eP dP
    ·rfl
    ·exact absurd ((eT _ _).1 e) (by decide)
   simp [p8,pY,n4,(eT _ _).2 rfl]
  ·obtain ⟨x,_,rfl⟩:=List.mem_map.1 ht;intro e;unfold pY at e;rw [Bool.and_eq_true] at e;exact hu ((eT _ _).1 e.2).symm
 rw [hf,List.map_cons,List.map_nil,ED];simp [fB,mV]
end Go.Proofs.YtlbpnlngckgcbaaGreatDoor
namespace Go.Proofs.YtlbpnlngckgcbaaGreatDoor
open Go.ChangeShapes Go.WideShapes Go.RowKit
structure Oq where
 kd:Int
 a:Int
 b:Int
 less:Bool
def uA (n:Int):Prop:= -9223372036854775808≤n∧n≤9223372036854775807
structure AV (x:Oq):Prop where
 kd:uA x.kd
 a:uA x.a
 b:uA x.b
def JY (W:World) (v:Value) (n:Nat):Prop:=(v=.slice none 0 0∧n=0)∨∃(a:Addr) (c:Nat) (z:Nat→Oq),v=.slice (some a) n c∧n≤c∧∀i,i<n→AV (z i)∧W.cell? (a.add (i*4))=some (.int .i64 (z i).kd)∧W.cell? ⟨(a.add (i*4)).block,(a.add (i*4)).off+1,none⟩=some (.int .i64 (z i).a)∧W.cell? ⟨(a.add (i*4)).block,(a.add (i*4)).off+2,none⟩=some (.int .i64 (z i).b)∧W.cell? ⟨(a.add (i*4)).block,(a.add (i*4)).off+3,none⟩=some (.bool (z i).less)
theorem JY.cell {w W:World} {a:Addr} {n c i:Nat} (h:JY w (.slice (some a) n c) n) (k:Below w.heap.size w W) (hj:i<n):∃x:Oq,AV x∧W.cell? (a.add (i*4))=some (.int .i64 x.kd)∧W.cell? ⟨(a.add (i*4)).block,(a.add (i*4)).off+1,none⟩=some (.int .i64 x.a)∧W.cell? ⟨(a.add (i*4)).block,(a.add (i*4)).off+2,none⟩=some (.int .i64 x.b)∧W.cell? ⟨(a.add (i*4)).block,(a.add (i*4)).off+3,none⟩=some (.bool x.less):=by
 rcases h with ⟨h,_⟩|⟨ad',c',z,e,_,hz⟩
 ·cases h
 ·simp only [Value.slice.injEq,Option.some.injEq,true_and] at e;obtain ⟨rfl,rfl⟩:=e;obtain ⟨h0,h1,h2,h3,h4⟩:=hz i hj;exact ⟨z i,h0,af h1 k,af h2 k,af h3 k,af h4 k⟩
theorem Nh:Tryz.prog.cellsOf 3=1:=by kernel_rfl
theorem JZ:Tryz.prog.cellsOf 4=1:=by kernel_rfl
theorem vV:Tryz.prog.cellsOf 50=4:=by kernel_rfl
theorem J3:Tryz.prog.bytesOf 50=32:=by kernel_rfl
theorem vW {n:Int} (h:(Lit.int .i64 n).wf=true):uA n:=by
 simp only [Lit.wf,Bool.and_eq_true,decide_eq_true_eq] at h;have h1:IntKind.i64.min= -9223372036854775808:=by decide
 have h2:IntKind.i64.max=9223372036854775807:=by decide
 rw [h1,h2] at h;exact h
theorem op_of {H:Type} {enc:TypeId×Value→H} {W:World} {fuel:Nat} {cs:List Value} {x:DataW H×List MemPlace} (h:DataW.trod enc Tryz.prog W 0 (fun _=>true) true fuel 50 cs=some x):
  ∃st:Oq,AV st∧cs=[.int .i64 st.kd,.int .i64 st.a,.int .i64 st.b,.bool st.less]∧x.2=[]:=by
 obtain ⟨xs,k,hk,hxy,hcl,hxl,hf⟩:=DataW.trod_struct Tryz.underlying50 h;rw [vV] at hcl
 match xs,hxl,cs,hcl with
 | [y0,y1,y2,y3],_,[v0,v1,v2,v3],_=>
  have g0:=hf 0 _ rfl;have g1:=hf 1 _ rfl;have g2:=hf 2 _ rfl;have g3:=hf 3 _ rfl;simp only [List.getElem_toArray,List.getElem_cons_zero,List.getElem_cons_succ] at g0 g1 g2 g3;simp only [Nh,JZ,List.drop_zero,List.drop_succ_cons,List.take_succ_cons,List.take_zero,List.getElem?_cons_zero,List.getElem?_cons_succ] at g0 g1 g2 g3;obtain ⟨n0,e0,f0,r0⟩:=DataW.trod_int Tryz.underlying3 g0;obtain ⟨n1,e1,f1,r1⟩:=DataW.trod_int Tryz.underlying3 g1;obtain ⟨n2,e2,f2,r2⟩:=DataW.trod_int Tryz.underlying3 g2;obtain ⟨n3,e3,f3⟩:=DataW.trod_bool Tryz.underlying4 g3;simp only [List.cons.injEq,and_true] at e0 e1 e2 e3;subst e0 e1 e2 e3;refine ⟨⟨n0,n1,n2,n3⟩,⟨vW r0,vW r1,vW r2⟩,rfl,?_⟩;rw [hxy,f0,f1,f2,f3]
  rfl
theorem J4 {H:Type} {enc:TypeId×Value→H} {W:World} {a0:Option Addr} {Ni PQ:Nat} {d:DataW H} {p:List MemPlace} (h:DataW.Trod enc Tryz.prog W 0 (fun _=>true) true 44 (.slice a0 Ni PQ) d p):
  ∃n,JY W (.slice a0 Ni PQ) n∧(∀x∈p,x.block<W.heap.size)∧((d=.nil∧n=0)∨∃el sp,d=.slice el sp∧el.length=n):=by
 obtain ⟨fuel,hf⟩:=h
 rcases Deep.open_slice Tryz.underlying44 hf with ⟨hcs,hx⟩|⟨a,len,cap,m,n,D,Pl,hcs,_,hl,hm,hmm,hx,he⟩
 ·simp only [Value.cells,List.toList_toArray,List.cons.injEq,and_true,Value.slice.injEq] at hcs;simp only [Prod.mk.injEq] at hx;obtain ⟨rfl,rfl,rfl⟩:=hcs;obtain ⟨rfl,rfl⟩:=hx;exact ⟨0,.inl ⟨rfl,rfl⟩,by simp,.inl ⟨rfl,rfl⟩⟩
 ·simp only [Value.cells,List.toList_toArray,List.cons.injEq,and_true,Value.slice.injEq] at hcs;simp only [Prod.mk.injEq] at hx;obtain ⟨rfl,rfl,rfl⟩:=hcs;obtain ⟨rfl,rfl⟩:=hx;simp only [if_true] at hmm;subst hmm;have each:∀i,i<m→∃st:Oq,AV st∧(W.cell? (a.add (i*4))=some (.int .i64 st.kd)∧W.cell? ⟨(a.add (i*4)).block,(a.add (i*4)).off+1,none⟩=some (.int .i64 st.a)∧W.cell? ⟨(a.add (i*4)).block,(a.add (i*4)).off+2,none⟩=some (.int .i64 st.b)∧W.cell? ⟨(a.add (i*4)).block,(a.add (i*4)).off+3,none⟩=some (.bool st.less))∧Pl i=[]:=fun i hi=>by
   obtain ⟨cs',h1,h2⟩:=he i hi;rw [vV] at h1;obtain ⟨_,hlen,hcell⟩:=World.cells?_some h1;obtain ⟨st,ok,rfl,hp⟩:=op_of h2;exact ⟨st,ok,⟨hcell 0 (by omega),hcell 1 (by omega),hcell 2 (by omega),hcell 3 (by omega)⟩,hp⟩
  have ch:∃z:Nat→Oq,∀i,i<m→AV (z i)∧(W.cell? (a.add (i*4))=some (.int .i64 (z i).kd)∧W.cell? ⟨(a.add (i*4)).block,(a.add (i*4)).off+1,none⟩=some (.int .i64 (z i).a)∧W.cell? ⟨(a.add (i*4)).block,(a.add (i*4)).off+2,none⟩=some (.int .i64 (z i).b)∧W.cell? ⟨(a.add (i*4)).block,(a.add (i*4)).off+3,none⟩=some (.bool (z i).less))∧Pl i=[]:=by
   have:∀i,∃st:Oq,i<m→AV st∧(W.cell? (a.add (i*4))=some (.int .i64 st.kd)∧W.cell? ⟨(a.add (i*4)).block,(a.add (i*4)).off+1,none⟩=some (.int .i64 st.a)∧W.cell? ⟨(a.add (i*4)).block,(a.add (i*4)).off+2,none⟩=some (.int .i64 st.b)∧W.cell? ⟨(a.add (i*4)).block,(a.add (i*4)).off+3,none⟩=some (.bool st.less))∧Pl i=[]:=fun i=>by
    by_cases hi:i<m
    ·obtain ⟨st,h⟩:=each i hi;exact ⟨st,fun _=>h⟩
    ·exact ⟨⟨0,0,0,false⟩,fun h=>absurd h hi⟩
   exact ⟨fun i=>Classical.choose (this i),fun i hi=>Classical.choose_spec (this i) hi⟩
  obtain ⟨z,hz⟩:=ch;refine ⟨Ni,.inr ⟨a,m,z,rfl,hl,fun j hj=> ?_⟩,fun x hx=> ?_,.inr ⟨_,_,rfl,by simp⟩⟩
  ·obtain ⟨q0,q1,_⟩:=hz j (by omega);exact ⟨q0,q1⟩
  ·rcases List.mem_append.1 hx with hx|hx
   ·obtain ⟨i,hi,rfl⟩:=MemPlace.mem_row.1 hx;rw [vV] at hi;have h0:=(hz 0 (by omega)).2.1.1;have:=World.block_lt_of_cell? W _ h0;have hb0:∀q,(a.add q).block=a.block:=fun q=>by unfold Addr.add;split<;>rfl
    rw [hb0] at this
    simpa [MemPlace.block,hb0] using this
   ·obtain ⟨i,hi,hx⟩:=List.mem_flatMap.1 hx;rw [(hz i (List.mem_range.1 hi)).2.2] at hx
    cases hx
end Go.Proofs.YtlbpnlngckgcbaaGreatDoor
namespace Go.Proofs.YtlbpnlngckgcbaaGreatDoor
open Go.RowKit Go.PlainAid
def Nj (ts:List Ty) (w:World) (e:Ending) (w':World):Prop:=∃mv lv b,e=.returned (.pointer (some ⟨b,0,none⟩))∧UQ w' b mv lv (.slice none 0 0) ts []∧Below w.heap.size w w'∧w.heap.size≤b
theorem EH (s:RJ) (ts:List Ty) (hr:lM s=.ok ts) (w:World) (hg:Laid w):Calls Tryz.prog 20 #[.string s] w (Nj ts w):=by
 have C:=ae (qnew s ts hr hg);clear hr hg;go_enter Tryz.func20,Tryz.ntmps20;go_wp2_with fail;refine (aa C).mono ?_;rintro e w1 ⟨mv,lv,b,rfl,hu,hb,hl⟩;have H:=ae (And.intro hu (And.intro hb hl));clear hu hb hl C;go_wp2;go_ret;exact ⟨mv,lv,b,rfl,aa H⟩
def BV (c:Int) (n:Nat):Nat:=(if c<0 then-(c+1) else c).toNat % n
theorem mX (c:Int) {n:Nat} (h:0<n):BV c n<n:=Nat.mod_lt _ h
theorem gu (c:Int) (n:Nat) (w:World) (hc:uA c) (hn:0<n) (hm:n<1000):Calls Tryz.prog 19 #[.int .i64 c,.int .i64 n] w fun e w'=>e=.returned (.int .i64 (BV c n))∧w'=w:=by
 obtain ⟨h1,h2⟩:=hc;obtain ⟨Z,hZ⟩:∃Z,Z=BV c n:=⟨_,rfl⟩;rw [←hZ];unfold BV at hZ
 by_cases h:c<0
 ·rw [if_pos h] at hZ;have KEY:=ae (show-((c+1).tmod (n:Int))=(Z:Int) from by
   rw [hZ,←Int.neg_tmod,Int.tmod_eq_emod_of_nonneg (by omega),Int.natCast_emod,Int.toNat_of_nonneg (by omega)])
  clear hZ;go_enter Tryz.func19,Tryz.ntmps19;go_wp2;go_ret;exact ⟨by rw [←aa KEY];rfl,rfl⟩
 ·rw [if_neg h] at hZ;have KEY:=ae (show c % (n:Int)=(Z:Int) from by
   rw [hZ,Int.natCast_emod,Int.toNat_of_nonneg (by omega)])
  clear hZ;go_enter Tryz.func19,Tryz.ntmps19;go_wp2;go_ret;exact ⟨by rw [←aa KEY];rfl,rfl⟩
theorem nU {n:Nat} (h:n<10):(vU n).size=1:=by
 rcases n with _|_|_|_|_|_|_|_|_|_|n<;>first|omega|kernel_rfl
theorem oW (n:Nat) (hn:n<10) (w:World):Calls Tryz.prog 54 #[.int .i64 n] w fun e w'=>e=.returned (.string (vU n))∧w'=w:=by
 unfold vU;go_enter Tryz.func54,Tryz.ntmps54;go_wp2;go_ret;exact ⟨rfl,rfl⟩
theorem lC (n:Nat) (hn:n<10) (w:World):Calls Tryz.prog 33 #[.int .i64 n] w fun e w'=>e=.returned (.string (gQ n))∧w'=w:=by
 have C:=ae (oW n hn w);have hz:=nU hn;unfold gQ;generalize vU n=D at*;go_enter Tryz.func33,Tryz.ntmps33;go_wp2_with fail;refine (aa C).mono ?_;rintro e w1 ⟨rfl,hw1⟩;rw [hw1];clear hw1 w1;go_wp2;go_ret;exact ⟨rfl,rfl⟩
theorem rU (n:Nat) (hn:n<10) (w:World):Calls Tryz.prog 24 #[.int .i64 n] w fun e w'=>e=.returned (.string (jr n))∧w'=w:=by
 have C:=ae (oW n hn w);have hz:=nU hn;unfold jr;generalize vU n=D at*;go_enter Tryz.func24,Tryz.ntmps24;go_wp2_with fail;refine (aa C).mono ?_;rintro e w1 ⟨rfl,hw1⟩;rw [hw1];clear hw1 w1;go_wp2;go_ret;exact ⟨rfl,rfl⟩
theorem nV (n:Nat) (hn:n<10) (w:World):Calls Tryz.prog 25 #[.int .i64 n] w fun e w'=>e=.returned (.string (ib n))∧w'=w:=by
 have C:=ae (oW n hn w);have hz:=nU hn;unfold ib;generalize vU n=D at*;go_enter Tryz.func25,Tryz.ntmps25;go_wp2_with fail;refine (aa C).mono ?_;rintro e w1 ⟨rfl,hw1⟩;rw [hw1];clear hw1 w1;go_wp2;go_ret;exact ⟨rfl,rfl⟩
theorem kN {n:Nat} (h:n<10):(gQ n).size=7∧(jr n).size=8∧(ib n).size=6:=by
 have:=nU h;unfold gQ jr ib;simp [this];exact ⟨rfl,rfl,rfl⟩
theorem AX (o:Oq) (ho:AV o) (w:World):Calls Tryz.prog 34 #[.agg #[.int .i64 o.kd,.int .i64 o.a,.int .i64 o.b,.bool o.less]] w fun e w'=>e=.returned (.string (Io (BV o.kd 9) (BV o.a 4) (BV o.b 4)))∧Below w.heap.size w w':=by
 have b0:=(Below.refl w.heap.size w).alloc RH (.cells #[.int .i64 o.kd,.int .i64 o.a,.int .i64 o.b,.bool o.less] 50);have HB:=ae b0;have P1:=ae (fun w'=>gu o.kd 9 w' ho.kd (by omega) (by omega));have P2:=ae (fun w'=>gu o.a 4 w' ho.a (by omega) (by omega));have P3:=ae (fun w'=>gu o.b 4 w' ho.b (by omega) (by omega));have l1:=mX o.kd (n:=9) (by omega);have l2:=mX o.a (n:=4) (by omega);have l3:=mX o.b (n:=4) (by omega);generalize BV o.kd 9=kk at*;generalize BV o.a 4=ka at*;generalize BV o.b 4=kb at*;have UB:=ae (fun w'=>lC kb (by omega) w');have GA:=ae (fun w'=>rU ka (by omega) w');have GB:=ae (fun w'=>rU kb (by omega) w');have DA:=ae (fun w'=>nV ka (by omega) w');have DB:=ae (fun w'=>nV kb (by omega) w');have sa:=kN (show ka<10 by omega);have sb:=kN (show kb<10 by omega);unfold Io;generalize gQ kb=ub at*;generalize jr ka=gA at*;generalize jr kb=gB at*;generalize ib ka=dA at*;generalize ib kb=dB at*;obtain ⟨_,sa2,sa3⟩:=sa;obtain ⟨sb1,sb2,sb3⟩:=sb;clear b0;go_enter Tryz.func34,Tryz.ntmps34;go_wp2_with fail;refine (aa P2 _).mono ?_;rintro e w1 ⟨rfl,hw1⟩;rw [hw1];clear hw1 w1;go_wp2_with fail;refine (aa P3 _).mono ?_;rintro e w1 ⟨rfl,hw1⟩;rw [hw1];clear hw1 w1;go_wp2_with fail;refine (aa P1 _).mono ?_;rintro e w1 ⟨rfl,hw1⟩;rw [hw1];clear hw1 w1
 rcases kk with _|_|_|_|_|_|_|_|_|kk
 ·go_wp2_with fail;refine (aa GA _).mono ?_;rintro e w7 ⟨rfl,pR⟩;rw [pR];clear pR w7;go_wp2_with fail;refine (aa UB _).mono ?_;rintro e w8 ⟨rfl,uB⟩;rw [uB];clear uB w8;go_wp2;go_ret;exact ⟨rfl,aa HB⟩
 ·go_wp2_with fail;refine (aa GA _).mono ?_;rintro e w7 ⟨rfl,pR⟩;rw [pR];clear pR w7;go_wp2_with fail;refine (aa GB _).mono ?_;rintro e w8 ⟨rfl,uB⟩;rw [uB];clear uB w8;go_wp2;go_ret;exact ⟨rfl,aa HB⟩
 ·go_wp2_with fail;refine (aa DA _).mono ?_;rintro e w7 ⟨rfl,pR⟩;rw [pR];clear pR w7;go_wp2_with fail;refine (aa DB _).mono ?_;rintro e w8 ⟨rfl,uB⟩;rw [uB];clear uB w8;go_wp2;go_ret;exact ⟨rfl,aa HB⟩
 ·go_wp2_with fail;refine (aa DA _).mono ?_;rintro e w7 ⟨rfl,pR⟩;rw [pR];clear pR w7;go_wp2_with fail;refine (aa UB _).mono ?_;rintro e w8 ⟨rfl,uB⟩;rw [uB];clear uB w8;go_wp2;go_ret;exact ⟨rfl,aa HB⟩
 ·go_wp2_with fail;refine (aa DA _).mono ?_;rintro e w7 ⟨rfl,pR⟩;rw [pR];clear pR w7;go_wp2_with fail;refine (aa UB _).mono ?_;rintro e w8 ⟨rfl,uB⟩;rw [uB];clear uB w8;go_wp2;go_ret;exact ⟨rfl,aa HB⟩
 ·go_wp2_with fail;refine (aa DA _).mono ?_;rintro e w7 ⟨rfl,pR⟩;rw [pR];clear pR w7;go_wp2_with fail;refine (aa GB _).mono ?_;rintro e w8 ⟨rfl,uB⟩;rw [uB];clear uB w8;go_wp2;go_ret;exact ⟨rfl,aa HB⟩
 ·go_wp2_with fail;refine (aa DA _).mono ?_;rintro e w7 ⟨rfl,pR⟩;rw [pR];clear pR w7;go_wp2;go_ret;exact ⟨rfl,aa HB⟩
 ·go_wp2_with fail;refine (aa DA _).mono ?_;rintro e w7 ⟨rfl,pR⟩;rw [pR];clear pR w7;go_wp2;go_ret;exact ⟨rfl,aa HB⟩
 ·go_wp2_with fail;refine (aa DA _).mono ?_;rintro e w7 ⟨rfl,pR⟩;rw [pR];clear pR w7;go_wp2_with fail;refine (aa UB _).mono ?_;rintro e w8 ⟨rfl,uB⟩;rw [uB];clear uB w8;go_wp2;go_ret;exact ⟨rfl,aa HB⟩
 ·omega
theorem mY (base:Nat) (v:Value) (l:List RJ) (s:RJ) (w:World) (h:w.ownsRow base 9 1 v l.length (jZ l)) (hl:l.length≤100000):
  Calls Tryz.prog 32 #[v,.string s] w fun e w'=>∃r:Int,e=.returned (.int .i64 r)∧w'=w∧(r<0↔s∉l):=by
 obtain ⟨a,c,rfl⟩:=ak h;have H:=ae h;clear h;go_enter Tryz.func32,Tryz.ntmps32;go_wp2_with fail
 go_loopw [5] (fun u wr=>∃k:Nat,u=.int .i64 k∧k≤l.length∧wr=w∧Hid (∀j,j<k→l[j]? ≠some s)) (fun u _=>l.length-(intOf u).toNat)
 case atStart=>exact ⟨0,rfl,by omega,rfl,ae (fun j h=>by omega)⟩
 case round=>
  obtain ⟨k,rfl,hk,hw,HN⟩:=hrel;subst hw
  by_cases hlt:k<l.length
  ·have hkn:(k:Int)<(l.length:Int):=by omega
   obtain ⟨g,c',e1,hc⟩:=aQ (aa H) k (.string l[k]) (by unfold jZ;rw [List.getElem?_map,RI hlt];rfl);simp only [Value.slice.injEq,true_and] at e1;obtain ⟨rfl,rfl⟩:=e1;have HM:=ae (show l[k]? =some l[k] from RI hlt);generalize l[k]=y at*
   by_cases hys:y=s
   ·have hq:=ug hys;have Qm:=ae (show s∈l from hys▸List.mem_of_getElem? (aa HM));go_wp2;go_ret;exact ⟨_,rfl,rfl,by
     constructor
     ·intro h;omega
     ·intro h;exact absurd (aa Qm) h⟩
   ·have hq:=uf hys;have IE:=ae (show ∀j,j<k+1→l[j]? ≠some s from fun j hj=>by
     by_cases e:j=k
     ·subst e;rw [aa HM];intro e;exact hys (Option.some.inj e)
     ·exact aa HN j (by omega))
    go_wp2;go_roundw
    case rel=>exact ⟨k+1,by go_num,by omega,by first|rfl|trivial,IE⟩
    case measure=>simp [intOf];omega
  ·have hkn:¬((k:Int)<(l.length:Int)):=by omega
   have HOUT:=ae (show s∉l from fun hs=>by
    obtain ⟨j,hj⟩:=List.mem_iff_getElem?.1 hs;exact aa HN j (by have:=(List.getElem?_eq_some_iff.1 hj).1;omega) hj)
   go_wp2;go_ret;exact ⟨_,rfl,rfl,by
    constructor
    ·intro _;exact aa HOUT
    ·intro _;omega⟩
structure yN (w:World):Prop where
 laid:Laid w
 max:ow w
 lt:4<w.heap.size
theorem yN.below {w w':World} {B:Nat} (h:yN w) (k:Below B w w') (hB:4<B):yN w':=⟨h.laid.below k (by omega),h.max.below k (by omega),by have:=k.size;have:=h.lt;omega⟩
section
variable {B:Nat} {w w':World} {x y:Nat} {ts ts' RA:List Ty} {gs gs' RD:List Tu}
end
def PR (w w':World):Prop:=∀(g:Nat) (cs:Array Value) (f:Nat×Nat),w.heap[g]? =some (Obj.cells cs 9 f)→w'.heap[g]? =w.heap[g]?
theorem PR.row {w w':World} (k:PR w w') {base n:Nat} {v:Value} {xs:List Value} (h:w.ownsRow base 9 1 v n xs):w'.ownsRow base 9 1 v n xs:=ai h (fun g cs f _ hh=>k g cs f hh)
def EP (B:Nat) (w:World) (x:Nat) (ts:List Ty) (gs:List Tu):Prop:=∃mv lv gv,UQ w x mv lv gv ts gs∧∀k,FM x gv k→B≤k
section
variable {B:Nat} {w w':World} {x:Nat} {ts RA:List Ty} {gs RD:List Tu}
theorem EP.below (h:EP B w x ts gs) (k:Below w.heap.size w w'):EP B w' x ts gs:=by
 obtain ⟨mv,lv,gv,h1,h2⟩:=h;exact ⟨mv,lv,gv,h1.below k,h2⟩
theorem KO {f c:Nat} {args:Array Value} (h:EP B w x ts gs) (hc:∀mv lv gv,UQ w x mv lv gv ts gs→Calls Tryz.prog f args w (JR w x gv c RA RD)):
  Calls Tryz.prog f args w fun e w'=>e=.returned (.int .i64 c)∧EP B w' x RA RD∧Below B w w'∧PR w w':=by
 obtain ⟨mv,lv,gv,h1,h4⟩:=h;refine (hc mv lv gv h1).mono ?_;rintro e w' ⟨mv2,lv2,gv2,he,hu,hb,hf⟩;have hBw:B≤w.heap.size:=by
  have:=h4 x (.inl rfl);have:=h1.p.blk.lt;omega
 refine ⟨he,⟨mv2,lv2,gv2,hu,fun k hk=> ?_⟩,hb.below hBw h4,fun g cs f hh=>hb.block g (lt_of_some hh) (fun hs=> ?_)⟩
 ·rcases hf k hk with e|e
  ·exact h4 k e
  ·omega
 ·obtain ⟨cs',T,hb',hT⟩:=h1.ty hs;unfold ag at hb';rw [hb'] at hh
  cases hh
  rcases hT with e|e<;>exact absurd e (by decide)
end
def AY (gs:List Tu):Prop:=∀t∈gs,∃s∈pO,t=(dw s).1
theorem J5 {ts:List Ty} (h:EC ts) {gs:List Tu} (hg:AY gs) (hl:gs.length≤24):PuR ts gs:=by
 have hm:=h.mod;unfold JK at hm;simp only [Bool.and_eq_true,decide_eq_true_eq] at hm;obtain ⟨⟨m1,m2⟩,m3⟩:=hm;refine ⟨by omega,fun t ht=> ?_,fun g hg x hx=>KL (List.all_eq_true.1 (List.all_eq_true.1 m2 g hg) x hx),gs_ok m1 (fun a ha b hb e1 e2=>MP (jd gs).ap ha hb e1 e2),m3⟩;obtain ⟨s,hs,rfl⟩:=hg t ht;have:=List.all_eq_true.1 EA s hs;unfold KM at this;simp only [Bool.and_eq_true,decide_eq_true_eq] at this;obtain ⟨⟨⟨⟨q1,q2⟩,q3⟩,q4⟩,q5⟩:=this;refine ⟨by unfold maxLen;omega,by unfold maxLen;omega,?_,?_,?_⟩
 ·show (dw s).1.sub.size≤_;unfold maxLen;omega
 ·show (dw s).1.who.size≤_;unfold maxLen;omega
 ·show (dw s).1.of.size≤_;unfold maxLen;omega
theorem EI:(pO.all fun s=>decide ((dw s).1.kind.size+(dw s).1.id.size≤1000)&&decide ((dw s).1.sub.size+(dw s).1.who.size≤1000))=true:=by kernel_rfl
theorem fJ {ts:List Ty} (h:EC ts) {gs:List Tu} (hg:AY gs) (hl:gs.length≤24):0<(aH ts gs).length∧(aH ts gs).length≤64∧∀t∈aH ts gs,t.kind.size+t.id.size≤1000:=by
 have e:(aH ts gs).length=3+gs.length*2:=by
  unfold aH;rw [List.length_append,List.length_map,h.len,BM]
 refine ⟨by omega,by omega,fun t ht=> ?_⟩;unfold aH at ht
 rcases List.mem_append.1 ht with ht|ht
 ·obtain ⟨y,hy,rfl⟩:=List.mem_map.1 ht;have:=h.low y hy
  show y.name.size+1≤1000
  omega
 ·obtain ⟨u,hu,ht⟩:=List.mem_flatMap.1 ht;obtain ⟨s,hs,rfl⟩:=hg u hu;have:=List.all_eq_true.1 EI s hs;simp only [Bool.and_eq_true,decide_eq_true_eq] at this;simp only [p8,List.mem_cons,List.not_mem_nil,or_false] at ht
  rcases ht with rfl|rfl
  ·exact this.1
  ·exact this.2
def AZ (gs:List Tu) (s:RJ):Nat×List Tu:=if 0≤ou gs (dw s).1 then (4,gs) else if gs.length=24 then (8,gs) else (0,gs++[(dw s).1])
theorem yO {B:Nat} {w:World} {x:Nat} {ts:List Ty} {gs:List Tu} (h:EP B w x ts gs) (hE:yN w) (ht:EC ts) {s S:RJ} (hs:s∈pO) (hS:S=s) (hl:gs.length≤24):
  Calls Tryz.prog 28 #[.pointer (some ⟨x,0,none⟩),.string S] w fun e w'=>e=.returned (.int .i64 (AZ gs s).1)∧EP B w' x ts (AZ gs s).2∧Below B w w'∧PR w w':=by
 subst hS;have e:Nv ts gs S=AZ gs S:=by
  obtain ⟨h1,h2⟩:=ht.lets S hs;unfold Nv AZ;rw [h1,h2];simp
 rw [←e];exact KO h (fun mv lv gv hu=>M7 hu S hE.max (by have:=hE.lt;omega) hE.laid (by omega))
theorem J6 {B:Nat} {w:World} {x:Nat} {ts:List Ty} {gs:List Tu} (h:EP B w x ts gs) (hE:yN w) (ht:EC ts):
  Calls Tryz.prog 27 #[.pointer (some ⟨x,0,none⟩),.string pM] w fun e w'=>e=.returned (.int .i64 0)∧EP B w' x ts []∧Below B w w'∧PR w w':=
 KO h (fun mv lv gv hu=>qload hu pM ts ht.read hE.laid)
theorem Nk {gs:List Tu} (hg:AY gs) (hl:gs.length≤24) {s:RJ} (hs:s∈pO):AY (AZ gs s).2∧(AZ gs s).2.length≤24∧(∀t∈gs,t∈(AZ gs s).2)∧(((AZ gs s).1=0∧(dw s).1∈(AZ gs s).2)∨(AZ gs s).1=4∨(AZ gs s).1=8):=by
 unfold AZ
 split
 ·exact ⟨hg,hl,fun _ h=>h,.inr (.inl rfl)⟩
 ·split
  ·exact ⟨hg,hl,fun _ h=>h,.inr (.inr rfl)⟩
  ·refine ⟨fun t ht=> ?_,by simp;omega,fun t ht=>List.mem_append_left _ ht,.inl ⟨rfl,List.mem_append_right _ (List.mem_singleton.2 rfl)⟩⟩
   rcases List.mem_append.1 ht with ht|ht
   ·exact hg t ht
   ·rw [List.mem_singleton] at ht;exact ⟨s,hs,ht⟩
def qa (d:Nat):RJ:=(ax (ib d) 58).2.1
def NI (d:Nat):RJ:=(ax (gQ d) 58).2.1
theorem EJ {d:Nat} (h:d<4):(ax (ib d) 58).1=eP∧dR (ib d)=true∧(ib d).size=6:=by
 rcases d with _|_|_|_|d<;>first|omega|(refine ⟨?_,?_,?_⟩<;>kernel_rfl)
theorem vX {a b:Nat} (ha:a<4) (hb:b<4):(dw (Io 3 a b)).1=⟨eP,qa a,bH,dP,NI b,⟨#[]⟩⟩:=by
 rcases a with _|_|_|_|a<;>rcases b with _|_|_|_|b<;>first|omega|kernel_rfl
theorem BZ {b:Nat} (hb:b<4):uy ⟨dP,NI b⟩=gQ b:=by
 rcases b with _|_|_|_|b<;>first|omega|kernel_rfl
theorem J7 {d:Nat} (h:d<4):ib d++(⟨#[35,111,119,110,101,114,64,117,115,101,114,58,117,48]⟩:RJ)=Io 3 d 0:=by
 rcases d with _|_|_|_|d<;>first|omega|kernel_rfl
theorem un0:NI 0≠⟨#[42]⟩:=by decide
theorem rV (X:Nat) (cs:List Tg):(iH X cs).length≤cs.length:=by
 unfold iH fB;have h1:=JU (iG ((bn X cs cs.length).map uy)) [];rw [oQ,List.length_map] at h1;have h2:=lu X cs cs.length;simp at h1;omega
theorem H5 {B:Nat} {w:World} {x:Nat} {ts:List Ty} {gs:List Tu} (h:EP B w x ts gs) (hE:yN w) (ht:EC ts) (hg:AY gs) (hl:gs.length≤24) {d:Nat} (hd:d<4):
  Calls Tryz.prog 31 #[.pointer (some ⟨x,0,none⟩),.string (ib d),.string dM] w (AU ts gs (nY (qa d)) w):=by
 obtain ⟨mv,lv,gv,hu,_⟩:=h;obtain ⟨c0,c1,c2⟩:=fJ ht hg hl;obtain ⟨d1,d2,d3⟩:=EJ hd;obtain ⟨t,r,hf,hq⟩:=ht.rel dM (by simp);have:=M9 x mv lv gv ts gs w hu (J5 ht hg hl) (ib d) dM (by omega) d2 (show 6≤1000 by omega) (by kernel_rfl) t (by rw [d1];exact hf) r hq c0 c1 c2 hE.max (by have:=hE.lt;omega);rw [d1] at this;exact this
