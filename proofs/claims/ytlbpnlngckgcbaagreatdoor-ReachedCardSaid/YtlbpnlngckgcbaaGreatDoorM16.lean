import Derived.Test.YtlbpnlngckgcbaaGreatDoorM15
import Derived.RangeFuncNested
import Derived.RangeFuncBound
import Derived.RangeFuncCalls
import Derived.RangeFuncLeaves
import Derived.Shelf.Abstract
import Derived.Shelf.RegionOpen
import Derived.OwnWalkIn
import Derived.TacticsInMore
import Derived.LoopNIn
import Derived.LoopIn
set_option linter.all false
set_option maxHeartbeats 4000000
set_option maxRecDepth 100000
namespace Go.Proofs.YtlbpnlngckgcbaaGreatDoor
open Go.RowKit Go.PlainAid Go.Shelf
attribute [local go_sem] Oper.semAt_some
def iV (N:Ty→Rl→Option Nat) (ts:List Ty):Option Nat:=ts.findSome? fun t=>t.rels.findSome? (N t)
def KT (w w':World):Prop:=∀(g:Nat) (cs:Array Value) (T:TypeId) (f:Nat×Nat),w.heap[g]? =some (Obj.cells cs T f)→(T=207∨T=159∨T=110)→w'.heap[g]? =w.heap[g]?
theorem KT.trans {x y z:World} (h:KT x y) (k:KT y z):KT x z:=fun g cs T f hh ht=>(k g cs T f ((h g cs T f hh ht).trans hh) ht).trans (h g cs T f hh ht)
theorem KT.set {w:World} {g:Nat} {cs:Array Value} {T:TypeId} (hb:ag w g cs T) (ht:¬(T=207∨T=159∨T=110)) (o:Nat) (u:Value):KT w (w.setCell ⟨g,o,none⟩ u):=
 fun g' cs' T' f hh ht'=>Below.heap_setCell _ _ _ _ (fun (e':g'=g)=>by
  subst e';unfold ag at hb;rw [hb] at hh;simp only [Option.some.injEq,Obj.cells.injEq] at hh;exact ht (by rw [hh.2.1];exact ht'))
theorem RC.kt {b:Nat} {w w':World} {sv:Value} {rs:List Rl} {rl:List (Rl×Value)} (h:RC b w sv rs rl) (k:KT w w'):RC b w' sv rs rl:=
 ⟨h.fst,ai h.row (fun g cs f _ hh=>k g cs _ f hh (.inr (.inl rfl))),fun p hp=>ay.frame (fun g cs f _ hh=>k g cs _ f hh (.inl rfl)) _ _ (h.ex p hp),h.len,h.okp,h.okg,h.wf⟩
theorem MC.kt {b:Nat} {w w':World} {sv:Value} {ts:List Ty} {tl:List (Ty×Value)} (h:MC b w sv ts tl) (k:KT w w') (hs:w.heap.size≤w'.heap.size):MC b w' sv ts tl:=
 ⟨h.fst,ai h.row (fun g cs f _ hh=>k g cs _ f hh (.inr (.inr rfl))),fun p hp=>by obtain ⟨rl,hr⟩:=h.rels p hp;exact ⟨rl,hr.kt k⟩,h.len,Nat.lt_of_lt_of_le h.blt hs⟩
def MT (T:TypeId):Prop:=T=207∨T=159∨T=110∨T=75
def CK (W W':World):Prop:=W.heap.size≤W'.heap.size∧∀(g:Nat) (cs:Array Value) (T:TypeId) (f:Nat×Nat),W.heap[g]? =some (Obj.cells cs T f)→MT T→W'.heap[g]? =W.heap[g]?
theorem CK.trans {X Y Z:World} (h:CK X Y) (k:CK Y Z):CK X Z:=⟨Nat.le_trans h.1 k.1,fun g cs T f hh ht=>(k.2 g cs T f ((h.2 g cs T f hh ht).trans hh) ht).trans (h.2 g cs T f hh ht)⟩
theorem CK.below {W W':World} (h:Below W.heap.size W W'):CK W W':=⟨h.size,fun g cs T f hh _=>h.block g (lt_of_some hh)⟩
theorem CK.kt {W W':World} (h:CK W W'):KT W W':=fun g cs T f hh ht=>h.2 g cs T f hh (by rcases ht with e|e|e<;>simp [MT,e])
theorem CK.b {w:World} (W:World) (l:Nat) (o o':Obj) (hl:w.heap.size≤l) (h:W.heap[l]? =some o) (hc:o.isCells=false) (hw:o.isWalk=false):CK W (W.putObj l o'):=
 ⟨(grownBy_putObj' W l o').size,fun g cs T f hh _=>World.putObj_heap_other (fun e=>by
  subst e;rw [h] at hh
  cases hh
  cases hc)⟩
theorem CK.blk {W W':World} (h:CK W W') {g:Nat} {cs:Array Value} {T:TypeId} (k:ag W g cs T) (ht:MT T):ag W' g cs T:=(h.2 g cs T (0,0) k ht).trans k
theorem CK.mc {W W':World} (h:CK W W') {b:Nat} {sv:Value} {ts:List Ty} {tl:List (Ty×Value)} (k:MC b W sv ts tl):MC b W' sv ts tl:=k.kt h.kt h.1
theorem CK.rc {W W':World} (h:CK W W') {b:Nat} {sv:Value} {rs:List Rl} {rl:List (Rl×Value)} (k:RC b W sv rs rl):RC b W' sv rs rl:=k.kt h.kt
abbrev It:=(Ty×Value)×(Rl×Value)
def Nu (x:It):Array Value:=#[.agg #[.int .i64 x.1.1.place,.string x.1.1.name,x.1.2],.agg #[.int .i64 x.2.1.place,.string x.2.1.name,x.2.2]]
def sH (b:Nat) (w:World) (tl:List (Ty×Value)) (x:It):Prop:=x.1∈tl∧∃rl,RC b w x.1.2 x.1.1.rels rl∧x.2∈rl
def Jh (b:Nat) (w:World) (tl:List (Ty×Value)) (fo:Ty×Value→List (Rl×Value)):Prop:=∀p∈tl,RC b w p.2 p.1.rels (fo p)
theorem zW {b:Nat} {w:World} {sv:Value} {ts:List Ty} {tl:List (Ty×Value)} (h:MC b w sv ts tl):∃fo,Jh b w tl fo:=by
 have:∀p:Ty×Value,∃rl,p∈tl→RC b w p.2 p.1.rels rl:=fun p=>by
  by_cases hp:p∈tl
  ·obtain ⟨rl,hr⟩:=h.rels p hp;exact ⟨rl,fun _=>hr⟩
  ·exact ⟨[],fun e=>absurd e hp⟩
 exact ⟨fun p=>Classical.choose (this p),fun p hp=>Classical.choose_spec (this p) hp⟩
def ng (fo:Ty×Value→List (Rl×Value)) (tl:List (Ty×Value)):List It:=tl.flatMap fun p=>(fo p).map fun q=>(p,q)
theorem vz {b:Nat} {w:World} {tl:List (Ty×Value)} {fo:Ty×Value→List (Rl×Value)} (h:Jh b w tl fo) (x:It) (hx:x∈ng fo tl):sH b w tl x:=by
 unfold ng at hx;rw [List.mem_flatMap] at hx;obtain ⟨p,hp,hx⟩:=hx;rw [List.mem_map] at hx;obtain ⟨q,hq,rfl⟩:=hx;exact ⟨hp,fo p,h p hp,hq⟩
theorem oC (N:Ty→Rl→Option Nat) (b:Nat) (w:World) (fo:Ty×Value→List (Rl×Value)):∀(tl:List (Ty×Value)),Jh b w tl fo→iV N (tl.map Prod.fst)=(ng fo tl).findSome? fun x=>N x.1.1 x.2.1
 | [],_=>rfl
 |p::tl,h=>by
  have ih:=oC N b w fo tl (fun q hq=>h q (by simp [hq]));have e:(ng fo (p::tl))=((fo p).map fun q=>(p,q))++ng fo tl:=by simp [ng]
  rw [e,List.findSome?_append,List.findSome?_map,←ih];have hr:=h p (by simp);have e2:p.1.rels.findSome? (N p.1)=(fo p).findSome? ((fun x:It=>N x.1.1 x.2.1) ∘ fun q=>(p,q)):=by
   rw [←hr.fst,List.findSome?_map]
   rfl
  rw [←e2];unfold iV;rw [List.map_cons,List.findSome?_cons]
  cases p.1.rels.findSome? (N p.1)<;>rfl
theorem nM {α:Type} (P:α→Prop):∀(l:List α),(∀x∈l,P x)→∃L:List {x // P x},L.map Subtype.val=l
 | [],_=>⟨[],rfl⟩
 |x::l,h=>by
  obtain ⟨L,hL⟩:=nM P l (fun y hy=>h y (by simp [hy]));exact ⟨⟨x,h x (by simp)⟩::L,by simp [hL]⟩
theorem pz {α β:Type} (f:α→Option β):∀(l p:List α) (x:α) (y:β),p++[x]<+:l→(∀z∈p,f z=none)→f x=some y→l.findSome? f=some y:=by
 rintro l p x y ⟨r,rfl⟩ h1 h2;rw [List.findSome?_append,List.findSome?_append];have:p.findSome? f=none:=List.findSome?_eq_none_iff.2 h1;rw [this];simp [h2]
theorem jo (sv:Value) (w:World) (hs:∃a n c,sv=.slice a n c):Calls Tryz.prog 150 #[.agg #[sv]] w fun e w'=>e=.returned (.func (.func 208) #[] #[.pointer (some ⟨w.heap.size,0,none⟩)])∧w'=w.alloc (.cells #[sv] 75):=by
 obtain ⟨a,n,c,rfl⟩:=hs;go_enter Tryz.func150,Tryz.ntmps150;go_wp2;go_ret;exact ⟨rfl,rfl⟩
theorem Ji (b:Nat) (w0:World) (sv:Value) (ts:List Ty) (tl:List (Ty×Value)) (hM:MC b w0 sv ts tl) (fo:Ty×Value→List (Rl×Value)) (hF:Jh b w0 tl fo) (n:Nat) (hn:1≤n) (l Bn:Nat) (L:List {x:It // sH b w0 tl x}) (hL:L.map Subtype.val=ng fo tl) (J Jx:List {x:It // sH b w0 tl x}→World→Prop)
  (W:World) (hW:Below w0.heap.size w0 W) (hJ:AbidesFrom W.heap.size J)
  (hY:∀pre x W1,J pre W1→pre.length<L.length→YieldAt Fence.wide (n-1) Tryz.prog l (Nu x.1) W1 fun e W'=>(e=.returned (.bool true)∧J (pre++[x]) W'∧CK W1 W')∨(e=.returned (.bool false)∧Jx (pre++[x]) W'))
  (OM:W.cell? ⟨Bn,0,none⟩=some sv) (h0:J [] W):
  CallsIn Fence.wide n Tryz.prog 208 #[.func (.yield l) #[] #[],.pointer (some ⟨Bn,0,none⟩)] W fun e W'=>(∃v,e=.returned v)∧((∃ys,ys=L∧J ys W')∨(∃pre,pre<+:L∧Jx pre W')):=by
 obtain ⟨ma,mn,mc,rfl⟩:=hM.form;have OO:mn=tl.length:=by
  obtain ⟨a',c',e⟩:=ak hM.row;simp only [Value.slice.injEq,List.length_map] at e;exact e.2.1
 have hm1:mn≤tl.length:=by omega
 have hm2:tl.length≤mn:=by omega
 clear OO;have QQ:tl.length≤1000:=by have:=hM.llen;simpa using this
 have HM:=ae hM;have HF:=ae hF;have HL:=ae hL;have HY:=ae hY;have HJ:=ae hJ;have HW:=ae (show CK w0 W from CK.below hW);clear hM hF hY hJ hW hL;refine callsIn_of_wp Tryz.func208 rfl trivial ?_ rfl;simp only [Tryz.ntmps208,List.size_toArray,List.length_cons,List.length_nil,Nat.reduceAdd,Nat.reduceSub,Array.replicate_succ,Array.replicate_zero,List.push_toArray,List.append_toArray,List.nil_append,List.cons_append];gi_wp2
 gi_loopw [10] (fun u wr=>∃(k:Nat) (pre rest:List {x:It // sH b w0 tl x}),k≤mn∧u=.int .i64 k∧CK w0 wr∧W.heap.size≤wr.heap.size∧Hid (L=pre++rest∧rest.map Subtype.val=ng fo (tl.drop k))∧J pre wr) (fun u _=>mn-(intOf u).toNat)
 case atStart=>exact ⟨0,[],L,by omega,rfl,aa HW,Nat.le_refl _,ae ⟨rfl,aa HL⟩,h0⟩
 case round=>
  obtain ⟨k,pre,rest,hk,rfl,yQ,hsw,HQ,hJs⟩:=hrel;obtain ⟨lL,kU⟩:=aa HQ
  by_cases hlt:k<mn
  ·have hlt':k<tl.length:=by omega
   obtain ⟨g,c',e1,k0,k1,k2⟩:=(yQ.mc (aa HM)).row.cell k (by simpa using hlt');simp only [Value.slice.injEq] at e1;obtain ⟨rfl,OP,rfl⟩:=e1;clear OP HQ;simp only [List.getElem_map,t3] at k0 k1 k2;have hrc:=aa HF tl[k] (List.getElem_mem hlt');have hL2:ng fo (tl.drop k)=((fo tl[k]).map fun q=>(tl[k],q))++ng fo (tl.drop (k+1)):=by
    rw [List.drop_eq_getElem_cons hlt'];simp only [ng,List.flatMap_cons]
   rw [hL2] at kU;clear hL2;generalize tl[k]=p at*;obtain ⟨t,tv⟩:=p;simp only at k0 k1 k2 hrc;obtain ⟨va,vn,vc,rfl⟩:=hrc.form;generalize hrlq:fo (t,.slice va vn vc)=rl at*;clear hrlq;have hvn:vn=rl.length:=by
    obtain ⟨a',c',e⟩:=ak hrc.row;simp only [Value.slice.injEq,List.length_map] at e;exact e.2.1
   have hv1:vn≤rl.length:=by omega
   have hv2:rl.length≤vn:=by omega
   clear hvn;have hrl:rl.length≤1000:=by have:=hrc.llen;simpa using this
   have bx:Below wr.heap.size wr (wr.alloc (.cells #[.int .i64 t.place,.string t.name,.slice va vn vc] 110)):=(Below.refl _ _).alloc (Nat.le_refl _) _;have QS:=ae (yQ.trans (CK.below bx));have Kw:=ae hrc;have TB:=ae (ag.new wr #[.int .i64 t.place,.string t.name,.slice va vn vc] 110);have HJX:=ae (aa HJ pre wr (wr.alloc (.cells #[.int .i64 t.place,.string t.name,.slice va vn vc] 110)) none hJs (World.grownBy_alloc wr _ none) (fun r e=>by cases e));have hkn:(k:Int)<(mn:Int):=by omega
   have Kg:=ae (And.intro lL kU);have hsX:W.heap.size≤(wr.alloc (.cells #[.int .i64 t.place,.string t.name,.slice va vn vc] 110)).heap.size:=by simp;omega
   clear hrc bx lL kU yQ hJs;gi_wp2;generalize (wr.alloc (.cells #[.int .i64 t.place,.string t.name,.slice va vn vc] 110))=W1 at*;generalize wr.heap.size=tb at*
   gi_loopw [17] (fun u wi=>∃(j:Nat) (pre rest:List {x:It // sH b w0 tl x}),j≤vn∧u=.int .i64 j∧CK W1 wi∧Hid (L=pre++rest∧rest.map Subtype.val=((rl.drop j).map fun q=>((t,Value.slice va vn vc),q))++ng fo (tl.drop (k+1)))∧J pre wi) (fun u _=>vn-(intOf u).toNat)
   case atStart=>exact ⟨0,pre,rest,by omega,rfl,⟨Nat.le_refl _,fun _ _ _ _ _ _=>rfl⟩,ae (aa Kg),aa HJX⟩
   case round=>
    obtain ⟨j,pre,rest,hj,rfl,yQ,HQ,hJs⟩:=hrel;obtain ⟨lL,kU⟩:=aa HQ;clear HQ
    by_cases vg:j<vn
    ·have LK:j<rl.length:=by omega
     obtain ⟨g,c',e1,x0,x1,x2⟩:=(((aa QS).trans yQ).rc (aa Kw)).row.cell j (by simpa using LK);simp only [Value.slice.injEq] at e1;obtain ⟨rfl,OP,rfl⟩:=e1;clear OP;simp only [List.getElem_map,r3] at x0 x1 x2;have hex:=(((aa QS).trans yQ).rc (aa Kw)).ex rl[j] (List.getElem_mem LK);rw [List.drop_eq_getElem_cons LK] at kU;generalize rl[j]=p at*;obtain ⟨r,bv⟩:=p;simp only at x0 x1 x2 hex;obtain ⟨ra,rv,rfl⟩:=hex.isI
     cases rest with
     |nil=>simp at kU
     |cons x rest=>
      simp only [List.map_cons,List.cons_append,List.cons.injEq] at kU;obtain ⟨hx,kU⟩:=kU;obtain ⟨t0,t1,t2⟩:=(yQ.blk (aa TB) (.inr (.inr (.inl rfl)))).three;have tlt:=(yQ.blk (aa TB) (.inr (.inr (.inl rfl)))).lt;have bx:Below wr.heap.size wr (wr.alloc (.cells #[.int .i64 r.place,.string r.name,.iface ra rv] 159)):=(Below.refl _ _).alloc (Nat.le_refl _) _;have yS:=aa HJ pre wr (wr.alloc (.cells #[.int .i64 r.place,.string r.name,.iface ra rv] 159)) none hJs (World.grownBy_alloc wr _ none) (fun r e=>by cases e);obtain ⟨fn,tmps,assign,body,hy,hR⟩:=aa HY pre x _ yS (by rw [lL];simp);rw [hx] at hy;simp only [Nu] at hy;have P7:=ae (yQ.trans (CK.below bx));have hjn:(j:Int)<(vn:Int):=by omega
      have Bh:=ae (And.intro lL kU);clear hex bx lL kU yQ hJs hx yS;gi_wp2;refine hR.mono ?_;rintro e W3 (⟨rfl,hJ3,hk3⟩|⟨rfl,LM⟩)
      ·gi_wp2;go_roundw
       case rel=>exact ⟨j+1,pre++[x],rest,by omega,by go_num,(aa P7).trans hk3,ae ⟨by rw [(aa Bh).1];simp,(aa Bh).2⟩,hJ3⟩
       case measure=>simp [intOf];omega
      ·gi_wp2;refine bodyPost_ret (results_none rfl _ _ _) rfl ?_;exact ⟨⟨_,rfl⟩,.inr ⟨pre++[x],⟨rest,by rw [(aa Bh).1];simp⟩,LM⟩⟩
    ·have hjn:¬((j:Int)<(vn:Int)):=by omega
     rw [List.drop_of_length_le (by omega)] at kU;have Bh:=ae (And.intro lL kU);have P7:=ae yQ;clear lL kU yQ;gi_wp2;go_roundw
     case rel=>exact ⟨k+1,pre,rest,by omega,by go_num,(aa QS).trans (aa P7),Nat.le_trans hsX (aa P7).1,ae ⟨(aa Bh).1,by simpa using (aa Bh).2⟩,hJs⟩
     case measure=>simp [intOf];omega
  ·have hkn:¬((k:Int)<(mn:Int)):=by omega
   rw [List.drop_of_length_le (by omega)] at kU;simp only [ng,List.flatMap_nil,List.map_eq_nil_iff] at kU;subst kU;clear HQ yQ;gi_wp2;go_end0;refine ⟨⟨_,rfl⟩,.inl ?_⟩
   first|exact hJs|exact ⟨pre,by rw [lL];simp,hJs⟩
theorem oD (b:Nat) (w0:World) (sv:Value) (ts:List Ty) (tl:List (Ty×Value)) (hM:MC b w0 sv ts tl) (fo:Ty×Value→List (Rl×Value)) (hF:Jh b w0 tl fo) (n:Nat) (hn:1≤n) (Bn:Nat) (OM:ag w0 Bn #[sv] 75) (L:List {x:It // sH b w0 tl x}) (hL:L.map Subtype.val=ng fo tl):
  SeqStopsK Fence.wide n Tryz.prog 208 #[.pointer (some ⟨Bn,0,none⟩)] (fun x:{x:It // sH b w0 tl x}=>Nu x.1) CK (fun ys=>ys=L) (fun pre=>pre<+:L) L.length w0:=fun l J Jx W hW hJ _ hY h0=>
 Ji b w0 sv ts tl hM fo hF n hn l Bn L hL J Jx W hW hJ hY ((OM.below hW).cell rfl) h0
theorem dO {B:Nat} {W W':World} (h:Below W.heap.size W W'):KeepsFrom B W W':=⟨h.size,fun k o _ hk _=>(h.block k (Array.getElem?_eq_some_iff.1 hk).1).trans hk⟩
theorem bV {β:Type} (B g:Nat) (cs:Array Value) (T:TypeId):OwnFrom B (fun (_:β) W=>ag W g cs T):=fun _ X Y row hs hg hr=>
 (hg.block g (ag.lt hs) (fun e=>by
  obtain ⟨_,o,ho,hc⟩:=hr g e.symm;unfold ag at hs;rw [hs] at ho
  cases ho
  cases hc)).trans hs
theorem zX (b c:Nat) (sv:Value) (ts:List Ty) (tl:List (Ty×Value)) (N:Ty→Rl→Option Nat) (w:World) (h:MC b w sv ts tl)
  (hp:∀w' t tv rl r bv,MC b w' sv ts tl→RC b w' tv t.rels rl→ay b w' r.body bv→r∈t.rels→Calls Tryz.prog 117 #[.agg #[sv],.agg #[.int .i64 t.place,.string t.name,tv],.agg #[.int .i64 r.place,.string r.name,bv]] w' fun e' w''=>e'=.returned (dW c (N t r))∧Below w'.heap.size w' w''):
  Calls Tryz.prog 116 #[.agg #[sv],.func (.func 117) #[.agg #[sv]] #[]] w fun e' w'=>e'=.returned (dW c (iV N ts))∧Below w.heap.size w w':=by
 obtain ⟨ma,mn,mc,rfl⟩:=h.form;refine (callsIn_wide (n:=8)).1 ?_;refine callsIn_of_wp_marks Tryz.func116 rfl trivial ?_ rfl;simp only [Tryz.ntmps116,List.size_toArray,List.length_cons,List.length_nil,Nat.reduceAdd,Nat.reduceSub,Array.replicate_succ,Array.replicate_zero,List.push_toArray,List.append_toArray,List.nil_append,List.cons_append];gi_wp2_with fail;refine ⟨trivial,(callsIn_wide.2 (jo _ _ ⟨_,_,_,rfl⟩)).mono ?_⟩;rintro e w' ⟨rfl,rfl⟩;gi_wp2_with fail;have qg:Below w.heap.size w ((((w.alloc (.cells #[.slice ma mn mc] 75)).alloc (.cells #[.func (.func 117) #[.agg #[.slice ma mn mc]] #[]] 222)).alloc (.cells #[.nilIface] 77)).alloc (.cells #[.slice ma mn mc] 75)):=((((Below.refl _ w).alloc (Nat.le_refl _) _).alloc (by simp) _).alloc (by simp;omega) _).alloc (by simp;omega) _;have bC:ag ((((w.alloc (.cells #[.slice ma mn mc] 75)).alloc (.cells #[.func (.func 117) #[.agg #[.slice ma mn mc]] #[]] 222)).alloc (.cells #[.nilIface] 77)).alloc (.cells #[.slice ma mn mc] 75)) (w.heap.size+1) #[.func (.func 117) #[.agg #[.slice ma mn mc]] #[]] 222:=((ag.new' (w.alloc (.cells #[.slice ma mn mc] 75)) _ _ (w.heap.size+1) (by simp)).alloc _).alloc _;have bR:ag ((((w.alloc (.cells #[.slice ma mn mc] 75)).alloc (.cells #[.func (.func 117) #[.agg #[.slice ma mn mc]] #[]] 222)).alloc (.cells #[.nilIface] 77)).alloc (.cells #[.slice ma mn mc] 75)) (w.heap.size+1+1) #[.nilIface] 77:=(ag.new' ((w.alloc (.cells #[.slice ma mn mc] 75)).alloc (.cells #[.func (.func 117) #[.agg #[.slice ma mn mc]] #[]] 222)) _ _ (w.heap.size+1+1) (by simp)).alloc _;have bM:ag ((((w.alloc (.cells #[.slice ma mn mc] 75)).alloc (.cells #[.func (.func 117) #[.agg #[.slice ma mn mc]] #[]] 222)).alloc (.cells #[.nilIface] 77)).alloc (.cells #[.slice ma mn mc] 75)) (w.heap.size+1+1+1) #[.slice ma mn mc] 75:=ag.new' _ _ _ _ (by simp);have hsz:((((w.alloc (.cells #[.slice ma mn mc] 75)).alloc (.cells #[.func (.func 117) #[.agg #[.slice ma mn mc]] #[]] 222)).alloc (.cells #[.nilIface] 77)).alloc (.cells #[.slice ma mn mc] 75)).heap.size=w.heap.size+4:=by simp
 have HM:=h.below qg;obtain ⟨W0,hW0⟩:∃W0,((((w.alloc (.cells #[.slice ma mn mc] 75)).alloc (.cells #[.func (.func 117) #[.agg #[.slice ma mn mc]] #[]] 222)).alloc (.cells #[.nilIface] 77)).alloc (.cells #[.slice ma mn mc] 75))=W0:=⟨_,rfl⟩;rw [hW0] at qg bC bR bM hsz HM ⊢;clear hW0;obtain ⟨fo,hF⟩:=zW HM;obtain ⟨L,hL⟩:∃L:List {x:It // sH b W0 tl x},L.map Subtype.val=ng fo tl:=nM _ _ (vz hF);have hE:iV N ts=L.findSome? (fun x=>N x.1.1.1 x.1.2.1):=by
  rw [←HM.fst,oC N b W0 fo tl hF,←hL,List.findSome?_map]
  rfl
 refine wpIn_rangeFunc_ownH (F:=Fence.wide) rfl (by decide) (gf:=208) (lb:=#[.pointer (some ⟨w.heap.size+1+1+1,0,none⟩)]) rfl trivial (enters_of Tryz.func208 (by kernel_rfl) rfl)
  (oD b W0 _ ts tl HM fo hF _ (by decide) _ bM L hL) (fun h k=>CK.trans h k) (CK.b (w:=W0)) (Below.refl _ _) (fun _=>rfl)
  (fun pre W=>(∀x∈pre,N x.1.1.1 x.1.2.1=none)∧Below W0.heap.size W0 W)
  (fun cd pre W=>(cd=.ret∧∃p0 x q,pre=p0++[x]∧(∀y∈p0,N y.1.1.1 y.1.2.1=none)∧N x.1.1.1 x.1.2.1=some q∧ag W (w.heap.size+1+1) #[dW c (some q)] 77)∧Below w.heap.size w W)
  (OwnFrom.and (ownFrom_pure _ _) (ownFrom_below (Nat.le_refl _) (Nat.le_refl _)))
  (fun cd=>OwnFrom.and (fun s X Y row hs hg hr=>by
   obtain ⟨h1,p0,x,q,h2,h3,h4,h5⟩:=hs;exact ⟨h1,p0,x,q,h2,h3,h4,bV (β:=Unit) W0.heap.size _ _ _ () X Y row h5 hg hr⟩) (ownFrom_below (Nat.le_refl _) (by omega)))
  ⟨by simp,Below.refl _ _⟩
  (fun x a' W=>∃Bt,W0.heap.size≤Bt∧ag W Bt #[.int .i64 x.1.1.1.place,.string x.1.1.1.name,x.1.1.2] 110∧ag W (Bt+1) #[.int .i64 x.1.2.1.place,.string x.1.2.1.name,x.1.2.2] 159∧a'={tmps:=#[.agg #[.slice ma mn mc],.func (.func 117) #[.agg #[.slice ma mn mc]] #[],.pointer (some ⟨w.heap.size,0,none⟩),.pointer (some ⟨w.heap.size+1,0,none⟩),.pointer (some ⟨w.heap.size+1+1,0,none⟩),.pointer (some ⟨Bt,0,none⟩),.pointer (some ⟨Bt+1,0,none⟩),undef,.agg #[.slice ma mn mc],.func (.func 208) #[] #[.pointer (some ⟨w.heap.size+1+1+1,0,none⟩)],.agg #[.int .i64 x.1.1.1.place,.string x.1.1.1.name,x.1.1.2],.agg #[.int .i64 x.1.2.1.place,.string x.1.2.1.name,x.1.2.2],undef,undef,undef,undef,undef,undef,undef],defers:=[]})
  (fun x a' _ X Y row hs hg hr=>by
   obtain ⟨Bt,h1,h2,h3,h4⟩:=hs;exact ⟨Bt,h1,bV (β:=Unit) W0.heap.size _ _ _ () X Y row h2 hg hr,bV (β:=Unit) W0.heap.size _ _ _ () X Y row h3 hg hr,h4⟩)
  ?assign ?body ?done ?stop
 case assign=>
  rintro l pre x W K ⟨hpre,jQ⟩ hK;obtain ⟨⟨⟨t,tv⟩,⟨r,bv⟩⟩,hx⟩:=x;obtain ⟨rl,hrc,hin⟩:=hx.2;simp only at hrc hin hK;obtain ⟨va,vn,vc,rfl⟩:=hrc.form;obtain ⟨ra,rv,tN⟩:=(hrc.ex _ hin).isI;simp only at tN;subst tN;simp only [Nu];have b1:=(Below.refl _ W).alloc (Nat.le_refl _) (.cells #[.int .i64 t.place,.string t.name,.slice va vn vc] 110);have b2:=b1.alloc b1.size (.cells #[.int .i64 r.place,.string r.name,.iface ra rv] 159);gi_wp2_with fail;exact hK _ _ (((KeepsOthers.alloc _ _).trans (KeepsOthers.alloc _ _)).from _) (CK.below b2) ⟨hpre,jQ.trans (b2.mono jQ.size)⟩ ⟨W.heap.size,jQ.size,(ag.new W _ _).alloc _,ag.new' _ _ _ _ (by simp),rfl⟩
 case body=>
  rintro l pre x a' W hl ⟨rr,hr⟩ ⟨hpre,jQ⟩ ⟨Bt,hBt,bT,bL,rfl⟩ hlt;obtain ⟨⟨⟨t,tv⟩,⟨r,bv⟩⟩,hx⟩:=x;obtain ⟨rl,hrc,hin⟩:=hx.2;simp only at hrc hin bT bL;obtain ⟨va,vn,vc,rfl⟩:=hrc.form;obtain ⟨ra,rv,tN⟩:=(hrc.ex _ hin).isI;simp only at tN;subst tN;obtain ⟨t0,t1,t2⟩:=bT.three;obtain ⟨r0,r1,r2⟩:=bL.three;have c0:W.cell? ⟨w.heap.size+1,0,none⟩=some (.func (.func 117) #[.agg #[.slice ma mn mc]] #[]):=(bC.below jQ).cell rfl;have hmem:r∈t.rels:=by rw [←hrc.fst];exact List.mem_map.2 ⟨_,hin,rfl⟩
  have C:=hp W t _ rl r _ (HM.below jQ) (hrc.below jQ) ((hrc.ex _ hin).but (But.of_below jQ)) hmem
  cases hn:N t r with
  |none=>
   rw [hn] at C;clear hp;gi_wp2_with fail;refine ⟨trivial,(CallsIn.inRound l (callsIn_wide.2 C)).mono ?_⟩;rintro e w3 ⟨rfl,hb3⟩;unfold dW;gi_wp2;exact ⟨dO hb3,CK.below hb3,fun y hy=>by
    rw [List.mem_append,List.mem_singleton] at hy
    rcases hy with hy|rfl
    ·exact hpre y hy
    ·exact hn,jQ.trans (hb3.mono jQ.size)⟩
  |some q=>
   rw [hn] at C;clear hp;gi_wp2_with fail;refine ⟨trivial,(CallsIn.inRound l (callsIn_wide.2 C)).mono ?_⟩;rintro e w3 ⟨rfl,hb3⟩;have Da:=(bR.below jQ).below hb3;have q0:w3.cell? ⟨w.heap.size+1+1,0,none⟩=some .nilIface:=Da.cell rfl;have qz:=Da.fz;have hb4:=(qg.trans (jQ.mono (by omega))).trans (hb3.mono (by have:=jQ.size;omega));unfold dW eG;gi_wp2;exact ⟨(dO hb3).trans ((KeepsOthers.setCell _ _ _).from _),⟨rfl,pre,_,q,rfl,hpre,hn,Da.set 0 _⟩,hb4.setCell (p:=⟨w.heap.size+1+1,0,none⟩) (by simp;omega) _⟩
 case done=>
  rintro D ys W hD rfl ⟨hpre,jQ⟩ hK;have Da:=bR.below jQ;have q0:W.cell? ⟨w.heap.size+1+1,0,none⟩=some .nilIface:=Da.cell rfl;have qz:=Da.fz;have LP:iV N ts=none:=by rw [hE];exact List.findSome?_eq_none_iff.2 hpre
  gi_wp2;have hK':=(KeepsOthers.setCell W ⟨w.heap.size+1+1,0,none⟩ .nilIface).same D _ hK rfl;refine ⟨by simp,.inl ⟨_,_,rfl,run_takeDeferred hK',?_⟩⟩;have LQ:=cell_kept (World.cell?_setCell_same' W ⟨w.heap.size+1+1,0,none⟩ .nilIface (by rw [q0];rfl)) (grownBy_putObj' _ D (.deferred none)) (fun r e=>by cases e;exact ⟨_,hK',rfl⟩);refine ⟨.nilIface,?_,by rw [LP];rfl,((qg.trans (jQ.mono (by omega))).setCell (p:=⟨w.heap.size+1+1,0,none⟩) (by simp;omega) _).trans (belowK_b (w:=w) (Nat.le_refl _) _ D _ _ (by omega) hK' rfl rfl)⟩;simp [results,Tryz.f116,go_sem,LQ]
 case stop=>
  rintro D cd pre W hD hpx ⟨⟨rfl,p0,x,q,rfl,h1,h2,h3⟩,jQ⟩ hK;have LP:iV N ts=some q:=by rw [hE];exact pz _ L p0 x q hpx h1 h2
  gi_wp2;refine ⟨by simp,.inl ⟨_,_,rfl,run_takeDeferred hK,?_⟩⟩;have LQ:=cell_kept (h3.cell (o:=0) rfl) (grownBy_putObj' _ D (.deferred none)) (fun r e=>by cases e;exact ⟨_,hK,rfl⟩);refine ⟨dW c (some q),?_,by rw [LP],jQ.trans (belowK_b (w:=w) (Nat.le_refl _) W D _ _ (by omega) hK rfl rfl)⟩;simp [results,Tryz.f116,go_sem,LQ]
theorem zY (b c:Nat) (sv:Value) (ts:List Ty) (tl:List (Ty×Value)) (N:Ty→Rl→Option Nat) (w:World) (h:MC b w sv ts tl)
  (hp:∀w' t tv rl r bv,MC b w' sv ts tl→RC b w' tv t.rels rl→ay b w' r.body bv→r∈t.rels→Calls Tryz.prog 118 #[.agg #[sv],.agg #[.int .i64 t.place,.string t.name,tv],.agg #[.int .i64 r.place,.string r.name,bv]] w' fun e' w''=>e'=.returned (dW c (N t r))∧Below w'.heap.size w' w''):
  Calls Tryz.prog 116 #[.agg #[sv],.func (.func 118) #[.agg #[sv]] #[]] w fun e' w'=>e'=.returned (dW c (iV N ts))∧Below w.heap.size w w':=by
 obtain ⟨ma,mn,mc,rfl⟩:=h.form;refine (callsIn_wide (n:=8)).1 ?_;refine callsIn_of_wp_marks Tryz.func116 rfl trivial ?_ rfl;simp only [Tryz.ntmps116,List.size_toArray,List.length_cons,List.length_nil,Nat.reduceAdd,Nat.reduceSub,Array.replicate_succ,Array.replicate_zero,List.push_toArray,List.append_toArray,List.nil_append,List.cons_append];gi_wp2_with fail;refine ⟨trivial,(callsIn_wide.2 (jo _ _ ⟨_,_,_,rfl⟩)).mono ?_⟩;rintro e w' ⟨rfl,rfl⟩;gi_wp2_with fail;have qg:Below w.heap.size w ((((w.alloc (.cells #[.slice ma mn mc] 75)).alloc (.cells #[.func (.func 118) #[.agg #[.slice ma mn mc]] #[]] 222)).alloc (.cells #[.nilIface] 77)).alloc (.cells #[.slice ma mn mc] 75)):=((((Below.refl _ w).alloc (Nat.le_refl _) _).alloc (by simp) _).alloc (by simp;omega) _).alloc (by simp;omega) _;have bC:ag ((((w.alloc (.cells #[.slice ma mn mc] 75)).alloc (.cells #[.func (.func 118) #[.agg #[.slice ma mn mc]] #[]] 222)).alloc (.cells #[.nilIface] 77)).alloc (.cells #[.slice ma mn mc] 75)) (w.heap.size+1) #[.func (.func 118) #[.agg #[.slice ma mn mc]] #[]] 222:=((ag.new' (w.alloc (.cells #[.slice ma mn mc] 75)) _ _ (w.heap.size+1) (by simp)).alloc _).alloc _;have bR:ag ((((w.alloc (.cells #[.slice ma mn mc] 75)).alloc (.cells #[.func (.func 118) #[.agg #[.slice ma mn mc]] #[]] 222)).alloc (.cells #[.nilIface] 77)).alloc (.cells #[.slice ma mn mc] 75)) (w.heap.size+1+1) #[.nilIface] 77:=(ag.new' ((w.alloc (.cells #[.slice ma mn mc] 75)).alloc (.cells #[.func (.func 118) #[.agg #[.slice ma mn mc]] #[]] 222)) _ _ (w.heap.size+1+1) (by simp)).alloc _;have bM:ag ((((w.alloc (.cells #[.slice ma mn mc] 75)).alloc (.cells #[.func (.func 118) #[.agg #[.slice ma mn mc]] #[]] 222)).alloc (.cells #[.nilIface] 77)).alloc (.cells #[.slice ma mn mc] 75)) (w.heap.size+1+1+1) #[.slice ma mn mc] 75:=ag.new' _ _ _ _ (by simp);have hsz:((((w.alloc (.cells #[.slice ma mn mc] 75)).alloc (.cells #[.func (.func 118) #[.agg #[.slice ma mn mc]] #[]] 222)).alloc (.cells #[.nilIface] 77)).alloc (.cells #[.slice ma mn mc] 75)).heap.size=w.heap.size+4:=by simp
 have HM:=h.below qg;obtain ⟨W0,hW0⟩:∃W0,((((w.alloc (.cells #[.slice ma mn mc] 75)).alloc (.cells #[.func (.func 118) #[.agg #[.slice ma mn mc]] #[]] 222)).alloc (.cells #[.nilIface] 77)).alloc (.cells #[.slice ma mn mc] 75))=W0:=⟨_,rfl⟩;rw [hW0] at qg bC bR bM hsz HM ⊢;clear hW0;obtain ⟨fo,hF⟩:=zW HM;obtain ⟨L,hL⟩:∃L:List {x:It // sH b W0 tl x},L.map Subtype.val=ng fo tl:=nM _ _ (vz hF);have hE:iV N ts=L.findSome? (fun x=>N x.1.1.1 x.1.2.1):=by
  rw [←HM.fst,oC N b W0 fo tl hF,←hL,List.findSome?_map]
  rfl
 refine wpIn_rangeFunc_ownH (F:=Fence.wide) rfl (by decide) (gf:=208) (lb:=#[.pointer (some ⟨w.heap.size+1+1+1,0,none⟩)]) rfl trivial (enters_of Tryz.func208 (by kernel_rfl) rfl)
  (oD b W0 _ ts tl HM fo hF _ (by decide) _ bM L hL) (fun h k=>CK.trans h k) (CK.b (w:=W0)) (Below.refl _ _) (fun _=>rfl)
  (fun pre W=>(∀x∈pre,N x.1.1.1 x.1.2.1=none)∧Below W0.heap.size W0 W)
  (fun cd pre W=>(cd=.ret∧∃p0 x q,pre=p0++[x]∧(∀y∈p0,N y.1.1.1 y.1.2.1=none)∧N x.1.1.1 x.1.2.1=some q∧ag W (w.heap.size+1+1) #[dW c (some q)] 77)∧Below w.heap.size w W)
  (OwnFrom.and (ownFrom_pure _ _) (ownFrom_below (Nat.le_refl _) (Nat.le_refl _)))
  (fun cd=>OwnFrom.and (fun s X Y row hs hg hr=>by
   obtain ⟨h1,p0,x,q,h2,h3,h4,h5⟩:=hs;exact ⟨h1,p0,x,q,h2,h3,h4,bV (β:=Unit) W0.heap.size _ _ _ () X Y row h5 hg hr⟩) (ownFrom_below (Nat.le_refl _) (by omega)))
  ⟨by simp,Below.refl _ _⟩
  (fun x a' W=>∃Bt,W0.heap.size≤Bt∧ag W Bt #[.int .i64 x.1.1.1.place,.string x.1.1.1.name,x.1.1.2] 110∧ag W (Bt+1) #[.int .i64 x.1.2.1.place,.string x.1.2.1.name,x.1.2.2] 159∧a'={tmps:=#[.agg #[.slice ma mn mc],.func (.func 118) #[.agg #[.slice ma mn mc]] #[],.pointer (some ⟨w.heap.size,0,none⟩),.pointer (some ⟨w.heap.size+1,0,none⟩),.pointer (some ⟨w.heap.size+1+1,0,none⟩),.pointer (some ⟨Bt,0,none⟩),.pointer (some ⟨Bt+1,0,none⟩),undef,.agg #[.slice ma mn mc],.func (.func 208) #[] #[.pointer (some ⟨w.heap.size+1+1+1,0,none⟩)],.agg #[.int .i64 x.1.1.1.place,.string x.1.1.1.name,x.1.1.2],.agg #[.int .i64 x.1.2.1.place,.string x.1.2.1.name,x.1.2.2],undef,undef,undef,undef,undef,undef,undef],defers:=[]})
  (fun x a' _ X Y row hs hg hr=>by
   obtain ⟨Bt,h1,h2,h3,h4⟩:=hs;exact ⟨Bt,h1,bV (β:=Unit) W0.heap.size _ _ _ () X Y row h2 hg hr,bV (β:=Unit) W0.heap.size _ _ _ () X Y row h3 hg hr,h4⟩)
  ?assign ?body ?done ?stop
 case assign=>
  rintro l pre x W K ⟨hpre,jQ⟩ hK;obtain ⟨⟨⟨t,tv⟩,⟨r,bv⟩⟩,hx⟩:=x;obtain ⟨rl,hrc,hin⟩:=hx.2;simp only at hrc hin hK;obtain ⟨va,vn,vc,rfl⟩:=hrc.form;obtain ⟨ra,rv,tN⟩:=(hrc.ex _ hin).isI;simp only at tN;subst tN;simp only [Nu];have b1:=(Below.refl _ W).alloc (Nat.le_refl _) (.cells #[.int .i64 t.place,.string t.name,.slice va vn vc] 110);have b2:=b1.alloc b1.size (.cells #[.int .i64 r.place,.string r.name,.iface ra rv] 159);gi_wp2_with fail;exact hK _ _ (((KeepsOthers.alloc _ _).trans (KeepsOthers.alloc _ _)).from _) (CK.below b2) ⟨hpre,jQ.trans (b2.mono jQ.size)⟩ ⟨W.heap.size,jQ.size,(ag.new W _ _).alloc _,ag.new' _ _ _ _ (by simp),rfl⟩
 case body=>
  rintro l pre x a' W hl ⟨rr,hr⟩ ⟨hpre,jQ⟩ ⟨Bt,hBt,bT,bL,rfl⟩ hlt;obtain ⟨⟨⟨t,tv⟩,⟨r,bv⟩⟩,hx⟩:=x;obtain ⟨rl,hrc,hin⟩:=hx.2;simp only at hrc hin bT bL;obtain ⟨va,vn,vc,rfl⟩:=hrc.form;obtain ⟨ra,rv,tN⟩:=(hrc.ex _ hin).isI;simp only at tN;subst tN;obtain ⟨t0,t1,t2⟩:=bT.three;obtain ⟨r0,r1,r2⟩:=bL.three;have c0:W.cell? ⟨w.heap.size+1,0,none⟩=some (.func (.func 118) #[.agg #[.slice ma mn mc]] #[]):=(bC.below jQ).cell rfl;have hmem:r∈t.rels:=by rw [←hrc.fst];exact List.mem_map.2 ⟨_,hin,rfl⟩
  have C:=hp W t _ rl r _ (HM.below jQ) (hrc.below jQ) ((hrc.ex _ hin).but (But.of_below jQ)) hmem
  cases hn:N t r with
  |none=>
   rw [hn] at C;clear hp;gi_wp2_with fail;refine ⟨trivial,(CallsIn.inRound l (callsIn_wide.2 C)).mono ?_⟩;rintro e w3 ⟨rfl,hb3⟩;unfold dW;gi_wp2;exact ⟨dO hb3,CK.below hb3,fun y hy=>by
    rw [List.mem_append,List.mem_singleton] at hy
    rcases hy with hy|rfl
    ·exact hpre y hy
    ·exact hn,jQ.trans (hb3.mono jQ.size)⟩
  |some q=>
   rw [hn] at C;clear hp;gi_wp2_with fail;refine ⟨trivial,(CallsIn.inRound l (callsIn_wide.2 C)).mono ?_⟩;rintro e w3 ⟨rfl,hb3⟩;have Da:=(bR.below jQ).below hb3;have q0:w3.cell? ⟨w.heap.size+1+1,0,none⟩=some .nilIface:=Da.cell rfl;have qz:=Da.fz;have hb4:=(qg.trans (jQ.mono (by omega))).trans (hb3.mono (by have:=jQ.size;omega));unfold dW eG;gi_wp2;exact ⟨(dO hb3).trans ((KeepsOthers.setCell _ _ _).from _),⟨rfl,pre,_,q,rfl,hpre,hn,Da.set 0 _⟩,hb4.setCell (p:=⟨w.heap.size+1+1,0,none⟩) (by simp;omega) _⟩
 case done=>
  rintro D ys W hD rfl ⟨hpre,jQ⟩ hK;have Da:=bR.below jQ;have q0:W.cell? ⟨w.heap.size+1+1,0,none⟩=some .nilIface:=Da.cell rfl;have qz:=Da.fz;have LP:iV N ts=none:=by rw [hE];exact List.findSome?_eq_none_iff.2 hpre
  gi_wp2;have hK':=(KeepsOthers.setCell W ⟨w.heap.size+1+1,0,none⟩ .nilIface).same D _ hK rfl;refine ⟨by simp,.inl ⟨_,_,rfl,run_takeDeferred hK',?_⟩⟩;have LQ:=cell_kept (World.cell?_setCell_same' W ⟨w.heap.size+1+1,0,none⟩ .nilIface (by rw [q0];rfl)) (grownBy_putObj' _ D (.deferred none)) (fun r e=>by cases e;exact ⟨_,hK',rfl⟩);refine ⟨.nilIface,?_,by rw [LP];rfl,((qg.trans (jQ.mono (by omega))).setCell (p:=⟨w.heap.size+1+1,0,none⟩) (by simp;omega) _).trans (belowK_b (w:=w) (Nat.le_refl _) _ D _ _ (by omega) hK' rfl rfl)⟩;simp [results,Tryz.f116,go_sem,LQ]
 case stop=>
  rintro D cd pre W hD hpx ⟨⟨rfl,p0,x,q,rfl,h1,h2,h3⟩,jQ⟩ hK;have LP:iV N ts=some q:=by rw [hE];exact pz _ L p0 x q hpx h1 h2
  gi_wp2;refine ⟨by simp,.inl ⟨_,_,rfl,run_takeDeferred hK,?_⟩⟩;have LQ:=cell_kept (h3.cell (o:=0) rfl) (grownBy_putObj' _ D (.deferred none)) (fun r e=>by cases e;exact ⟨_,hK,rfl⟩);refine ⟨dW c (some q),?_,by rw [LP],jQ.trans (belowK_b (w:=w) (Nat.le_refl _) W D _ _ (by omega) hK rfl rfl)⟩;simp [results,Tryz.f116,go_sem,LQ]
end Go.Proofs.YtlbpnlngckgcbaaGreatDoor
namespace Go.Proofs.YtlbpnlngckgcbaaGreatDoor
open Go.RowKit Go.PlainAid
theorem Jj {w:World} {b1 b2:Nat} {e:TypeId} {size:Nat} {v:Value} {n1 n2:Nat} {x1 x2:List Value} (h1:w.ownsRow b1 e size v n1 x1) (h2:w.ownsRow b2 e size v n2 x2):n1=n2∧x1=x2:=by
 have hn:n1=n2:=by
  obtain ⟨a,c,rfl⟩:=ak h1;obtain ⟨a',c',e⟩:=ak h2;simp only [Value.slice.injEq] at e;exact e.2.1
 subst hn;refine ⟨rfl,List.ext_getElem? fun k=> ?_⟩;have hl:x1.length=x2.length:=h1.1.trans h2.1.symm
 rcases Nat.lt_or_ge k x1.length with h|h
 ·obtain ⟨g,c,e1,c1⟩:=aQ h1 k _ (RI h);obtain ⟨g',c',e2,c2⟩:=aQ h2 k _ (RI (show k<x2.length by omega));rw [e1] at e2;simp only [Value.slice.injEq,Option.some.injEq,Addr.mk.injEq] at e2;obtain ⟨⟨rfl,_⟩,_⟩:=e2;rw [c1] at c2;rw [RI h,RI (show k<x2.length by omega)];exact c2
 ·rw [List.getElem?_eq_none h,List.getElem?_eq_none (by omega)]
theorem FB:∀(a c:List E3),a.flatMap c3=c.flatMap c3→a=c
 | [],[],_=>rfl
 | [],e::c,h=>by simp [c3] at h
 |e::a,[],h=>by simp [c3] at h
 |(p,n,v)::a,(p',n',v')::c,h=>by
  simp only [List.flatMap_cons,c3,List.cons_append,List.nil_append,List.cons.injEq,Value.int.injEq,Value.string.injEq,true_and] at h;obtain ⟨h1,h2,h3,h4⟩:=h;rw [FB a c h4,h2,h3,show p=p' by omega]
theorem fD.inj {w:World} {T:TypeId} {v:Value} {l1 l2:List E3} (h1:fD w T v l1) (h2:fD w T v l2):l1=l2:=FB _ _ (Jj h1 h2).2
def P8:List RJ→List (RJ×Nat)→Option Nat
 |_,[]=>none
 |ah,(n,p)::r=>if ah.any (fun m=>eqs m n) then some p else P8 (ah++[n]) r
theorem tQ (n:RJ) (l:List E3):(eY n l).isSome=(l.map fun e=>e.2.1).any (fun m=>eqs m n):=by
 unfold eY;rw [List.any_map,Bool.eq_iff_iff,List.any_eq_true,List.find?_isSome]
 rfl
theorem tV:∀(l ah:List E3),iB ah l=P8 (ah.map fun e=>e.2.1) (l.map fun e=>(e.2.1,e.1))
 | [],ah=>rfl
 |e::l,ah=>by
  have:=tV l (ah++[e]);simp only [iB,List.map_cons,P8,tQ];rw [this,List.map_append]
  rfl
def QT (rs:List Rl):Option Nat:=P8 [] (rs.map fun r=>(r.name,r.place))
def LU:List RJ→List Ty→Option Nat
 |_,[]=>none
 |ah,t::r=>if ah.any (fun m=>eqs m t.name) then some t.place else match QT t.rels with
  |some p=>some p
  |none=>LU (ah++[t.name]) r
theorem qZ (inn:E3→Option Nat):∀(l al:List (Ty×Value)),(∀p∈l,inn (t3 p)=QT p.1.rels)→gG inn (al.map t3) (l.map t3)=LU (al.map fun p=>p.1.name) (l.map Prod.fst)
 | [],al,_=>rfl
 |p::l,al,h=>by
  have ih:=qZ inn l (al++[p]) (fun q hq=>h q (by simp [hq]));have hp:=h p (by simp);simp only [List.map_cons,gG,LU,tQ,hp];rw [List.map_append,List.map_append] at ih;simp only [List.map_cons,List.map_nil] at ih;rw [ih,List.map_map]
  rfl
theorem LV (w:World):∃inn:E3→Option Nat,∀e l,fD w 159 e.2.2 l→inn e=iB [] l:=by
 classical
 refine ⟨fun e=>if h:∃l:List E3,fD w 159 e.2.2 l then iB [] h.choose else none,?_⟩;intro e l h;have hx:∃l:List E3,fD w 159 e.2.2 l:=⟨l,h⟩;simp only;rw [dif_pos hx,fD.inj hx.choose_spec h]
theorem zZ (b:Nat) (sv:Value) (ts:List Ty) (tl:List (Ty×Value)) (w:World) (h:MC b w sv ts tl):
  Calls Tryz.prog 115 #[.agg #[sv]] w fun e w'=>e=.returned (dW 4 (LU [] ts))∧Below w.heap.size w w':=by
 obtain ⟨inn,OQ⟩:=LV w;have key:gG inn [] (tl.map t3)=LU [] ts:=by
  have:=qZ inn tl [] (fun p hp=>by
   obtain ⟨rl,hr⟩:=h.rels p hp;rw [OQ (t3 p) _ hr.row,tV,QT,←hr.fst,List.map_map,List.map_map]
   rfl)
  rw [h.fst] at this;exact this
 rw [←key];refine zC inn sv (tl.map t3) w h.llen h.row ?_ ?_
 ·intro e he;rw [List.mem_map] at he;obtain ⟨p,hp,rfl⟩:=he;obtain ⟨rl,hr⟩:=h.rels p hp;exact hr.form
 ·intro e he w' hb;rw [List.mem_map] at he;obtain ⟨p,hp,rfl⟩:=he;obtain ⟨rl,hr⟩:=h.rels p hp;rw [OQ (t3 p) _ hr.row];refine zB _ _ _ _ w' hr.llen (hr.row.below hb) ?_;intro e he;rw [List.mem_map] at he;obtain ⟨q,hq,rfl⟩:=he;exact (hr.ex q hq).isI
def q8 (ts:List Ty):Option (Nat×Nat):=match LU [] ts with
 |some p=>some (p,4)
 |none=>match iV (qQ ts) ts with
  |some p=>some (p,5)
  |none=>match iV (qX ts) ts with
   |some p=>some (p,6)
   |none=>none
def z8:Option (Nat×Nat)→Value
 |none=> .nilIface
 |some (p,c)=>eG p c
theorem tX (b:Nat) (sv:Value) (ts:List Ty) (tl:List (Ty×Value)) (w:World) (h:MC b w sv ts tl):
  Calls Tryz.prog 74 #[.agg #[sv]] w fun e w'=>e=.returned (z8 (q8 ts))∧Below w.heap.size w w':=by
 obtain ⟨ma,mn,mc,rfl⟩:=h.form;have W0:Below w.heap.size w (w.alloc (.cells #[.slice ma mn mc] 75)):=(Below.refl _ _).alloc RH _;have fK:=ae W0;have qd:=ae (h.below W0);have MB:=ae (ag.new w #[.slice ma mn mc] 75);have C0:=ae (zZ b _ ts tl _ (aa qd));have C1:=ae (fun w' (hw:Below w.heap.size w w')=>zX b 5 _ ts tl (qQ ts) w' (h.below hw) (fun w'' t tv rl r bv h1 h2 h3 h4=>qR b _ ts tl t tv rl r bv w'' h1 h2 h3 h4));have C2:=ae (fun w' (hw:Below w.heap.size w w')=>zY b 6 _ ts tl (qX ts) w' (h.below hw) (fun w'' t tv rl r bv h1 h2 h3 h4=>qY b _ ts tl t tv rl r bv w'' h1 h2 h3 h4));unfold q8;clear W0 h
 cases h1:LU [] ts with
 |some p=>
  rw [h1] at C0;clear h1;simp only [z8];go_enter Tryz.func74,Tryz.ntmps74;go_wp2_with fail;refine (aa C0).mono ?_;rintro e w2 ⟨rfl,hb2⟩;have B2:=ae ((aa fK).trans (hb2.mono (aa fK).size));clear hb2;unfold dW eG;go_wp2;go_ret;exact ⟨rfl,aa B2⟩
 |none=>
  rw [h1] at C0;clear h1;simp only
  cases h2:iV (qQ ts) ts with
  |some p=>
   rw [h2] at C1;clear h2;simp only [z8];go_enter Tryz.func74,Tryz.ntmps74;go_wp2_with fail;refine (aa C0).mono ?_;rintro e w2 ⟨rfl,hb2⟩;have B2:=ae ((aa fK).trans (hb2.mono (aa fK).size));have m0:w2.cell? ⟨w.heap.size,0,none⟩=some (.slice ma mn mc):=((aa MB).below hb2).cell rfl;have ml:=((aa MB).below hb2).lt;clear hb2;unfold dW;go_wp2_with fail;refine (aa C1 _ (aa B2)).mono ?_;rintro e w3 ⟨rfl,hb3⟩;have B3:=ae ((aa B2).trans (hb3.mono (aa B2).size));clear hb3;unfold dW eG;go_wp2;go_ret;exact ⟨rfl,aa B3⟩
  |none=>
   rw [h2] at C1;clear h2;simp only
   cases h3:iV (qX ts) ts with
   |some p=>
    rw [h3] at C2;clear h3;simp only [z8];go_enter Tryz.func74,Tryz.ntmps74;go_wp2_with fail;refine (aa C0).mono ?_;rintro e w2 ⟨rfl,hb2⟩;have B2:=ae ((aa fK).trans (hb2.mono (aa fK).size));have m0:w2.cell? ⟨w.heap.size,0,none⟩=some (.slice ma mn mc):=((aa MB).below hb2).cell rfl;have ml:=((aa MB).below hb2).lt;have CE:=ae ((aa MB).below hb2);clear hb2;unfold dW;go_wp2_with fail;refine (aa C1 _ (aa B2)).mono ?_;rintro e w3 ⟨rfl,hb3⟩;have B3:=ae ((aa B2).trans (hb3.mono (aa B2).size));have m1:w3.cell? ⟨w.heap.size,0,none⟩=some (.slice ma mn mc):=((aa CE).below hb3).cell rfl;have ml1:=((aa CE).below hb3).lt;clear hb3;unfold dW;go_wp2_with fail;refine (aa C2 _ (aa B3)).mono ?_;rintro e w4 ⟨rfl,hb4⟩;have B4:=ae ((aa B3).trans (hb4.mono (aa B3).size));clear hb4;unfold dW eG;go_wp2;go_ret;exact ⟨rfl,aa B4⟩
   |none=>
    rw [h3] at C2;clear h3;simp only [z8];go_enter Tryz.func74,Tryz.ntmps74;go_wp2_with fail;refine (aa C0).mono ?_;rintro e w2 ⟨rfl,hb2⟩;have B2:=ae ((aa fK).trans (hb2.mono (aa fK).size));have m0:w2.cell? ⟨w.heap.size,0,none⟩=some (.slice ma mn mc):=((aa MB).below hb2).cell rfl;have ml:=((aa MB).below hb2).lt;have CE:=ae ((aa MB).below hb2);clear hb2;unfold dW;go_wp2_with fail;refine (aa C1 _ (aa B2)).mono ?_;rintro e w3 ⟨rfl,hb3⟩;have B3:=ae ((aa B2).trans (hb3.mono (aa B2).size));have m1:w3.cell? ⟨w.heap.size,0,none⟩=some (.slice ma mn mc):=((aa CE).below hb3).cell rfl;have ml1:=((aa CE).below hb3).lt;clear hb3;unfold dW;go_wp2_with fail;refine (aa C2 _ (aa B3)).mono ?_;rintro e w4 ⟨rfl,hb4⟩;have B4:=ae ((aa B3).trans (hb4.mono (aa B3).size));clear hb4;unfold dW;go_wp2;go_ret;exact ⟨rfl,aa B4⟩
