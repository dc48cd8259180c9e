import Derived.Test.YtlbpnlngckgcbaaGreatDoorM14
import Derived.RangeFuncNested
import Derived.RangeFuncBound
import Derived.RangeFuncCalls
import Derived.RangeFuncLeaves
import Derived.Shelf.Abstract
import Derived.Shelf.RegionOpen
import Derived.OwnWalkIn
import Derived.TacticsInMore
import Derived.LoopNIn
import Derived.LoopIn
import Derived.Shelf.Strings.Builder1
import Derived.Shelf.Strings.Builder2
import Derived.Shelf.Strings.OnBuilder
import Derived.Shelf.Strings.BuilderF
import Derived.Shelf.Strings.BuilderK
import Derived.Shelf.LaysM
import Derived.Shelf.Strconv.Clone
import Derived.Shelf.Strings.Search1
import Derived.Shelf.Strings.Search2
import Derived.Shelf.Strings.Cut
import Derived.Shelf.Strings.Shaped
set_option linter.all false
set_option maxHeartbeats 4000000
set_option maxRecDepth 100000
namespace Go.Proofs.YtlbpnlngckgcbaaGreatDoor
open Go.RowKit Go.PlainAid Go.Shelf
attribute [local go_sem] Oper.semAt_some
def gD (N:Ty→Rl→Option Nat) (ts:List Ty):Option Nat:=ts.findSome? fun t=>t.rels.findSome? (N t)
def KT (w w':World):Prop:=∀(g:Nat) (cs:Array Value) (T:TypeId) (f:Nat×Nat),w.heap[g]? =some (Obj.cells cs T f)→(T=207∨T=159∨T=110)→w'.heap[g]? =w.heap[g]?
theorem KT.trans {x y z:World} (h:KT x y) (k:KT y z):KT x z:=fun g cs T f hh ht=>(k g cs T f ((h g cs T f hh ht).trans hh) ht).trans (h g cs T f hh ht)
theorem KT.set {w:World} {g:Nat} {cs:Array Value} {T:TypeId} (hb:ai w g cs T) (ht:¬(T=207∨T=159∨T=110)) (o:Nat) (u:Value):KT w (w.setCell ⟨g,o,none⟩ u):=
 fun g' cs' T' f hh ht'=>Below.heap_setCell _ _ _ _ (fun (e':g'=g)=>by
  subst e';unfold ai at hb;rw [hb] at hh;simp only [Option.some.injEq,Obj.cells.injEq] at hh;exact ht (by rw [hh.2.1];exact ht'))
theorem RC.kt {b:Nat} {w w':World} {sv:Value} {rs:List Rl} {rl:List (Rl×Value)} (h:RC b w sv rs rl) (k:KT w w'):RC b w' sv rs rl:=
 ⟨h.fst,ak h.row (fun g cs f _ hh=>k g cs _ f hh (.inr (.inl rfl))),fun p hp=>aH.frame (fun g cs f _ hh=>k g cs _ f hh (.inl rfl)) _ _ (h.ex p hp),h.len,h.okp,h.okg,h.wf⟩
theorem MC.kt {b:Nat} {w w':World} {sv:Value} {ts:List Ty} {tl:List (Ty×Value)} (h:MC b w sv ts tl) (k:KT w w') (hs:w.heap.size≤w'.heap.size):MC b w' sv ts tl:=
 ⟨h.fst,ak h.row (fun g cs f _ hh=>k g cs _ f hh (.inr (.inr rfl))),fun p hp=>by obtain ⟨rl,hr⟩:=h.rels p hp;exact ⟨rl,hr.kt k⟩,h.len,Nat.lt_of_lt_of_le h.blt hs⟩
def MT (T:TypeId):Prop:=T=207∨T=159∨T=110∨T=75
def CK (W W':World):Prop:=W.heap.size≤W'.heap.size∧∀(g:Nat) (cs:Array Value) (T:TypeId) (f:Nat×Nat),W.heap[g]? =some (Obj.cells cs T f)→MT T→W'.heap[g]? =W.heap[g]?
theorem CK.trans {X Y Z:World} (h:CK X Y) (k:CK Y Z):CK X Z:=⟨Nat.le_trans h.1 k.1,fun g cs T f hh ht=>(k.2 g cs T f ((h.2 g cs T f hh ht).trans hh) ht).trans (h.2 g cs T f hh ht)⟩
theorem CK.below {W W':World} (h:Below W.heap.size W W'):CK W W':=⟨h.size,fun g cs T f hh _=>h.block g (lt_of_some hh)⟩
theorem CK.kt {W W':World} (h:CK W W'):KT W W':=fun g cs T f hh ht=>h.2 g cs T f hh (by rcases ht with e|e|e<;>simp [MT,e])
theorem CK.b {w:World} (W:World) (l:Nat) (o o':Obj) (hl:w.heap.size≤l) (h:W.heap[l]? =some o) (hc:o.isCells=false) (hw:o.isWalk=false):CK W (W.putObj l o'):=
 ⟨(grownBy_putObj' W l o').size,fun g cs T f hh _=>World.putObj_heap_other (fun e=>by
  subst e;rw [h] at hh
  cases hh
  cases hc)⟩
theorem CK.blk {W W':World} (h:CK W W') {g:Nat} {cs:Array Value} {T:TypeId} (k:ai W g cs T) (ht:MT T):ai W' g cs T:=(h.2 g cs T (0,0) k ht).trans k
theorem CK.mc {W W':World} (h:CK W W') {b:Nat} {sv:Value} {ts:List Ty} {tl:List (Ty×Value)} (k:MC b W sv ts tl):MC b W' sv ts tl:=k.kt h.kt h.1
theorem CK.rc {W W':World} (h:CK W W') {b:Nat} {sv:Value} {rs:List Rl} {rl:List (Rl×Value)} (k:RC b W sv rs rl):RC b W' sv rs rl:=k.kt h.kt
abbrev It:=(Ty×Value)×(Rl×Value)
def Zo (x:It):Array Value:=#[.agg #[.int .i64 x.1.1.place,.string x.1.1.name,x.1.2],.agg #[.int .i64 x.2.1.place,.string x.2.1.name,x.2.2]]
def AP (b:Nat) (w:World) (tl:List (Ty×Value)) (x:It):Prop:=x.1∈tl∧∃rl,RC b w x.1.2 x.1.1.rels rl∧x.2∈rl
def UC (b:Nat) (w:World) (tl:List (Ty×Value)) (jF:Ty×Value→List (Rl×Value)):Prop:=∀p∈tl,RC b w p.2 p.1.rels (jF p)
theorem JC {b:Nat} {w:World} {sv:Value} {ts:List Ty} {tl:List (Ty×Value)} (h:MC b w sv ts tl):∃jF,UC b w tl jF:=by
 have:∀p:Ty×Value,∃rl,p∈tl→RC b w p.2 p.1.rels rl:=fun p=>by
  by_cases hp:p∈tl
  ·obtain ⟨rl,hr⟩:=h.rels p hp;exact ⟨rl,fun _=>hr⟩
  ·exact ⟨[],fun e=>absurd e hp⟩
 exact ⟨fun p=>Classical.choose (this p),fun p hp=>Classical.choose_spec (this p) hp⟩
def uq (jF:Ty×Value→List (Rl×Value)) (tl:List (Ty×Value)):List It:=tl.flatMap fun p=>(jF p).map fun q=>(p,q)
theorem DK {b:Nat} {w:World} {tl:List (Ty×Value)} {jF:Ty×Value→List (Rl×Value)} (h:UC b w tl jF) (x:It) (hx:x∈uq jF tl):AP b w tl x:=by
 unfold uq at hx;rw [List.mem_flatMap] at hx;obtain ⟨p,hp,hx⟩:=hx;rw [List.mem_map] at hx;obtain ⟨q,hq,rfl⟩:=hx;exact ⟨hp,jF p,h p hp,hq⟩
theorem vX (N:Ty→Rl→Option Nat) (b:Nat) (w:World) (jF:Ty×Value→List (Rl×Value)):∀(tl:List (Ty×Value)),UC b w tl jF→gD N (tl.map Prod.fst)=(uq jF tl).findSome? fun x=>N x.1.1 x.2.1
 | [],_=>rfl
 |p::tl,h=>by
  have ih:=vX N b w jF tl (fun q hq=>h q (by simp [hq]));have e:(uq jF (p::tl))=((jF p).map fun q=>(p,q))++uq jF tl:=by simp [uq]
  rw [e,List.findSome?_append,List.findSome?_map,←ih];have hr:=h p (by simp);have e2:p.1.rels.findSome? (N p.1)=(jF p).findSome? ((fun x:It=>N x.1.1 x.2.1) ∘ fun q=>(p,q)):=by
   rw [←hr.fst,List.findSome?_map]
   rfl
  rw [←e2];unfold gD;rw [List.map_cons,List.findSome?_cons]
  cases p.1.rels.findSome? (N p.1)<;>rfl
theorem uX {α:Type} (P:α→Prop):∀(l:List α),(∀x∈l,P x)→∃L:List {x // P x},L.map Subtype.val=l
 | [],_=>⟨[],rfl⟩
 |x::l,h=>by
  obtain ⟨L,hL⟩:=uX P l (fun y hy=>h y (by simp [hy]));exact ⟨⟨x,h x (by simp)⟩::L,by simp [hL]⟩
theorem wO {α β:Type} (f:α→Option β):∀(l p:List α) (x:α) (y:β),p++[x]<+:l→(∀z∈p,f z=none)→f x=some y→l.findSome? f=some y:=by
 rintro l p x y ⟨r,rfl⟩ h1 h2;rw [List.findSome?_append,List.findSome?_append];have:p.findSome? f=none:=List.findSome?_eq_none_iff.2 h1;rw [this];simp [h2]
theorem nG (sv:Value) (w:World) (hs:∃a n c,sv=.slice a n c):Calls Tryz.prog 150 #[.agg #[sv]] w fun e w'=>e=.returned (.func (.func 208) #[] #[.pointer (some ⟨w.heap.size,0,none⟩)])∧w'=w.alloc (.cells #[sv] 75):=by
 obtain ⟨a,n,c,rfl⟩:=hs;go_enter Tryz.func150,Tryz.ntmps150;go_wp2;go_ret;exact ⟨rfl,rfl⟩
theorem UD (b:Nat) (w0:World) (sv:Value) (ts:List Ty) (tl:List (Ty×Value)) (hM:MC b w0 sv ts tl) (jF:Ty×Value→List (Rl×Value)) (hF:UC b w0 tl jF) (n:Nat) (hn:1≤n) (l Bn:Nat) (L:List {x:It // AP b w0 tl x}) (hL:L.map Subtype.val=uq jF tl) (J Jx:List {x:It // AP b w0 tl x}→World→Prop)
  (W:World) (hW:Below w0.heap.size w0 W) (hJ:AbidesFrom W.heap.size J)
  (hY:∀pre x W1,J pre W1→pre.length<L.length→YieldAt Fence.wide (n-1) Tryz.prog l (Zo x.1) W1 fun e W'=>(e=.returned (.bool true)∧J (pre++[x]) W'∧CK W1 W')∨(e=.returned (.bool false)∧Jx (pre++[x]) W'))
  (hBn:W.cell? ⟨Bn,0,none⟩=some sv) (h0:J [] W):
  CallsIn Fence.wide n Tryz.prog 208 #[.func (.yield l) #[] #[],.pointer (some ⟨Bn,0,none⟩)] W fun e W'=>(∃v,e=.returned v)∧((∃ys,ys=L∧J ys W')∨(∃pre,pre<+:L∧Jx pre W')):=by
 obtain ⟨ma,mn,mc,rfl⟩:=hM.form;have hmn:mn=tl.length:=by
  obtain ⟨a',c',e⟩:=au hM.row;simp only [Value.slice.injEq,List.length_map] at e;exact e.2.1
 have RZ:mn≤tl.length:=by omega
 have hm2:tl.length≤mn:=by omega
 clear hmn;have Zf:tl.length≤1000:=by have:=hM.llen;simpa using this
 have HM:=af hM;have HF:=af hF;have HL:=af hL;have HY:=af hY;have HJ:=af hJ;have HW:=af (show CK w0 W from CK.below hW);clear hM hF hY hJ hW hL;refine callsIn_of_wp Tryz.func208 rfl trivial ?_ rfl;simp only [Tryz.ntmps208,List.size_toArray,List.length_cons,List.length_nil,Nat.reduceAdd,Nat.reduceSub,Array.replicate_succ,Array.replicate_zero,List.push_toArray,List.append_toArray,List.nil_append,List.cons_append];gi_wp2
 gi_loopw [10] (fun u wr=>∃(k:Nat) (pre rest:List {x:It // AP b w0 tl x}),k≤mn∧u=.int .i64 k∧CK w0 wr∧W.heap.size≤wr.heap.size∧Hid (L=pre++rest∧rest.map Subtype.val=uq jF (tl.drop k))∧J pre wr) (fun u _=>mn-(intOf u).toNat)
 case atStart=>exact ⟨0,[],L,by omega,rfl,ae HW,Nat.le_refl _,af ⟨rfl,ae HL⟩,h0⟩
 case round=>
  obtain ⟨k,pre,rest,hk,rfl,KP,hsw,HQ,hJs⟩:=hrel;obtain ⟨rX,lJ⟩:=ae HQ
  by_cases hlt:k<mn
  ·have hlt':k<tl.length:=by omega
   obtain ⟨g,c',e1,k0,k1,k2⟩:=(KP.mc (ae HM)).row.cell k (by simpa using hlt');simp only [Value.slice.injEq] at e1;obtain ⟨rfl,hxx,rfl⟩:=e1;clear hxx HQ;simp only [List.getElem_map,t3] at k0 k1 k2;have hrc:=ae HF tl[k] (List.getElem_mem hlt');have hL2:uq jF (tl.drop k)=((jF tl[k]).map fun q=>(tl[k],q))++uq jF (tl.drop (k+1)):=by
    rw [List.drop_eq_getElem_cons hlt'];simp only [uq,List.flatMap_cons]
   rw [hL2] at lJ;clear hL2;generalize tl[k]=p at*;obtain ⟨t,tv⟩:=p;simp only at k0 k1 k2 hrc;obtain ⟨va,vn,vc,rfl⟩:=hrc.form;generalize hrlq:jF (t,.slice va vn vc)=rl at*;clear hrlq;have hvn:vn=rl.length:=by
    obtain ⟨a',c',e⟩:=au hrc.row;simp only [Value.slice.injEq,List.length_map] at e;exact e.2.1
   have hv1:vn≤rl.length:=by omega
   have hv2:rl.length≤vn:=by omega
   clear hvn;have hrl:rl.length≤1000:=by have:=hrc.llen;simpa using this
   have bx:Below wr.heap.size wr (wr.alloc (.cells #[.int .i64 t.place,.string t.name,.slice va vn vc] 110)):=(Below.refl _ _).alloc (Nat.le_refl _) _;have HCX:=af (KP.trans (CK.below bx));have VP:=af hrc;have TB:=af (ai.new wr #[.int .i64 t.place,.string t.name,.slice va vn vc] 110);have HJX:=af (ae HJ pre wr (wr.alloc (.cells #[.int .i64 t.place,.string t.name,.slice va vn vc] 110)) none hJs (World.grownBy_alloc wr _ none) (fun r e=>by cases e));have hkn:(k:Int)<(mn:Int):=by omega
   have qN:=af (And.intro rX lJ);have hsX:W.heap.size≤(wr.alloc (.cells #[.int .i64 t.place,.string t.name,.slice va vn vc] 110)).heap.size:=by simp;omega
   clear hrc bx rX lJ KP hJs;gi_wp2;generalize (wr.alloc (.cells #[.int .i64 t.place,.string t.name,.slice va vn vc] 110))=W1 at*;generalize wr.heap.size=tb at*
   gi_loopw [17] (fun u wi=>∃(j:Nat) (pre rest:List {x:It // AP b w0 tl x}),j≤vn∧u=.int .i64 j∧CK W1 wi∧Hid (L=pre++rest∧rest.map Subtype.val=((rl.drop j).map fun q=>((t,Value.slice va vn vc),q))++uq jF (tl.drop (k+1)))∧J pre wi) (fun u _=>vn-(intOf u).toNat)
   case atStart=>exact ⟨0,pre,rest,by omega,rfl,⟨Nat.le_refl _,fun _ _ _ _ _ _=>rfl⟩,af (ae qN),ae HJX⟩
   case round=>
    obtain ⟨j,pre,rest,hj,rfl,KP,HQ,hJs⟩:=hrel;obtain ⟨rX,lJ⟩:=ae HQ;clear HQ
    by_cases EA:j<vn
    ·have XZ:j<rl.length:=by omega
     obtain ⟨g,c',e1,x0,x1,x2⟩:=(((ae HCX).trans KP).rc (ae VP)).row.cell j (by simpa using XZ);simp only [Value.slice.injEq] at e1;obtain ⟨rfl,hxx,rfl⟩:=e1;clear hxx;simp only [List.getElem_map,r3] at x0 x1 x2;have hex:=(((ae HCX).trans KP).rc (ae VP)).ex rl[j] (List.getElem_mem XZ);rw [List.drop_eq_getElem_cons XZ] at lJ;generalize rl[j]=p at*;obtain ⟨r,bv⟩:=p;simp only at x0 x1 x2 hex;obtain ⟨ra,rv,rfl⟩:=hex.isI
     cases rest with
     |nil=>simp at lJ
     |cons x rest=>
      simp only [List.map_cons,List.cons_append,List.cons.injEq] at lJ;obtain ⟨hx,lJ⟩:=lJ;obtain ⟨t0,t1,t2⟩:=(KP.blk (ae TB) (.inr (.inr (.inl rfl)))).three;have tlt:=(KP.blk (ae TB) (.inr (.inr (.inl rfl)))).lt;have bx:Below wr.heap.size wr (wr.alloc (.cells #[.int .i64 r.place,.string r.name,.iface ra rv] 159)):=(Below.refl _ _).alloc (Nat.le_refl _) _;have IE:=ae HJ pre wr (wr.alloc (.cells #[.int .i64 r.place,.string r.name,.iface ra rv] 159)) none hJs (World.grownBy_alloc wr _ none) (fun r e=>by cases e);obtain ⟨fn,tmps,assign,body,hy,hR⟩:=ae HY pre x _ IE (by rw [rX];simp);rw [hx] at hy;simp only [Zo] at hy;have HCK:=af (KP.trans (CK.below bx));have hjn:(j:Int)<(vn:Int):=by omega
      have lw:=af (And.intro rX lJ);clear hex bx rX lJ KP hJs hx IE;gi_wp2;refine hR.mono ?_;rintro e W3 (⟨rfl,hJ3,hk3⟩|⟨rfl,hJx3⟩)
      ·gi_wp2;go_roundw
       case rel=>exact ⟨j+1,pre++[x],rest,by omega,by go_num,(ae HCK).trans hk3,af ⟨by rw [(ae lw).1];simp,(ae lw).2⟩,hJ3⟩
       case measure=>simp [intOf];omega
      ·gi_wp2;refine bodyPost_ret (results_none rfl _ _ _) rfl ?_;exact ⟨⟨_,rfl⟩,.inr ⟨pre++[x],⟨rest,by rw [(ae lw).1];simp⟩,hJx3⟩⟩
    ·have hjn:¬((j:Int)<(vn:Int)):=by omega
     rw [List.drop_of_length_le (by omega)] at lJ;have lw:=af (And.intro rX lJ);have HCK:=af KP;clear rX lJ KP;gi_wp2;go_roundw
     case rel=>exact ⟨k+1,pre,rest,by omega,by go_num,(ae HCX).trans (ae HCK),Nat.le_trans hsX (ae HCK).1,af ⟨(ae lw).1,by simpa using (ae lw).2⟩,hJs⟩
     case measure=>simp [intOf];omega
  ·have hkn:¬((k:Int)<(mn:Int)):=by omega
   rw [List.drop_of_length_le (by omega)] at lJ;simp only [uq,List.flatMap_nil,List.map_eq_nil_iff] at lJ;subst lJ;clear HQ KP;gi_wp2;go_end0;refine ⟨⟨_,rfl⟩,.inl ?_⟩
   first|exact hJs|exact ⟨pre,by rw [rX];simp,hJs⟩
theorem vY (b:Nat) (w0:World) (sv:Value) (ts:List Ty) (tl:List (Ty×Value)) (hM:MC b w0 sv ts tl) (jF:Ty×Value→List (Rl×Value)) (hF:UC b w0 tl jF) (n:Nat) (hn:1≤n) (Bn:Nat) (hBn:ai w0 Bn #[sv] 75) (L:List {x:It // AP b w0 tl x}) (hL:L.map Subtype.val=uq jF tl):
  SeqStopsK Fence.wide n Tryz.prog 208 #[.pointer (some ⟨Bn,0,none⟩)] (fun x:{x:It // AP b w0 tl x}=>Zo x.1) CK (fun ys=>ys=L) (fun pre=>pre<+:L) L.length w0:=fun l J Jx W hW hJ _ hY h0=>
 UD b w0 sv ts tl hM jF hF n hn l Bn L hL J Jx W hW hJ hY ((hBn.below hW).cell rfl) h0
theorem gL {B:Nat} {W W':World} (h:Below W.heap.size W W'):KeepsFrom B W W':=⟨h.size,fun k o _ hk _=>(h.block k (Array.getElem?_eq_some_iff.1 hk).1).trans hk⟩
theorem fD {β:Type} (B g:Nat) (cs:Array Value) (T:TypeId):OwnFrom B (fun (_:β) W=>ai W g cs T):=fun _ X Y row hs hg hr=>
 (hg.block g (ai.lt hs) (fun e=>by
  obtain ⟨_,o,ho,hc⟩:=hr g e.symm;unfold ai at hs;rw [hs] at ho
  cases ho
  cases hc)).trans hs
theorem JD (b c:Nat) (sv:Value) (ts:List Ty) (tl:List (Ty×Value)) (N:Ty→Rl→Option Nat) (w:World) (h:MC b w sv ts tl)
  (hp:∀w' t tv rl r bv,MC b w' sv ts tl→RC b w' tv t.rels rl→aH b w' r.body bv→r∈t.rels→Calls Tryz.prog 117 #[.agg #[sv],.agg #[.int .i64 t.place,.string t.name,tv],.agg #[.int .i64 r.place,.string r.name,bv]] w' fun e' w''=>e'=.returned (iy c (N t r))∧Below w'.heap.size w' w''):
  Calls Tryz.prog 116 #[.agg #[sv],.func (.func 117) #[.agg #[sv]] #[]] w fun e' w'=>e'=.returned (iy c (gD N ts))∧Below w.heap.size w w':=by
 obtain ⟨ma,mn,mc,rfl⟩:=h.form;refine (callsIn_wide (n:=8)).1 ?_;refine callsIn_of_wp_marks Tryz.func116 rfl trivial ?_ rfl;simp only [Tryz.ntmps116,List.size_toArray,List.length_cons,List.length_nil,Nat.reduceAdd,Nat.reduceSub,Array.replicate_succ,Array.replicate_zero,List.push_toArray,List.append_toArray,List.nil_append,List.cons_append];gi_wp2_with fail;refine ⟨trivial,(callsIn_wide.2 (nG _ _ ⟨_,_,_,rfl⟩)).mono ?_⟩;rintro e w' ⟨rfl,rfl⟩;gi_wp2_with fail;have Fx:Below w.heap.size w ((((w.alloc (.cells #[.slice ma mn mc] 75)).alloc (.cells #[.func (.func 117) #[.agg #[.slice ma mn mc]] #[]] 222)).alloc (.cells #[.nilIface] 77)).alloc (.cells #[.slice ma mn mc] 75)):=((((Below.refl _ w).alloc (Nat.le_refl _) _).alloc (by simp) _).alloc (by simp;omega) _).alloc (by simp;omega) _;have bC:ai ((((w.alloc (.cells #[.slice ma mn mc] 75)).alloc (.cells #[.func (.func 117) #[.agg #[.slice ma mn mc]] #[]] 222)).alloc (.cells #[.nilIface] 77)).alloc (.cells #[.slice ma mn mc] 75)) (w.heap.size+1) #[.func (.func 117) #[.agg #[.slice ma mn mc]] #[]] 222:=((ai.new' (w.alloc (.cells #[.slice ma mn mc] 75)) _ _ (w.heap.size+1) (by simp)).alloc _).alloc _;have bR:ai ((((w.alloc (.cells #[.slice ma mn mc] 75)).alloc (.cells #[.func (.func 117) #[.agg #[.slice ma mn mc]] #[]] 222)).alloc (.cells #[.nilIface] 77)).alloc (.cells #[.slice ma mn mc] 75)) (w.heap.size+1+1) #[.nilIface] 77:=(ai.new' ((w.alloc (.cells #[.slice ma mn mc] 75)).alloc (.cells #[.func (.func 117) #[.agg #[.slice ma mn mc]] #[]] 222)) _ _ (w.heap.size+1+1) (by simp)).alloc _;have bM:ai ((((w.alloc (.cells #[.slice ma mn mc] 75)).alloc (.cells #[.func (.func 117) #[.agg #[.slice ma mn mc]] #[]] 222)).alloc (.cells #[.nilIface] 77)).alloc (.cells #[.slice ma mn mc] 75)) (w.heap.size+1+1+1) #[.slice ma mn mc] 75:=ai.new' _ _ _ _ (by simp);have hsz:((((w.alloc (.cells #[.slice ma mn mc] 75)).alloc (.cells #[.func (.func 117) #[.agg #[.slice ma mn mc]] #[]] 222)).alloc (.cells #[.nilIface] 77)).alloc (.cells #[.slice ma mn mc] 75)).heap.size=w.heap.size+4:=by simp
 have HM:=h.below Fx;obtain ⟨W0,hW0⟩:∃W0,((((w.alloc (.cells #[.slice ma mn mc] 75)).alloc (.cells #[.func (.func 117) #[.agg #[.slice ma mn mc]] #[]] 222)).alloc (.cells #[.nilIface] 77)).alloc (.cells #[.slice ma mn mc] 75))=W0:=⟨_,rfl⟩;rw [hW0] at Fx bC bR bM hsz HM ⊢;clear hW0;obtain ⟨jF,hF⟩:=JC HM;obtain ⟨L,hL⟩:∃L:List {x:It // AP b W0 tl x},L.map Subtype.val=uq jF tl:=uX _ _ (DK hF);have hE:gD N ts=L.findSome? (fun x=>N x.1.1.1 x.1.2.1):=by
  rw [←HM.fst,vX N b W0 jF tl hF,←hL,List.findSome?_map]
  rfl
 refine wpIn_rangeFunc_ownH (F:=Fence.wide) rfl (by decide) (gf:=208) (lb:=#[.pointer (some ⟨w.heap.size+1+1+1,0,none⟩)]) rfl trivial (enters_of Tryz.func208 (by kernel_rfl) rfl)
  (vY b W0 _ ts tl HM jF hF _ (by decide) _ bM L hL) (fun h k=>CK.trans h k) (CK.b (w:=W0)) (Below.refl _ _) (fun _=>rfl)
  (fun pre W=>(∀x∈pre,N x.1.1.1 x.1.2.1=none)∧Below W0.heap.size W0 W)
  (fun cd pre W=>(cd=.ret∧∃p0 x q,pre=p0++[x]∧(∀y∈p0,N y.1.1.1 y.1.2.1=none)∧N x.1.1.1 x.1.2.1=some q∧ai W (w.heap.size+1+1) #[iy c (some q)] 77)∧Below w.heap.size w W)
  (OwnFrom.and (ownFrom_pure _ _) (ownFrom_below (Nat.le_refl _) (Nat.le_refl _)))
  (fun cd=>OwnFrom.and (fun s X Y row hs hg hr=>by
   obtain ⟨h1,p0,x,q,h2,h3,h4,h5⟩:=hs;exact ⟨h1,p0,x,q,h2,h3,h4,fD (β:=Unit) W0.heap.size _ _ _ () X Y row h5 hg hr⟩) (ownFrom_below (Nat.le_refl _) (by omega)))
  ⟨by simp,Below.refl _ _⟩
  (fun x a' W=>∃Bt,W0.heap.size≤Bt∧ai W Bt #[.int .i64 x.1.1.1.place,.string x.1.1.1.name,x.1.1.2] 110∧ai W (Bt+1) #[.int .i64 x.1.2.1.place,.string x.1.2.1.name,x.1.2.2] 159∧a'={tmps:=#[.agg #[.slice ma mn mc],.func (.func 117) #[.agg #[.slice ma mn mc]] #[],.pointer (some ⟨w.heap.size,0,none⟩),.pointer (some ⟨w.heap.size+1,0,none⟩),.pointer (some ⟨w.heap.size+1+1,0,none⟩),.pointer (some ⟨Bt,0,none⟩),.pointer (some ⟨Bt+1,0,none⟩),undef,.agg #[.slice ma mn mc],.func (.func 208) #[] #[.pointer (some ⟨w.heap.size+1+1+1,0,none⟩)],.agg #[.int .i64 x.1.1.1.place,.string x.1.1.1.name,x.1.1.2],.agg #[.int .i64 x.1.2.1.place,.string x.1.2.1.name,x.1.2.2],undef,undef,undef,undef,undef,undef,undef],defers:=[]})
  (fun x a' _ X Y row hs hg hr=>by
   obtain ⟨Bt,h1,h2,h3,h4⟩:=hs;exact ⟨Bt,h1,fD (β:=Unit) W0.heap.size _ _ _ () X Y row h2 hg hr,fD (β:=Unit) W0.heap.size _ _ _ () X Y row h3 hg hr,h4⟩)
  ?assign ?body ?done ?stop
 case assign=>
  rintro l pre x W K ⟨hpre,oL⟩ hK;obtain ⟨⟨⟨t,tv⟩,⟨r,bv⟩⟩,hx⟩:=x;obtain ⟨rl,hrc,hin⟩:=hx.2;simp only at hrc hin hK;obtain ⟨va,vn,vc,rfl⟩:=hrc.form;obtain ⟨ra,rv,BD⟩:=(hrc.ex _ hin).isI;simp only at BD;subst BD;simp only [Zo];have b1:=(Below.refl _ W).alloc (Nat.le_refl _) (.cells #[.int .i64 t.place,.string t.name,.slice va vn vc] 110);have b2:=b1.alloc b1.size (.cells #[.int .i64 r.place,.string r.name,.iface ra rv] 159);gi_wp2_with fail;exact hK _ _ (((KeepsOthers.alloc _ _).trans (KeepsOthers.alloc _ _)).from _) (CK.below b2) ⟨hpre,oL.trans (b2.mono oL.size)⟩ ⟨W.heap.size,oL.size,(ai.new W _ _).alloc _,ai.new' _ _ _ _ (by simp),rfl⟩
 case body=>
  rintro l pre x a' W hl ⟨rr,hr⟩ ⟨hpre,oL⟩ ⟨Bt,hBt,bT,bL,rfl⟩ hlt;obtain ⟨⟨⟨t,tv⟩,⟨r,bv⟩⟩,hx⟩:=x;obtain ⟨rl,hrc,hin⟩:=hx.2;simp only at hrc hin bT bL;obtain ⟨va,vn,vc,rfl⟩:=hrc.form;obtain ⟨ra,rv,BD⟩:=(hrc.ex _ hin).isI;simp only at BD;subst BD;obtain ⟨t0,t1,t2⟩:=bT.three;obtain ⟨r0,r1,r2⟩:=bL.three;have c0:W.cell? ⟨w.heap.size+1,0,none⟩=some (.func (.func 117) #[.agg #[.slice ma mn mc]] #[]):=(bC.below oL).cell rfl;have hmem:r∈t.rels:=by rw [←hrc.fst];exact List.mem_map.2 ⟨_,hin,rfl⟩
  have C:=hp W t _ rl r _ (HM.below oL) (hrc.below oL) ((hrc.ex _ hin).but (But.of_below oL)) hmem
  cases hn:N t r with
  |none=>
   rw [hn] at C;clear hp;gi_wp2_with fail;refine ⟨trivial,(CallsIn.inRound l (callsIn_wide.2 C)).mono ?_⟩;rintro e w3 ⟨rfl,hb3⟩;unfold iy;gi_wp2;exact ⟨gL hb3,CK.below hb3,fun y hy=>by
    rw [List.mem_append,List.mem_singleton] at hy
    rcases hy with hy|rfl
    ·exact hpre y hy
    ·exact hn,oL.trans (hb3.mono oL.size)⟩
  |some q=>
   rw [hn] at C;clear hp;gi_wp2_with fail;refine ⟨trivial,(CallsIn.inRound l (callsIn_wide.2 C)).mono ?_⟩;rintro e w3 ⟨rfl,hb3⟩;have MW:=(bR.below oL).below hb3;have q0:w3.cell? ⟨w.heap.size+1+1,0,none⟩=some .nilIface:=MW.cell rfl;have qz:=MW.fz;have hb4:=(Fx.trans (oL.mono (by omega))).trans (hb3.mono (by have:=oL.size;omega));unfold iy gW;gi_wp2;exact ⟨(gL hb3).trans ((KeepsOthers.setCell _ _ _).from _),⟨rfl,pre,_,q,rfl,hpre,hn,MW.set 0 _⟩,hb4.setCell (p:=⟨w.heap.size+1+1,0,none⟩) (by simp;omega) _⟩
 case done=>
  rintro D ys W hD rfl ⟨hpre,oL⟩ hK;have MW:=bR.below oL;have q0:W.cell? ⟨w.heap.size+1+1,0,none⟩=some .nilIface:=MW.cell rfl;have qz:=MW.fz;have Ya:gD N ts=none:=by rw [hE];exact List.findSome?_eq_none_iff.2 hpre
  gi_wp2;have hK':=(KeepsOthers.setCell W ⟨w.heap.size+1+1,0,none⟩ .nilIface).same D _ hK rfl;refine ⟨by simp,.inl ⟨_,_,rfl,run_takeDeferred hK',?_⟩⟩;have Lj:=cell_kept (World.cell?_setCell_same' W ⟨w.heap.size+1+1,0,none⟩ .nilIface (by rw [q0];rfl)) (grownBy_putObj' _ D (.deferred none)) (fun r e=>by cases e;exact ⟨_,hK',rfl⟩);refine ⟨.nilIface,?_,by rw [Ya];rfl,((Fx.trans (oL.mono (by omega))).setCell (p:=⟨w.heap.size+1+1,0,none⟩) (by simp;omega) _).trans (belowK_b (w:=w) (Nat.le_refl _) _ D _ _ (by omega) hK' rfl rfl)⟩;simp [results,Tryz.f116,go_sem,Lj]
 case stop=>
  rintro D cd pre W hD hpx ⟨⟨rfl,p0,x,q,rfl,h1,h2,h3⟩,oL⟩ hK;have Ya:gD N ts=some q:=by rw [hE];exact wO _ L p0 x q hpx h1 h2
  gi_wp2;refine ⟨by simp,.inl ⟨_,_,rfl,run_takeDeferred hK,?_⟩⟩;have Lj:=cell_kept (h3.cell (o:=0) rfl) (grownBy_putObj' _ D (.deferred none)) (fun r e=>by cases e;exact ⟨_,hK,rfl⟩);refine ⟨iy c (some q),?_,by rw [Ya],oL.trans (belowK_b (w:=w) (Nat.le_refl _) W D _ _ (by omega) hK rfl rfl)⟩;simp [results,Tryz.f116,go_sem,Lj]
theorem JE (b c:Nat) (sv:Value) (ts:List Ty) (tl:List (Ty×Value)) (N:Ty→Rl→Option Nat) (w:World) (h:MC b w sv ts tl)
  (hp:∀w' t tv rl r bv,MC b w' sv ts tl→RC b w' tv t.rels rl→aH b w' r.body bv→r∈t.rels→Calls Tryz.prog 118 #[.agg #[sv],.agg #[.int .i64 t.place,.string t.name,tv],.agg #[.int .i64 r.place,.string r.name,bv]] w' fun e' w''=>e'=.returned (iy c (N t r))∧Below w'.heap.size w' w''):
  Calls Tryz.prog 116 #[.agg #[sv],.func (.func 118) #[.agg #[sv]] #[]] w fun e' w'=>e'=.returned (iy c (gD N ts))∧Below w.heap.size w w':=by
 obtain ⟨ma,mn,mc,rfl⟩:=h.form;refine (callsIn_wide (n:=8)).1 ?_;refine callsIn_of_wp_marks Tryz.func116 rfl trivial ?_ rfl;simp only [Tryz.ntmps116,List.size_toArray,List.length_cons,List.length_nil,Nat.reduceAdd,Nat.reduceSub,Array.replicate_succ,Array.replicate_zero,List.push_toArray,List.append_toArray,List.nil_append,List.cons_append];gi_wp2_with fail;refine ⟨trivial,(callsIn_wide.2 (nG _ _ ⟨_,_,_,rfl⟩)).mono ?_⟩;rintro e w' ⟨rfl,rfl⟩;gi_wp2_with fail;have Fx:Below w.heap.size w ((((w.alloc (.cells #[.slice ma mn mc] 75)).alloc (.cells #[.func (.func 118) #[.agg #[.slice ma mn mc]] #[]] 222)).alloc (.cells #[.nilIface] 77)).alloc (.cells #[.slice ma mn mc] 75)):=((((Below.refl _ w).alloc (Nat.le_refl _) _).alloc (by simp) _).alloc (by simp;omega) _).alloc (by simp;omega) _;have bC:ai ((((w.alloc (.cells #[.slice ma mn mc] 75)).alloc (.cells #[.func (.func 118) #[.agg #[.slice ma mn mc]] #[]] 222)).alloc (.cells #[.nilIface] 77)).alloc (.cells #[.slice ma mn mc] 75)) (w.heap.size+1) #[.func (.func 118) #[.agg #[.slice ma mn mc]] #[]] 222:=((ai.new' (w.alloc (.cells #[.slice ma mn mc] 75)) _ _ (w.heap.size+1) (by simp)).alloc _).alloc _;have bR:ai ((((w.alloc (.cells #[.slice ma mn mc] 75)).alloc (.cells #[.func (.func 118) #[.agg #[.slice ma mn mc]] #[]] 222)).alloc (.cells #[.nilIface] 77)).alloc (.cells #[.slice ma mn mc] 75)) (w.heap.size+1+1) #[.nilIface] 77:=(ai.new' ((w.alloc (.cells #[.slice ma mn mc] 75)).alloc (.cells #[.func (.func 118) #[.agg #[.slice ma mn mc]] #[]] 222)) _ _ (w.heap.size+1+1) (by simp)).alloc _;have bM:ai ((((w.alloc (.cells #[.slice ma mn mc] 75)).alloc (.cells #[.func (.func 118) #[.agg #[.slice ma mn mc]] #[]] 222)).alloc (.cells #[.nilIface] 77)).alloc (.cells #[.slice ma mn mc] 75)) (w.heap.size+1+1+1) #[.slice ma mn mc] 75:=ai.new' _ _ _ _ (by simp);have hsz:((((w.alloc (.cells #[.slice ma mn mc] 75)).alloc (.cells #[.func (.func 118) #[.agg #[.slice ma mn mc]] #[]] 222)).alloc (.cells #[.nilIface] 77)).alloc (.cells #[.slice ma mn mc] 75)).heap.size=w.heap.size+4:=by simp
 have HM:=h.below Fx;obtain ⟨W0,hW0⟩:∃W0,((((w.alloc (.cells #[.slice ma mn mc] 75)).alloc (.cells #[.func (.func 118) #[.agg #[.slice ma mn mc]] #[]] 222)).alloc (.cells #[.nilIface] 77)).alloc (.cells #[.slice ma mn mc] 75))=W0:=⟨_,rfl⟩;rw [hW0] at Fx bC bR bM hsz HM ⊢;clear hW0;obtain ⟨jF,hF⟩:=JC HM;obtain ⟨L,hL⟩:∃L:List {x:It // AP b W0 tl x},L.map Subtype.val=uq jF tl:=uX _ _ (DK hF);have hE:gD N ts=L.findSome? (fun x=>N x.1.1.1 x.1.2.1):=by
  rw [←HM.fst,vX N b W0 jF tl hF,←hL,List.findSome?_map]
  rfl
 refine wpIn_rangeFunc_ownH (F:=Fence.wide) rfl (by decide) (gf:=208) (lb:=#[.pointer (some ⟨w.heap.size+1+1+1,0,none⟩)]) rfl trivial (enters_of Tryz.func208 (by kernel_rfl) rfl)
  (vY b W0 _ ts tl HM jF hF _ (by decide) _ bM L hL) (fun h k=>CK.trans h k) (CK.b (w:=W0)) (Below.refl _ _) (fun _=>rfl)
  (fun pre W=>(∀x∈pre,N x.1.1.1 x.1.2.1=none)∧Below W0.heap.size W0 W)
  (fun cd pre W=>(cd=.ret∧∃p0 x q,pre=p0++[x]∧(∀y∈p0,N y.1.1.1 y.1.2.1=none)∧N x.1.1.1 x.1.2.1=some q∧ai W (w.heap.size+1+1) #[iy c (some q)] 77)∧Below w.heap.size w W)
  (OwnFrom.and (ownFrom_pure _ _) (ownFrom_below (Nat.le_refl _) (Nat.le_refl _)))
  (fun cd=>OwnFrom.and (fun s X Y row hs hg hr=>by
   obtain ⟨h1,p0,x,q,h2,h3,h4,h5⟩:=hs;exact ⟨h1,p0,x,q,h2,h3,h4,fD (β:=Unit) W0.heap.size _ _ _ () X Y row h5 hg hr⟩) (ownFrom_below (Nat.le_refl _) (by omega)))
  ⟨by simp,Below.refl _ _⟩
  (fun x a' W=>∃Bt,W0.heap.size≤Bt∧ai W Bt #[.int .i64 x.1.1.1.place,.string x.1.1.1.name,x.1.1.2] 110∧ai W (Bt+1) #[.int .i64 x.1.2.1.place,.string x.1.2.1.name,x.1.2.2] 159∧a'={tmps:=#[.agg #[.slice ma mn mc],.func (.func 118) #[.agg #[.slice ma mn mc]] #[],.pointer (some ⟨w.heap.size,0,none⟩),.pointer (some ⟨w.heap.size+1,0,none⟩),.pointer (some ⟨w.heap.size+1+1,0,none⟩),.pointer (some ⟨Bt,0,none⟩),.pointer (some ⟨Bt+1,0,none⟩),undef,.agg #[.slice ma mn mc],.func (.func 208) #[] #[.pointer (some ⟨w.heap.size+1+1+1,0,none⟩)],.agg #[.int .i64 x.1.1.1.place,.string x.1.1.1.name,x.1.1.2],.agg #[.int .i64 x.1.2.1.place,.string x.1.2.1.name,x.1.2.2],undef,undef,undef,undef,undef,undef,undef],defers:=[]})
  (fun x a' _ X Y row hs hg hr=>by
   obtain ⟨Bt,h1,h2,h3,h4⟩:=hs;exact ⟨Bt,h1,fD (β:=Unit) W0.heap.size _ _ _ () X Y row h2 hg hr,fD (β:=Unit) W0.heap.size _ _ _ () X Y row h3 hg hr,h4⟩)
  ?assign ?body ?done ?stop
 case assign=>
  rintro l pre x W K ⟨hpre,oL⟩ hK;obtain ⟨⟨⟨t,tv⟩,⟨r,bv⟩⟩,hx⟩:=x;obtain ⟨rl,hrc,hin⟩:=hx.2;simp only at hrc hin hK;obtain ⟨va,vn,vc,rfl⟩:=hrc.form;obtain ⟨ra,rv,BD⟩:=(hrc.ex _ hin).isI;simp only at BD;subst BD;simp only [Zo];have b1:=(Below.refl _ W).alloc (Nat.le_refl _) (.cells #[.int .i64 t.place,.string t.name,.slice va vn vc] 110);have b2:=b1.alloc b1.size (.cells #[.int .i64 r.place,.string r.name,.iface ra rv] 159);gi_wp2_with fail;exact hK _ _ (((KeepsOthers.alloc _ _).trans (KeepsOthers.alloc _ _)).from _) (CK.below b2) ⟨hpre,oL.trans (b2.mono oL.size)⟩ ⟨W.heap.size,oL.size,(ai.new W _ _).alloc _,ai.new' _ _ _ _ (by simp),rfl⟩
 case body=>
  rintro l pre x a' W hl ⟨rr,hr⟩ ⟨hpre,oL⟩ ⟨Bt,hBt,bT,bL,rfl⟩ hlt;obtain ⟨⟨⟨t,tv⟩,⟨r,bv⟩⟩,hx⟩:=x;obtain ⟨rl,hrc,hin⟩:=hx.2;simp only at hrc hin bT bL;obtain ⟨va,vn,vc,rfl⟩:=hrc.form;obtain ⟨ra,rv,BD⟩:=(hrc.ex _ hin).isI;simp only at BD;subst BD;obtain ⟨t0,t1,t2⟩:=bT.three;obtain ⟨r0,r1,r2⟩:=bL.three;have c0:W.cell? ⟨w.heap.size+1,0,none⟩=some (.func (.func 118) #[.agg #[.slice ma mn mc]] #[]):=(bC.below oL).cell rfl;have hmem:r∈t.rels:=by rw [←hrc.fst];exact List.mem_map.2 ⟨_,hin,rfl⟩
  have C:=hp W t _ rl r _ (HM.below oL) (hrc.below oL) ((hrc.ex _ hin).but (But.of_below oL)) hmem
  cases hn:N t r with
  |none=>
   rw [hn] at C;clear hp;gi_wp2_with fail;refine ⟨trivial,(CallsIn.inRound l (callsIn_wide.2 C)).mono ?_⟩;rintro e w3 ⟨rfl,hb3⟩;unfold iy;gi_wp2;exact ⟨gL hb3,CK.below hb3,fun y hy=>by
    rw [List.mem_append,List.mem_singleton] at hy
    rcases hy with hy|rfl
    ·exact hpre y hy
    ·exact hn,oL.trans (hb3.mono oL.size)⟩
  |some q=>
   rw [hn] at C;clear hp;gi_wp2_with fail;refine ⟨trivial,(CallsIn.inRound l (callsIn_wide.2 C)).mono ?_⟩;rintro e w3 ⟨rfl,hb3⟩;have MW:=(bR.below oL).below hb3;have q0:w3.cell? ⟨w.heap.size+1+1,0,none⟩=some .nilIface:=MW.cell rfl;have qz:=MW.fz;have hb4:=(Fx.trans (oL.mono (by omega))).trans (hb3.mono (by have:=oL.size;omega));unfold iy gW;gi_wp2;exact ⟨(gL hb3).trans ((KeepsOthers.setCell _ _ _).from _),⟨rfl,pre,_,q,rfl,hpre,hn,MW.set 0 _⟩,hb4.setCell (p:=⟨w.heap.size+1+1,0,none⟩) (by simp;omega) _⟩
 case done=>
  rintro D ys W hD rfl ⟨hpre,oL⟩ hK;have MW:=bR.below oL;have q0:W.cell? ⟨w.heap.size+1+1,0,none⟩=some .nilIface:=MW.cell rfl;have qz:=MW.fz;have Ya:gD N ts=none:=by rw [hE];exact List.findSome?_eq_none_iff.2 hpre
  gi_wp2;have hK':=(KeepsOthers.setCell W ⟨w.heap.size+1+1,0,none⟩ .nilIface).same D _ hK rfl;refine ⟨by simp,.inl ⟨_,_,rfl,run_takeDeferred hK',?_⟩⟩;have Lj:=cell_kept (World.cell?_setCell_same' W ⟨w.heap.size+1+1,0,none⟩ .nilIface (by rw [q0];rfl)) (grownBy_putObj' _ D (.deferred none)) (fun r e=>by cases e;exact ⟨_,hK',rfl⟩);refine ⟨.nilIface,?_,by rw [Ya];rfl,((Fx.trans (oL.mono (by omega))).setCell (p:=⟨w.heap.size+1+1,0,none⟩) (by simp;omega) _).trans (belowK_b (w:=w) (Nat.le_refl _) _ D _ _ (by omega) hK' rfl rfl)⟩;simp [results,Tryz.f116,go_sem,Lj]
 case stop=>
  rintro D cd pre W hD hpx ⟨⟨rfl,p0,x,q,rfl,h1,h2,h3⟩,oL⟩ hK;have Ya:gD N ts=some q:=by rw [hE];exact wO _ L p0 x q hpx h1 h2
  gi_wp2;refine ⟨by simp,.inl ⟨_,_,rfl,run_takeDeferred hK,?_⟩⟩;have Lj:=cell_kept (h3.cell (o:=0) rfl) (grownBy_putObj' _ D (.deferred none)) (fun r e=>by cases e;exact ⟨_,hK,rfl⟩);refine ⟨iy c (some q),?_,by rw [Ya],oL.trans (belowK_b (w:=w) (Nat.le_refl _) W D _ _ (by omega) hK rfl rfl)⟩;simp [results,Tryz.f116,go_sem,Lj]
end Go.Proofs.YtlbpnlngckgcbaaGreatDoor
namespace Go.Proofs.YtlbpnlngckgcbaaGreatDoor
open Go.RowKit Go.PlainAid
theorem UE {w:World} {b1 b2:Nat} {e:TypeId} {size:Nat} {v:Value} {n1 n2:Nat} {x1 x2:List Value} (h1:w.ownsRow b1 e size v n1 x1) (h2:w.ownsRow b2 e size v n2 x2):n1=n2∧x1=x2:=by
 have hn:n1=n2:=by
  obtain ⟨a,c,rfl⟩:=au h1;obtain ⟨a',c',e⟩:=au h2;simp only [Value.slice.injEq] at e;exact e.2.1
 subst hn;refine ⟨rfl,List.ext_getElem? fun k=> ?_⟩;have hl:x1.length=x2.length:=h1.1.trans h2.1.symm
 rcases Nat.lt_or_ge k x1.length with h|h
 ·obtain ⟨g,c,e1,c1⟩:=aK h1 k _ (aeh h);obtain ⟨g',c',e2,c2⟩:=aK h2 k _ (aeh (show k<x2.length by omega));rw [e1] at e2;simp only [Value.slice.injEq,Option.some.injEq,Addr.mk.injEq] at e2;obtain ⟨⟨rfl,_⟩,_⟩:=e2;rw [c1] at c2;rw [aeh h,aeh (show k<x2.length by omega)];exact c2
 ·rw [List.getElem?_eq_none h,List.getElem?_eq_none (by omega)]
theorem Qk:∀(a c:List E3),a.flatMap c3=c.flatMap c3→a=c
 | [],[],_=>rfl
 | [],e::c,h=>by simp [c3] at h
 |e::a,[],h=>by simp [c3] at h
 |(p,n,v)::a,(p',n',v')::c,h=>by
  simp only [List.flatMap_cons,c3,List.cons_append,List.nil_append,List.cons.injEq,Value.int.injEq,Value.string.injEq,true_and] at h;obtain ⟨h1,h2,h3,h4⟩:=h;rw [Qk a c h4,h2,h3,show p=p' by omega]
theorem jO.inj {w:World} {T:TypeId} {v:Value} {l1 l2:List E3} (h1:jO w T v l1) (h2:jO w T v l2):l1=l2:=Qk _ _ (UE h1 h2).2
def Sc:List aei→List (aei×Nat)→Option Nat
 |_,[]=>none
 |ah,(n,p)::r=>if ah.any (fun m=>eqs m n) then some p else Sc (ah++[n]) r
theorem BF (n:aei) (l:List E3):(jB n l).isSome=(l.map fun e=>e.2.1).any (fun m=>eqs m n):=by
 unfold jB;rw [List.any_map,Bool.eq_iff_iff,List.any_eq_true,List.find?_isSome]
 rfl
theorem BG:∀(l ah:List E3),l6 ah l=Sc (ah.map fun e=>e.2.1) (l.map fun e=>(e.2.1,e.1))
 | [],ah=>rfl
 |e::l,ah=>by
  have:=BG l (ah++[e]);simp only [l6,List.map_cons,Sc,BF];rw [this,List.map_append]
  rfl
def twR (rs:List Rl):Option Nat:=Sc [] (rs.map fun r=>(r.name,r.place))
def IP:List aei→List Ty→Option Nat
 |_,[]=>none
 |ah,t::r=>if ah.any (fun m=>eqs m t.name) then some t.place else match twR t.rels with
  |some p=>some p
  |none=>IP (ah++[t.name]) r
theorem yV (inn:E3→Option Nat):∀(l al:List (Ty×Value)),(∀p∈l,inn (t3 p)=twR p.1.rels)→kQ inn (al.map t3) (l.map t3)=IP (al.map fun p=>p.1.name) (l.map Prod.fst)
 | [],al,_=>rfl
 |p::l,al,h=>by
  have ih:=yV inn l (al++[p]) (fun q hq=>h q (by simp [hq]));have hp:=h p (by simp);simp only [List.map_cons,kQ,IP,BF,hp];rw [List.map_append,List.map_append] at ih;simp only [List.map_cons,List.map_nil] at ih;rw [ih,List.map_map]
  rfl
theorem Yb (w:World):∃inn:E3→Option Nat,∀e l,jO w 159 e.2.2 l→inn e=l6 [] l:=by
 classical
 refine ⟨fun e=>if h:∃l:List E3,jO w 159 e.2.2 l then l6 [] h.choose else none,?_⟩;intro e l h;have hx:∃l:List E3,jO w 159 e.2.2 l:=⟨l,h⟩;simp only;rw [dif_pos hx,jO.inj hx.choose_spec h]
theorem JF (b:Nat) (sv:Value) (ts:List Ty) (tl:List (Ty×Value)) (w:World) (h:MC b w sv ts tl):
  Calls Tryz.prog 115 #[.agg #[sv]] w fun e w'=>e=.returned (iy 4 (IP [] ts))∧Below w.heap.size w w':=by
 obtain ⟨inn,aaI⟩:=Yb w;have key:kQ inn [] (tl.map t3)=IP [] ts:=by
  have:=yV inn tl [] (fun p hp=>by
   obtain ⟨rl,hr⟩:=h.rels p hp;rw [aaI (t3 p) _ hr.row,BG,twR,←hr.fst,List.map_map,List.map_map]
   rfl)
  rw [h.fst] at this;exact this
 rw [←key];refine I8 inn sv (tl.map t3) w h.llen h.row ?_ ?_
 ·intro e he;rw [List.mem_map] at he;obtain ⟨p,hp,rfl⟩:=he;obtain ⟨rl,hr⟩:=h.rels p hp;exact hr.form
 ·intro e he w' hb;rw [List.mem_map] at he;obtain ⟨p,hp,rfl⟩:=he;obtain ⟨rl,hr⟩:=h.rels p hp;rw [aaI (t3 p) _ hr.row];refine I7 _ _ _ _ w' hr.llen (hr.row.below hb) ?_;intro e he;rw [List.mem_map] at he;obtain ⟨q,hq,rfl⟩:=he;exact (hr.ex q hq).isI
def kJ (ts:List Ty):Option (Nat×Nat):=match IP [] ts with
 |some p=>some (p,4)
 |none=>match gD (kF ts) ts with
  |some p=>some (p,5)
  |none=>match gD (mr ts) ts with
   |some p=>some (p,6)
   |none=>none
def JG:Option (Nat×Nat)→Value
 |none=> .nilIface
 |some (p,c)=>gW p c
theorem BH (b:Nat) (sv:Value) (ts:List Ty) (tl:List (Ty×Value)) (w:World) (h:MC b w sv ts tl):
  Calls Tryz.prog 74 #[.agg #[sv]] w fun e w'=>e=.returned (JG (kJ ts))∧Below w.heap.size w w':=by
 obtain ⟨ma,mn,mc,rfl⟩:=h.form;have W0:Below w.heap.size w (w.alloc (.cells #[.slice ma mn mc] 75)):=(Below.refl _ _).alloc aeg _;have kg:=af W0;have xJ:=af (h.below W0);have MB:=af (ai.new w #[.slice ma mn mc] 75);have C0:=af (JF b _ ts tl _ (ae xJ));have C1:=af (fun w' (hw:Below w.heap.size w w')=>JD b 5 _ ts tl (kF ts) w' (h.below hw) (fun w'' t tv rl r bv h1 h2 h3 h4=>yM b _ ts tl t tv rl r bv w'' h1 h2 h3 h4));have C2:=af (fun w' (hw:Below w.heap.size w w')=>JE b 6 _ ts tl (mr ts) w' (h.below hw) (fun w'' t tv rl r bv h1 h2 h3 h4=>yU b _ ts tl t tv rl r bv w'' h1 h2 h3 h4));unfold kJ;clear W0 h
 cases h1:IP [] ts with
 |some p=>
  rw [h1] at C0;clear h1;simp only [JG];go_enter Tryz.func74,Tryz.ntmps74;go_wp2_with fail;refine (ae C0).mono ?_;rintro e w2 ⟨rfl,hb2⟩;have B2:=af ((ae kg).trans (hb2.mono (ae kg).size));clear hb2;unfold iy gW;go_wp2;go_ret;exact ⟨rfl,ae B2⟩
 |none=>
  rw [h1] at C0;clear h1;simp only
  cases h2:gD (kF ts) ts with
  |some p=>
   rw [h2] at C1;clear h2;simp only [JG];go_enter Tryz.func74,Tryz.ntmps74;go_wp2_with fail;refine (ae C0).mono ?_;rintro e w2 ⟨rfl,hb2⟩;have B2:=af ((ae kg).trans (hb2.mono (ae kg).size));have m0:w2.cell? ⟨w.heap.size,0,none⟩=some (.slice ma mn mc):=((ae MB).below hb2).cell rfl;have ml:=((ae MB).below hb2).lt;clear hb2;unfold iy;go_wp2_with fail;refine (ae C1 _ (ae B2)).mono ?_;rintro e w3 ⟨rfl,hb3⟩;have B3:=af ((ae B2).trans (hb3.mono (ae B2).size));clear hb3;unfold iy gW;go_wp2;go_ret;exact ⟨rfl,ae B3⟩
  |none=>
   rw [h2] at C1;clear h2;simp only
   cases h3:gD (mr ts) ts with
   |some p=>
    rw [h3] at C2;clear h3;simp only [JG];go_enter Tryz.func74,Tryz.ntmps74;go_wp2_with fail;refine (ae C0).mono ?_;rintro e w2 ⟨rfl,hb2⟩;have B2:=af ((ae kg).trans (hb2.mono (ae kg).size));have m0:w2.cell? ⟨w.heap.size,0,none⟩=some (.slice ma mn mc):=((ae MB).below hb2).cell rfl;have ml:=((ae MB).below hb2).lt;have MF:=af ((ae MB).below hb2);clear hb2;unfold iy;go_wp2_with fail;refine (ae C1 _ (ae B2)).mono ?_;rintro e w3 ⟨rfl,hb3⟩;have B3:=af ((ae B2).trans (hb3.mono (ae B2).size));have m1:w3.cell? ⟨w.heap.size,0,none⟩=some (.slice ma mn mc):=((ae MF).below hb3).cell rfl;have ml1:=((ae MF).below hb3).lt;clear hb3;unfold iy;go_wp2_with fail;refine (ae C2 _ (ae B3)).mono ?_;rintro e w4 ⟨rfl,hb4⟩;have B4:=af ((ae B3).trans (hb4.mono (ae B3).size));clear hb4;unfold iy gW;go_wp2;go_ret;exact ⟨rfl,ae B4⟩
   |none=>
    rw [h3] at C2;clear h3;simp only [JG];go_enter Tryz.func74,Tryz.ntmps74;go_wp2_with fail;refine (ae C0).mono ?_;rintro e w2 ⟨rfl,hb2⟩;have B2:=af ((ae kg).trans (hb2.mono (ae kg).size));have m0:w2.cell? ⟨w.heap.size,0,none⟩=some (.slice ma mn mc):=((ae MB).below hb2).cell rfl;have ml:=((ae MB).below hb2).lt;have MF:=af ((ae MB).below hb2);clear hb2;unfold iy;go_wp2_with fail;refine (ae C1 _ (ae B2)).mono ?_;rintro e w3 ⟨rfl,hb3⟩;have B3:=af ((ae B2).trans (hb3.mono (ae B2).size));have m1:w3.cell? ⟨w.heap.size,0,none⟩=some (.slice ma mn mc):=((ae MF).below hb3).cell rfl;have ml1:=((ae MF).below hb3).lt;clear hb3;unfold iy;go_wp2_with fail;refine (ae C2 _ (ae B3)).mono ?_;rintro e w4 ⟨rfl,hb4⟩;have B4:=af ((ae B3).trans (hb4.mono (ae B3).size));clear hb4;unfold iy;go_wp2;go_ret;exact ⟨rfl,ae B4⟩
structure Bn (x:Ex) (n:Nat):Prop where
 p:(ax x).length≤n
 g:(bH x).length≤n
 wf:WF x
theorem Bn.le {x:Ex} {n m:Nat} (h:Bn x n) (hm:n≤m):Bn x m:=⟨Nat.le_trans h.p hm,Nat.le_trans h.g hm,h.wf⟩
theorem Bn.leaf (nd:Nd) (r:Option Ex) (n:Nat) (h1:1≤n) (h2:nd.kind=0→nd.gs.length≤n∧nd.gs≠ []):Bn ⟨nd,none,r⟩ n:=by
 refine ⟨by simp [ax];omega,?_,?_⟩
 ·simp only [bH,ax,List.flatMap_cons,List.flatMap_nil,List.append_nil,fw]
  split
  ·rename_i hk;exact (h2 hk).1
  ·simp
 ·intro p hp hl hk;simp only [ax,List.mem_singleton] at hp;subst hp;exact (h2 hk).2
theorem Bn.join {x y:Ex} {n m:Nat} (t:aei) (p:Nat) (hx:Bn x n) (hy:Bn y m):Bn (jZ t p x y) (n+1+m):=by
 refine ⟨?_,?_,?_⟩
 ·have h1:=hx.p;have h2:=hy.p;simp only [jZ,ax,List.length_append,List.length_cons,List.length_nil];omega
 ·have h1:=hx.g;have h2:=hy.g;unfold bH at*;simp only [jZ,ax,List.flatMap_append,List.flatMap_cons,List.flatMap_nil,List.append_nil,fw,List.length_append,List.length_nil,Nat.add_zero];omega
 ·intro q hq hl hk;simp only [jZ,ax,List.mem_append,List.mem_singleton] at hq
  rcases hq with (hq|hq)|hq
  ·exact hx.wf q hq hl hk
  ·subst hq;simp at hl
  ·exact hy.wf q hq hl hk
def BN (r:Nat→dM Ex):Prop:=∀i x j,r i=.ok (x,j)→i<j∧Bn x (j-i)
theorem Fy (T:Nat→aei) (P:Nat→Nat):∀f acc i gs j,eY T P f acc i=.ok (gs,j)→gs≠ []∧gs.length+i<acc.length+j
 |0,_,i,x,j,h=>by simp [eY] at h
 |f+1,acc,i,x,j,h=>by
  unfold eY at h
  split at h
  ·simp at h
  ·rename_i hm;have:=mU T P _ _ _ hm
   split at h
   ·have:=Fy T P f _ _ _ _ h;refine ⟨this.1,?_⟩;have h2:=this.2;simp only [List.length_append,List.length_cons,List.length_nil] at h2;omega
   ·split at h<;>simp at h
    obtain ⟨rfl,rfl⟩:=h;simp;omega
theorem Ql (T:Nat→aei) (P:Nat→Nat):BN (pR T P):=by
 intro i x j h;refine ⟨yo T P _ _ _ h,?_⟩;unfold pR at h
 split at h
 ·simp at h
 ·rename_i hm;have:=Fy T P _ _ _ _ _ hm;simp at h;obtain ⟨rfl,rfl⟩:=h;have h2:=this.2;simp only [List.length_nil] at h2;exact Bn.leaf _ _ _ (by omega) (fun _=>⟨by simp only;omega,this.1⟩)
theorem MX (T:Nat→aei) (P:Nat→Nat):BN (lW T P):=by
 intro i x j h;have hm:=wG T P _ _ _ h;refine ⟨hm,?_⟩;unfold lW at h
 split at h
 ·simp at h
 ·split at h
  ·split at h
   ·simp at h
   ·simp at h;obtain ⟨rfl,rfl⟩:=h;exact Bn.leaf _ _ _ (by omega) (fun h=>by simp at h)
  ·simp at h;obtain ⟨rfl,rfl⟩:=h;exact Bn.leaf _ _ _ (by omega) (fun h=>by simp at h)
theorem Fz (T:Nat→aei) (P:Nat→Nat) (room:Bool) (inner:Nat→dM Ex) (hi:BN inner):BN (gY T P room inner):=by
 intro i x j h;unfold gY at h
 split at h
 ·exact Ql T P _ _ _ h
 ·split at h
  ·split at h
   ·split at h
    ·simp at h
    ·rename_i hm;have:=hi _ _ _ hm
     split at h<;>simp at h
     obtain ⟨rfl,rfl⟩:=h;exact ⟨by omega,this.2.le (by omega)⟩
   ·simp at h
  ·exact MX T P _ _ _ h
theorem FC (T:Nat→aei) (P:Nat→Nat) (l:List aei) (part:Nat→dM Ex) (hp:BN part) (i0:Nat):∀f y i x j,i0≤i→Bn y (i-i0)→joinL T P l part f y i=.ok (x,j)→i≤j∧Bn x (j-i0)
 |0,_,i,x,j,h0,hb,h=>by simp [joinL] at h
 |f+1,y,i,x,j,h0,hb,h=>by
  unfold joinL at h
  split at h
  ·split at h
   ·simp at h
   ·rename_i hm;obtain ⟨h1,h2⟩:=hp _ _ _ hm;have:=FC T P l part hp i0 f _ _ _ _ (by omega) ((hb.join _ _ h2).le (by omega)) h;exact ⟨by omega,this.2⟩
  ·simp at h;obtain ⟨rfl,rfl⟩:=h;exact ⟨Nat.le_refl _,hb⟩
theorem uY (T:Nat→aei) (P:Nat→Nat) (l:List aei) (part:Nat→dM Ex) (hp:BN part):BN (gJ T P l part):=by
 intro i x j h;unfold gJ at h
 split at h
 ·simp at h
 ·rename_i hm;obtain ⟨h1,h2⟩:=hp _ _ _ hm;have:=FC T P l part hp i _ _ _ _ _ (by omega) h2 h;exact ⟨by omega,this.2⟩
theorem FD (T:Nat→aei) (P:Nat→Nat):∀n,BN (gZ T P n)
 |0=>uY T P _ _ (uY T P _ _ (Fz T P false _ (fun i x j h=>by simp at h)))
 |n+1=>uY T P _ _ (uY T P _ _ (Fz T P true _ (FD T P n)))
theorem UF (T:Nat→aei) (P:Nat→Nat) (i:Nat) (r:Rl) (j:Nat) (h:pJ T P i=.ok (r,j)):Bn r.body j:=by
 unfold pJ at h
 split at h
 ·simp at h
 ·split at h
  ·simp at h
  ·rename_i hk;have:=FD T P _ _ _ _ hk
   split at h<;>simp at h
   obtain ⟨rfl,rfl⟩:=h;exact this.2.le (by omega)
theorem FE (T:Nat→aei) (P:Nat→Nat):∀f acc i rs j,(∀r∈acc,Bn r.body i)→dP T P f acc i=.ok (rs,j)→(∀r∈rs,Bn r.body j)∧rs.length+i≤acc.length+j∧i<j
 |0,_,i,x,j,_,h=>by simp [dP] at h
 |f+1,acc,i,x,j,ha,h=>by
  unfold dP at h
  split at h
  ·simp at h;obtain ⟨rfl,rfl⟩:=h;exact ⟨fun r hr=>(ha r hr).le (by omega),by omega,by omega⟩
  ·split at h
   ·simp at h
   ·split at h
    ·simp at h
    ·rename_i hm;have h1:=nP T P _ _ _ hm;have h2:=UF T P _ _ _ hm;have:=FE T P f _ _ _ _ (by
      intro r hr;rw [List.mem_append,List.mem_singleton] at hr
      rcases hr with hr|rfl
      ·exact (ha r hr).le (by omega)
      ·exact h2) h
     obtain ⟨g1,g2,g3⟩:=this;simp only [List.length_append,List.length_cons,List.length_nil] at g2;exact ⟨g1,by omega,by omega⟩
theorem Qm (T:Nat→aei) (P:Nat→Nat) (i:Nat) (t:Ty) (j:Nat) (h:rQ T P i=.ok (t,j)):(∀r∈t.rels,Bn r.body j)∧t.rels.length≤j:=by
 unfold rQ at h
 split at h
 ·split at h
  ·simp at h
  ·split at h
   ·simp at h
   ·rename_i hk;have:=FE T P _ _ _ _ _ (by simp) hk;simp at h;obtain ⟨rfl,rfl⟩:=h;refine ⟨this.1,?_⟩;have h2:=this.2.1;simp only [List.length_nil] at h2;simp only;omega
 ·simp at h
def TB (t:Ty) (n:Nat):Prop:=(∀r∈t.rels,Bn r.body n)∧t.rels.length≤n
theorem TB.le {t:Ty} {n m:Nat} (h:TB t n) (hm:n≤m):TB t m:=⟨fun r hr=>(h.1 r hr).le hm,Nat.le_trans h.2 hm⟩
theorem BI (T:Nat→aei) (P:Nat→Nat):∀f acc i ts j,(∀t∈acc,TB t i)→dR T P f acc i=.ok (ts,j)→(∀t∈ts,TB t j)∧ts.length+i≤acc.length+j∧i≤j
 |0,_,i,x,j,_,h=>by simp [dR] at h
 |f+1,acc,i,x,j,ha,h=>by
  unfold dR at h
  split at h
  ·simp at h;obtain ⟨rfl,rfl⟩:=h;exact ⟨ha,Nat.le_refl _,Nat.le_refl _⟩
  ·split at h
   ·simp at h
   ·split at h
    ·simp at h
    ·rename_i hm;have h1:=sH T P _ _ _ hm;have h2:=Qm T P _ _ _ hm;have:=BI T P f _ _ _ _ (by
      intro t ht;rw [List.mem_append,List.mem_singleton] at ht
      rcases ht with ht|rfl
      ·exact (ha t ht).le (by omega)
      ·exact h2) h
     obtain ⟨g1,g2,g3⟩:=this;simp only [List.length_append,List.length_cons,List.length_nil] at g2;exact ⟨g1,by omega,by omega⟩
theorem lU (T:Nat→aei) (P:Nat→Nat) (ts:List Ty) (j:Nat) (h:gF T P=.ok (ts,j)):(∀t∈ts,TB t j)∧ts.length≤j:=by
 have:=BI T P _ _ _ _ _ (by simp) h;refine ⟨this.1,?_⟩;have h2:=this.2.1;simp only [List.length_nil] at h2;omega
theorem RC.of_rep {b:Nat} {w:World} {sv:Value} {rs:List Rl} {n:Nat} (h:jN (b+1) b w sv rs) (hb:∀r∈rs,Bn r.body n) (hl:rs.length≤n) (hn:n≤500):∃rl,RC b w sv rs rl:=by
 obtain ⟨l,h1,h2,h3⟩:=h;refine ⟨l,h1,?_,h2,by omega,fun r hr=>Nat.le_trans (hb r hr).p (by omega),fun r hr=>Nat.le_trans (hb r hr).g (by omega),fun r hr=>(hb r hr).wf⟩;unfold jO;rw [c3_r3,List.length_map,show l.length=rs.length by rw [←h1,List.length_map]];exact aO h3 (Nat.zero_le _)
theorem MC.of_rep {b:Nat} {w:World} {sv:Value} {ts:List Ty} {n:Nat} (h:nk (b+1) b w sv ts) (hb:∀t∈ts,TB t n) (hl:ts.length≤n) (hn:n≤500) (hlt:b<w.heap.size):∃tl,MC b w sv ts tl:=by
 obtain ⟨l,h1,h2,h3⟩:=h;refine ⟨l,h1,?_,?_,by omega,hlt⟩
 ·unfold jO;rw [c3_t3,List.length_map,show l.length=ts.length by rw [←h1,List.length_map]];exact aO h3 (Nat.zero_le _)
 ·intro p hp;have hm:p.1∈ts:=by rw [←h1];exact List.mem_map_of_mem hp
  exact RC.of_rep (h2 p hp) (hb p.1 hm).1 (hb p.1 hm).2 hn
end Go.Proofs.YtlbpnlngckgcbaaGreatDoor
namespace Go.Proofs
open Go.Shelf
def Tryz.laysM316_ren:Go.Shelf.Ren:=⟨fun|316=>110|n=>n,fun|9=>9|3=>3|4=>4|37=>151|0=>0|127=>247|5=>5|n=>n,fun|n=>n⟩
theorem Tryz.laysM316:Go.Proofs.LaysM.n316 Tryz.prog Tryz.laysM316_ren:={
 mixed:=by kernel_rfl
 f316:=Tryz.func110.trans (congrArg some (by kernel_rfl))
 t0:=Tryz.underlying0
 a0:=Tryz.isAgg0
 z0:=Tryz.sizeOf0
 v0:=Tryz.zeroValue0
 t3:=Tryz.underlying3
 a3:=Tryz.isAgg3
 z3:=Tryz.sizeOf3
 v3:=Tryz.zeroValue3
 t4:=Tryz.underlying4
 a4:=Tryz.isAgg4
 z4:=Tryz.sizeOf4
 v4:=Tryz.zeroValue4
 t9:=Tryz.underlying9
 a9:=Tryz.isAgg9
 z9:=Tryz.sizeOf9
 v9:=Tryz.zeroValue9
 t37:=Tryz.underlying151
 a37:=Tryz.isAgg151
 z37:=Tryz.sizeOf151
 v37:=Tryz.zeroValue151
 t127:=Tryz.underlying247
 a127:=Tryz.isAgg247
 z127:=Tryz.sizeOf247
 v127:=Tryz.zeroValue247
 t5:=Tryz.underlying5
 a5:=Tryz.isAgg5
 z5:=Tryz.sizeOf5
 v5:=Tryz.zeroValue5
 i0:=by kernel_rfl
 i3:=by kernel_rfl
 i4:=by kernel_rfl
 i5:=by kernel_rfl
 i9:=by kernel_rfl
 i37:=by kernel_rfl
 i127:=by kernel_rfl}
open Go.RowKit in
theorem Tryz.stringslite_Clone (s:ByteArray) (w:World) (MZ:s.size≤281474976710656):
  Calls Tryz.prog 110 #[.string s] w fun e w'=>e=.returned (.string s)∧Below w.heap.size w w':=Any.stringslite_Clone Tryz.laysM316 s w MZ
def Tryz.lays219_ren:Go.Shelf.Ren:=⟨fun|219=>202|217=>236|225=>237|224=>238|267=>239|266=>261|314=>262|n=>n,fun|9=>9|3=>3|4=>4|5=>5|46=>215|146=>407|51=>313|n=>n,fun|1=>1|n=>n⟩
def Tryz.lays145_ren:Go.Shelf.Ren:=⟨fun|145=>92|220=>143|219=>202|217=>236|225=>237|224=>238|267=>239|266=>261|314=>262|n=>n,fun|9=>9|4=>4|59=>176|3=>3|5=>5|46=>215|146=>407|51=>313|n=>n,fun|1=>1|n=>n⟩
theorem Tryz.lays145:Go.Proofs.Lays.n145 Tryz.prog Tryz.lays145_ren:={
 mixed:=by kernel_rfl
 f145:=Tryz.func92.trans (congrArg some (by kernel_rfl))
 f217:=Tryz.func236.trans (congrArg some (by kernel_rfl))
 f219:=Tryz.func202.trans (congrArg some (by kernel_rfl))
 f220:=Tryz.func143.trans (congrArg some (by kernel_rfl))
 f224:=Tryz.func238.trans (congrArg some (by kernel_rfl))
 f225:=Tryz.func237.trans (congrArg some (by kernel_rfl))
 f266:=Tryz.func261.trans (congrArg some (by kernel_rfl))
 f267:=Tryz.func239.trans (congrArg some (by kernel_rfl))
 f314:=Tryz.func262.trans (congrArg some (by kernel_rfl))
 t3:=Tryz.underlying3
 a3:=Tryz.isAgg3
 z3:=Tryz.sizeOf3
 v3:=Tryz.zeroValue3
 t4:=Tryz.underlying4
 a4:=Tryz.isAgg4
 z4:=Tryz.sizeOf4
 v4:=Tryz.zeroValue4
 t5:=Tryz.underlying5
 a5:=Tryz.isAgg5
 z5:=Tryz.sizeOf5
 v5:=Tryz.zeroValue5
 t9:=Tryz.underlying9
 a9:=Tryz.isAgg9
 z9:=Tryz.sizeOf9
 v9:=Tryz.zeroValue9
 t46:=Tryz.underlying215
 a46:=Tryz.isAgg215
 z46:=Tryz.sizeOf215
 v46:=Tryz.zeroValue215
 t51:=Tryz.underlying313
 a51:=Tryz.isAgg313
 z51:=Tryz.sizeOf313
 v51:=Tryz.zeroValue313
 t59:=Tryz.underlying176
 a59:=Tryz.isAgg176
 z59:=Tryz.sizeOf176
 v59:=Tryz.zeroValue176
 t146:=Tryz.underlying407
 a146:=Tryz.isAgg407
 z146:=Tryz.sizeOf407
 v146:=Tryz.zeroValue407
 g1:=by kernel_rfl}
end Go.Proofs
