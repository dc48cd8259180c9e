import Derived.Test.YtlbpnlngckgcbaaGreatDoorM27
set_option linter.all false
set_option maxHeartbeats 4000000
set_option maxRecDepth 100000
namespace Go.Proofs.YtlbpnlngckgcbaaGreatDoor
open Go.RowKit Go.PlainAid Go.Shelf
attribute [local go_sem] Oper.semAt_some
structure MU (w:World) (lv cv gv:Value) (ts:List Ty) (gs:List Tu) (cs:List Tg) (aq:Sj):Prop where
 lx:NC ts lv w
 cr:wo w cv cs
 row:w.ownsRow 0 123 6 gv gs.length (gs.flatMap mH)
 few:gs.length≤1000
 low:∀t∈gs,t.kind.size≤maxLen∧t.id.size≤maxLen∧lF (ed t)
 ask:lF aq
 ln:∀g∈aT ts,∀x∈g,NF x
 ok:Ef (aT ts) (bF gs)
 sum:((aT ts).map List.length).sum≤1000000
theorem MU.below {w w':World} {lv cv gv:Value} {ts:List Ty} {gs:List Tu} {cs:List Tg} {aq:Sj} (h:MU w lv cv gv ts gs cs aq) (k:Below w.heap.size w w'):MU w' lv cv gv ts gs cs aq:=
 ⟨vI.below _ _ _ _ h.lx k,h.cr.below k,aF h.row k,h.few,h.low,h.ask,h.ln,h.ok,h.sum⟩
def GH (ts:List Ty) (gs:List Tu) (cs:List Tg) (aq:Sj) (w:World) (e:Ending) (w':World):Prop:=∃v K,e=.returned v∧Below w.heap.size w w'∧Run cs (bF gs) (aT ts) (fun _=>0) K∧w'.ownsRow w.heap.size 98 2 v (bn (K aq) cs cs.length).length ((bn (K aq) cs cs.length).flatMap sO)
theorem Tryz.infoTh:(Tryz.prog.info? 98).map (fun i=>(i.zero,i.size,i.bytes))=some (some (.agg #[.string ⟨#[]⟩,.string ⟨#[]⟩]),2,32):=by kernel_rfl
structure Pq (ts:List Ty) (gs:List Tu) (cs:List Tg) (aq:Sj) (sb:Nat) (W0:World) (pre:List Unit) (W:World) (av:Value):Prop where
 but:aS (fun k=>k=sb) W0 W
 blk:ag W sb #[av] 119
 fst:pre=[]→av=.slice none 0 0
 all:pre≠ []→∃K,Run cs (bF gs) (aT ts) (fun _=>0) K∧W.ownsRow W0.heap.size 98 2 av (bn (K aq) cs cs.length).length ((bn (K aq) cs cs.length).flatMap sO)
theorem Pq.oth {ts:List Ty} {gs:List Tu} {cs:List Tg} {aq:Sj} {sb:Nat} {W0 W W':World} {pre:List Unit} {av:Value} {row:Option Nat} (h:Pq ts gs cs aq sb W0 pre W av) (hg:W.grownBy W' row) (hr:∀r,row=some r→W0.heap.size≤r∧∃o:Obj,W.heap[r]? =some o∧o.isCells=false):Pq ts gs cs aq sb W0 pre W' av:=
 ⟨⟨hg.os.trans h.but.os,hg.tape.trans h.but.tape,hg.output.trans h.but.output,Nat.le_trans h.but.size hg.size,fun k hk hs=>(hg.block k (Nat.lt_of_lt_of_le hk h.but.size) (fun e=>by have:=(hr k e.symm).1;omega)).trans (h.but.block k hk hs)⟩,
  bV (β:=Unit) W0.heap.size _ _ _ () W W' row h.blk hg hr,h.fst,fun hp=>by
   obtain ⟨K,h1,h2⟩:=h.all hp;exact ⟨K,h1,ai h2 (fun g cs f _ hh=>hg.block g (lt_of_some hh) (fun e=>by
    obtain ⟨o,ho,hc⟩:=(hr g e.symm).2;rw [hh] at ho
    cases ho
    cases hc))⟩⟩
theorem hl_hs {base:Nat} {w:World} {hv:Value} {hl:List Hd} {gs:List Tu} (h:BK base w hv hl) (hm:hl.map jq=bF gs) (hf:hl.length≤gs.length) (hn:∀x∈hl,x.ts.length≤gs.length) (hg:gs.length≤1000) (mO:∀t∈gs,t.kind.size≤maxLen∧t.id.size≤maxLen∧lF (ed t)):ND w hv hl:=by
 refine ⟨aA h.row (Nat.zero_le _),fun x hx=>⟨⟨aA (h.tup x hx) (Nat.zero_le _),by have:=hn x hx;omega⟩,?_⟩,by omega⟩;have hx':jq x∈bF gs:=by rw [←hm];exact List.mem_map.2 ⟨x,hx,rfl⟩
 obtain ⟨e1,e2⟩:=(jd gs).ts _ hx';have e1':x.ts=gs.filter (fun t=>lH (jq x) t):=e1;have hmem:∀t∈x.ts,t∈gs∧x.kd=t.kind∧x.id=t.id:=fun t ht=>by
  rw [e1',List.mem_filter] at ht;exact ⟨ht.1,dn.1 ht.2⟩
 have hne:x.ts≠ []:=e2;obtain ⟨t,ht⟩:=List.exists_mem_of_ne_nil _ hne;obtain ⟨h1,h2,h3⟩:=hmem t ht;refine ⟨List.length_pos_iff.2 hne,by rw [h2];exact (mO t h1).1,by rw [h3];exact (mO t h1).2.1,fun u hu=>(mO u (hmem u hu).1).2.2⟩
theorem wo.but {S:Nat→Prop} {w w':World} {g o n c:Nat} {cs:List Tg} (h:wo w (.slice (some ⟨g,o,none⟩) n c) cs) (k:aS S w w') (hg:¬S g) (c':Nat):wo w' (.slice (some ⟨g,o,none⟩) n c') cs:=by
 obtain ⟨g',o',c'',e,h2,h3,h4⟩:=h;simp only [Value.slice.injEq,Option.some.injEq,Addr.mk.injEq,and_true] at e;obtain ⟨⟨rfl,rfl⟩,rfl,_⟩:=e;exact ⟨g,o,c',rfl,Nat.lt_of_lt_of_le h2 k.size,h3,fun i x hi=>⟨(World.cell?_of_block (w:=w) (k.block g h2 hg)).trans (h4 i x hi).1,(World.cell?_of_block (w:=w) (k.block g h2 hg)).trans (h4 i x hi).2⟩⟩
theorem MU.but {w w':World} {lv gv:Value} {g cn cc sb:Nat} {ts:List Ty} {gs:List Tu} {cs:List Tg} {aq:Sj} {bs:Array Value} (h:MU w lv (.slice (some ⟨g,0,none⟩) cn cc) gv ts gs cs aq) (k:aS (fun k=>k=sb) w w') (hb:ag w sb bs 119) (hg:g≠sb):MU w' lv (.slice (some ⟨g,0,none⟩) cn cc) gv ts gs cs aq:=by
 have key:∀(i:Nat) (xs:Array Value) (T:TypeId) (f:Nat×Nat),w.heap[i]? =some (Obj.cells xs T f)→T≠119→w'.heap[i]? =w.heap[i]? :=fun i xs T f hh ht=>k.block i (lt_of_some hh) (fun e=>by
  subst e;unfold ag at hb;rw [hb] at hh
  cases hh
  exact ht rfl)
 obtain ⟨qs,h1,h2⟩:=h.lx;exact ⟨⟨qs,h1.frame (fun i xs T f hh ht=>key i xs T f hh (by rcases ht with rfl|rfl|rfl<;>decide)),h2⟩,h.cr.but k hg cc,ai h.row (fun i xs f _ hh=>key i xs _ f hh (by decide)),h.few,h.low,h.ask,h.ln,h.ok,h.sum⟩
theorem Er {B sb:Nat} {W W':World} {bs:Array Value} {T:TypeId} (k:aS (fun k=>k=sb) W W') (hb:ag W sb bs T):KeepsFrom B W W':=⟨k.size,fun i o _ hi ho=>(k.block i (lt_of_some hi) (fun e=>by
 subst e;unfold ag at hb;rw [hb] at hi
 cases hi
 cases ho)).trans hi⟩
theorem MV {sb n:Nat} {W2 wr w7:World} {o o2:Obj} {av v':Value} {xs ys:List Value} (nZ:aS (fun k=>k=sb) W2 wr) (hbl:ag wr sb #[av] 119) (hrow:wr.ownsRow W2.heap.size 98 2 av n xs) (hg:((wr.alloc o).drew.alloc o2).grownBy w7 av.ownBlock) (hown:w7.ownsRow W2.heap.size 98 2 v' (n+1) ys):
  aS (fun k=>k=sb) W2 (w7.setCell ⟨sb,0,none⟩ v')∧ag (w7.setCell ⟨sb,0,none⟩ v') sb #[v'] 119∧(w7.setCell ⟨sb,0,none⟩ v').ownsRow W2.heap.size 98 2 v' (n+1) ys:=by
 have b:Below wr.heap.size wr ((wr.alloc o).drew.alloc o2):=(((Below.refl _ wr).alloc (Nat.le_refl _) o).drew).alloc (by simp) o2;have r2:=aF hrow b;have Ri:=hbl.below b;have bl7:ag w7 sb #[av] 119:=(hg.block sb Ri.lt (own_ne r2 Ri (by decide))).trans Ri;have k7:aS (fun k=>k=sb) W2 w7:=by
  have h1:=nZ.trans (aS.of_below b);exact ⟨hg.os.trans h1.os,hg.tape.trans h1.tape,hg.output.trans h1.output,Nat.le_trans h1.size hg.size,fun k hk hs=>(hg.block k (Nat.lt_of_lt_of_le hk h1.size) (fun e=>by have:=(r2.lt k e.symm).1;omega)).trans (h1.block k hk hs)⟩
 exact ⟨k7.set rfl _,bl7.set 0 _,bD hown bl7 (by decide) 0 _⟩
theorem Es (la ga:Option Addr) (ln lc g cn cc gn gc:Nat) (w:World) (ts:List Ty) (gs:List Tu) (cs:List Tg) (aq:Sj) (h:MU w (.slice la ln lc) (.slice (some ⟨g,0,none⟩) cn cc) (.slice ga gn gc) ts gs cs aq) (hc0:0<cs.length) (hcc:cn≤cc) (hcm:cc≤maxLen):
  Calls Tryz.prog 58 #[.agg #[.slice la ln lc],.slice (some ⟨g,0,none⟩) cn cc,.agg #[.string aq.kind,.string aq.id,.string aq.rel],.slice ga gn gc] w (GH ts gs cs aq w):=by
 obtain ⟨i0,hi0,hz0,hz1,hz2⟩:=info_parts Tryz.infoTh;have hcn:cn=cs.length:=by
  obtain ⟨g',o',c',e,_⟩:=h.cr;simp only [Value.slice.injEq] at e;exact e.2.1
 have hgw0:g<w.heap.size:=by
  obtain ⟨g',o',c',e,h2,_⟩:=h.cr;simp only [Value.slice.injEq,Option.some.injEq,Addr.mk.injEq] at e;rw [e.1.1];exact h2
 have h64:cn≤64:=by rw [hcn];exact h.cr.most
 have hc0':0<cn:=by omega
 have Rj:=ae hcn;clear hcn;refine (callsIn_wide (n:=8)).1 ?_;refine callsIn_of_wp_marks Tryz.func58 rfl trivial ?_ rfl;simp only [Tryz.ntmps58,List.size_toArray,List.length_cons,List.length_nil,Nat.reduceAdd,Nat.reduceSub,Array.replicate_succ,Array.replicate_zero,List.push_toArray,List.append_toArray,List.nil_append,List.cons_append];gi_wp2_with fail;refine ⟨trivial,(callsIn_wide.2 (Ej _ _ _ _)).mono ?_⟩;rintro e w' ⟨rfl,rfl⟩;gi_wp2_with fail;have hB4:Below w.heap.size w ((((w.alloc (.cells #[.slice la ln lc] 114)).alloc (.cells #[.string aq.kind,.string aq.id,.string aq.rel] 102)).alloc (.cells #[.slice ga gn gc] 115)).alloc (.cells #[.slice none 0 0] 119)):=((((Below.refl _ w).alloc (Nat.le_refl _) _).alloc (by simp) _).alloc (by simp;omega) _).alloc (by simp;omega) _;have qg:Below w.heap.size w ((((((w.alloc (.cells #[.slice la ln lc] 114)).alloc (.cells #[.string aq.kind,.string aq.id,.string aq.rel] 102)).alloc (.cells #[.slice ga gn gc] 115)).alloc (.cells #[.slice none 0 0] 119)).alloc (.cells #[.slice (some ⟨g,0,none⟩) cn cc] 119)).alloc (.cells #[.int .i64 64] 3)):=(hB4.alloc hB4.size _).alloc (by simp;omega) _;have bL:ag ((((((w.alloc (.cells #[.slice la ln lc] 114)).alloc (.cells #[.string aq.kind,.string aq.id,.string aq.rel] 102)).alloc (.cells #[.slice ga gn gc] 115)).alloc (.cells #[.slice none 0 0] 119)).alloc (.cells #[.slice (some ⟨g,0,none⟩) cn cc] 119)).alloc (.cells #[.int .i64 64] 3)) w.heap.size #[.slice la ln lc] 114:=(((((ag.new w _ _).alloc _).alloc _).alloc _).alloc _).alloc _;have bA:ag ((((((w.alloc (.cells #[.slice la ln lc] 114)).alloc (.cells #[.string aq.kind,.string aq.id,.string aq.rel] 102)).alloc (.cells #[.slice ga gn gc] 115)).alloc (.cells #[.slice none 0 0] 119)).alloc (.cells #[.slice (some ⟨g,0,none⟩) cn cc] 119)).alloc (.cells #[.int .i64 64] 3)) (w.heap.size+1) #[.string aq.kind,.string aq.id,.string aq.rel] 102:=((((ag.new' (w.alloc (.cells #[.slice la ln lc] 114)) _ _ (w.heap.size+1) (by simp)).alloc _).alloc _).alloc _).alloc _;have bG:ag ((((((w.alloc (.cells #[.slice la ln lc] 114)).alloc (.cells #[.string aq.kind,.string aq.id,.string aq.rel] 102)).alloc (.cells #[.slice ga gn gc] 115)).alloc (.cells #[.slice none 0 0] 119)).alloc (.cells #[.slice (some ⟨g,0,none⟩) cn cc] 119)).alloc (.cells #[.int .i64 64] 3)) (w.heap.size+1+1) #[.slice ga gn gc] 115:=(((ag.new' ((w.alloc (.cells #[.slice la ln lc] 114)).alloc (.cells #[.string aq.kind,.string aq.id,.string aq.rel] 102)) _ _ (w.heap.size+1+1) (by simp)).alloc _).alloc _).alloc _;have bS:ag ((((((w.alloc (.cells #[.slice la ln lc] 114)).alloc (.cells #[.string aq.kind,.string aq.id,.string aq.rel] 102)).alloc (.cells #[.slice ga gn gc] 115)).alloc (.cells #[.slice none 0 0] 119)).alloc (.cells #[.slice (some ⟨g,0,none⟩) cn cc] 119)).alloc (.cells #[.int .i64 64] 3)) (w.heap.size+1+1+1) #[.slice none 0 0] 119:=((ag.new' (((w.alloc (.cells #[.slice la ln lc] 114)).alloc (.cells #[.string aq.kind,.string aq.id,.string aq.rel] 102)).alloc (.cells #[.slice ga gn gc] 115)) _ _ (w.heap.size+1+1+1) (by simp)).alloc _).alloc _;have bC:ag ((((((w.alloc (.cells #[.slice la ln lc] 114)).alloc (.cells #[.string aq.kind,.string aq.id,.string aq.rel] 102)).alloc (.cells #[.slice ga gn gc] 115)).alloc (.cells #[.slice none 0 0] 119)).alloc (.cells #[.slice (some ⟨g,0,none⟩) cn cc] 119)).alloc (.cells #[.int .i64 64] 3)) (w.heap.size+1+1+1+1) #[.slice (some ⟨g,0,none⟩) cn cc] 119:=(ag.new' ((((w.alloc (.cells #[.slice la ln lc] 114)).alloc (.cells #[.string aq.kind,.string aq.id,.string aq.rel] 102)).alloc (.cells #[.slice ga gn gc] 115)).alloc (.cells #[.slice none 0 0] 119)) _ _ (w.heap.size+1+1+1+1) (by simp)).alloc _;have bN:ag ((((((w.alloc (.cells #[.slice la ln lc] 114)).alloc (.cells #[.string aq.kind,.string aq.id,.string aq.rel] 102)).alloc (.cells #[.slice ga gn gc] 115)).alloc (.cells #[.slice none 0 0] 119)).alloc (.cells #[.slice (some ⟨g,0,none⟩) cn cc] 119)).alloc (.cells #[.int .i64 64] 3)) (w.heap.size+1+1+1+1+1) #[.int .i64 64] 3:=ag.new' _ _ _ _ (by simp);have HT:=h.below qg;have hsz:((((((w.alloc (.cells #[.slice la ln lc] 114)).alloc (.cells #[.string aq.kind,.string aq.id,.string aq.rel] 102)).alloc (.cells #[.slice ga gn gc] 115)).alloc (.cells #[.slice none 0 0] 119)).alloc (.cells #[.slice (some ⟨g,0,none⟩) cn cc] 119)).alloc (.cells #[.int .i64 64] 3)).heap.size=w.heap.size+6:=by simp
 obtain ⟨W0,hW0⟩:∃W0,((((((w.alloc (.cells #[.slice la ln lc] 114)).alloc (.cells #[.string aq.kind,.string aq.id,.string aq.rel] 102)).alloc (.cells #[.slice ga gn gc] 115)).alloc (.cells #[.slice none 0 0] 119)).alloc (.cells #[.slice (some ⟨g,0,none⟩) cn cc] 119)).alloc (.cells #[.int .i64 64] 3))=W0:=⟨_,rfl⟩;rw [hW0] at qg bL bA bG bS bC bN HT hsz ⊢;clear hW0 hB4 h;refine wpIn_rangeFunc_ownG (F:=Fence.wide) (α:=Unit) rfl (by decide) (gf:=146) (lb:=#[.pointer (some ⟨w.heap.size+1+1+1+1,0,none⟩),.pointer (some ⟨w.heap.size+1+1+1+1+1,0,none⟩)]) rfl trivial (enters_of Tryz.func146 (by kernel_rfl) rfl)
  (encs:=fun _=>#[.slice (some ⟨g,0,none⟩) cn cn]) (Kp:=Im (w.heap.size+1+1+1+1) (w.heap.size+1+1+1+1+1)) (S:=fun ys=>ys=[()]) (Sp:=fun pre=>pre<+: [()]) (N:=1) (w0:=W0)
  (fun l J Jx W hW hJ _ hY h0=>El _ (by decide) l _ _ g cn cc J Jx W hJ hY (bC.below hW) (bN.below hW) hc0' h64 hcc hcm h0)
  (fun h k=>Im.trans h k)
  (fun W l o o' hl ho hc hw=>⟨(grownBy_putObj' W l o').size,World.putObj_heap_other (fun e=>by omega),World.putObj_heap_other (fun e=>by omega)⟩)
  (Below.refl _ _) (fun _=>rfl)
  (fun pre W=>∃av,Pq ts gs cs aq (w.heap.size+1+1+1) W0 pre W av)
  (fun cd pre W=>False)
  (fun pre X Y row hs hg hr=>by obtain ⟨av,h⟩:=hs;exact ⟨av,h.oth hg hr⟩)
  (fun cd s X Y row hs hg hr=>hs)
  ⟨.slice none 0 0,⟨aS.refl _ _,bS,fun _=>rfl,fun h=>absurd rfl h⟩⟩
  (fun _=>{tmps:=#[.agg #[.slice la ln lc],.slice (some ⟨g,0,none⟩) cn cc,.agg #[.string aq.kind,.string aq.id,.string aq.rel],.slice ga gn gc,.pointer (some ⟨w.heap.size,0,none⟩),undef,.pointer (some ⟨w.heap.size+1,0,none⟩),.pointer (some ⟨w.heap.size+1+1,0,none⟩),.slice none 0 0,.pointer (some ⟨w.heap.size+1+1+1,0,none⟩),.slice (some ⟨g,0,none⟩) cn cn,undef,undef,undef,undef,undef,.slice (some ⟨g,0,none⟩) cn cc,.func (.func 146) #[] #[.pointer (some ⟨w.heap.size+1+1+1+1,0,none⟩),.pointer (some ⟨w.heap.size+1+1+1+1+1,0,none⟩)],.slice (some ⟨g,0,none⟩) cn cn,undef,undef,undef,undef,undef,undef,undef,undef,undef,undef,undef,undef,undef,undef,undef,undef,undef,undef,undef,undef,undef,undef,undef,undef,undef,undef,undef,undef,undef,undef,undef,undef,undef,undef,undef,undef,undef],defers:=[]})
  ?assign ?body ?done ?stop
 case assign=>
  intro l x W K hK;gi_wp2;exact hK
 case body=>
  rintro l pre x W ⟨av,hst⟩ hlt;obtain rfl:pre=[]:=by
   cases pre with
   |nil=>rfl
   |cons a b=>simp at hlt
  obtain rfl:=hst.fst rfl;have hgw:g<w.heap.size:=hgw0;have TI:=HT.but hst.but bS (by omega);have cL:W.cell? ⟨w.heap.size,0,none⟩=some (.slice la ln lc):=(hst.but.blk bL (by omega)).cell rfl;have bA1:=hst.but.blk bA (by omega);have cG:W.cell? ⟨w.heap.size+1+1,0,none⟩=some (.slice ga gn gc):=(hst.but.blk bG (by omega)).cell rfl;have C:=ae (yE _ gs W TI.row TI.few);have HST:=ae hst;have MW:=ae TI;have hWs:=hst.but.size;have yF:=TI.ask;clear hst TI hlt;gi_wp2_with fail;refine ⟨trivial,(CallsIn.inRound l (callsIn_wide.2 (aa C))).mono ?_⟩;rintro e w1 ⟨hv,hl,rfl,hb1,hH,hm,hf,hn⟩;obtain ⟨ha,hc,rfl⟩:=ak hH.row;have hmm:=@run_makeMap Tryz.prog;obtain ⟨qs,AO,hqg,_,hqf⟩:=(aa MW).lx;have sG:ln=qs.length:=by
   obtain ⟨a',c',e⟩:=ak AO.row;simp only [Value.slice.injEq] at e;exact e.2.1
  subst sG;have GI:qs.map Em=aT ts:=hqg;have bm:=(Below.refl w1.heap.size w1).alloc (Nat.le_refl _) (.map #[] 0);have bk:=bm.alloc bm.size (.cells #[.slice (some ⟨g,0,none⟩) cn cn,.slice ha hl.length hc,.map (some w1.heap.size)] 189);have NH:=hb1.trans (bk.mono hb1.size);have SA:MS ((w1.alloc (.map #[] 0)).alloc (.cells #[.slice (some ⟨g,0,none⟩) cn cn,.slice ha hl.length hc,.map (some w1.heap.size)] 189)) (.slice (some ⟨g,0,none⟩) cn cn) (.slice ha hl.length hc) (.slice la qs.length lc) cs hl qs:=
   ⟨(aa MW).cr.but (S:=fun _=>False) (.of_below NH) (fun e=>e) cn,hl_hs (hH.below bk) hm hf hn (aa MW).few (aa MW).low,AO.below NH,(fun q hq p hp=>(NF.ok ((aa MW).ln (Em q) (by rw [←GI];exact List.mem_map.2 ⟨q,hq,rfl⟩) _ (List.mem_map.2 ⟨p,hp,rfl⟩)))),hqf⟩
  have KN0:nW ((w1.alloc (.map #[] 0)).alloc (.cells #[.slice (some ⟨g,0,none⟩) cn cn,.slice ha hl.length hc,.map (some w1.heap.size)] 189)) w1.heap.size 0 (fun _=>0):=(FV w1).block (Below.heap_alloc _ _ _ (by simp));have KB:=ag.new' (w1.alloc (.map #[] 0)) #[.slice (some ⟨g,0,none⟩) cn cn,.slice ha hl.length hc,.map (some w1.heap.size)] 189 (w1.heap.size+1) (by simp);have hGs:Ef (qs.map Em) (hl.map jq):=by rw [GI,hm];exact (aa MW).ok
  have hsum:oN qs≤1000000:=by
   have e:=(aa MW).sum;rw [←GI,List.map_map] at e;unfold oN;refine Nat.le_trans (Nat.le_of_eq ?_) e
   congr 1
   apply List.map_congr_left;intro q _;simp [Em]
  have hhd:=MR hm;have cL1:w1.cell? ⟨w.heap.size,0,none⟩=some (.slice la qs.length lc):=af cL hb1;have cLk:=af cL NH;have hne1:¬(w.heap.size=w1.heap.size):=by have:=hb1.size;omega
  have hne2:¬(w.heap.size=w1.heap.size+1):=by have:=hb1.size;omega
  have hWw1:=hb1.size;have MX:=ae NH;have Rk:=ae SA;have GJ:=ae KN0;have Rm:=ae KB;have HGS:=ae hGs;have HHD:=ae hhd;have Qj:=ae AO;have HRG:=ae (And.intro hm GI);have rM:=ae (bA1.below NH);clear C bm bk NH SA KN0 KB hGs hhd hH hm hf hn hqg GI hb1 AO hqf bA1;gi_wp2_with fail;obtain ⟨mb,hmb⟩:∃b,b=w1.heap.size:=⟨_,rfl⟩;obtain ⟨WK,hWK⟩:∃x,x=((w1.alloc (.map #[] 0)).alloc (.cells #[.slice (some ⟨g,0,none⟩) cn cn,.slice ha hl.length hc,.map (some w1.heap.size)] 189)):=⟨_,rfl⟩;rw [←hWK] at MX Rk GJ Rm rM ⊢;rw [←hmb] at GJ Rm ⊢;have hmW:W.heap.size≤mb:=by omega
  clear hWK hmm cL cG cL1 cLk hmb
  gi_loopw [27] (fun u wi=>∃(j n:Nat) (K:Sj→Nat),u=.int .i64 j∧j≤qs.length∧aS (fun k=>k=mb) WK wi∧nW wi mb n K∧Hid (Rh cs hl qs j n K)) (fun u _=>qs.length-(intOf u).toNat)
  case atStart=>exact ⟨0,0,_,rfl,by omega,aS.refl _ _,aa GJ,ae ⟨rfl,by simp⟩⟩
  case round=>
   obtain ⟨j,n,K,rfl,hj,nZ,hkn,Qk⟩:=hrel;have Mi:=nZ.blk (aa Rm) (by omega);obtain ⟨c0,c1,c2⟩:=three Mi
   by_cases vg:j<qs.length
   ·have hjn:(j:Int)<(qs.length:Int):=by omega
    obtain ⟨q,hq⟩:∃q,qs[j]? =some q:=⟨_,List.getElem?_eq_getElem vg⟩;have sa:=(aa Rk).cellsK (jT (aa GJ) nZ);obtain ⟨gq,cq,e1,hcq⟩:=aQ sa.ln.row j q.1 (by rw [List.getElem?_map,hq];rfl);simp only [Value.slice.injEq,true_and] at e1;obtain ⟨rfl,rfl⟩:=e1;obtain ⟨za,zc,Rn⟩:=ak (sa.grp (List.mem_of_getElem? hq)).ln.row;obtain ⟨zn,hzn⟩:∃n,n=q.2.length:=⟨_,rfl⟩;rw [←hzn] at Rn;have CS:=ae (Eo wr _ _ _ _ _ _ mb n j _ K cs hl qs q sa hkn (aa Qk) hq (aa HGS) (aa HHD) hsum);rw [Rn] at hcq CS;have JF:=ae nZ;clear nZ hkn Qk Rn hzn sa Mi;gi_wp2_with fail;refine ⟨trivial,(CallsIn.inRound l (callsIn_wide.2 (aa CS))).mono ?_⟩;rintro e w3 ⟨rfl,hb3,n',K',hk3,hK3⟩;have ww:=ae ((aa JF).trans hb3);have HK3:=ae hk3;have HKS3:=ae hK3;clear hb3 hk3 hK3 CS JF;gi_wp2;go_roundw
    case rel=>exact ⟨j+1,n',K',by go_num,by omega,aa ww,aa HK3,HKS3⟩
    case measure=>simp [intOf];omega
   ·have hjn:¬((j:Int)<(qs.length:Int)):=by omega
    have Ps:=ae (show Run cs (bF gs) (aT ts) (fun _=>0) K from by
     have:=(aa Qk).run;rw [show j=qs.length by omega,List.take_length,(aa HRG).1,(aa HRG).2] at this;exact this)
    have hX:=mR (by rw [←aa Rj];exact h64) (vK (aa Ps) (fun s i _=>by simp) aq);have sa:=(aa Rk).cellsK (jT (aa GJ) nZ);have HCR:=ae sa.cr;have bX:Below W.heap.size W wr:=(aa MX).trans (nZ.below (B:=W.heap.size) (aa MX).size (fun g e=>by omega));have iL:=ae bX;have Ih:=ae ((aa HST).blk.below bX);have HA2:=ae (nZ.blk (aa rM) (show ¬(w.heap.size+1=mb) by omega));have Ro:=ae hkn;have HKB2:=ae Mi;have hmbl:=hkn.lt;have hkbl:=Mi.lt;have hwl:=bX.size;clear nZ hkn Qk sa Mi bX c0 c1 c2 hj;gi_wp2_with fail;obtain ⟨W2,hW2⟩:∃x,x=wr:=⟨_,rfl⟩;subst hW2
    gi_loopw [37] (fun u wi=>∃(i:Nat) (av:Value),u=.int .i64 i∧i≤cn∧aS (fun k=>k=w.heap.size+1+1+1) W2 wi∧ag wi (w.heap.size+1+1+1) #[av] 119∧wi.ownsRow W2.heap.size 98 2 av (bn (K aq) cs i).length ((bn (K aq) cs i).flatMap sO)) (fun u _=>cn-(intOf u).toNat)
    case atStart=>exact ⟨0,_,rfl,by omega,aS.refl _ _,aa Ih,World.ownsRow_nil _ _ _ _⟩
    case round=>
     obtain ⟨i,av,rfl,hi,oO,hbl,hrow⟩:=hrel;obtain ⟨xa,xc,rfl⟩:=ak hrow
     by_cases hit:i<cn
     ·have hin:(i:Int)<(cn:Int):=by omega
      obtain ⟨x,hx⟩:∃x,cs[i]? =some x:=⟨_,List.getElem?_eq_getElem (by rw [←aa Rj];exact hit)⟩;obtain ⟨g',o',c',e1,_,_,hcells⟩:=(aa HCR).but oO (show ¬(g=w.heap.size+1+1+1) by omega) cn;simp only [Value.slice.injEq,Option.some.injEq,Addr.mk.injEq,and_true] at e1;obtain ⟨⟨rfl,rfl⟩,lL,kU⟩:=e1;clear lL kU;obtain ⟨y0,y1⟩:=hcells i x hx;simp only [Nat.zero_add] at y0 y1;have ba:=(Below.refl wr.heap.size wr).alloc (Nat.le_refl _) (.cells #[.string x.kind,.string x.id] 98);obtain ⟨z0,z1,z2⟩:=three ((oO.blk (aa HKB2) (by omega)).below ba);obtain ⟨a0,a1,a2⟩:=three ((oO.blk (aa HA2) (by omega)).below ba);have kn5:nW (wr.alloc (.cells #[.string x.kind,.string x.id] 98)).drew mb n K:=(aa Ro).block ((ba.block mb (by have:=oO.size;omega)).trans (oO.block mb hmbl (by omega)));have Pt:=ae oO;have Mv:=ae hbl;have om:=ae hrow;have s9:wr.cell? ⟨w.heap.size+1+1+1,0,none⟩=some (.slice xa (bn (K aq) cs i).length xc):=hbl.cell rfl;have s8:=hbl.fz;have hsl:=hbl.lt;have hw2r:=oO.size;clear hcells oO hbl hrow;gi_wp2_with fail;refine nQ (S:=fun w'=>w'.cell? ⟨mb+1,2,none⟩=some (.map (some mb))∧w'.cell? ⟨w.heap.size+1,0,none⟩=some (.string aq.kind)∧w'.cell? ⟨w.heap.size+1,1,none⟩=some (.string aq.id)∧w'.cell? ⟨w.heap.size+1,2,none⟩=some (.string aq.rel)∧nW w' mb n K) (by kernel_rfl) (by kernel_rfl) ⟨z2,a0,a1,a2,kn5⟩ (fun hH=> ?_);refine wpAnyH_take (i:=0) (v:= ?v0) rfl (by kernel_rfl) (by kernel_rfl) (by kernel_rfl) (fun _ _ _ h=>by cases h.1) (Or.inl ⟨by rfl,?y0⟩) hH ?r0
      case y0=>
       intro w' hSw;obtain ⟨f0,f1,f2,f3,f4⟩:=hSw;have hL:=f4.look yF;unfold rW at hL
       try dsimp only at hL
       go_simp
       all_goals with_reducible rfl
      try simp only [Act.put,List.getElem_toArray,List.getElem_cons_zero,List.getElem_cons_succ,List.setIfInBounds_toArray,List.set_cons_zero,List.set_cons_succ]
      refine wpAnyH_take (i:=1) (v:= ?v1) rfl (by kernel_rfl) (by kernel_rfl) (by kernel_rfl) (fun _ _ _ h=>by cases h.1) (Or.inl ⟨by rfl,?y1⟩) hH ?r1
      case y1=>
       intro w' hSw;obtain ⟨f0,f1,f2,f3,f4⟩:=hSw;have hL:=f4.look yF;unfold rW at hL
       try dsimp only at hL
       go_simp
       all_goals with_reducible rfl
      try simp only [Act.put,List.getElem_toArray,List.getElem_cons_zero,List.getElem_cons_succ,List.setIfInBounds_toArray,List.set_cons_zero,List.set_cons_succ]
      refine wpAnyH_take (i:=2) (v:= ?v2) rfl (by kernel_rfl) (by kernel_rfl) (by kernel_rfl) (fun _ _ _ h=>by cases h.1) (Or.inl ⟨by rfl,?y2⟩) hH ?r2
      case y2=>
       intro w' hSw;obtain ⟨f0,f1,f2,f3,f4⟩:=hSw;have hL:=f4.look yF;unfold rW at hL
       try dsimp only at hL
       go_simp
       all_goals with_reducible rfl
      try simp only [Act.put,List.getElem_toArray,List.getElem_cons_zero,List.getElem_cons_succ,List.setIfInBounds_toArray,List.set_cons_zero,List.set_cons_succ]
      refine wpAnyH_take (i:=3) (v:= ?v3) rfl (by kernel_rfl) (by kernel_rfl) (by kernel_rfl) (fun _ _ _ h=>by cases h.1) (Or.inl ⟨by rfl,?y3⟩) hH ?r3
      case y3=>
       intro w' hSw;obtain ⟨f0,f1,f2,f3,f4⟩:=hSw;have hL:=f4.look yF;unfold rW at hL
       try dsimp only at hL
       go_simp
       all_goals with_reducible rfl
      try simp only [Act.put,List.getElem_toArray,List.getElem_cons_zero,List.getElem_cons_succ,List.setIfInBounds_toArray,List.set_cons_zero,List.set_cons_succ]
      refine wpAnyH_take (i:=4) (v:= ?v4) rfl (by kernel_rfl) (by kernel_rfl) (by kernel_rfl) (fun _ _ _ h=>by cases h.1) (Or.inl ⟨by rfl,?y4⟩) hH ?r4
      case y4=>
       intro w' hSw;obtain ⟨f0,f1,f2,f3,f4⟩:=hSw;have hL:=f4.look yF;unfold rW at hL
       try dsimp only at hL
       go_simp
       all_goals with_reducible rfl
      try simp only [Act.put,List.getElem_toArray,List.getElem_cons_zero,List.getElem_cons_succ,List.setIfInBounds_toArray,List.set_cons_zero,List.set_cons_succ]
      refine wpAnyH_take (i:=5) (v:= ?v5) rfl (by kernel_rfl) (by kernel_rfl) (by kernel_rfl) (fun _ _ _ h=>by cases h.1) (Or.inl ⟨by rfl,?y5⟩) hH ?r5
      case y5=>
       intro w' hSw;obtain ⟨f0,f1,f2,f3,f4⟩:=hSw;have hL:=f4.look yF;unfold rW at hL
       try dsimp only at hL
       go_simp
       all_goals with_reducible rfl
      try simp only [Act.put,List.getElem_toArray,List.getElem_cons_zero,List.getElem_cons_succ,List.setIfInBounds_toArray,List.set_cons_zero,List.set_cons_succ]
      refine wpAnyH_take (i:=6) (v:= ?v6) rfl (by kernel_rfl) (by kernel_rfl) (by kernel_rfl) (fun _ _ _ h=>by cases h.1) (Or.inl ⟨by rfl,?y6⟩) hH ?r6
      case y6=>
       intro w' hSw;obtain ⟨f0,f1,f2,f3,f4⟩:=hSw;have hL:=f4.look yF;unfold rW at hL
       try dsimp only at hL
       go_simp
       all_goals with_reducible rfl
      try simp only [Act.put,List.getElem_toArray,List.getElem_cons_zero,List.getElem_cons_succ,List.setIfInBounds_toArray,List.set_cons_zero,List.set_cons_succ]
      refine wpAnyH_take (i:=7) (v:= ?v7) rfl (by kernel_rfl) (by kernel_rfl) (by kernel_rfl) (fun _ _ _ h=>by cases h.1) (Or.inl ⟨by rfl,?y7⟩) hH ?r7
      case y7=>
       intro w' hSw;obtain ⟨f0,f1,f2,f3,f4⟩:=hSw;have hL:=f4.look yF;unfold rW at hL
       try dsimp only at hL
       go_simp
       all_goals with_reducible rfl
      try simp only [Act.put,List.getElem_toArray,List.getElem_cons_zero,List.getElem_cons_succ,List.setIfInBounds_toArray,List.set_cons_zero,List.set_cons_succ]
      refine wpAnyH_done (by kernel_rfl) ?_ _;refine ⟨rfl,?_⟩;have JP:=JO hX (show i<64 by omega);have bd:=ba.drew;have t9:(wr.alloc (.cells #[.string x.kind,.string x.id] 98)).drew.cell? ⟨w.heap.size+1+1+1,0,none⟩=some (.slice xa (bn (K aq) cs i).length xc):=af s9 bd;have t8:=((aa Mv).below bd).fz;have tT:=(ag.new wr #[.string x.kind,.string x.id] 98).drew;have u0:(wr.alloc (.cells #[.string x.kind,.string x.id] 98)).drew.cell? ⟨wr.heap.size,0,none⟩=some (.string x.kind):=tT.cell rfl;have u1:(wr.alloc (.cells #[.string x.kind,.string x.id] 98)).drew.cell? ⟨wr.heap.size,1,none⟩=some (.string x.id):=tT.cell rfl;have hpl:=lu (K aq) cs i;clear hH kn5 ba tT
      cases hb:(K aq).testBit i with
      |true=>
       rw [hb] at JP;have Rp:=ae (Ep hx hb);clear hb hx;gi_wp2_with (gi_at_builtin;go_must (refine iZ rfl _ _ 119 rfl W2.heap.size 98 i0 _ 2 32 Tryz.underlying119 hi0 hz0 hz1 hz2 rfl (by decide) (.slice xa (bn (K aq) cs i).length xc) (bn (K aq) cs i).length ((bn (K aq) cs i).flatMap sO) rfl ?hown ⟨wr.heap.size+1,0,none⟩ 1 1 [.string x.kind,.string x.id] rfl rfl ?hnews ?hone (by decide) ?h63 ?hbytes ?hbase (wr.heap.size+1+1) ?hH ?hrest))
       case hown=>exact (aF (aa om) bd).alloc _
       case hnews=>exact World.news_of_block (B:=wr.heap.size+1) (cs:=#[.string x.kind,.string x.id]) (t:=98) (fr:=(0,0)) (ag.new' _ _ _ _ (by simp))
       case hone=>
        intro u hu;simp at hu
        rcases hu with rfl|rfl<;>rfl
       case h63=>unfold maxLen;omega
       case hbytes=>omega
       case hbase=>simp;omega
       case hH=>simp
       case hrest=>
        intro g7 cap7 w7 yG oP MZ hgl7;have Rq:=ae (MV (aa Pt) (aa Mv) (aa om) oP yG);have Rs:=bd.alloc bd.size (.cells #[.string x.kind,.string x.id] 98);have K6:=(aa Mv).below Rs;have K7:ag w7 (w.heap.size+1+1+1) _ 119:=(oP.block _ K6.lt (own_ne (aF (aa om) Rs) K6 (by decide))).trans K6;have v9:=K7.cell (o:=0) rfl;have v8:=K7.fz;clear yG oP MZ Rs K6 K7;gi_wp2;go_roundw
        case rel=>exact ⟨i+1,_,by go_num,by omega,(aa Rq).1,(aa Rq).2.1,by
         have:=(aa Rq).2.2;rw [aa Rp,List.length_append,List.flatMap_append];exact this⟩
        case measure=>simp [intOf];omega
      |false=>
       rw [hb] at JP;have Rp:=ae (GG hx hb);clear hb hx;gi_wp2;go_roundw
       case rel=>exact ⟨i+1,_,by go_num,by omega,(aa Pt).trans (.of_below bd),(aa Mv).below bd,by
        rw [aa Rp];exact aF (aa om) bd⟩
       case measure=>simp [intOf];omega
     ·have hin:¬((i:Int)<(cn:Int)):=by omega
      have hie:i=cs.length:=by have:=aa Rj;omega
      have Pv:=ae (show KeepsFrom (w.heap.size+6) W wr∧Im (w.heap.size+1+1+1+1) (w.heap.size+1+1+1+1+1) W wr∧∃av,Pq ts gs cs aq (w.heap.size+1+1+1) W0 [x] wr av from by
       have kk:aS (fun k=>k=w.heap.size+1+1+1) W wr:=(aS.of_below (aa iL)).trans oO;have st:=aa HST;refine ⟨Er kk st.blk,⟨kk.size,kk.block _ (by omega) (by omega),kk.block _ (by omega) (by omega)⟩,_,⟨st.but.trans kk,hbl,(fun e=>by simp at e),fun _=>⟨K,aa Ps,?_⟩⟩⟩;rw [←hie];exact aA hrow (Nat.le_trans hWs hwl))
      clear oO hbl hrow hie;gi_wp2;exact aa Pv
 case done=>
  rintro D ys W hD rfl ⟨av,hst⟩ hK;obtain ⟨K,hrun,hown⟩:=hst.all (by simp);obtain ⟨sa,sc,rfl⟩:=ak hown;have q0:=hst.blk.cell (o:=0) rfl;have HB:=ae (qg.trans (hst.but.below (B:=w.heap.size) qg.size (fun g e=>by omega)));have HO:=ae (And.intro hrun hown);clear hst hrun hown;gi_wp2;refine ⟨by simp,.inl ⟨_,_,rfl,run_takeDeferred hK,?_⟩⟩;refine ⟨.slice sa (bn (K aq) cs cs.length).length sc,?_,_,K,rfl,(aa HB).trans (belowK_b (w:=w) (Nat.le_refl _) W D _ _ (Nat.le_trans qg.size hD) hK rfl rfl),(aa HO).1,?_⟩
  ·simp [results,Tryz.f58,go_sem]
  ·exact aA (ownsRow_putObj (aa HO).2 _ hK rfl) qg.size
 case stop=>
  rintro D cd pre W hD hpx hf hK;exact hf.elim
end Go.Proofs.YtlbpnlngckgcbaaGreatDoor
