import Derived.Test.YtlbpnlngckgcbaaGreatDoorM18
set_option linter.all false
set_option maxHeartbeats 4000000
set_option maxRecDepth 100000
namespace Go.Proofs.YtlbpnlngckgcbaaGreatDoor
open Go.RowKit Go.PlainAid Go.Shelf
attribute [local go_sem] Oper.semAt_some
theorem vz {l n:Nat} {P:Program} {w:World} {ops:Array Oper} {rest:List Oper} {o:Oper} {a:Act} {Q:Exit→Act→World→Prop} (hgd:o.guard=none) (s x:Operand) (t:TypeId)
  (ho:o.op=.call {callee:=.builtin .append,args:=#[s,x],argTypes:=#[t,t]})
  (base:Nat) (e:TypeId) (i:TypeInfo) (z:Value) (size bytes:Nat) (ht:P.underlying t=some (.slice e)) (hi:P.info? e=some i) (hz:i.zero=some z)
  (hsize:i.size=size) (hby:i.bytes=bytes) (hzs:z.cells.size=size) (hsz:0<size)
  (v:Value) (k:Nat) (xs:List Value) (hs:a.eval s=v) (hown:w.ownsRow base e size v k xs)
  (ad:Addr) (m c:Nat) (news:List Value) (hx:a.eval x=.slice (some ad) m c) (hl:news.length=m*size) (hnews:∀j u,news[j]? =some u→w.cell? (ad.add j)=some u) (h1:∀u∈news,u.oneCell'=true)
  (hm:0<m) (h63:k+m≤maxLen) (hbytes:(k+m)*bytes≤140737488355328) (hbase:base≤w.heap.size) (H:Nat) (hH:w.heap.size=H)
  (h:∀g cap w',w'.ownsRow base e size (.slice (some ⟨g,0,none⟩) (k+m) cap) (k+m) (xs++news)→w.grownBy w' v.ownBlock→(v.ownBlock=some g∨g=H)→g<w'.heap.size→wpListIn (Fence.wide.inRound l) n P ops Q rest (a.put o.dst (.slice (some ⟨g,0,none⟩) (k+m) cap)) w'):wpListIn (Fence.wide.inRound l) n P ops Q (o::rest) a w:=
 wpListIn_plain hgd fun _ hK=>zi (by rw [ho];rfl) (wp_append_lies w s x t ho base e i z size bytes ht hi hz hsize hby hzs hsz v k xs hs hown ad m c news hx hl hnews h1 hm h63 hbytes hbase H hH fun g cap w' h2 h3 h4 h5=>hK _ _ (h g cap w' h2 h3 h4 h5))
theorem Tryz.infoRu:(Tryz.prog.info? 198).map (fun i=>(i.zero,i.size,i.bytes))=some (some (.agg #[.string ⟨#[]⟩,.int .i64 0,.string ⟨#[]⟩,.nilIface]),4,56):=by kernel_rfl
theorem Tryz.infoRus:(Tryz.prog.info? 196).map (fun i=>(i.zero,i.size,i.bytes))=some (some (.slice none 0 0),1,24):=by kernel_rfl
def V8 (ts:List Ty) (x:It):Nat:=(dQ ts [(x.1.1.name,x.2.1.name)]).length
theorem wh (nd:Sp→List Sp):∀(k:Nat) (q f:List Sp),f.length≤(eU nd k q f).length
 |0,_,f=>by simp [eU]
 |k+1,[],f=>by simp [eU]
 |k+1,x::q,f=>by
  unfold eU
  split
  ·exact wh nd k _ f
  ·exact Nat.le_trans (by simp) (wh nd k _ (f++[x]))
theorem Yn (ts:List Ty) (x:It):1≤V8 ts x:=by
 unfold V8 dQ;generalize (x.1.1.name,x.2.1.name)=s;obtain ⟨k,hk⟩:∃k,fQ ts [s]+1=k+1:=⟨_,rfl⟩;rw [hk];unfold eU;rw [if_neg (by simp)];exact Nat.le_trans (by simp) (wh _ _ _ _)
theorem rk_le {b:Nat} {w:World} {sv:Value} {ts:List Ty} {tl:List (Ty×Value)} (h:MC b w sv ts tl) (x:It):V8 ts x≤1000001000001:=by
 have h1:=qd ts [(x.1.1.name,x.2.1.name)];have h2:=vW h [(x.1.1.name,x.2.1.name)] (by simp);unfold V8;omega
theorem QA {α:Type} {n j:Nat} {g g0:List (List α)} (h:g=g0++List.replicate j []) (hn:n≤g.length) (hl:g.length≤max g0.length n):g=pF n g0:=by
 subst h;unfold pF;rw [List.length_append,List.length_replicate] at hn hl;rw [show n-g0.length=j by omega]
def QB (w:World) (g:Nat):Nat:=match w.cell? ⟨g,0,none⟩ with
 |some (.slice _ n _)=>n
 |_=>0
theorem Gc {w:World} {g:Nat} {a:Option Addr} {n c:Nat} (h:w.cell? ⟨g,0,none⟩=some (.slice a n c)):QB w g=n:=by unfold QB;rw [h]
structure UT (sb:Nat) (rk:It→Nat) (W0:World) (pre:List It) (W:World) (sv:Value) (ps:List (Value×List It)):Prop where
 but:bW (fun k=>k=sb) W0 W
 blk:ai W sb #[sv] 194
 st:q8 W0.heap.size W sv ps
 snd:ps.map Prod.snd=kS rk pre
 len:ps.length≤1000001000001
 inn:∀p∈ps,p.2.length≤pre.length
theorem UT.oth {sb:Nat} {rk:It→Nat} {W0 W W':World} {pre:List It} {sv:Value} {ps:List (Value×List It)} {row:Option Nat} (h:UT sb rk W0 pre W sv ps) (hg:W.grownBy W' row) (hr:∀r,row=some r→W0.heap.size≤r∧∃o:Obj,W.heap[r]? =some o∧o.isCells=false):UT sb rk W0 pre W' sv ps:=
 ⟨⟨hg.os.trans h.but.os,hg.tape.trans h.but.tape,hg.output.trans h.but.output,Nat.le_trans h.but.size hg.size,fun k hk hs=>(hg.block k (Nat.lt_of_lt_of_le hk h.but.size) (fun e=>by have:=(hr k e.symm).1;omega)).trans (h.but.block k hk hs)⟩,
  fD (β:=Unit) W0.heap.size _ _ _ () W W' row h.blk hg hr,h.st.oth hg (fun r e=>(hr r e).2),h.snd,h.len,h.inn⟩
theorem UT.below {sb:Nat} {rk:It→Nat} {W0 W W':World} {pre:List It} {sv:Value} {ps:List (Value×List It)} (h:UT sb rk W0 pre W sv ps) (k:Below W.heap.size W W'):UT sb rk W0 pre W' sv ps:=
 ⟨h.but.trans (.of_below k),h.blk.below k,h.st.below k,h.snd,h.len,h.inn⟩
theorem zo {mP ps:List (Value×List It)} {j n:Nat} (h:mP.map Prod.snd=ps.map Prod.snd++List.replicate j []) (hl:∀p∈ps,p.2.length≤n):∀p∈mP,p.2.length≤n:=fun p hp=>by
 have h1:p.2∈mP.map Prod.snd:=List.mem_map.2 ⟨p,hp,rfl⟩;rw [h] at h1
 rcases List.mem_append.1 h1 with h1|h1
 ·obtain ⟨q,hq,e⟩:=List.mem_map.1 h1;rw [←e];exact hl q hq
 ·rw [List.eq_of_mem_replicate h1];exact Nat.zero_le _
theorem Nn {mP ps:List (Value×List It)} {N:Nat} {pv v':Value} {pl:List It} {x:It} (hN:N-1<mP.length) (hp:mP[N-1]? =some (pv,pl)) (h:mP.map Prod.snd=pF N (ps.map Prod.snd)):(mP.set (N-1) (v',pl++[x])).map Prod.snd=lD N x (ps.map Prod.snd):=by
 unfold lD;rw [List.map_set,←h]
 congr 2
 rw [List.getD_eq_getElem?_getD,List.getElem?_map,hp]
 rfl
theorem wQ {sb:Nat} {rk:It→Nat} {W0 W w3 wr w5:World} {pre:List It} {Yo pv:Value} {ps mP:List (Value×List It)} {g0 sc N g5 aD:Nat} {pl:List It} {x:It} {o:Obj} (B3:Below W.heap.size W w3) (Gf:UT sb rk W0 pre w3 Yo ps) (P7:AR sb Yo ps w3 wr (.slice (some ⟨g0,0,none⟩) mP.length sc) mP) (uO:ai wr sb #[.slice (some ⟨g0,0,none⟩) mP.length sc] 194) (Yp:q8 W0.heap.size wr (.slice (some ⟨g0,0,none⟩) mP.length sc) mP)
  (hN:N-1<mP.length) (hNN:¬mP.length<N) (HP:mP[N-1]? =some (pv,pl)) (HJ:∃j,mP.map Prod.snd=ps.map Prod.snd++List.replicate j []) (hmx:mP.length≤max ps.length N) (hN2:N≤1000001000001) (hrk:rk x=N)
  (hg:(wr.alloc o).drew.grownBy w5 pv.ownBlock) (hown:w5.ownsRow W0.heap.size 198 4 (.slice (some ⟨g5,0,none⟩) (pl.length+1) aD) (pl.length+1) (pl.flatMap OD++OD x)) (hat:pv.ownBlock=some g5∨g5=wr.heap.size+1):
  KeepsFrom W0.heap.size W (w5.setCell ⟨g0,N-1,none⟩ (.slice (some ⟨g5,0,none⟩) (pl.length+1) aD))∧CK W (w5.setCell ⟨g0,N-1,none⟩ (.slice (some ⟨g5,0,none⟩) (pl.length+1) aD))∧∃sv ps,UT sb rk W0 (pre++[x]) (w5.setCell ⟨g0,N-1,none⟩ (.slice (some ⟨g5,0,none⟩) (pl.length+1) aD)) sv ps:=by
 have ba:Below wr.heap.size wr ((wr.alloc o).drew):=((Below.refl _ wr).alloc (Nat.le_refl _) o).drew;have SI:=Yp.below ba;have hat':(pv,pl).1.ownBlock=some g5∨(wr.alloc o).drew.heap.size≤g5:=by
  rcases hat with e|e
  ·exact .inl e
  ·exact .inr (by simp;omega)
 have F:=(P7.trans (AR.below ba)).trans (AR.put (sb:=sb) (l:=pl++[x]) (cap:=aD) HP hg hat' (.slice (some ⟨g5,0,none⟩) (pl.length+1) aD));have KA:=uO.below ba;have K5:ai w5 sb _ 194:=(hg.block _ KA.lt (own_ne (SI.inn _ (List.mem_of_getElem? HP)) KA (by decide))).trans KA;obtain ⟨c1,c2⟩:=F.ck (B:=W0.heap.size) Gf.st Gf.blk;obtain ⟨j,hj⟩:=HJ;have hpad:=QA (n:=N) hj (by rw [List.length_map];omega) (by rw [List.length_map,List.length_map];exact hmx);have hps:=Gf.len;obtain ⟨cur,hb0,_⟩:=jQ SI.row;have hne:sb≠g0:=fun e=>by
  subst e;unfold ai at hb0 KA;rw [KA] at hb0;simp at hb0
 refine ⟨(gL B3).trans c1,(CK.below B3).trans c2,_,mP.set (N-1) (.slice (some ⟨g5,0,none⟩) (pl.length+1) aD,pl++[x]),⟨F.outer Gf.st Gf.but (Nat.le_refl _),K5.other hne _,?_,?_,?_,?_⟩⟩
 ·exact SI.put HP hg hown hat'
 ·rw [DV,hrk,←Gf.snd];exact Nn hN HP hpad
 ·rw [List.length_set];omega
 ·intro q hq;rw [List.length_append];have h2:=zo hj Gf.inn
  rcases List.mem_or_eq_of_mem_set hq with hq|rfl
  ·have:=h2 q hq;simp;omega
  ·have:=h2 _ (List.mem_of_getElem? HP);simp at this ⊢;omega
theorem JX {w:World} {g g':Nat} {cs cs':Array Value} {T T':TypeId} (h:ai w g cs T) (h':ai w g' cs' T') (ht:T≠T'):g≠g':=fun e=>by
 subst e;unfold ai at h h';rw [h] at h'
 cases h'
 exact ht rfl
def Yq (ts:List Ty) (b:Nat) (L:List It) (w:World) (e:Ending) (w':World):Prop:=∃v ps,e=.returned v∧Below w.heap.size w w'∧q8 w.heap.size w' v ps∧ps.map Prod.snd=kS (V8 ts) L∧ps.length≤1000001000001∧∀p∈ps,p.2.length≤L.length
theorem Np (b:Nat) (sv:Value) (ts:List Ty) (tl:List (Ty×Value)) (w:World) (h:MC b w sv ts tl) (jF:Ty×Value→List (Rl×Value)) (hF0:UC b w tl jF):
  Calls Tryz.prog 100 #[.agg #[sv]] w (Yq ts b (uq jF tl) w):=by
 obtain ⟨i0,hi0,hz0,hz1,hz2⟩:=info_parts Tryz.infoRus;obtain ⟨i1,hi1,hy0,hy1,hy2⟩:=info_parts Tryz.infoRu;obtain ⟨ma,mn,mc,rfl⟩:=h.form;refine (callsIn_wide (n:=8)).1 ?_;refine callsIn_of_wp_marks Tryz.func100 rfl trivial ?_ rfl;simp only [Tryz.ntmps100,List.size_toArray,List.length_cons,List.length_nil,Nat.reduceAdd,Nat.reduceSub,Array.replicate_succ,Array.replicate_zero,List.push_toArray,List.append_toArray,List.nil_append,List.cons_append];gi_wp2_with fail;refine ⟨trivial,(callsIn_wide.2 (nG _ _ ⟨_,_,_,rfl⟩)).mono ?_⟩;rintro e w' ⟨rfl,rfl⟩;gi_wp2_with fail;have Fx:Below w.heap.size w (((w.alloc (.cells #[.slice ma mn mc] 75)).alloc (.cells #[.slice none 0 0] 194)).alloc (.cells #[.slice ma mn mc] 75)):=(((Below.refl _ w).alloc (Nat.le_refl _) _).alloc (by simp) _).alloc (by simp;omega) _;have bX:ai (((w.alloc (.cells #[.slice ma mn mc] 75)).alloc (.cells #[.slice none 0 0] 194)).alloc (.cells #[.slice ma mn mc] 75)) w.heap.size #[.slice ma mn mc] 75:=((ai.new w _ _).alloc _).alloc _;have bS:ai (((w.alloc (.cells #[.slice ma mn mc] 75)).alloc (.cells #[.slice none 0 0] 194)).alloc (.cells #[.slice ma mn mc] 75)) (w.heap.size+1) #[.slice none 0 0] 194:=(ai.new' (w.alloc (.cells #[.slice ma mn mc] 75)) _ _ (w.heap.size+1) (by simp)).alloc _;have bM:ai (((w.alloc (.cells #[.slice ma mn mc] 75)).alloc (.cells #[.slice none 0 0] 194)).alloc (.cells #[.slice ma mn mc] 75)) (w.heap.size+1+1) #[.slice ma mn mc] 75:=ai.new' _ _ _ _ (by simp);have HM:=h.below Fx;have hF:UC b (((w.alloc (.cells #[.slice ma mn mc] 75)).alloc (.cells #[.slice none 0 0] 194)).alloc (.cells #[.slice ma mn mc] 75)) tl jF:=fun p hp=>(hF0 p hp).below Fx
 obtain ⟨W0,hW0⟩:∃W0,(((w.alloc (.cells #[.slice ma mn mc] 75)).alloc (.cells #[.slice none 0 0] 194)).alloc (.cells #[.slice ma mn mc] 75))=W0:=⟨_,rfl⟩;rw [hW0] at Fx bX bS bM HM hF ⊢;clear hW0 hF0;obtain ⟨L,hL⟩:∃L:List {x:It // AP b W0 tl x},L.map Subtype.val=uq jF tl:=uX _ _ (DK hF);have hLl:L.length≤1000000:=by
  have h1:L.length=(uq jF tl).length:=by rw [←hL,List.length_map]
  have h2:(uq jF tl).length≤tl.length*1000:=jS _ 1000 tl (fun p hp=>by have:=(hF p hp).llen;simpa using this);have h3:tl.length≤1000:=by have:=HM.llen;simpa using this
  omega
 refine wpIn_rangeFunc_ownH (F:=Fence.wide) rfl (by decide) (gf:=208) (lb:=#[.pointer (some ⟨w.heap.size+1+1,0,none⟩)]) rfl trivial (enters_of Tryz.func208 (by kernel_rfl) rfl)
  (vY b W0 _ ts tl HM jF hF _ (by decide) _ bM L hL) (fun h k=>CK.trans h k) (CK.b (w:=W0)) (Below.refl _ _) (fun _=>rfl)
  (fun pre W=>∃sv ps,UT (w.heap.size+1) (V8 ts) W0 (pre.map Subtype.val) W sv ps)
  (fun cd pre W=>False)
  (fun pre X Y row hs hg hr=>by obtain ⟨sv,ps,h⟩:=hs;exact ⟨sv,ps,h.oth hg hr⟩)
  (fun cd s X Y row hs hg hr=>hs)
  ⟨.slice none 0 0,[],⟨bW.refl _ _,bS,⟨World.ownsRow_nil _ _ _ _,(fun _ h=>by cases h),List.Pairwise.nil⟩,rfl,by simp,(fun _ h=>by cases h)⟩⟩
  (fun x a' W=>∃Bt,W0.heap.size≤Bt∧ai W Bt #[.int .i64 x.1.1.1.place,.string x.1.1.1.name,x.1.1.2] 110∧ai W (Bt+1) #[.int .i64 x.1.2.1.place,.string x.1.2.1.name,x.1.2.2] 159∧a'={tmps:=#[.agg #[.slice ma mn mc],.pointer (some ⟨w.heap.size,0,none⟩),.slice none 0 0,.pointer (some ⟨w.heap.size+1,0,none⟩),.pointer (some ⟨Bt,0,none⟩),.pointer (some ⟨Bt+1,0,none⟩),undef,.agg #[.slice ma mn mc],.func (.func 208) #[] #[.pointer (some ⟨w.heap.size+1+1,0,none⟩)],.agg #[.int .i64 x.1.1.1.place,.string x.1.1.1.name,x.1.1.2],.agg #[.int .i64 x.1.2.1.place,.string x.1.2.1.name,x.1.2.2],undef,undef,undef,undef,undef,undef,undef,undef,undef,undef,undef,undef,undef,undef,undef,undef,undef,undef,undef,undef,undef,undef,undef,undef,undef,undef,undef,undef,undef,undef,undef,undef,undef,undef,undef],defers:=[]})
  (fun x a' _ X Y row hs hg hr=>by
   obtain ⟨Bt,h1,h2,h3,h4⟩:=hs;exact ⟨Bt,h1,fD (β:=Unit) W0.heap.size _ _ _ () X Y row h2 hg hr,fD (β:=Unit) W0.heap.size _ _ _ () X Y row h3 hg hr,h4⟩)
  ?assign ?body ?done ?stop
 case assign=>
  rintro l pre x W K ⟨Yo,ps,hst⟩ hK;obtain ⟨⟨⟨t,tv⟩,⟨r,bv⟩⟩,hx⟩:=x;obtain ⟨rl,hrc,hin⟩:=hx.2;simp only at hrc hin hK;obtain ⟨va,vn,vc,rfl⟩:=hrc.form;obtain ⟨ra,rv,BD⟩:=(hrc.ex _ hin).isI;simp only at BD;subst BD;simp only [Zo];have b1:=(Below.refl _ W).alloc (Nat.le_refl _) (.cells #[.int .i64 t.place,.string t.name,.slice va vn vc] 110);have b2:=b1.alloc b1.size (.cells #[.int .i64 r.place,.string r.name,.iface ra rv] 159);have hsw:=hst.but.size;gi_wp2_with fail;exact hK _ _ (((KeepsOthers.alloc _ _).trans (KeepsOthers.alloc _ _)).from _) (CK.below b2) ⟨Yo,ps,hst.below b2⟩ ⟨W.heap.size,hsw,(ai.new W _ _).alloc _,ai.new' _ _ _ _ (by simp),rfl⟩
 case body=>
  rintro l pre x a' W hl ⟨rr,hr⟩ ⟨Yo,ps,hst⟩ ⟨Bt,hBt,bT,bL,rfl⟩ hlt;obtain ⟨⟨⟨t,tv⟩,⟨r,bv⟩⟩,hx⟩:=x;obtain ⟨rl,hrc,hin⟩:=hx.2;simp only at hrc hin bT bL;obtain ⟨va,vn,vc,rfl⟩:=hrc.form;obtain ⟨ra,rv,BD⟩:=(hrc.ex _ hin).isI;simp only at BD;subst BD;obtain ⟨t0,t1,t2⟩:=bT.three;obtain ⟨r0,r1,r2⟩:=bL.three;have x0:W.cell? ⟨w.heap.size,0,none⟩=some (.slice ma mn mc):=(hst.but.blk bX (by omega)).cell rfl;have vB:KT W0 W:=fun g cs T f hh ht=>hst.but.block g (lt_of_some hh) (fun e=>by
   subst e;unfold ai at bS;rw [bS] at hh
   cases hh
   exact absurd ht (by decide))
  have HMW:=HM.kt vB hst.but.size;have hbB:Below W.heap.size W (W.alloc (.cells #[.string t.name,.string r.name] 291)):=(Below.refl _ _).alloc (Nat.le_refl _) _;have IM:=vW HM [(t.name,r.name)] (by simp);have C:=af (qf b W.heap.size _ ts tl (.slice (some ⟨W.heap.size,0,none⟩) 1 1) [(t.name,r.name)] _ (HMW.below hbB) ⟨rfl,.inr ⟨W.heap.size,1,#[.string t.name,.string r.name],rfl,Nat.le_refl _,ai.new W _ _,by simp,by decide,rfl,rfl⟩⟩ hbB.size (by omega));have VN:=af (Yn ts ((t,.slice va vn vc),(r,.iface ra rv)));have Ao:=af (rk_le HM ((t,.slice va vn vc),(r,.iface ra rv)));change Hid (1≤(dQ ts [(t.name,r.name)]).length) at VN;change Hid ((dQ ts [(t.name,r.name)]).length≤1000001000001) at Ao;generalize hNN:(dQ ts [(t.name,r.name)]).length=N at*;have HNN:=af (show V8 ts ((t,.slice va vn vc),(r,.iface ra rv))=N from hNN);have hN1:=ae VN;have hN2:=ae Ao;have HST:=af hst;have Uw:=af bT;have HBL:=af bL;have Zp:=af hbB;have hBlt:=bL.lt;have HPL:=af (show pre.length≤1000000 by omega);clear hst hrc hin hNN IM HMW vB hbB bT bL VN Ao;gi_wp2_with fail;refine ⟨trivial,(CallsIn.inRound l (callsIn_wide.2 (ae C))).mono ?_⟩;rintro e w3 ⟨v3,rfl,hb3,hns3,aaO⟩;obtain ⟨ra3,rc3,rfl⟩:=au aaO;have B3:=af ((ae Zp).trans hb3);have Gf:=af ((ae HST).below (ae B3));have BT3:=af ((ae Uw).below (ae B3));have BL3:=af ((ae HBL).below (ae B3));clear hb3 hns3 aaO C HST Uw HBL t0 t1 t2 r0 r1 r2 x0;gi_wp2_with fail
  gi_loopw [22] (fun u wr=>∃IK mP,AR (w.heap.size+1) Yo ps w3 wr IK mP∧ai wr (w.heap.size+1) #[IK] 194∧q8 W0.heap.size wr IK mP∧Hid (∃j,mP.map Prod.snd=ps.map Prod.snd++List.replicate j [])∧mP.length≤max ps.length N) (fun u wr=>N-QB wr (w.heap.size+1))
  case atStart=>exact ⟨Yo,ps,AR.below (Below.refl _ _),(ae Gf).blk,(ae Gf).st,af ⟨0,by simp⟩,by omega⟩
  case round=>
   obtain ⟨IK,mP,Fb,hbk,Nq,HJ,hmx⟩:=hrel;obtain ⟨sa,sc,rfl⟩:=au Nq.row;have s0:wr.cell? ⟨w.heap.size+1,0,none⟩=some (.slice sa mP.length sc):=hbk.cell rfl;have sz:=hbk.fz;have hps:=(ae Gf).len;have hw0:W0.heap.size≤wr.heap.size:=by have:=(ae Gf).but.size;have:=Fb.but.size;omega
   have P7:=af Fb;have uO:=af hbk;have Yp:=af Nq;have hsbl:=hbk.lt
   by_cases uF:mP.length<N
   ·have hcn:(mP.length:Int)<(N:Int):=by omega
    have hl2:mP.length≤1000001000001:=by omega
    have HME:=af (Gc s0);clear Fb hbk Nq;gi_wp2_with (gi_at_builtin;go_must (refine vz rfl _ _ 194 rfl W0.heap.size 196 i0 _ 1 24 Tryz.underlying194 hi0 hz0 hz1 hz2 rfl (by decide) (.slice sa mP.length sc) mP.length (mP.map Prod.fst) rfl ?hown ⟨wr.heap.size,0,none⟩ 1 1 [.slice none 0 0] rfl rfl ?hnews ?hone (by decide) ?h63 ?hbytes ?hbase (wr.heap.size+1) ?hH ?hrest))
    case hown=>exact (ae Yp).row.alloc _
    case hnews=>exact World.news_of_block (B:=wr.heap.size) (cs:=#[.slice none 0 0]) (t:=196) (fr:=(0,0)) (ai.new _ _ _)
    case hone=>
     intro u hu;simp at hu;subst hu
     rfl
    case h63=>unfold maxLen;omega
    case hbytes=>omega
    case hbase=>simp;omega
    case hH=>simp
    case hrest=>
     intro g5 aD w5 aC aj aP di;have b5:=(Below.refl wr.heap.size wr).alloc (Nat.le_refl _) (.cells #[.slice none 0 0] 196);have SI5:=(ae Yp).below b5;have KA:=(ae uO).below b5;have K5:ai w5 (w.heap.size+1) _ 194:=(aj.block _ KA.lt (own_ne SI5.row KA (by decide))).trans KA;have q0:=K5.cell (o:=0) rfl;have qz:=K5.fz;have nV:(Value.slice sa mP.length sc).ownBlock=some g5∨(wr.alloc (.cells #[.slice none 0 0] 196)).heap.size≤g5:=by
      rcases aP with e|e
      ·exact .inl e
      ·exact .inr (by simp;omega)
     have HFRN:=af (((ae P7).trans (AR.below b5)).trans (AR.push (sb:=w.heap.size+1) (cap:=aD) SI5 aj nV (.slice (some ⟨g5,0,none⟩) (mP.length+1) aD)));have HSIN:=af ((SI5.push aj aC).set K5 (by decide) (by decide) 0 (.slice (some ⟨g5,0,none⟩) (mP.length+1) aD));have HBKN:=af (K5.set 0 (.slice (some ⟨g5,0,none⟩) (mP.length+1) aD));have HMN:=af (Gc ((K5.set 0 (.slice (some ⟨g5,0,none⟩) (mP.length+1) aD)).cell (o:=0) rfl));clear b5 SI5 KA K5 nV aP aC aj s0 sz;gi_wp2;go_roundw
     case rel=>exact ⟨_,_,ae HFRN,ae HBKN,ae HSIN,by
      obtain ⟨j,hj⟩:=ae HJ;exact af ⟨j+1,by rw [List.map_append,hj,List.replicate_succ'];simp⟩,by simp;omega⟩
     case measure=>
      rw [ae HMN,ae HME];omega
   ·have hcn:¬((mP.length:Int)<(N:Int)):=by omega
    have hil:N-1<mP.length:=by omega
    obtain ⟨g0,c0,e0,k7⟩:=aK Nq.row (N-1) _ (by rw [List.getElem?_map,List.getElem?_eq_getElem hil];rfl);simp only [Value.slice.injEq,true_and] at e0;obtain ⟨rfl,rfl⟩:=e0;have HP:=af (List.getElem?_eq_getElem hil);have UV:=Nq.inn _ (List.getElem_mem hil);generalize mP[N-1]=p at*;obtain ⟨pv,pl⟩:=p;simp only at k7 UV;obtain ⟨pa,pc,rfl⟩:=au UV;have Zq:=af UV;have hsW:=bS.lt;have bT:=Fb.but.blk (ae BT3) (fun e=>e.elim (fun e=>by omega) ((ae Gf).st.off (ae BT3) (by decide) (by decide)));have bL:=Fb.but.blk (ae BL3) (fun e=>e.elim (fun e=>by omega) ((ae Gf).st.off (ae BL3) (by decide) (by decide)));obtain ⟨t0,t1,t2⟩:=bT.three;obtain ⟨r0,r1,r2⟩:=bL.three;have hsub:(N:Int)-1=((N-1:Nat):Int):=by omega
    have hwr:IntKind.i64.wrap ((N-1:Nat):Int)=((N-1:Nat):Int):=IntWalk.i64_in _ ⟨by omega,by omega⟩;have hin0:(0:Int)≤((N-1:Nat):Int):=by omega
    have hin1:((N-1:Nat):Int)<(mP.length:Int):=by omega
    have bT':=bT;have bL':=bL;clear Fb hbk Nq UV bT bL;gi_wp2_with fail;refine DW (S:=fun w'=>w'.cell? ⟨w.heap.size+1,0,none⟩=some (.slice (some ⟨g0,0,none⟩) mP.length sc)∧w'.cell? ⟨Bt,1,none⟩=some (.string t.name)∧w'.cell? ⟨Bt+1,0,none⟩=some (.int .i64 r.place)∧w'.cell? ⟨Bt+1,1,none⟩=some (.string r.name)∧w'.cell? ⟨Bt+1,2,none⟩=some (.iface ra rv)) (by kernel_rfl) (by kernel_rfl) ⟨s0,t1,r0,r1,r2⟩ (fun hH=> ?_);refine wpAnyH_take (i:=0) (v:= ?v0) rfl (by kernel_rfl) (by kernel_rfl) (by kernel_rfl) (fun _ _ _ h=>by cases h.1) (Or.inl ⟨by rfl,?y0⟩) hH ?r0
    case y0=>
     intro w' hSw;obtain ⟨k0,k1,k2,k3,k4⟩:=hSw
     go_simp
     all_goals with_reducible rfl
    simp only [Act.put,List.getElem_toArray,List.getElem_cons_zero,List.getElem_cons_succ,List.setIfInBounds_toArray,List.set_cons_zero,List.set_cons_succ];refine wpAnyH_take (i:=1) (v:= ?v1) rfl (by kernel_rfl) (by kernel_rfl) (by kernel_rfl) (fun _ _ _ h=>by cases h.1) (Or.inl ⟨by rfl,?y1⟩) hH ?r1
    case y1=>
     intro w' hSw;obtain ⟨k0,k1,k2,k3,k4⟩:=hSw
     go_simp
     all_goals with_reducible rfl
    simp only [Act.put,List.getElem_toArray,List.getElem_cons_zero,List.getElem_cons_succ,List.setIfInBounds_toArray,List.set_cons_zero,List.set_cons_succ];refine wpAnyH_take (i:=2) (v:= ?v2) rfl (by kernel_rfl) (by kernel_rfl) (by kernel_rfl) (fun _ _ _ h=>by cases h.1) (Or.inl ⟨by rfl,?y2⟩) hH ?r2
    case y2=>
     intro w' hSw;obtain ⟨k0,k1,k2,k3,k4⟩:=hSw
     go_simp
     all_goals with_reducible rfl
    simp only [Act.put,List.getElem_toArray,List.getElem_cons_zero,List.getElem_cons_succ,List.setIfInBounds_toArray,List.set_cons_zero,List.set_cons_succ];refine wpAnyH_take (i:=3) (v:= ?v3) rfl (by kernel_rfl) (by kernel_rfl) (by kernel_rfl) (fun _ _ _ h=>by cases h.1) (Or.inl ⟨by rfl,?y3⟩) hH ?r3
    case y3=>
     intro w' hSw;obtain ⟨k0,k1,k2,k3,k4⟩:=hSw
     go_simp
     all_goals with_reducible rfl
    simp only [Act.put,List.getElem_toArray,List.getElem_cons_zero,List.getElem_cons_succ,List.setIfInBounds_toArray,List.set_cons_zero,List.set_cons_succ];refine wpAnyH_take (i:=4) (v:= ?v4) rfl (by kernel_rfl) (by kernel_rfl) (by kernel_rfl) (fun _ _ _ h=>by cases h.1) (Or.inl ⟨by rfl,?y4⟩) hH ?r4
    case y4=>
     intro w' hSw;obtain ⟨k0,k1,k2,k3,k4⟩:=hSw
     go_simp
     all_goals with_reducible rfl
    simp only [Act.put,List.getElem_toArray,List.getElem_cons_zero,List.getElem_cons_succ,List.setIfInBounds_toArray,List.set_cons_zero,List.set_cons_succ];refine wpAnyH_take (i:=5) (v:= ?v5) rfl (by kernel_rfl) (by kernel_rfl) (by kernel_rfl) (fun _ _ _ h=>by cases h.1) (Or.inl ⟨by rfl,?y5⟩) hH ?r5
    case y5=>
     intro w' hSw;obtain ⟨k0,k1,k2,k3,k4⟩:=hSw
     go_simp
     all_goals with_reducible rfl
    simp only [Act.put,List.getElem_toArray,List.getElem_cons_zero,List.getElem_cons_succ,List.setIfInBounds_toArray,List.set_cons_zero,List.set_cons_succ];refine wpAnyH_take (i:=6) (v:= ?v6) rfl (by kernel_rfl) (by kernel_rfl) (by kernel_rfl) (fun _ _ _ h=>by cases h.1) (Or.inl ⟨by rfl,?y6⟩) hH ?r6
    case y6=>
     intro w' hSw;obtain ⟨k0,k1,k2,k3,k4⟩:=hSw
     go_simp
     all_goals with_reducible rfl
    simp only [Act.put,List.getElem_toArray,List.getElem_cons_zero,List.getElem_cons_succ,List.setIfInBounds_toArray,List.set_cons_zero,List.set_cons_succ];refine wpAnyH_take (i:=8) (v:= ?v8) rfl (by kernel_rfl) (by kernel_rfl) (by kernel_rfl) (fun _ _ _ h=>by cases h.1) (Or.inl ⟨by rfl,?y8⟩) hH ?r8
    case y8=>
     intro w' hSw;obtain ⟨k0,k1,k2,k3,k4⟩:=hSw
     go_simp
     all_goals with_reducible rfl
    simp only [Act.put,List.getElem_toArray,List.getElem_cons_zero,List.getElem_cons_succ,List.setIfInBounds_toArray,List.set_cons_zero,List.set_cons_succ];refine wpAnyH_take (i:=9) (v:= ?v9) rfl (by kernel_rfl) (by kernel_rfl) (by kernel_rfl) (fun _ _ _ h=>by cases h.1) (Or.inl ⟨by rfl,?y9⟩) hH ?r9
    case y9=>
     intro w' hSw;obtain ⟨k0,k1,k2,k3,k4⟩:=hSw
     go_simp
     all_goals with_reducible rfl
    simp only [Act.put,List.getElem_toArray,List.getElem_cons_zero,List.getElem_cons_succ,List.setIfInBounds_toArray,List.set_cons_zero,List.set_cons_succ];refine wpAnyH_take (i:=10) (v:= ?v10) rfl (by kernel_rfl) (by kernel_rfl) (by kernel_rfl) (fun _ _ _ h=>by cases h.1) (Or.inl ⟨by rfl,?y10⟩) hH ?r10
    case y10=>
     intro w' hSw;obtain ⟨k0,k1,k2,k3,k4⟩:=hSw
     go_simp
     all_goals with_reducible rfl
    simp only [Act.put,List.getElem_toArray,List.getElem_cons_zero,List.getElem_cons_succ,List.setIfInBounds_toArray,List.set_cons_zero,List.set_cons_succ];refine wpAnyH_take (i:=11) (v:= ?v11) rfl (by kernel_rfl) (by kernel_rfl) (by kernel_rfl) (fun _ _ _ h=>by cases h.1) (Or.inl ⟨by rfl,?y11⟩) hH ?r11
    case y11=>
     intro w' hSw;obtain ⟨k0,k1,k2,k3,k4⟩:=hSw
     go_simp
     all_goals with_reducible rfl
    simp only [Act.put,List.getElem_toArray,List.getElem_cons_zero,List.getElem_cons_succ,List.setIfInBounds_toArray,List.set_cons_zero,List.set_cons_succ];refine wpAnyH_take (i:=12) (v:= ?v12) rfl (by kernel_rfl) (by kernel_rfl) (by kernel_rfl) (fun _ _ _ h=>by cases h.1) (Or.inl ⟨by rfl,?y12⟩) hH ?r12
    case y12=>
     intro w' hSw;obtain ⟨k0,k1,k2,k3,k4⟩:=hSw
     go_simp
     all_goals with_reducible rfl
    simp only [Act.put,List.getElem_toArray,List.getElem_cons_zero,List.getElem_cons_succ,List.setIfInBounds_toArray,List.set_cons_zero,List.set_cons_succ];have Cf:Below wr.heap.size wr (wr.alloc (.cells #[.string t.name,.int .i64 r.place,.string r.name,.iface ra rv] 198)).drew:=((Below.refl _ wr).alloc (Nat.le_refl _) _).drew;have Sd:Below wr.drew.heap.size wr.drew (wr.alloc (.cells #[.string t.name,.int .i64 r.place,.string r.name,.iface ra rv] 198)).drew:=⟨Cf.os,Cf.tape,Cf.output,Cf.size,Cf.block⟩;have DX:=ay (ae Zq) Cf;have HNW:=World.news_of_block (B:=wr.heap.size) (cs:=#[.string t.name,.int .i64 r.place,.string r.name,.iface ra rv]) (t:=198) (fr:=(0,0)) (ai.new wr _ _).drew;have rM:∀u∈OD ((t,.slice va vn vc),(r,.iface ra rv)),u.oneCell'=true:=by
     intro u hu;simp only [OD,List.mem_cons,List.not_mem_nil,or_false] at hu
     rcases hu with rfl|rfl|rfl|rfl<;>rfl
    have hpl:pl.length≤1000000:=by
     obtain ⟨j,hj⟩:=ae HJ;have:=zo hj (ae Gf).inn _ (List.mem_of_getElem? (ae HP));have:=ae HPL;simp at*;omega
    have Dy:pl.length+1≤maxLen:=by unfold maxLen;omega
    have AC:(pl.length+1)*56≤140737488355328:=by omega
    have HBS:W0.heap.size≤(wr.alloc (.cells #[.string t.name,.int .i64 r.place,.string r.name,.iface ra rv] 198)).drew.heap.size:=Nat.le_trans hw0 Cf.size;have HHS:(wr.alloc (.cells #[.string t.name,.int .i64 r.place,.string r.name,.iface ra rv] 198)).drew.heap.size=wr.heap.size+1:=by simp
    obtain ⟨cur0,hb0,_⟩:=jQ (ay (ae Yp).row Cf);have QC:=hb0;have E0:=JX ((ae uO).below Cf) QC (by decide);have E1:=JX (bT'.below Cf) QC (by decide);have E2:=JX (bL'.below Cf) QC (by decide);have HN0:=own_ne DX ((ae uO).below Cf) (by decide);have VN:=own_ne DX (bT'.below Cf) (by decide);have Nr:=own_ne DX (bL'.below Cf) (by decide);refine wpAnyH_ready (rs:=[7,13]) (by kernel_rfl) (by simp) (AllReadyH.cons rfl (fun K hK=> ?b7) (AllReadyH.cons rfl (fun K hK=> ?b13) AllReadyH.nil))
    case b7=>
     try simp only [List.getElem_toArray,List.getElem_cons_zero,List.getElem_cons_succ]
     go_simp
     refine hK.out _ _ hH (fun hH=> ?_);clear hK K
     try simp only [Act.put,List.getElem_toArray,List.getElem_cons_zero,List.getElem_cons_succ,List.setIfInBounds_toArray,List.set_cons_zero,List.set_cons_succ]
     refine wpAnyH_ready (rs:=[13]) (by kernel_rfl) (by simp) (AllReadyH.cons rfl (fun K hK=> ?_) AllReadyH.nil)
     try simp only [List.getElem_toArray,List.getElem_cons_zero,List.getElem_cons_succ]
     go_simp
     refine hK.out _ _ (by obtain ⟨k0,k1,k2,k3,k4⟩:=hH;exact ⟨ag k0 Sd,ag k1 Sd,ag k2 Sd,ag k3 Sd,ag k4 Sd⟩) (fun hH=> ?_);clear hK K
     try simp only [Act.put,List.getElem_toArray,List.getElem_cons_zero,List.getElem_cons_succ,List.setIfInBounds_toArray,List.set_cons_zero,List.set_cons_succ]
     refine wpAnyH_ready (rs:=[14]) (by kernel_rfl) (by simp) (AllReadyH.cons rfl (fun K hK=> ?_) AllReadyH.nil);refine step_append_lies _ rfl (.tmp 36) (.tmp 42) 196 rfl W0.heap.size 198 i1 _ 4 56 Tryz.underlying196 hi1 hy0 hy1 hy2 rfl (by decide) (.slice pa pl.length pc) pl.length (pl.flatMap OD) (by simp [Act.eval,Act.put]) DX ⟨wr.heap.size,0,none⟩ 1 1 (OD ((t,.slice va vn vc),(r,.iface ra rv))) (by simp [Act.eval,Act.put]) rfl HNW rM (by decide) Dy AC HBS (wr.heap.size+1) HHS ?_;intro g5 aD w5 aC aj aP di;have xw:w5.cell? ⟨w.heap.size+1,0,none⟩=some (.slice (some ⟨g0,0,none⟩) mP.length sc)∧w5.cell? ⟨Bt,1,none⟩=some (.string t.name)∧w5.cell? ⟨Bt+1,0,none⟩=some (.int .i64 r.place)∧w5.cell? ⟨Bt+1,1,none⟩=some (.string r.name)∧w5.cell? ⟨Bt+1,2,none⟩=some (.iface ra rv):=by
      obtain ⟨k0,k1,k2,k3,k4⟩:=hH;exact ⟨aj.cell k0 HN0,aj.cell k1 VN,aj.cell k2 Nr,aj.cell k3 Nr,aj.cell k4 Nr⟩
     refine hK.out _ _ xw (fun hH=> ?_);clear hK K
     try simp only [Act.put,List.getElem_toArray,List.getElem_cons_zero,List.getElem_cons_succ,List.setIfInBounds_toArray,List.set_cons_zero,List.set_cons_succ]
     refine wpAnyH_take (i:=15) (v:= ?v15a) rfl (by kernel_rfl) (by kernel_rfl) (by kernel_rfl) (fun _ _ _ h=>by cases h.1) (Or.inl ⟨by rfl,?y15a⟩) hH ?r15a
     case y15a=>
      intro w' hSw;obtain ⟨k0,k1,k2,k3,k4⟩:=hSw
      go_simp
      all_goals with_reducible rfl
     simp only [Act.put,List.getElem_toArray,List.getElem_cons_zero,List.getElem_cons_succ,List.setIfInBounds_toArray,List.set_cons_zero,List.set_cons_succ];have hBg:∃cur,ai w5 g0 cur 196:=⟨_,(aj.block g0 QC.lt (own_ne DX QC (by decide))).trans QC⟩;obtain ⟨cur5,hBg⟩:=hBg;have hz5:=hBg.fz;have q7:w5.cell? ⟨g0,N-1,none⟩=some (.slice pa pl.length pc):=aj.cell (ag k7 Cf) (own_ne DX QC (by decide));refine wpAnyH_ready (rs:=[16]) (by kernel_rfl) (by simp) (AllReadyH.cons rfl (fun K hK=> ?_) AllReadyH.nil)
     try simp only [List.getElem_toArray,List.getElem_cons_zero,List.getElem_cons_succ]
     go_simp
     refine hK.out _ _ ?hS6a (fun _=> ?_)
     case hS6a=>
      obtain ⟨k0,k1,k2,k3,k4⟩:=xw;have hh:∀(g o:Nat) (v u:Value),g≠g0→w5.cell? ⟨g,o,none⟩=some v→(w5.setCell ⟨g0,N-1,none⟩ u).cell? ⟨g,o,none⟩=some v:=fun g o v u hg hv=>(World.cell?_of_block (w:=w5) (Below.heap_setCell _ _ _ _ hg)).trans hv
      exact ⟨hh _ _ _ _ E0 k0,hh _ _ _ _ E1 k1,hh _ _ _ _ E2 k2,hh _ _ _ _ E2 k3,hh _ _ _ _ E2 k4⟩
     clear hK K;refine wpAnyH_done (by kernel_rfl) ?_ _;refine ⟨rfl,?_⟩;have hfin:=wQ (ae B3) (ae Gf) (ae P7) (ae uO) (ae Yp) hil uF (ae HP) (ae HJ) hmx hN2 (ae HNN) aj aC aP;rw [show List.map Subtype.val pre++[((t,Value.slice va vn vc),(r,Value.iface ra rv))]=List.map Subtype.val (pre++[⟨((t,Value.slice va vn vc),(r,Value.iface ra rv)),hx⟩]) by simp] at hfin;exact hfin
    case b13=>
     try simp only [List.getElem_toArray,List.getElem_cons_zero,List.getElem_cons_succ]
     go_simp
     refine hK.out _ _ (by obtain ⟨k0,k1,k2,k3,k4⟩:=hH;exact ⟨ag k0 Sd,ag k1 Sd,ag k2 Sd,ag k3 Sd,ag k4 Sd⟩) (fun hH=> ?_);clear hK K
     try simp only [Act.put,List.getElem_toArray,List.getElem_cons_zero,List.getElem_cons_succ,List.setIfInBounds_toArray,List.set_cons_zero,List.set_cons_succ]
     refine wpAnyH_ready (rs:=[7]) (by kernel_rfl) (by simp) (AllReadyH.cons rfl (fun K hK=> ?_) AllReadyH.nil);have k7':=ag k7 Cf
     try simp only [List.getElem_toArray,List.getElem_cons_zero,List.getElem_cons_succ]
     go_simp
     refine hK.out _ _ hH (fun hH=> ?_);clear hK K
     try simp only [Act.put,List.getElem_toArray,List.getElem_cons_zero,List.getElem_cons_succ,List.setIfInBounds_toArray,List.set_cons_zero,List.set_cons_succ]
     refine wpAnyH_ready (rs:=[14]) (by kernel_rfl) (by simp) (AllReadyH.cons rfl (fun K hK=> ?_) AllReadyH.nil);refine step_append_lies _ rfl (.tmp 36) (.tmp 42) 196 rfl W0.heap.size 198 i1 _ 4 56 Tryz.underlying196 hi1 hy0 hy1 hy2 rfl (by decide) (.slice pa pl.length pc) pl.length (pl.flatMap OD) (by simp [Act.eval,Act.put]) DX ⟨wr.heap.size,0,none⟩ 1 1 (OD ((t,.slice va vn vc),(r,.iface ra rv))) (by simp [Act.eval,Act.put]) rfl HNW rM (by decide) Dy AC HBS (wr.heap.size+1) HHS ?_;intro g5 aD w5 aC aj aP di;have xw:w5.cell? ⟨w.heap.size+1,0,none⟩=some (.slice (some ⟨g0,0,none⟩) mP.length sc)∧w5.cell? ⟨Bt,1,none⟩=some (.string t.name)∧w5.cell? ⟨Bt+1,0,none⟩=some (.int .i64 r.place)∧w5.cell? ⟨Bt+1,1,none⟩=some (.string r.name)∧w5.cell? ⟨Bt+1,2,none⟩=some (.iface ra rv):=by
      obtain ⟨k0,k1,k2,k3,k4⟩:=hH;exact ⟨aj.cell k0 HN0,aj.cell k1 VN,aj.cell k2 Nr,aj.cell k3 Nr,aj.cell k4 Nr⟩
     refine hK.out _ _ xw (fun hH=> ?_);clear hK K
     try simp only [Act.put,List.getElem_toArray,List.getElem_cons_zero,List.getElem_cons_succ,List.setIfInBounds_toArray,List.set_cons_zero,List.set_cons_succ]
     refine wpAnyH_take (i:=15) (v:= ?v15b) rfl (by kernel_rfl) (by kernel_rfl) (by kernel_rfl) (fun _ _ _ h=>by cases h.1) (Or.inl ⟨by rfl,?y15b⟩) hH ?r15b
     case y15b=>
      intro w' hSw;obtain ⟨k0,k1,k2,k3,k4⟩:=hSw
      go_simp
      all_goals with_reducible rfl
     simp only [Act.put,List.getElem_toArray,List.getElem_cons_zero,List.getElem_cons_succ,List.setIfInBounds_toArray,List.set_cons_zero,List.set_cons_succ];have hBg:∃cur,ai w5 g0 cur 196:=⟨_,(aj.block g0 QC.lt (own_ne DX QC (by decide))).trans QC⟩;obtain ⟨cur5,hBg⟩:=hBg;have hz5:=hBg.fz;have q7:w5.cell? ⟨g0,N-1,none⟩=some (.slice pa pl.length pc):=aj.cell (ag k7 Cf) (own_ne DX QC (by decide));refine wpAnyH_ready (rs:=[16]) (by kernel_rfl) (by simp) (AllReadyH.cons rfl (fun K hK=> ?_) AllReadyH.nil)
     try simp only [List.getElem_toArray,List.getElem_cons_zero,List.getElem_cons_succ]
     go_simp
     refine hK.out _ _ ?hS6b (fun _=> ?_)
     case hS6b=>
      obtain ⟨k0,k1,k2,k3,k4⟩:=xw;have hh:∀(g o:Nat) (v u:Value),g≠g0→w5.cell? ⟨g,o,none⟩=some v→(w5.setCell ⟨g0,N-1,none⟩ u).cell? ⟨g,o,none⟩=some v:=fun g o v u hg hv=>(World.cell?_of_block (w:=w5) (Below.heap_setCell _ _ _ _ hg)).trans hv
      exact ⟨hh _ _ _ _ E0 k0,hh _ _ _ _ E1 k1,hh _ _ _ _ E2 k2,hh _ _ _ _ E2 k3,hh _ _ _ _ E2 k4⟩
     clear hK K;refine wpAnyH_done (by kernel_rfl) ?_ _;refine ⟨rfl,?_⟩;have hfin:=wQ (ae B3) (ae Gf) (ae P7) (ae uO) (ae Yp) hil uF (ae HP) (ae HJ) hmx hN2 (ae HNN) aj aC aP;rw [show List.map Subtype.val pre++[((t,Value.slice va vn vc),(r,Value.iface ra rv))]=List.map Subtype.val (pre++[⟨((t,Value.slice va vn vc),(r,Value.iface ra rv)),hx⟩]) by simp] at hfin;exact hfin
 case done=>
  rintro D ys W hD rfl ⟨IK,ps,hst⟩ hK;obtain ⟨sa,sc,rfl⟩:=au hst.st.row;have q0:W.cell? ⟨w.heap.size+1,0,none⟩=some (.slice sa ps.length sc):=hst.blk.cell rfl;have HST:=af hst;have HB:=af (Fx.trans (hst.but.below (B:=w.heap.size) Fx.size (fun g e=>by omega)));clear hst;gi_wp2;refine ⟨by simp,.inl ⟨_,_,rfl,run_takeDeferred hK,?_⟩⟩;refine ⟨.slice sa ps.length sc,?_,_,ps,rfl,(ae HB).trans (belowK_b (w:=w) (Nat.le_refl _) W D _ _ (Nat.le_trans Fx.size hD) hK rfl rfl),(((ae HST).st.oth (grownBy_putObj' _ D (.deferred none)) (fun r e=>by cases e;exact ⟨_,hK,rfl⟩)).base Fx.size),by rw [←hL];exact (ae HST).snd,(ae HST).len,fun p hp=>by have:=(ae HST).inn p hp;rw [←hL];exact this⟩;simp [results,Tryz.f100,go_sem]
 case stop=>
  rintro D cd pre W hD hpx hf hK;exact hf.elim
end Go.Proofs.YtlbpnlngckgcbaaGreatDoor
namespace Go.Proofs.YtlbpnlngckgcbaaGreatDoor
open Go.RowKit Go.PlainAid
def OfC (LX:List Ty→Value→World→Prop):Prop:=∀(bm:Nat) (sv:Value) (ts:List Ty) (tl:List (Ty×Value)) (w:World),MC bm w sv ts tl→Calls Tryz.prog 59 #[.agg #[sv]] w fun e w'=>∃la ln lc,e=.returned (.agg #[.slice la ln lc])∧Below w.heap.size w w'∧LX ts (.slice la ln lc) w'
structure Yr (LX:List Ty→Value→World→Prop):Prop where
 below:∀ts lv w w',LX ts lv w→Below w.heap.size w w'→LX ts lv w'
 set:∀ts lv w g cs o u,LX ts lv w→ai w g cs 117→LX ts lv (w.setCell ⟨g,o,none⟩ u)
theorem Ns (o:Option Nat) (c:Nat) (w:World) (hg:Laid w):∃p:Nat,Calls Tryz.prog 41 #[Yc (o,c)] w fun e w'=>e=.returned (.tuple #[.int .i64 c,.int .i64 p])∧Below w.heap.size w w':=by
 cases o with
 |none=>exact ⟨0,ze c w hg⟩
 |some p=>exact ⟨p,FW p c w hg⟩
theorem Cg (b:Nat) (s:aei) (w:World) (o:Option Nat) (c:Nat) (hr:kW s=.error (o,c)) (hc:c≠0) (hg:Laid w):
  Calls Tryz.prog 27 #[.pointer (some ⟨b,0,none⟩),.string s] w fun e w'=>e=.returned (.int .i64 c)∧Below w.heap.size w w':=by
 have C:=af (FH s w);rw [hr] at C;have HG:=af hg;have hl:=hg.lt;have hc':((c:Int)==0)=false:=by rw [beq_eq_false_iff_ne];omega
 have hc2:((c:Int) != 0)=true:=bne_iff_ne.2 (by omega);have HT:=af (fun w' (k:Below w.heap.size w w')=>Ns o c w' ((ae HG).below k hl));obtain ⟨ev,hev⟩:∃ev,ev=Yc (o,c):=⟨_,rfl⟩;have hif:∃ty v,ev=.iface ty v:=by
  rw [hev]
  cases o with
  |none=>exact ⟨_,_,rfl⟩
  |some p=>exact ⟨_,_,rfl⟩
 obtain ⟨ety,evv,rfl⟩:=hif;have HEV:=af hev;clear hr hg hev;go_enter Tryz.func27,Tryz.ntmps27;go_wp2_with fail;refine (ae C).mono ?_;rintro e w2 ⟨hb2,rfl⟩;rw [←ae HEV];have B2x:=af (hb2.alloc hb2.size (.cells #[.slice none 0 0] 75));obtain ⟨p,hp⟩:=ae HT _ (ae B2x);rw [←ae HEV] at hp;have D:=af hp;clear hb2 C hp HT;go_wp2_with fail;refine (ae D).mono ?_;rintro e w3 ⟨rfl,hb3⟩;have B3:=af ((ae B2x).trans (hb3.mono (ae B2x).size));clear hb3;go_wp2;go_ret;exact ⟨rfl,ae B3⟩
def Yt (LX:List Ty→Value→World→Prop) (b:Nat) (ts:List Ty) (w:World) (e:Ending) (w':World):Prop:=∃mv lv bm tl,e=.returned (.int .i64 0)∧PU w' b mv lv (.slice none 0 0) []∧MC bm w' mv ts tl∧LX ts lv w'∧bW (fun k=>k=b) w w'
theorem Gg (LX:List Ty→Value→World→Prop) (hO:OfC LX) (hLX:Yr LX) (b:Nat) (s:aei) (w:World) (mv lv gv:Value) (hU:ai w b #[mv,lv,gv] 117) (ts:List Ty) (hr:kW s=.ok ts) (hg:Laid w):
  Calls Tryz.prog 27 #[.pointer (some ⟨b,0,none⟩),.string s] w (Yt LX b ts w):=by
 have C:=af (FH s w);rw [hr] at C;have HU:=af hU;have HO:=af hO;have HLX:=af hLX;have hbl:=hU.lt;clear hr hg hU hO hLX;go_enter Tryz.func27,Tryz.ntmps27;go_wp2_with fail;refine (ae C).mono ?_;rintro e w2 ⟨hb2,sv,tl,bm,rfl,JI⟩;obtain ⟨ma,mn,mc,rfl⟩:=JI.form;have B2:=af (hb2.alloc hb2.size (.cells #[.slice ma mn mc] 75));have MB:=af (ai.new w2 #[.slice ma mn mc] 75);have M2:=af (JI.below ((Below.refl _ _).alloc aeg (.cells #[.slice ma mn mc] 75)));have hne:¬(w2.heap.size=b):=by have:=hb2.size;omega
 have fT:¬(b=w2.heap.size):=by have:=hb2.size;omega
 clear hb2 JI C;go_wp2_with fail;refine (FV _).mono ?_;rintro e w3 ⟨rfl,hb3⟩;have B3:=af ((ae B2).trans (hb3.mono (ae B2).size));have k0:w3.cell? ⟨w2.heap.size,0,none⟩=some (.slice ma mn mc):=((ae MB).below hb3).cell rfl;have M3:=af ((ae M2).below hb3);have U3:=af ((ae HU).below (ae B3));clear hb3 B2 M2 MB;go_wp2_with fail;have D:=af (ae HO bm _ ts tl w3.drew ((ae M3).below (Below.refl _ w3).drew));have l3:=(ae B3).size;clear HO
 go_region_held3 (fun w'=>w'.cell? ⟨w2.heap.size,0,none⟩=some (.slice ma mn mc)) (go_keep)
  ((go_at_call 59;refine (ae D).mono ?_;rintro e w4 ⟨la,ln,lc,rfl,hb4,Ew⟩;have BB:=af (show Below w3.heap.size w3 w4 from (Below.refl _ w3).drew.trans hb4);have d0:=ag k0 (ae BB);have U4:=af ((ae U3).below (ae BB));obtain ⟨x0,x1,x2⟩:=three (ae U4);have xz:=(ae U4).fz;have M4:=af ((ae M3).below (ae BB));have X4:=af Ew;clear hb4 Ew))
 have B4:=af ((ae B3).trans ((ae BB).mono l3));go_wp2;go_ret;have u1:=(ae U4).set 0 (.slice ma mn mc);have u2:=u1.set 1 (.slice la ln lc);have u3:=u2.set 2 (.slice none 0 0);have nT:¬(117=207∨117=159∨117=110):=by decide
 have kt:=((KT.set (ae U4) nT 0 (.slice ma mn mc)).trans (KT.set u1 nT 1 (.slice la ln lc))).trans (KT.set u2 nT 2 (.slice none 0 0));refine ⟨.slice ma mn mc,.slice la ln lc,bm,tl,rfl,⟨u3,World.ownsRow_nil _ _ _ _,fun g n c e=>by simp at e,by simp⟩,(ae M4).kt kt (by simp),(ae HLX).set _ _ _ _ _ _ _ ((ae HLX).set _ _ _ _ _ _ _ ((ae HLX).set _ _ _ _ _ _ _ (ae X4) (ae U4)) u1) u2,(((bW.of_below (ae B4)).set (show (fun k=>k=b) (⟨b,0,none⟩:Addr).block from rfl) _).set (show (fun k=>k=b) (⟨b,1,none⟩:Addr).block from rfl) _).set (show (fun k=>k=b) (⟨b,2,none⟩:Addr).block from rfl) _⟩
theorem Lx {α:Type} {n:Nat} {g:List (List α)} {l:List α} (h:l∈pF n g):l∈g∨l=[]:=by
 unfold pF at h
 rcases List.mem_append.1 h with h|h
 ·exact .inl h
 ·exact .inr (List.eq_of_mem_replicate h)
theorem Nt {α:Type} {n:Nat} {x:α} {g:List (List α)} {l:List α} (h:l∈lD n x g) (y:α) (hy:y∈l):y=x∨∃l'∈g,y∈l':=by
 unfold lD at h
 rcases List.mem_or_eq_of_mem_set h with h|rfl
 ·rcases Lx h with h|rfl
  ·exact .inr ⟨l,h,hy⟩
  ·simp at hy
 ·rcases List.mem_append.1 hy with hy|hy
  ·rw [List.getD_eq_getElem?_getD] at hy
   cases he:(pF n g)[n-1]? with
   |none=>rw [he] at hy;simp at hy
   |some l'=>
    rw [he] at hy
    rcases Lx (List.mem_of_getElem? he) with h|rfl
    ·exact .inr ⟨l',h,hy⟩
    ·simp at hy
  ·exact .inl (by simpa using hy)
theorem Nu {α:Type} (rk:α→Nat) (l0:List α):∀g0:List (List α),∀l∈l0.foldl (fun g x=>lD (rk x) x g) g0,∀y∈l,y∈l0∨∃l'∈g0,y∈l':=by
 induction l0 with
 |nil=>intro g0 l hl y hy;exact .inr ⟨l,hl,hy⟩
 |cons x l0 ih=>
  intro g0 l hl y hy
  rcases ih _ l hl y hy with h|⟨l',h1,h2⟩
  ·exact .inl (List.mem_cons_of_mem _ h)
  ·rcases Nt h1 y h2 with h|h
   ·exact .inl (by rw [h];exact List.mem_cons_self)
   ·exact .inr h
theorem Gh {α:Type} {rk:α→Nat} {l0:List α} {l:List α} (h:l∈kS rk l0) {y:α} (hy:y∈l):y∈l0:=by
 rcases Nu rk l0 [] l h y hy with h|⟨l',h,_⟩
 ·exact h
 ·simp at h
theorem Nv {α β:Type} (f:α→β) (n:Nat) (x:α) (g:List (List α)):(lD n x g).map (List.map f)=lD n (f x) (g.map (List.map f)):=by
 have e:(pF n g).map (List.map f)=pF n (g.map (List.map f)):=by unfold pF;simp
 unfold lD;rw [List.map_set,e,List.map_append,←e]
 congr 2
 rw [List.getD_eq_getElem?_getD,List.getD_eq_getElem?_getD,List.getElem?_map]
 cases (pF n g)[n-1]? <;>simp
theorem Nw {α β:Type} (f:α→β) (rk:β→Nat) (l:List α):(kS (fun x=>rk (f x)) l).map (List.map f)=kS rk (l.map f):=by
 have key:∀(l:List α) (g:List (List α)),(l.foldl (fun g x=>lD (rk (f x)) x g) g).map (List.map f)=(l.map f).foldl (fun g x=>lD (rk x) x g) (g.map (List.map f)):=by
  intro l
  induction l with
  |nil=>intro g;rfl
  |cons x l ih=>intro g;rw [List.foldl_cons,ih,Nv,List.map_cons,List.foldl_cons]
 exact key l []
abbrev TR:=Ty×Rl
def JY (ts:List Ty):List TR:=ts.flatMap fun t=>t.rels.map fun r=>(t,r)
def rkR (ts:List Ty) (x:TR):Nat:=(dQ ts [(x.1.name,x.2.name)]).length
def Zr (x:It):TR:=(x.1.1,x.2.1)
def LA (ts:List Ty):List (List TR):=kS (rkR ts) (JY ts)
theorem Ch {b:Nat} {w:World} {jF:Ty×Value→List (Rl×Value)}:∀{tl:List (Ty×Value)},UC b w tl jF→(uq jF tl).map Zr=JY (tl.map Prod.fst)
 | [],_=>rfl
 |p::tl,h=>by
  have ih:=Ch (tl:=tl) (fun q hq=>h q (by simp [hq]));have e:(uq jF (p::tl))=((jF p).map fun q=>(p,q))++uq jF tl:=by simp [uq]
  rw [e,List.map_append,ih,List.map_cons];have hr:=(h p (by simp)).fst;unfold JY;rw [List.flatMap_cons,←hr];simp [Zr]
theorem Ny {b:Nat} {w:World} {jF:Ty×Value→List (Rl×Value)} {ts:List Ty} {tl:List (Ty×Value)} (h:UC b w tl jF) (hf:tl.map Prod.fst=ts):(kS (V8 ts) (uq jF tl)).map (List.map Zr)=LA ts:=by
 have:=Nw Zr (rkR ts) (uq jF tl);rw [Ch h,hf] at this;exact this
def lnC (p:It×Value):List Value:=[.string p.1.1.1.name,.string p.1.2.1.name,p.2]
structure Gi (base:Nat) (w:World) (v:Value) (ls:List (It×Value)):Prop where
 row:w.ownsRow base 201 3 v ls.length (ls.flatMap lnC)
 ins:∀p∈ls,w.ownsRow base 298 3 p.2 (vw p.1.2.1.name p.1.2.1.body).length ((vw p.1.2.1.name p.1.2.1.body).flatMap JV)
structure LB (base:Nat) (w:World) (v:Value) (qs:List (Value×List (It×Value))):Prop where
 row:w.ownsRow base 190 1 v qs.length (qs.map Prod.fst)
 grp:∀q∈qs,Gi base w q.1 q.2
def LT (T:TypeId):Prop:=T=190∨T=201∨T=298
section
variable {base base':Nat} {w w':World} {v:Value}
theorem Gi.frame {ls:List (It×Value)} (h:Gi base w v ls) (k:∀(g:Nat) (cs:Array Value) (T:TypeId) (f:Nat×Nat),w.heap[g]? =some (Obj.cells cs T f)→LT T→w'.heap[g]? =w.heap[g]?):Gi base w' v ls:=
 ⟨ak h.row (fun g cs f _ hh=>k g cs _ f hh (.inr (.inl rfl))),fun p hp=>ak (h.ins p hp) (fun g cs f _ hh=>k g cs _ f hh (.inr (.inr rfl)))⟩
theorem LB.frame {qs:List (Value×List (It×Value))} (h:LB base w v qs) (k:∀(g:Nat) (cs:Array Value) (T:TypeId) (f:Nat×Nat),w.heap[g]? =some (Obj.cells cs T f)→LT T→w'.heap[g]? =w.heap[g]?):LB base w' v qs:=
 ⟨ak h.row (fun g cs f _ hh=>k g cs _ f hh (.inl rfl)),fun q hq=>(h.grp q hq).frame k⟩
theorem Gi.below {ls:List (It×Value)} (h:Gi base w v ls) (k:Below w.heap.size w w'):Gi base w' v ls:=h.frame (fun g cs T f hh _=>k.block g (lt_of_some hh))
theorem LB.below {qs:List (Value×List (It×Value))} (h:LB base w v qs) (k:Below w.heap.size w w'):LB base w' v qs:=h.frame (fun g cs T f hh _=>k.block g (lt_of_some hh))
theorem Gi.lower {ls:List (It×Value)} (h:Gi base w v ls) (hb:base'≤base):Gi base' w v ls:=⟨aO h.row hb,fun p hp=>aO (h.ins p hp) hb⟩
theorem LB.lower {qs:List (Value×List (It×Value))} (h:LB base w v qs) (hb:base'≤base):LB base' w v qs:=⟨aO h.row hb,fun q hq=>(h.grp q hq).lower hb⟩
theorem Yu {g:Nat} {cs:Array Value} {T:TypeId} (hb:ai w g cs T) (ht:¬LT T) (o:Nat) (u:Value):∀(g':Nat) (cs':Array Value) (T':TypeId) (f:Nat×Nat),w.heap[g']? =some (Obj.cells cs' T' f)→LT T'→(w.setCell ⟨g,o,none⟩ u).heap[g']? =w.heap[g']? :=fun g' cs' T' f hh ht'=>Below.heap_setCell _ _ _ _ (fun (e:g'=g)=>by
 subst e;unfold ai at hb;rw [hb] at hh
 cases hh
 exact ht ht')
theorem Gi.push {ls:List (It×Value)} {x:It} {iv v':Value} (h:Gi base w v ls) (hg:w.grownBy w' v.ownBlock) (hown:w'.ownsRow base 201 3 v' (ls.length+1) (ls.flatMap lnC++lnC (x,iv))) (hi:w.ownsRow base 298 3 iv (vw x.2.1.name x.2.1.body).length ((vw x.2.1.name x.2.1.body).flatMap JV)):Gi base w' v' (ls++[(x,iv)]):=by
 refine ⟨by simpa using hown,fun p hp=> ?_⟩;have k:∀(g:Nat) (cs:Array Value) (f:Nat×Nat),base≤g→w.heap[g]? =some (.cells cs 298 f)→w'.heap[g]? =w.heap[g]? :=fun g cs f _ hh=>hg.block g (lt_of_some hh) (cO h.row hh (by decide))
 rcases List.mem_append.1 hp with hp|hp
 ·exact ak (h.ins p hp) k
 ·rw [List.mem_singleton] at hp;subst hp;exact ak hi k
theorem LB.push {qs:List (Value×List (It×Value))} {gv v':Value} {ls:List (It×Value)} (h:LB base w v qs) (hg:w.grownBy w' v.ownBlock) (hown:w'.ownsRow base 190 1 v' (qs.length+1) (qs.map Prod.fst++[gv])) (hi:Gi base w gv ls):LB base w' v' (qs++[(gv,ls)]):=by
 have k:∀q:Value×List (It×Value),Gi base w q.1 q.2→Gi base w' q.1 q.2:=fun q hq=>
  ⟨ak hq.row (fun g cs f _ hh=>hg.block g (lt_of_some hh) (cO h.row hh (by decide))),fun p hp=>ak (hq.ins p hp) (fun g cs f _ hh=>hg.block g (lt_of_some hh) (cO h.row hh (by decide)))⟩
 refine ⟨by simpa using hown,fun q hq=> ?_⟩
 rcases List.mem_append.1 hq with hq|hq
 ·exact k q (h.grp q hq)
 ·rw [List.mem_singleton] at hq;subst hq;exact k _ hi
end
def LXp (ts:List Ty) (lv:Value) (w:World):Prop:=∃qs,LB 0 w lv qs∧qs.map (fun q=>q.2.map fun p=>Zr p.1)=LA ts∧qs.length≤1000001000001∧∀q∈qs,q.2.length≤1000000
theorem QD:Yr LXp where
 below:=fun ts lv w w' ⟨qs,h1,h2⟩ k=>⟨qs,h1.below k,h2⟩
 set:=fun ts lv w g cs o u ⟨qs,h1,h2⟩ hb=>⟨qs,h1.frame (Yu hb (by unfold LT;decide) o u),h2⟩
theorem Tryz.infoLn:(Tryz.prog.info? 201).map (fun i=>(i.zero,i.size,i.bytes))=some (some (.agg #[.string ⟨#[]⟩,.string ⟨#[]⟩,.slice none 0 0]),3,56):=by kernel_rfl
theorem Tryz.infoLns:(Tryz.prog.info? 190).map (fun i=>(i.zero,i.size,i.bytes))=some (some (.slice none 0 0),1,24):=by kernel_rfl
