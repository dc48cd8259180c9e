import Derived.Test.YtlbpnlngckgcbaaGreatDoorM23
set_option linter.all false
set_option maxHeartbeats 4000000
set_option maxRecDepth 100000
namespace Go.Proofs.YtlbpnlngckgcbaaGreatDoor
open Go.RowKit Go.PlainAid Go.Shelf
attribute [local go_sem] Oper.semAt_some
theorem iZ {l n:Nat} {P:Program} {w:World} {ops:Array Oper} {rest:List Oper} {o:Oper} {a:Act} {Q:Exit→Act→World→Prop} (hgd:o.guard=none) (s x:Operand) (t:TypeId)
  (ho:o.op=.call {callee:=.builtin .append,args:=#[s,x],argTypes:=#[t,t]})
  (base:Nat) (e:TypeId) (i:TypeInfo) (z:Value) (size bytes:Nat) (ht:P.underlying t=some (.slice e)) (hi:P.info? e=some i) (hz:i.zero=some z)
  (hsize:i.size=size) (hby:i.bytes=bytes) (hzs:z.cells.size=size) (hsz:0<size)
  (v:Value) (k:Nat) (xs:List Value) (hs:a.eval s=v) (hown:w.ownsRow base e size v k xs)
  (ad:Addr) (m c:Nat) (news:List Value) (hx:a.eval x=.slice (some ad) m c) (hl:news.length=m*size) (hnews:∀j u,news[j]? =some u→w.cell? (ad.add j)=some u) (h1:∀u∈news,u.oneCell'=true)
  (hm:0<m) (h63:k+m≤maxLen) (hbytes:(k+m)*bytes≤140737488355328) (hbase:base≤w.heap.size) (H:Nat) (hH:w.heap.size=H)
  (h:∀g cap w',w'.ownsRow base e size (.slice (some ⟨g,0,none⟩) (k+m) cap) (k+m) (xs++news)→w.grownBy w' v.ownBlock→(v.ownBlock=some g∨g=H)→g<w'.heap.size→wpListIn (Fence.wide.inRound l) n P ops Q rest (a.put o.dst (.slice (some ⟨g,0,none⟩) (k+m) cap)) w'):wpListIn (Fence.wide.inRound l) n P ops Q (o::rest) a w:=
 wpListIn_plain hgd fun _ hK=>rH (by rw [ho];rfl) (wp_append_lies w s x t ho base e i z size bytes ht hi hz hsize hby hzs hsz v k xs hs hown ad m c news hx hl hnews h1 hm h63 hbytes hbase H hH fun g cap w' h2 h3 h4 h5=>hK _ _ (h g cap w' h2 h3 h4 h5))
theorem Tryz.infoRu:(Tryz.prog.info? 198).map (fun i=>(i.zero,i.size,i.bytes))=some (some (.agg #[.string ⟨#[]⟩,.int .i64 0,.string ⟨#[]⟩,.nilIface]),4,56):=by kernel_rfl
theorem Tryz.infoRus:(Tryz.prog.info? 196).map (fun i=>(i.zero,i.size,i.bytes))=some (some (.slice none 0 0),1,24):=by kernel_rfl
def KI (ts:List Ty) (x:It):Nat:=(dm ts [(x.1.1.name,x.2.1.name)]).length
theorem oJ (nd:Sp→List Sp):∀(k:Nat) (q f:List Sp),f.length≤(dK nd k q f).length
 |0,_,f=>by simp [dK]
 |k+1,[],f=>by simp [dK]
 |k+1,x::q,f=>by
  unfold dK
  split
  ·exact oJ nd k _ f
  ·exact Nat.le_trans (by simp) (oJ nd k _ (f++[x]))
theorem Mq (ts:List Ty) (x:It):1≤KI ts x:=by
 unfold KI dm;generalize (x.1.1.name,x.2.1.name)=s;obtain ⟨k,hk⟩:∃k,dL ts [s]+1=k+1:=⟨_,rfl⟩;rw [hk];unfold dK;rw [if_neg (by simp)];exact Nat.le_trans (by simp) (oJ _ _ _ _)
theorem rk_le {b:Nat} {w:World} {sv:Value} {ts:List Ty} {tl:List (Ty×Value)} (h:MC b w sv ts tl) (x:It):KI ts x≤1000001000001:=by
 have h1:=kD ts [(x.1.1.name,x.2.1.name)];have h2:=oz h [(x.1.1.name,x.2.1.name)] (by simp);unfold KI;omega
theorem Gi {α:Type} {n j:Nat} {g g0:List (List α)} (h:g=g0++List.replicate j []) (hn:n≤g.length) (hl:g.length≤max g0.length n):g=jX n g0:=by
 subst h;unfold jX;rw [List.length_append,List.length_replicate] at hn hl;rw [show n-g0.length=j by omega]
def Gj (w:World) (g:Nat):Nat:=match w.cell? ⟨g,0,none⟩ with
 |some (.slice _ n _)=>n
 |_=>0
theorem yg {w:World} {g:Nat} {a:Option Addr} {n c:Nat} (h:w.cell? ⟨g,0,none⟩=some (.slice a n c)):Gj w g=n:=by unfold Gj;rw [h]
structure JE (sb:Nat) (rk:It→Nat) (W0:World) (pre:List It) (W:World) (sv:Value) (ps:List (Value×List It)):Prop where
 but:aS (fun k=>k=sb) W0 W
 blk:ag W sb #[sv] 194
 st:kZ W0.heap.size W sv ps
 snd:ps.map Prod.snd=gI rk pre
 len:ps.length≤1000001000001
 inn:∀p∈ps,p.2.length≤pre.length
theorem JE.oth {sb:Nat} {rk:It→Nat} {W0 W W':World} {pre:List It} {sv:Value} {ps:List (Value×List It)} {row:Option Nat} (h:JE sb rk W0 pre W sv ps) (hg:W.grownBy W' row) (hr:∀r,row=some r→W0.heap.size≤r∧∃o:Obj,W.heap[r]? =some o∧o.isCells=false):JE sb rk W0 pre W' sv ps:=
 ⟨⟨hg.os.trans h.but.os,hg.tape.trans h.but.tape,hg.output.trans h.but.output,Nat.le_trans h.but.size hg.size,fun k hk hs=>(hg.block k (Nat.lt_of_lt_of_le hk h.but.size) (fun e=>by have:=(hr k e.symm).1;omega)).trans (h.but.block k hk hs)⟩,
  bV (β:=Unit) W0.heap.size _ _ _ () W W' row h.blk hg hr,h.st.oth hg (fun r e=>(hr r e).2),h.snd,h.len,h.inn⟩
theorem JE.below {sb:Nat} {rk:It→Nat} {W0 W W':World} {pre:List It} {sv:Value} {ps:List (Value×List It)} (h:JE sb rk W0 pre W sv ps) (k:Below W.heap.size W W'):JE sb rk W0 pre W' sv ps:=
 ⟨h.but.trans (.of_below k),h.blk.below k,h.st.below k,h.snd,h.len,h.inn⟩
theorem rJ {iM ps:List (Value×List It)} {j n:Nat} (h:iM.map Prod.snd=ps.map Prod.snd++List.replicate j []) (hl:∀p∈ps,p.2.length≤n):∀p∈iM,p.2.length≤n:=fun p hp=>by
 have h1:p.2∈iM.map Prod.snd:=List.mem_map.2 ⟨p,hp,rfl⟩;rw [h] at h1
 rcases List.mem_append.1 h1 with h1|h1
 ·obtain ⟨q,hq,e⟩:=List.mem_map.1 h1;rw [←e];exact hl q hq
 ·rw [List.eq_of_mem_replicate h1];exact Nat.zero_le _
theorem DY {iM ps:List (Value×List It)} {N:Nat} {pv v':Value} {pl:List It} {x:It} (hN:N-1<iM.length) (hp:iM[N-1]? =some (pv,pl)) (h:iM.map Prod.snd=jX N (ps.map Prod.snd)):(iM.set (N-1) (v',pl++[x])).map Prod.snd=gW N x (ps.map Prod.snd):=by
 unfold gW;rw [List.map_set,←h]
 congr 2
 rw [List.getD_eq_getElem?_getD,List.getElem?_map,hp]
 rfl
theorem pG {sb:Nat} {rk:It→Nat} {W0 W w3 wr w5:World} {pre:List It} {Mr pv:Value} {ps iM:List (Value×List It)} {g0 sc N g5 bu:Nat} {pl:List It} {x:It} {o:Obj} (B3:Below W.heap.size W w3) (yh:JE sb rk W0 pre w3 Mr ps) (O9:sJ sb Mr ps w3 wr (.slice (some ⟨g0,0,none⟩) iM.length sc) iM) (Dv:ag wr sb #[.slice (some ⟨g0,0,none⟩) iM.length sc] 194) (Ms:kZ W0.heap.size wr (.slice (some ⟨g0,0,none⟩) iM.length sc) iM)
  (hN:N-1<iM.length) (Q3:¬iM.length<N) (HP:iM[N-1]? =some (pv,pl)) (HJ:∃j,iM.map Prod.snd=ps.map Prod.snd++List.replicate j []) (hmx:iM.length≤max ps.length N) (Q4:N≤1000001000001) (hrk:rk x=N)
  (hg:(wr.alloc o).drew.grownBy w5 pv.ownBlock) (hown:w5.ownsRow W0.heap.size 198 4 (.slice (some ⟨g5,0,none⟩) (pl.length+1) bu) (pl.length+1) (pl.flatMap EN++EN x)) (hat:pv.ownBlock=some g5∨g5=wr.heap.size+1):
  KeepsFrom W0.heap.size W (w5.setCell ⟨g0,N-1,none⟩ (.slice (some ⟨g5,0,none⟩) (pl.length+1) bu))∧CK W (w5.setCell ⟨g0,N-1,none⟩ (.slice (some ⟨g5,0,none⟩) (pl.length+1) bu))∧∃sv ps,JE sb rk W0 (pre++[x]) (w5.setCell ⟨g0,N-1,none⟩ (.slice (some ⟨g5,0,none⟩) (pl.length+1) bu)) sv ps:=by
 have ba:Below wr.heap.size wr ((wr.alloc o).drew):=((Below.refl _ wr).alloc (Nat.le_refl _) o).drew;have SI:=Ms.below ba;have hat':(pv,pl).1.ownBlock=some g5∨(wr.alloc o).drew.heap.size≤g5:=by
  rcases hat with e|e
  ·exact .inl e
  ·exact .inr (by simp;omega)
 have F:=(O9.trans (sJ.below ba)).trans (sJ.put (sb:=sb) (l:=pl++[x]) (cap:=bu) HP hg hat' (.slice (some ⟨g5,0,none⟩) (pl.length+1) bu));have KA:=Dv.below ba;have K5:ag w5 sb _ 194:=(hg.block _ KA.lt (own_ne (SI.inn _ (List.mem_of_getElem? HP)) KA (by decide))).trans KA;obtain ⟨c1,c2⟩:=F.ck (B:=W0.heap.size) yh.st yh.blk;obtain ⟨j,hj⟩:=HJ;have hpad:=Gi (n:=N) hj (by rw [List.length_map];omega) (by rw [List.length_map,List.length_map];exact hmx);have hps:=yh.len;obtain ⟨cur,hb0,_⟩:=dS SI.row;have hne:sb≠g0:=fun e=>by
  subst e;unfold ag at hb0 KA;rw [KA] at hb0;simp at hb0
 refine ⟨(dO B3).trans c1,(CK.below B3).trans c2,_,iM.set (N-1) (.slice (some ⟨g5,0,none⟩) (pl.length+1) bu,pl++[x]),⟨F.outer yh.st yh.but (Nat.le_refl _),K5.other hne _,?_,?_,?_,?_⟩⟩
 ·exact SI.put HP hg hown hat'
 ·rw [vG,hrk,←yh.snd];exact DY hN HP hpad
 ·rw [List.length_set];omega
 ·intro q hq;rw [List.length_append];have h2:=rJ hj yh.inn
  rcases List.mem_or_eq_of_mem_set hq with hq|rfl
  ·have:=h2 q hq;simp;omega
  ·have:=h2 _ (List.mem_of_getElem? HP);simp at this ⊢;omega
theorem Aq {w:World} {g g':Nat} {cs cs':Array Value} {T T':TypeId} (h:ag w g cs T) (h':ag w g' cs' T') (ht:T≠T'):g≠g':=fun e=>by
 subst e;unfold ag at h h';rw [h] at h'
 cases h'
 exact ht rfl
def Mt (ts:List Ty) (b:Nat) (L:List It) (w:World) (e:Ending) (w':World):Prop:=∃v ps,e=.returned v∧Below w.heap.size w w'∧kZ w.heap.size w' v ps∧ps.map Prod.snd=gI (KI ts) L∧ps.length≤1000001000001∧∀p∈ps,p.2.length≤L.length
theorem DZ (b:Nat) (sv:Value) (ts:List Ty) (tl:List (Ty×Value)) (w:World) (h:MC b w sv ts tl) (fo:Ty×Value→List (Rl×Value)) (hF0:Jh b w tl fo):
  Calls Tryz.prog 100 #[.agg #[sv]] w (Mt ts b (ng fo tl) w):=by
 obtain ⟨i0,hi0,hz0,hz1,hz2⟩:=info_parts Tryz.infoRus;obtain ⟨i1,hi1,hy0,hy1,hy2⟩:=info_parts Tryz.infoRu;obtain ⟨ma,mn,mc,rfl⟩:=h.form;refine (callsIn_wide (n:=8)).1 ?_;refine callsIn_of_wp_marks Tryz.func100 rfl trivial ?_ rfl;simp only [Tryz.ntmps100,List.size_toArray,List.length_cons,List.length_nil,Nat.reduceAdd,Nat.reduceSub,Array.replicate_succ,Array.replicate_zero,List.push_toArray,List.append_toArray,List.nil_append,List.cons_append];gi_wp2_with fail;refine ⟨trivial,(callsIn_wide.2 (jo _ _ ⟨_,_,_,rfl⟩)).mono ?_⟩;rintro e w' ⟨rfl,rfl⟩;gi_wp2_with fail;have qg:Below w.heap.size w (((w.alloc (.cells #[.slice ma mn mc] 75)).alloc (.cells #[.slice none 0 0] 194)).alloc (.cells #[.slice ma mn mc] 75)):=(((Below.refl _ w).alloc (Nat.le_refl _) _).alloc (by simp) _).alloc (by simp;omega) _;have bX:ag (((w.alloc (.cells #[.slice ma mn mc] 75)).alloc (.cells #[.slice none 0 0] 194)).alloc (.cells #[.slice ma mn mc] 75)) w.heap.size #[.slice ma mn mc] 75:=((ag.new w _ _).alloc _).alloc _;have bS:ag (((w.alloc (.cells #[.slice ma mn mc] 75)).alloc (.cells #[.slice none 0 0] 194)).alloc (.cells #[.slice ma mn mc] 75)) (w.heap.size+1) #[.slice none 0 0] 194:=(ag.new' (w.alloc (.cells #[.slice ma mn mc] 75)) _ _ (w.heap.size+1) (by simp)).alloc _;have bM:ag (((w.alloc (.cells #[.slice ma mn mc] 75)).alloc (.cells #[.slice none 0 0] 194)).alloc (.cells #[.slice ma mn mc] 75)) (w.heap.size+1+1) #[.slice ma mn mc] 75:=ag.new' _ _ _ _ (by simp);have HM:=h.below qg;have hF:Jh b (((w.alloc (.cells #[.slice ma mn mc] 75)).alloc (.cells #[.slice none 0 0] 194)).alloc (.cells #[.slice ma mn mc] 75)) tl fo:=fun p hp=>(hF0 p hp).below qg
 obtain ⟨W0,hW0⟩:∃W0,(((w.alloc (.cells #[.slice ma mn mc] 75)).alloc (.cells #[.slice none 0 0] 194)).alloc (.cells #[.slice ma mn mc] 75))=W0:=⟨_,rfl⟩;rw [hW0] at qg bX bS bM HM hF ⊢;clear hW0 hF0;obtain ⟨L,hL⟩:∃L:List {x:It // sH b W0 tl x},L.map Subtype.val=ng fo tl:=nM _ _ (vz hF);have hLl:L.length≤1000000:=by
  have h1:L.length=(ng fo tl).length:=by rw [←hL,List.length_map]
  have h2:(ng fo tl).length≤tl.length*1000:=fH _ 1000 tl (fun p hp=>by have:=(hF p hp).llen;simpa using this);have h3:tl.length≤1000:=by have:=HM.llen;simpa using this
  omega
 refine wpIn_rangeFunc_ownH (F:=Fence.wide) rfl (by decide) (gf:=208) (lb:=#[.pointer (some ⟨w.heap.size+1+1,0,none⟩)]) rfl trivial (enters_of Tryz.func208 (by kernel_rfl) rfl)
  (oD b W0 _ ts tl HM fo hF _ (by decide) _ bM L hL) (fun h k=>CK.trans h k) (CK.b (w:=W0)) (Below.refl _ _) (fun _=>rfl)
  (fun pre W=>∃sv ps,JE (w.heap.size+1) (KI ts) W0 (pre.map Subtype.val) W sv ps)
  (fun cd pre W=>False)
  (fun pre X Y row hs hg hr=>by obtain ⟨sv,ps,h⟩:=hs;exact ⟨sv,ps,h.oth hg hr⟩)
  (fun cd s X Y row hs hg hr=>hs)
  ⟨.slice none 0 0,[],⟨aS.refl _ _,bS,⟨World.ownsRow_nil _ _ _ _,(fun _ h=>by cases h),List.Pairwise.nil⟩,rfl,by simp,(fun _ h=>by cases h)⟩⟩
  (fun x a' W=>∃Bt,W0.heap.size≤Bt∧ag W Bt #[.int .i64 x.1.1.1.place,.string x.1.1.1.name,x.1.1.2] 110∧ag W (Bt+1) #[.int .i64 x.1.2.1.place,.string x.1.2.1.name,x.1.2.2] 159∧a'={tmps:=#[.agg #[.slice ma mn mc],.pointer (some ⟨w.heap.size,0,none⟩),.slice none 0 0,.pointer (some ⟨w.heap.size+1,0,none⟩),.pointer (some ⟨Bt,0,none⟩),.pointer (some ⟨Bt+1,0,none⟩),undef,.agg #[.slice ma mn mc],.func (.func 208) #[] #[.pointer (some ⟨w.heap.size+1+1,0,none⟩)],.agg #[.int .i64 x.1.1.1.place,.string x.1.1.1.name,x.1.1.2],.agg #[.int .i64 x.1.2.1.place,.string x.1.2.1.name,x.1.2.2],undef,undef,undef,undef,undef,undef,undef,undef,undef,undef,undef,undef,undef,undef,undef,undef,undef,undef,undef,undef,undef,undef,undef,undef,undef,undef,undef,undef,undef,undef,undef,undef,undef,undef,undef],defers:=[]})
  (fun x a' _ X Y row hs hg hr=>by
   obtain ⟨Bt,h1,h2,h3,h4⟩:=hs;exact ⟨Bt,h1,bV (β:=Unit) W0.heap.size _ _ _ () X Y row h2 hg hr,bV (β:=Unit) W0.heap.size _ _ _ () X Y row h3 hg hr,h4⟩)
  ?assign ?body ?done ?stop
 case assign=>
  rintro l pre x W K ⟨Mr,ps,hst⟩ hK;obtain ⟨⟨⟨t,tv⟩,⟨r,bv⟩⟩,hx⟩:=x;obtain ⟨rl,hrc,hin⟩:=hx.2;simp only at hrc hin hK;obtain ⟨va,vn,vc,rfl⟩:=hrc.form;obtain ⟨ra,rv,tN⟩:=(hrc.ex _ hin).isI;simp only at tN;subst tN;simp only [Nu];have b1:=(Below.refl _ W).alloc (Nat.le_refl _) (.cells #[.int .i64 t.place,.string t.name,.slice va vn vc] 110);have b2:=b1.alloc b1.size (.cells #[.int .i64 r.place,.string r.name,.iface ra rv] 159);have hsw:=hst.but.size;gi_wp2_with fail;exact hK _ _ (((KeepsOthers.alloc _ _).trans (KeepsOthers.alloc _ _)).from _) (CK.below b2) ⟨Mr,ps,hst.below b2⟩ ⟨W.heap.size,hsw,(ag.new W _ _).alloc _,ag.new' _ _ _ _ (by simp),rfl⟩
 case body=>
  rintro l pre x a' W hl ⟨rr,hr⟩ ⟨Mr,ps,hst⟩ ⟨Bt,hBt,bT,bL,rfl⟩ hlt;obtain ⟨⟨⟨t,tv⟩,⟨r,bv⟩⟩,hx⟩:=x;obtain ⟨rl,hrc,hin⟩:=hx.2;simp only at hrc hin bT bL;obtain ⟨va,vn,vc,rfl⟩:=hrc.form;obtain ⟨ra,rv,tN⟩:=(hrc.ex _ hin).isI;simp only at tN;subst tN;obtain ⟨t0,t1,t2⟩:=bT.three;obtain ⟨r0,r1,r2⟩:=bL.three;have x0:W.cell? ⟨w.heap.size,0,none⟩=some (.slice ma mn mc):=(hst.but.blk bX (by omega)).cell rfl;have Ar:KT W0 W:=fun g cs T f hh ht=>hst.but.block g (lt_of_some hh) (fun e=>by
   subst e;unfold ag at bS;rw [bS] at hh
   cases hh
   exact absurd ht (by decide))
  have HMW:=HM.kt Ar hst.but.size;have Qd:Below W.heap.size W (W.alloc (.cells #[.string t.name,.string r.name] 291)):=(Below.refl _ _).alloc (Nat.le_refl _) _;have QW:=oz HM [(t.name,r.name)] (by simp);have C:=ae (kE b W.heap.size _ ts tl (.slice (some ⟨W.heap.size,0,none⟩) 1 1) [(t.name,r.name)] _ (HMW.below Qd) ⟨rfl,.inr ⟨W.heap.size,1,#[.string t.name,.string r.name],rfl,Nat.le_refl _,ag.new W _ _,by simp,by decide,rfl,rfl⟩⟩ Qd.size (by omega));have Bg:=ae (Mq ts ((t,.slice va vn vc),(r,.iface ra rv)));have IE:=ae (rk_le HM ((t,.slice va vn vc),(r,.iface ra rv)));change Hid (1≤(dm ts [(t.name,r.name)]).length) at Bg;change Hid ((dm ts [(t.name,r.name)]).length≤1000001000001) at IE;generalize Q3:(dm ts [(t.name,r.name)]).length=N at*;have Qe:=ae (show KI ts ((t,.slice va vn vc),(r,.iface ra rv))=N from Q3);have hN1:=aa Bg;have Q4:=aa IE;have HST:=ae hst;have JF:=ae bT;have Mv:=ae bL;have Qf:=ae Qd;have hBlt:=bL.lt;have HPL:=ae (show pre.length≤1000000 by omega);clear hst hrc hin Q3 QW HMW Ar Qd bT bL Bg IE;gi_wp2_with fail;refine ⟨trivial,(CallsIn.inRound l (callsIn_wide.2 (aa C))).mono ?_⟩;rintro e w3 ⟨v3,rfl,hb3,hns3,Pb⟩;obtain ⟨ra3,rc3,rfl⟩:=ak Pb;have B3:=ae ((aa Qf).trans hb3);have yh:=ae ((aa HST).below (aa B3));have BT3:=ae ((aa JF).below (aa B3));have BL3:=ae ((aa Mv).below (aa B3));clear hb3 hns3 Pb C HST JF Mv t0 t1 t2 r0 r1 r2 x0;gi_wp2_with fail
  gi_loopw [22] (fun u wr=>∃yX iM,sJ (w.heap.size+1) Mr ps w3 wr yX iM∧ag wr (w.heap.size+1) #[yX] 194∧kZ W0.heap.size wr yX iM∧Hid (∃j,iM.map Prod.snd=ps.map Prod.snd++List.replicate j [])∧iM.length≤max ps.length N) (fun u wr=>N-Gj wr (w.heap.size+1))
  case atStart=>exact ⟨Mr,ps,sJ.below (Below.refl _ _),(aa yh).blk,(aa yh).st,ae ⟨0,by simp⟩,by omega⟩
  case round=>
   obtain ⟨yX,iM,Fx,hbk,D5,HJ,hmx⟩:=hrel;obtain ⟨sa,sc,rfl⟩:=ak D5.row;have s0:wr.cell? ⟨w.heap.size+1,0,none⟩=some (.slice sa iM.length sc):=hbk.cell rfl;have sz:=hbk.fz;have hps:=(aa yh).len;have hw0:W0.heap.size≤wr.heap.size:=by have:=(aa yh).but.size;have:=Fx.but.size;omega
   have O9:=ae Fx;have Dv:=ae hbk;have Ms:=ae D5;have hsbl:=hbk.lt
   by_cases qG:iM.length<N
   ·have hcn:(iM.length:Int)<(N:Int):=by omega
    have hl2:iM.length≤1000001000001:=by omega
    have HME:=ae (yg s0);clear Fx hbk D5;gi_wp2_with (gi_at_builtin;go_must (refine iZ rfl _ _ 194 rfl W0.heap.size 196 i0 _ 1 24 Tryz.underlying194 hi0 hz0 hz1 hz2 rfl (by decide) (.slice sa iM.length sc) iM.length (iM.map Prod.fst) rfl ?hown ⟨wr.heap.size,0,none⟩ 1 1 [.slice none 0 0] rfl rfl ?hnews ?hone (by decide) ?h63 ?hbytes ?hbase (wr.heap.size+1) ?hH ?hrest))
    case hown=>exact (aa Ms).row.alloc _
    case hnews=>exact World.news_of_block (B:=wr.heap.size) (cs:=#[.slice none 0 0]) (t:=196) (fr:=(0,0)) (ag.new _ _ _)
    case hone=>
     intro u hu;simp at hu;subst hu
     rfl
    case h63=>unfold maxLen;omega
    case hbytes=>omega
    case hbase=>simp;omega
    case hH=>simp
    case hrest=>
     intro g5 bu w5 aJ au bI jk;have b5:=(Below.refl wr.heap.size wr).alloc (Nat.le_refl _) (.cells #[.slice none 0 0] 196);have Qg:=(aa Ms).below b5;have KA:=(aa Dv).below b5;have K5:ag w5 (w.heap.size+1) _ 194:=(au.block _ KA.lt (own_ne Qg.row KA (by decide))).trans KA;have q0:=K5.cell (o:=0) rfl;have qz:=K5.fz;have jC:(Value.slice sa iM.length sc).ownBlock=some g5∨(wr.alloc (.cells #[.slice none 0 0] 196)).heap.size≤g5:=by
      rcases bI with e|e
      ·exact .inl e
      ·exact .inr (by simp;omega)
     have HFRN:=ae (((aa O9).trans (sJ.below b5)).trans (sJ.push (sb:=w.heap.size+1) (cap:=bu) Qg au jC (.slice (some ⟨g5,0,none⟩) (iM.length+1) bu)));have HSIN:=ae ((Qg.push au aJ).set K5 (by decide) (by decide) 0 (.slice (some ⟨g5,0,none⟩) (iM.length+1) bu));have HBKN:=ae (K5.set 0 (.slice (some ⟨g5,0,none⟩) (iM.length+1) bu));have HMN:=ae (yg ((K5.set 0 (.slice (some ⟨g5,0,none⟩) (iM.length+1) bu)).cell (o:=0) rfl));clear b5 Qg KA K5 jC bI aJ au s0 sz;gi_wp2;go_roundw
     case rel=>exact ⟨_,_,aa HFRN,aa HBKN,aa HSIN,by
      obtain ⟨j,hj⟩:=aa HJ;exact ae ⟨j+1,by rw [List.map_append,hj,List.replicate_succ'];simp⟩,by simp;omega⟩
     case measure=>
      rw [aa HMN,aa HME];omega
   ·have hcn:¬((iM.length:Int)<(N:Int)):=by omega
    have hil:N-1<iM.length:=by omega
    obtain ⟨g0,c0,e0,k7⟩:=aQ D5.row (N-1) _ (by rw [List.getElem?_map,List.getElem?_eq_getElem hil];rfl);simp only [Value.slice.injEq,true_and] at e0;obtain ⟨rfl,rfl⟩:=e0;have HP:=ae (List.getElem?_eq_getElem hil);have sK:=D5.inn _ (List.getElem_mem hil);generalize iM[N-1]=p at*;obtain ⟨pv,pl⟩:=p;simp only at k7 sK;obtain ⟨pa,pc,rfl⟩:=ak sK;have JG:=ae sK;have hsW:=bS.lt;have bT:=Fx.but.blk (aa BT3) (fun e=>e.elim (fun e=>by omega) ((aa yh).st.off (aa BT3) (by decide) (by decide)));have bL:=Fx.but.blk (aa BL3) (fun e=>e.elim (fun e=>by omega) ((aa yh).st.off (aa BL3) (by decide) (by decide)));obtain ⟨t0,t1,t2⟩:=bT.three;obtain ⟨r0,r1,r2⟩:=bL.three;have hsub:(N:Int)-1=((N-1:Nat):Int):=by omega
    have hwr:IntKind.i64.wrap ((N-1:Nat):Int)=((N-1:Nat):Int):=IntWalk.i64_in _ ⟨by omega,by omega⟩;have Pd:(0:Int)≤((N-1:Nat):Int):=by omega
    have Pe:((N-1:Nat):Int)<(iM.length:Int):=by omega
    have bT':=bT;have bL':=bL;clear Fx hbk D5 sK bT bL;gi_wp2_with fail;refine nQ (S:=fun w'=>w'.cell? ⟨w.heap.size+1,0,none⟩=some (.slice (some ⟨g0,0,none⟩) iM.length sc)∧w'.cell? ⟨Bt,1,none⟩=some (.string t.name)∧w'.cell? ⟨Bt+1,0,none⟩=some (.int .i64 r.place)∧w'.cell? ⟨Bt+1,1,none⟩=some (.string r.name)∧w'.cell? ⟨Bt+1,2,none⟩=some (.iface ra rv)) (by kernel_rfl) (by kernel_rfl) ⟨s0,t1,r0,r1,r2⟩ (fun hH=> ?_);refine wpAnyH_take (i:=0) (v:= ?v0) rfl (by kernel_rfl) (by kernel_rfl) (by kernel_rfl) (fun _ _ _ h=>by cases h.1) (Or.inl ⟨by rfl,?y0⟩) hH ?r0
    case y0=>
     intro w' hSw;obtain ⟨k0,k1,k2,k3,k4⟩:=hSw
     go_simp
     all_goals with_reducible rfl
    simp only [Act.put,List.getElem_toArray,List.getElem_cons_zero,List.getElem_cons_succ,List.setIfInBounds_toArray,List.set_cons_zero,List.set_cons_succ];refine wpAnyH_take (i:=1) (v:= ?v1) rfl (by kernel_rfl) (by kernel_rfl) (by kernel_rfl) (fun _ _ _ h=>by cases h.1) (Or.inl ⟨by rfl,?y1⟩) hH ?r1
    case y1=>
     intro w' hSw;obtain ⟨k0,k1,k2,k3,k4⟩:=hSw
     go_simp
     all_goals with_reducible rfl
    simp only [Act.put,List.getElem_toArray,List.getElem_cons_zero,List.getElem_cons_succ,List.setIfInBounds_toArray,List.set_cons_zero,List.set_cons_succ];refine wpAnyH_take (i:=2) (v:= ?v2) rfl (by kernel_rfl) (by kernel_rfl) (by kernel_rfl) (fun _ _ _ h=>by cases h.1) (Or.inl ⟨by rfl,?y2⟩) hH ?r2
    case y2=>
     intro w' hSw;obtain ⟨k0,k1,k2,k3,k4⟩:=hSw
     go_simp
     all_goals with_reducible rfl
    simp only [Act.put,List.getElem_toArray,List.getElem_cons_zero,List.getElem_cons_succ,List.setIfInBounds_toArray,List.set_cons_zero,List.set_cons_succ];refine wpAnyH_take (i:=3) (v:= ?v3) rfl (by kernel_rfl) (by kernel_rfl) (by kernel_rfl) (fun _ _ _ h=>by cases h.1) (Or.inl ⟨by rfl,?y3⟩) hH ?r3
    case y3=>
     intro w' hSw;obtain ⟨k0,k1,k2,k3,k4⟩:=hSw
     go_simp
     all_goals with_reducible rfl
    simp only [Act.put,List.getElem_toArray,List.getElem_cons_zero,List.getElem_cons_succ,List.setIfInBounds_toArray,List.set_cons_zero,List.set_cons_succ];refine wpAnyH_take (i:=4) (v:= ?v4) rfl (by kernel_rfl) (by kernel_rfl) (by kernel_rfl) (fun _ _ _ h=>by cases h.1) (Or.inl ⟨by rfl,?y4⟩) hH ?r4
    case y4=>
     intro w' hSw;obtain ⟨k0,k1,k2,k3,k4⟩:=hSw
     go_simp
     all_goals with_reducible rfl
    simp only [Act.put,List.getElem_toArray,List.getElem_cons_zero,List.getElem_cons_succ,List.setIfInBounds_toArray,List.set_cons_zero,List.set_cons_succ];refine wpAnyH_take (i:=5) (v:= ?v5) rfl (by kernel_rfl) (by kernel_rfl) (by kernel_rfl) (fun _ _ _ h=>by cases h.1) (Or.inl ⟨by rfl,?y5⟩) hH ?r5
    case y5=>
     intro w' hSw;obtain ⟨k0,k1,k2,k3,k4⟩:=hSw
     go_simp
     all_goals with_reducible rfl
    simp only [Act.put,List.getElem_toArray,List.getElem_cons_zero,List.getElem_cons_succ,List.setIfInBounds_toArray,List.set_cons_zero,List.set_cons_succ];refine wpAnyH_take (i:=6) (v:= ?v6) rfl (by kernel_rfl) (by kernel_rfl) (by kernel_rfl) (fun _ _ _ h=>by cases h.1) (Or.inl ⟨by rfl,?y6⟩) hH ?r6
    case y6=>
     intro w' hSw;obtain ⟨k0,k1,k2,k3,k4⟩:=hSw
     go_simp
     all_goals with_reducible rfl
    simp only [Act.put,List.getElem_toArray,List.getElem_cons_zero,List.getElem_cons_succ,List.setIfInBounds_toArray,List.set_cons_zero,List.set_cons_succ];refine wpAnyH_take (i:=8) (v:= ?v8) rfl (by kernel_rfl) (by kernel_rfl) (by kernel_rfl) (fun _ _ _ h=>by cases h.1) (Or.inl ⟨by rfl,?y8⟩) hH ?r8
    case y8=>
     intro w' hSw;obtain ⟨k0,k1,k2,k3,k4⟩:=hSw
     go_simp
     all_goals with_reducible rfl
    simp only [Act.put,List.getElem_toArray,List.getElem_cons_zero,List.getElem_cons_succ,List.setIfInBounds_toArray,List.set_cons_zero,List.set_cons_succ];refine wpAnyH_take (i:=9) (v:= ?v9) rfl (by kernel_rfl) (by kernel_rfl) (by kernel_rfl) (fun _ _ _ h=>by cases h.1) (Or.inl ⟨by rfl,?y9⟩) hH ?r9
    case y9=>
     intro w' hSw;obtain ⟨k0,k1,k2,k3,k4⟩:=hSw
     go_simp
     all_goals with_reducible rfl
    simp only [Act.put,List.getElem_toArray,List.getElem_cons_zero,List.getElem_cons_succ,List.setIfInBounds_toArray,List.set_cons_zero,List.set_cons_succ];refine wpAnyH_take (i:=10) (v:= ?v10) rfl (by kernel_rfl) (by kernel_rfl) (by kernel_rfl) (fun _ _ _ h=>by cases h.1) (Or.inl ⟨by rfl,?y10⟩) hH ?r10
    case y10=>
     intro w' hSw;obtain ⟨k0,k1,k2,k3,k4⟩:=hSw
     go_simp
     all_goals with_reducible rfl
    simp only [Act.put,List.getElem_toArray,List.getElem_cons_zero,List.getElem_cons_succ,List.setIfInBounds_toArray,List.set_cons_zero,List.set_cons_succ];refine wpAnyH_take (i:=11) (v:= ?v11) rfl (by kernel_rfl) (by kernel_rfl) (by kernel_rfl) (fun _ _ _ h=>by cases h.1) (Or.inl ⟨by rfl,?y11⟩) hH ?r11
    case y11=>
     intro w' hSw;obtain ⟨k0,k1,k2,k3,k4⟩:=hSw
     go_simp
     all_goals with_reducible rfl
    simp only [Act.put,List.getElem_toArray,List.getElem_cons_zero,List.getElem_cons_succ,List.setIfInBounds_toArray,List.set_cons_zero,List.set_cons_succ];refine wpAnyH_take (i:=12) (v:= ?v12) rfl (by kernel_rfl) (by kernel_rfl) (by kernel_rfl) (fun _ _ _ h=>by cases h.1) (Or.inl ⟨by rfl,?y12⟩) hH ?r12
    case y12=>
     intro w' hSw;obtain ⟨k0,k1,k2,k3,k4⟩:=hSw
     go_simp
     all_goals with_reducible rfl
    simp only [Act.put,List.getElem_toArray,List.getElem_cons_zero,List.getElem_cons_succ,List.setIfInBounds_toArray,List.set_cons_zero,List.set_cons_succ];have rM:Below wr.heap.size wr (wr.alloc (.cells #[.string t.name,.int .i64 r.place,.string r.name,.iface ra rv] 198)).drew:=((Below.refl _ wr).alloc (Nat.le_refl _) _).drew;have Ik:Below wr.drew.heap.size wr.drew (wr.alloc (.cells #[.string t.name,.int .i64 r.place,.string r.name,.iface ra rv] 198)).drew:=⟨rM.os,rM.tape,rM.output,rM.size,rM.block⟩;have vH:=aF (aa JG) rM;have HNW:=World.news_of_block (B:=wr.heap.size) (cs:=#[.string t.name,.int .i64 r.place,.string r.name,.iface ra rv]) (t:=198) (fr:=(0,0)) (ag.new wr _ _).drew;have vE:∀u∈EN ((t,.slice va vn vc),(r,.iface ra rv)),u.oneCell'=true:=by
     intro u hu;simp only [EN,List.mem_cons,List.not_mem_nil,or_false] at hu
     rcases hu with rfl|rfl|rfl|rfl<;>rfl
    have hpl:pl.length≤1000000:=by
     obtain ⟨j,hj⟩:=aa HJ;have:=rJ hj (aa yh).inn _ (List.mem_of_getElem? (aa HP));have:=aa HPL;simp at*;omega
    have Ii:pl.length+1≤maxLen:=by unfold maxLen;omega
    have Ij:(pl.length+1)*56≤140737488355328:=by omega
    have HBS:W0.heap.size≤(wr.alloc (.cells #[.string t.name,.int .i64 r.place,.string r.name,.iface ra rv] 198)).drew.heap.size:=Nat.le_trans hw0 rM.size;have HHS:(wr.alloc (.cells #[.string t.name,.int .i64 r.place,.string r.name,.iface ra rv] 198)).drew.heap.size=wr.heap.size+1:=by simp
    obtain ⟨cur0,hb0,_⟩:=dS (aF (aa Ms).row rM);have Gl:=hb0;have E0:=Aq ((aa Dv).below rM) Gl (by decide);have E1:=Aq (bT'.below rM) Gl (by decide);have E2:=Aq (bL'.below rM) Gl (by decide);have HN0:=own_ne vH ((aa Dv).below rM) (by decide);have Bg:=own_ne vH (bT'.below rM) (by decide);have D6:=own_ne vH (bL'.below rM) (by decide);refine wpAnyH_ready (rs:=[7,13]) (by kernel_rfl) (by simp) (AllReadyH.cons rfl (fun K hK=> ?b7) (AllReadyH.cons rfl (fun K hK=> ?b13) AllReadyH.nil))
    case b7=>
     try simp only [List.getElem_toArray,List.getElem_cons_zero,List.getElem_cons_succ]
     go_simp
     refine hK.out _ _ hH (fun hH=> ?_);clear hK K
     try simp only [Act.put,List.getElem_toArray,List.getElem_cons_zero,List.getElem_cons_succ,List.setIfInBounds_toArray,List.set_cons_zero,List.set_cons_succ]
     refine wpAnyH_ready (rs:=[13]) (by kernel_rfl) (by simp) (AllReadyH.cons rfl (fun K hK=> ?_) AllReadyH.nil)
     try simp only [List.getElem_toArray,List.getElem_cons_zero,List.getElem_cons_succ]
     go_simp
     refine hK.out _ _ (by obtain ⟨k0,k1,k2,k3,k4⟩:=hH;exact ⟨af k0 Ik,af k1 Ik,af k2 Ik,af k3 Ik,af k4 Ik⟩) (fun hH=> ?_);clear hK K
     try simp only [Act.put,List.getElem_toArray,List.getElem_cons_zero,List.getElem_cons_succ,List.setIfInBounds_toArray,List.set_cons_zero,List.set_cons_succ]
     refine wpAnyH_ready (rs:=[14]) (by kernel_rfl) (by simp) (AllReadyH.cons rfl (fun K hK=> ?_) AllReadyH.nil);refine step_append_lies _ rfl (.tmp 36) (.tmp 42) 196 rfl W0.heap.size 198 i1 _ 4 56 Tryz.underlying196 hi1 hy0 hy1 hy2 rfl (by decide) (.slice pa pl.length pc) pl.length (pl.flatMap EN) (by simp [Act.eval,Act.put]) vH ⟨wr.heap.size,0,none⟩ 1 1 (EN ((t,.slice va vn vc),(r,.iface ra rv))) (by simp [Act.eval,Act.put]) rfl HNW vE (by decide) Ii Ij HBS (wr.heap.size+1) HHS ?_;intro g5 bu w5 aJ au bI jk;have xe:w5.cell? ⟨w.heap.size+1,0,none⟩=some (.slice (some ⟨g0,0,none⟩) iM.length sc)∧w5.cell? ⟨Bt,1,none⟩=some (.string t.name)∧w5.cell? ⟨Bt+1,0,none⟩=some (.int .i64 r.place)∧w5.cell? ⟨Bt+1,1,none⟩=some (.string r.name)∧w5.cell? ⟨Bt+1,2,none⟩=some (.iface ra rv):=by
      obtain ⟨k0,k1,k2,k3,k4⟩:=hH;exact ⟨au.cell k0 HN0,au.cell k1 Bg,au.cell k2 D6,au.cell k3 D6,au.cell k4 D6⟩
     refine hK.out _ _ xe (fun hH=> ?_);clear hK K
     try simp only [Act.put,List.getElem_toArray,List.getElem_cons_zero,List.getElem_cons_succ,List.setIfInBounds_toArray,List.set_cons_zero,List.set_cons_succ]
     refine wpAnyH_take (i:=15) (v:= ?v15a) rfl (by kernel_rfl) (by kernel_rfl) (by kernel_rfl) (fun _ _ _ h=>by cases h.1) (Or.inl ⟨by rfl,?y15a⟩) hH ?r15a
     case y15a=>
      intro w' hSw;obtain ⟨k0,k1,k2,k3,k4⟩:=hSw
      go_simp
      all_goals with_reducible rfl
     simp only [Act.put,List.getElem_toArray,List.getElem_cons_zero,List.getElem_cons_succ,List.setIfInBounds_toArray,List.set_cons_zero,List.set_cons_succ];have hBg:∃cur,ag w5 g0 cur 196:=⟨_,(au.block g0 Gl.lt (own_ne vH Gl (by decide))).trans Gl⟩;obtain ⟨cur5,hBg⟩:=hBg;have Qc:=hBg.fz;have q7:w5.cell? ⟨g0,N-1,none⟩=some (.slice pa pl.length pc):=au.cell (af k7 rM) (own_ne vH Gl (by decide));refine wpAnyH_ready (rs:=[16]) (by kernel_rfl) (by simp) (AllReadyH.cons rfl (fun K hK=> ?_) AllReadyH.nil)
     try simp only [List.getElem_toArray,List.getElem_cons_zero,List.getElem_cons_succ]
     go_simp
     refine hK.out _ _ ?hS6a (fun _=> ?_)
     case hS6a=>
      obtain ⟨k0,k1,k2,k3,k4⟩:=xe;have hh:∀(g o:Nat) (v u:Value),g≠g0→w5.cell? ⟨g,o,none⟩=some v→(w5.setCell ⟨g0,N-1,none⟩ u).cell? ⟨g,o,none⟩=some v:=fun g o v u hg hv=>(World.cell?_of_block (w:=w5) (Below.heap_setCell _ _ _ _ hg)).trans hv
      exact ⟨hh _ _ _ _ E0 k0,hh _ _ _ _ E1 k1,hh _ _ _ _ E2 k2,hh _ _ _ _ E2 k3,hh _ _ _ _ E2 k4⟩
     clear hK K;refine wpAnyH_done (by kernel_rfl) ?_ _;refine ⟨rfl,?_⟩;have hfin:=pG (aa B3) (aa yh) (aa O9) (aa Dv) (aa Ms) hil qG (aa HP) (aa HJ) hmx Q4 (aa Qe) au aJ bI;rw [show List.map Subtype.val pre++[((t,Value.slice va vn vc),(r,Value.iface ra rv))]=List.map Subtype.val (pre++[⟨((t,Value.slice va vn vc),(r,Value.iface ra rv)),hx⟩]) by simp] at hfin;exact hfin
    case b13=>
     try simp only [List.getElem_toArray,List.getElem_cons_zero,List.getElem_cons_succ]
     go_simp
     refine hK.out _ _ (by obtain ⟨k0,k1,k2,k3,k4⟩:=hH;exact ⟨af k0 Ik,af k1 Ik,af k2 Ik,af k3 Ik,af k4 Ik⟩) (fun hH=> ?_);clear hK K
     try simp only [Act.put,List.getElem_toArray,List.getElem_cons_zero,List.getElem_cons_succ,List.setIfInBounds_toArray,List.set_cons_zero,List.set_cons_succ]
     refine wpAnyH_ready (rs:=[7]) (by kernel_rfl) (by simp) (AllReadyH.cons rfl (fun K hK=> ?_) AllReadyH.nil);have k7':=af k7 rM
     try simp only [List.getElem_toArray,List.getElem_cons_zero,List.getElem_cons_succ]
     go_simp
     refine hK.out _ _ hH (fun hH=> ?_);clear hK K
     try simp only [Act.put,List.getElem_toArray,List.getElem_cons_zero,List.getElem_cons_succ,List.setIfInBounds_toArray,List.set_cons_zero,List.set_cons_succ]
     refine wpAnyH_ready (rs:=[14]) (by kernel_rfl) (by simp) (AllReadyH.cons rfl (fun K hK=> ?_) AllReadyH.nil);refine step_append_lies _ rfl (.tmp 36) (.tmp 42) 196 rfl W0.heap.size 198 i1 _ 4 56 Tryz.underlying196 hi1 hy0 hy1 hy2 rfl (by decide) (.slice pa pl.length pc) pl.length (pl.flatMap EN) (by simp [Act.eval,Act.put]) vH ⟨wr.heap.size,0,none⟩ 1 1 (EN ((t,.slice va vn vc),(r,.iface ra rv))) (by simp [Act.eval,Act.put]) rfl HNW vE (by decide) Ii Ij HBS (wr.heap.size+1) HHS ?_;intro g5 bu w5 aJ au bI jk;have xe:w5.cell? ⟨w.heap.size+1,0,none⟩=some (.slice (some ⟨g0,0,none⟩) iM.length sc)∧w5.cell? ⟨Bt,1,none⟩=some (.string t.name)∧w5.cell? ⟨Bt+1,0,none⟩=some (.int .i64 r.place)∧w5.cell? ⟨Bt+1,1,none⟩=some (.string r.name)∧w5.cell? ⟨Bt+1,2,none⟩=some (.iface ra rv):=by
      obtain ⟨k0,k1,k2,k3,k4⟩:=hH;exact ⟨au.cell k0 HN0,au.cell k1 Bg,au.cell k2 D6,au.cell k3 D6,au.cell k4 D6⟩
     refine hK.out _ _ xe (fun hH=> ?_);clear hK K
     try simp only [Act.put,List.getElem_toArray,List.getElem_cons_zero,List.getElem_cons_succ,List.setIfInBounds_toArray,List.set_cons_zero,List.set_cons_succ]
     refine wpAnyH_take (i:=15) (v:= ?v15b) rfl (by kernel_rfl) (by kernel_rfl) (by kernel_rfl) (fun _ _ _ h=>by cases h.1) (Or.inl ⟨by rfl,?y15b⟩) hH ?r15b
     case y15b=>
      intro w' hSw;obtain ⟨k0,k1,k2,k3,k4⟩:=hSw
      go_simp
      all_goals with_reducible rfl
     simp only [Act.put,List.getElem_toArray,List.getElem_cons_zero,List.getElem_cons_succ,List.setIfInBounds_toArray,List.set_cons_zero,List.set_cons_succ];have hBg:∃cur,ag w5 g0 cur 196:=⟨_,(au.block g0 Gl.lt (own_ne vH Gl (by decide))).trans Gl⟩;obtain ⟨cur5,hBg⟩:=hBg;have Qc:=hBg.fz;have q7:w5.cell? ⟨g0,N-1,none⟩=some (.slice pa pl.length pc):=au.cell (af k7 rM) (own_ne vH Gl (by decide));refine wpAnyH_ready (rs:=[16]) (by kernel_rfl) (by simp) (AllReadyH.cons rfl (fun K hK=> ?_) AllReadyH.nil)
     try simp only [List.getElem_toArray,List.getElem_cons_zero,List.getElem_cons_succ]
     go_simp
     refine hK.out _ _ ?hS6b (fun _=> ?_)
     case hS6b=>
      obtain ⟨k0,k1,k2,k3,k4⟩:=xe;have hh:∀(g o:Nat) (v u:Value),g≠g0→w5.cell? ⟨g,o,none⟩=some v→(w5.setCell ⟨g0,N-1,none⟩ u).cell? ⟨g,o,none⟩=some v:=fun g o v u hg hv=>(World.cell?_of_block (w:=w5) (Below.heap_setCell _ _ _ _ hg)).trans hv
      exact ⟨hh _ _ _ _ E0 k0,hh _ _ _ _ E1 k1,hh _ _ _ _ E2 k2,hh _ _ _ _ E2 k3,hh _ _ _ _ E2 k4⟩
     clear hK K;refine wpAnyH_done (by kernel_rfl) ?_ _;refine ⟨rfl,?_⟩;have hfin:=pG (aa B3) (aa yh) (aa O9) (aa Dv) (aa Ms) hil qG (aa HP) (aa HJ) hmx Q4 (aa Qe) au aJ bI;rw [show List.map Subtype.val pre++[((t,Value.slice va vn vc),(r,Value.iface ra rv))]=List.map Subtype.val (pre++[⟨((t,Value.slice va vn vc),(r,Value.iface ra rv)),hx⟩]) by simp] at hfin;exact hfin
 case done=>
  rintro D ys W hD rfl ⟨yX,ps,hst⟩ hK;obtain ⟨sa,sc,rfl⟩:=ak hst.st.row;have q0:W.cell? ⟨w.heap.size+1,0,none⟩=some (.slice sa ps.length sc):=hst.blk.cell rfl;have HST:=ae hst;have HB:=ae (qg.trans (hst.but.below (B:=w.heap.size) qg.size (fun g e=>by omega)));clear hst;gi_wp2;refine ⟨by simp,.inl ⟨_,_,rfl,run_takeDeferred hK,?_⟩⟩;refine ⟨.slice sa ps.length sc,?_,_,ps,rfl,(aa HB).trans (belowK_b (w:=w) (Nat.le_refl _) W D _ _ (Nat.le_trans qg.size hD) hK rfl rfl),(((aa HST).st.oth (grownBy_putObj' _ D (.deferred none)) (fun r e=>by cases e;exact ⟨_,hK,rfl⟩)).base qg.size),by rw [←hL];exact (aa HST).snd,(aa HST).len,fun p hp=>by have:=(aa HST).inn p hp;rw [←hL];exact this⟩;simp [results,Tryz.f100,go_sem]
 case stop=>
  rintro D cd pre W hD hpx hf hK;exact hf.elim
end Go.Proofs.YtlbpnlngckgcbaaGreatDoor
namespace Go.Proofs.YtlbpnlngckgcbaaGreatDoor
open Go.RowKit Go.PlainAid
def Q5 (LX:List Ty→Value→World→Prop):Prop:=∀(bm:Nat) (sv:Value) (ts:List Ty) (tl:List (Ty×Value)) (w:World),MC bm w sv ts tl→Calls Tryz.prog 59 #[.agg #[sv]] w fun e w'=>∃la ln lc,e=.returned (.agg #[.slice la ln lc])∧Below w.heap.size w w'∧LX ts (.slice la ln lc) w'
structure Mw (LX:List Ty→Value→World→Prop):Prop where
 below:∀ts lv w w',LX ts lv w→Below w.heap.size w w'→LX ts lv w'
 set:∀ts lv w g cs o u,LX ts lv w→ag w g cs 117→LX ts lv (w.setCell ⟨g,o,none⟩ u)
def Mx (LX:List Ty→Value→World→Prop) (b:Nat) (ts:List Ty) (w:World) (e:Ending) (w':World):Prop:=∃mv lv bm tl,e=.returned (.int .i64 0)∧PU w' b mv lv (.slice none 0 0) []∧MC bm w' mv ts tl∧LX ts lv w'∧aS (fun k=>k=b) w w'
theorem yj (LX:List Ty→Value→World→Prop) (hO:Q5 LX) (Pf:Mw LX) (b:Nat) (s:RJ) (w:World) (mv lv gv:Value) (hU:ag w b #[mv,lv,gv] 117) (ts:List Ty) (hr:lM s=.ok ts) (hg:Laid w):
  Calls Tryz.prog 27 #[.pointer (some ⟨b,0,none⟩),.string s] w (Mx LX b ts w):=by
 have C:=ae (FH s w);rw [hr] at C;have HU:=ae hU;have HO:=ae hO;have Q6:=ae Pf;have hbl:=hU.lt;clear hr hg hU hO Pf;go_enter Tryz.func27,Tryz.ntmps27;go_wp2_with fail;refine (aa C).mono ?_;rintro e w2 ⟨hb2,sv,tl,bm,rfl,xw⟩;obtain ⟨ma,mn,mc,rfl⟩:=xw.form;have B2:=ae (hb2.alloc hb2.size (.cells #[.slice ma mn mc] 75));have MB:=ae (ag.new w2 #[.slice ma mn mc] 75);have M2:=ae (xw.below ((Below.refl _ _).alloc RH (.cells #[.slice ma mn mc] 75)));have hne:¬(w2.heap.size=b):=by have:=hb2.size;omega
 have lX:¬(b=w2.heap.size):=by have:=hb2.size;omega
 clear hb2 xw C;go_wp2_with fail;refine (ru _).mono ?_;rintro e w3 ⟨rfl,hb3⟩;have B3:=ae ((aa B2).trans (hb3.mono (aa B2).size));have k0:w3.cell? ⟨w2.heap.size,0,none⟩=some (.slice ma mn mc):=((aa MB).below hb3).cell rfl;have M3:=ae ((aa M2).below hb3);have U3:=ae ((aa HU).below (aa B3));clear hb3 B2 M2 MB;go_wp2_with fail;have D:=ae (aa HO bm _ ts tl w3.drew ((aa M3).below (Below.refl _ w3).drew));have l3:=(aa B3).size;clear HO
 go_region_held3 (fun w'=>w'.cell? ⟨w2.heap.size,0,none⟩=some (.slice ma mn mc)) (go_keep)
  ((go_at_call 59;refine (aa D).mono ?_;rintro e w4 ⟨la,ln,lc,rfl,hb4,vZ⟩;have BB:=ae (show Below w3.heap.size w3 w4 from (Below.refl _ w3).drew.trans hb4);have d0:=af k0 (aa BB);have U4:=ae ((aa U3).below (aa BB));obtain ⟨x0,x1,x2⟩:=three (aa U4);have xz:=(aa U4).fz;have M4:=ae ((aa M3).below (aa BB));have X4:=ae vZ;clear hb4 vZ))
 have B4:=ae ((aa B3).trans ((aa BB).mono l3));go_wp2;go_ret;have u1:=(aa U4).set 0 (.slice ma mn mc);have u2:=u1.set 1 (.slice la ln lc);have u3:=u2.set 2 (.slice none 0 0);have nT:¬(117=207∨117=159∨117=110):=by decide
 have kt:=((KT.set (aa U4) nT 0 (.slice ma mn mc)).trans (KT.set u1 nT 1 (.slice la ln lc))).trans (KT.set u2 nT 2 (.slice none 0 0));refine ⟨.slice ma mn mc,.slice la ln lc,bm,tl,rfl,⟨u3,World.ownsRow_nil _ _ _ _,fun g n c e=>by simp at e,by simp⟩,(aa M4).kt kt (by simp),(aa Q6).set _ _ _ _ _ _ _ ((aa Q6).set _ _ _ _ _ _ _ ((aa Q6).set _ _ _ _ _ _ _ (aa X4) (aa U4)) u1) u2,(((aS.of_below (aa B4)).set (show (fun k=>k=b) (⟨b,0,none⟩:Addr).block from rfl) _).set (show (fun k=>k=b) (⟨b,1,none⟩:Addr).block from rfl) _).set (show (fun k=>k=b) (⟨b,2,none⟩:Addr).block from rfl) _⟩
