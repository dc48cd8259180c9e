import Derived.Test.YtlbpnlngckgcbaaGreatDoorM11
set_option linter.all false
set_option maxHeartbeats 4000000
set_option maxRecDepth 100000
namespace Go.Proofs.YtlbpnlngckgcbaaGreatDoor
open Go.RowKit Go.PlainAid
theorem xP {a c:aei} (h:eqs a c=true):a=c:=by
 unfold eqs at h;rw [beq_iff_eq] at h;rw [←gV a,←gV c,h]
def ChC (T:Nat→aei) (P:Nat→Nat) (signs:List aei) (part:Nat→dM Ex) (i a ex n:Nat) (R:dM Ex) (k:Nat) (more:Bool) (j e aa:Nat) (gm:List PV) (ps:List Nat) (eu:List Tk) (st:aei) (sp:Nat):Prop:=
 (more=true∧e=0∧a=aa∧gm.length+i≤n+j∧((i=j∧ps=[]∧eu=[]∧st=em∧sp=0∧pz T P signs part k none j=R)∨(i<j∧gm.length+i+1≤n+j∧(st=sg 38∨st=sg 45)∧∃x,mY gm ps eu x∧pz T P signs part k (some (x,st,sp)) j=R)))∨
 (more=false∧e=0∧a=aa∧gm.length+i≤n+j∧i<j∧(ps.length≠1→gm.length+i+1≤n+j)∧∃x,mY gm ps eu x∧R=.ok (x,j))∨
 (more=false∧e≠0∧gm.length+i≤n+j+ex∧i≤j∧ps≠ []∧∃jj,P jj=aa∧R=.error (e,jj))
structure Zj (base b:Nat) (s:aei) (tv:Value) (d:Nat) (kv rv pv:Value) (i:Nat) (pl:List PV) (l:List PX) (w:World) (wr:World) (lI:Value) (j e aa:Nat) (gm:List PV) (lr:List PX) (ps:List Nat) (pa:Option Addr) (pc:Nat) (eu:List Tk) (sa:Option Addr) (sc:Nat) (st:aei) (sp:Nat):Prop where
 ch:xN base b s tv d kv rv pv i pl l w 4 wr lI j e aa gm lr ps pa pc eu sa sc
 sb:ai wr (w.heap.size+1) #[.string st,.int .i64 sp,.bool false] 259
 ns:(Value.slice sa eu.length sc).ownBlock≠some (w.heap.size+1)
 lp:e=0→ps.length≤j
 ls:eu.length=ps.length
 da:∀x∈lr,AJ (some (w.heap.size+1)) x
theorem Tryz.infoInt:(Tryz.prog.info? 3).map (fun i=>(i.zero,i.size,i.bytes))=some (some (.int .i64 0),1,8):=by kernel_rfl
theorem Jq (base b:Nat) (s:aei) (tv:Value) (i d a:Nat) (kv rv pv:Value) (pl:List PV) (l:List PX) (w:World) (h:RS w b s tv i d 0 a kv rv pv) (ht:PT base w pv pl l) (hbb:base≤b) (bF:base≤w.heap.size) (hl:pl.length≤i) (room:Bool) (inner:Nat→dM Ex) (ex:Nat) (hex:ex≤900) (hr:room=true→d<4∧uR s inner (d+1) ex) (hf:room=false→d=4):
  Calls Tryz.prog 251 #[.pointer (some ⟨b,0,none⟩)] w (nY base b s tv i d a kv rv pv pl l w (ex+2) (jL (TT s) (PP s) room inner i)):=by
 obtain ⟨iI,hi1,hy0,hy1,hy2⟩:=info_parts Tryz.infoInt;have II:=af hi1;have xe:=af hy0;have xg:=af hy1;have xh:=af hy2;clear hi1 hy0 hy1 hy2;obtain ⟨i0,hi0,hz0,hz1,hz2⟩:=info_parts Tryz.infoTk;have HI0:=af hi0;have fG:=af hz0;have fH:=af hz1;have fI:=af hz2;clear hi0 hz0 hz1 hz2;generalize hR:jL (TT s) (PP s) room inner i=R;unfold jL at hR;rw [yS] at hR;have HR:=af hR;have H0:=af h;have uL:=af ht;obtain ⟨g,c,e0,hi,t0,t1,t2⟩:=h.at;obtain ⟨r0,r1,r2,r3,r4,r5,r6,r7⟩:=h.blk.eight;have hz:=h.blk.fz;have hlt:=h.lt;have E0:=af e0;rw [e0] at r0;have gl:=bU t0;have m0:=World.new_ne w _ r0;have m1:=World.new_ne w _ r1;have m2:=World.new_ne w _ t1;clear h ht e0 hR;go_enter Tryz.func251,Tryz.ntmps251;go_wp2_with fail
 go_region_held3 (fun w'=>w'.cell? ⟨b,0,none⟩=some (.slice (some ⟨g,0,none⟩) (jM s).length c)∧w'.cell? ⟨b,1,none⟩=some (.int .i64 i)∧w'.cell? ⟨g,i*3+1,none⟩=some (.int .i64 (PP s i))) (go_keep) (fail)
 rename_i hh;clear hh r0 r1 r2 r3 r4 r5 r6 r7 t0 t1 t2 m0 m1 m2 hz;have b1:Below w.heap.size w (((w.alloc (.cells #[.int .i64 4,.slice none 0 0,.string ⟨#[]⟩,.string ⟨#[]⟩,.int .i64 (PP s i),.int .i64 0,.slice none 0 0,.slice none 0 0] 255)).alloc (.cells #[.string ⟨#[]⟩,.int .i64 0,.bool false] 259)).drew):=(((Below.refl _ w).alloc aeg _).alloc (by simp) _).drew;have I0:=af (show Zj base b s tv d kv rv pv i pl l w (((w.alloc (.cells #[.int .i64 4,.slice none 0 0,.string ⟨#[]⟩,.string ⟨#[]⟩,.int .i64 (PP s i),.int .i64 0,.slice none 0 0,.slice none 0 0] 255)).alloc (.cells #[.string ⟨#[]⟩,.int .i64 0,.bool false] 259)).drew) pv i 0 a pl l [] none 0 [] none 0 em 0 from
  ⟨⟨Fr.of_below b1 bF,(ae H0).below b1,(ae uL).but (But.of_below (b:=b) b1) (ae H0).blk hbb bF,((ai.new w _ _).alloc _).drew,fun e=>by
    have:=((ae uL).row.lt _ e).2;omega,World.ownsRow_nil _ _ _ _,World.ownsRow_nil _ _ _ _,fun x hx g hg e=>(by cases e),fun x hx g hg e=>(by cases e),⟨[],by simp⟩,⟨[],by simp⟩,hlt,fun g hg=>((ae H0).tok.lt g hg).2⟩,
   (ai.new' (w.alloc _) _ _ _ (by simp)).drew,fun e=>(by cases e),fun _=>by simp,rfl,fun x hx g hg e=>by
    have:=((ae uL).rep x hx).lt g hg;simp only [Option.some.injEq] at e;omega⟩)
 clear b1;go_wp2_with fail
 go_loopg [5] 512 (fun k vm wr=>∃(more:Bool) (lI:Value) (j e aa:Nat) (gm:List PV) (lr:List PX) (ps:List Nat) (pa:Option Addr) (pc:Nat) (eu:List Tk) (sa:Option Addr) (sc:Nat) (st:aei) (sp:Nat),vm=.bool more∧Zj base b s tv d kv rv pv i pl l w wr lI j e aa gm lr ps pa pc eu sa sc st sp∧(more=true→512≤k+j)∧Hid (ChC (TT s) (PP s) [sg 38,sg 45] (gY (TT s) (PP s) room inner) i a (ex+1) pl.length R k more j e aa gm ps eu st sp))
 case atStart=>exact ⟨true,pv,i,0,a,pl,l,[],none,0,[],none,0,em,0,rfl,ae I0,(fun _=>by omega),af (.inl ⟨rfl,rfl,rfl,by omega,.inl ⟨rfl,rfl,rfl,rfl,rfl,ae HR⟩⟩)⟩
 case round=>
  obtain ⟨more,lI,j,e,aa,gm,lr,ps,pa,pc,eu,sa,sc,st,sp,rfl,hI,hk,HC⟩:=hrel;have hle:=hI.ch.rs.gd.le;have hsz:=hI.ch.rs.sz;have oJ:base≤wr.heap.size:=Nat.le_trans bF hI.ch.fr.below.size
  rcases ae HC with ⟨rfl,rfl,rfl,hn,hs⟩|⟨rfl,rfl,rfl,hn,hij,hq,x,hbu,hres⟩|⟨rfl,he,hn,hij,hps,jj,rfl,hres⟩
  ·have hk:=hk rfl;obtain ⟨fu,rfl⟩:∃f,gk=f+1:=⟨gk-1,by omega⟩;have HS:=af hs;have C:=af (MQ base b s tv j d a kv rv lI gm lr wr hI.ch.rs hI.ch.pt hbb oJ (by omega) room inner ex hr hf);have HI:=af hI;have lp:=hI.lp rfl;have hij:i≤j:=by rcases hs with ⟨h,_⟩|⟨h,_⟩<;>omega
   have LS:=af hI.ls;have ls:=Nat.le_of_eq hI.ls;clear hI HC hs HR I0;go_wp2_with fail;refine (ae C).mono ?_;rintro e' w1 ⟨m,rfl,sZ,Uo,l1,t,tl,fr,pt,rfl,rfl,EE,hres⟩;have Zk:=af (fr.blk (ae HI).sb (by omega) (iY (ae HI).ch.pt.row (ae HI).sb (by decide)));have NS1:=af (ae HI).ns;have RQ:=af (show ∀x∈lr++tl,AJ (some (w.heap.size+1)) x from fun x hx=>by
    rw [List.mem_append] at hx
    rcases hx with hx|hx
    ·exact (ae HI).da x hx
    ·intro g hg e;have:=EE x hx g hg;have:=(ae HI).sb.lt;simp only [Option.some.injEq] at e;omega)
   have Fj:base≤w1.heap.size:=Nat.le_trans oJ fr.below.size
   cases hu:gY (TT s) (PP s) room inner j with
   |error er=>
    obtain ⟨c0,jj⟩:=er;rw [hu] at hres;obtain ⟨hc0,j1,Oz,rs,Aq⟩:=hres;have tu:=af ((ae HI).ch.call fr pt rs EE (Uo:=[]) (l1:=[]));have HU:=af hu;clear fr pt rs EE C HI hu;have hsz1:=(ae tu).rs.sz;have XN:=(ae tu).rs.gd.le;obtain ⟨p0,p1,p2,p3,p4,p5,p6,p7⟩:=(ae tu).box.eight;obtain ⟨s0,s1,s2⟩:=(ae Zk).three;have zp:=(ae tu).box.fz;have lq1:=(ae tu).box.lt;have lq2:=(ae Zk).lt;have O1:=af (ae tu).prow;go_wp2_with (at_builtin;go_must (refine wpList_append_lies _ rfl _ _ 29 rfl w.heap.size 3 iI _ 1 8 Tryz.underlying29 (ae II) (ae xe) (ae xg) (ae xh) rfl (by decide) (.slice pa ps.length pc) ps.length (ps.map fun n:Nat=> .int .i64 n) rfl ?yH ⟨w1.heap.size,0,none⟩ 1 1 [.int .i64 m] rfl rfl ?mf ?nS (by decide) ?oC ?dX ?mg (w1.heap.size+1) ?Pg ?kw))
    case yH=>exact (ae O1).alloc _
    case mf=>exact World.news_of_block (B:=w1.heap.size) (cs:=#[.int .i64 m]) (t:=3) (fr:=(0,0)) (ai.new' _ _ _ _ rfl)
    case nS=>
     intro u hu;simp only [List.mem_cons,List.not_mem_nil,or_false] at hu
     rcases hu with rfl
     rfl
    case oC=>unfold maxLen;omega
    case dX=>omega
    case mg=>simp;omega
    case Pg=>simp
    intro g5 aD w5 aC aj aP di;obtain ⟨xk,yT⟩:=(ae tu).grownP Fj hbb bF aj aC aP;have Bu:=af yT;have SA:=(ae Zk).alloc (.cells #[.int .i64 m] 3);have XO:=af (show ai w5 (w.heap.size+1) _ 259 from (aj.block _ SA.lt (own_ne ((ae O1).alloc _) SA (by decide))).trans SA);clear SA;obtain ⟨Zl,s1',s2'⟩:=(ae XO).three;have Zm:¬(w.heap.size+1=w.heap.size):=by omega
    have nq2:¬(w.heap.size=w.heap.size+1):=by omega
    have lq6:=(ae XO).lt;obtain ⟨q0,q1,q2,q3,q4,q5,q6,q7⟩:=xk.eight;have zq:=xk.fz;have lq5:=xk.lt;clear aC aj aP xk yT p0 p1 p2 p3 p4 p5 p6 p7 s0 s1 s2 zp;have SX:=af (show ai (w5.setCell ⟨w.heap.size,6,none⟩ (.slice (some ⟨g5,0,none⟩) (ps.length+1) aD)) (w.heap.size+1) #[.string st,.int .i64 sp,.bool false] 259 from (ae XO).other Zm _);have O5:=af (ae Bu).srow;have DF:base≤(w5.setCell ⟨w.heap.size,6,none⟩ (.slice (some ⟨g5,0,none⟩) (ps.length+1) aD)).heap.size:=Nat.le_trans bF (ae Bu).fr.below.size;go_wp2_with (at_builtin;go_must (refine wpList_append_lies _ rfl _ _ 249 rfl w.heap.size 259 i0 _ 3 32 Tryz.underlying249 (ae HI0) (ae fG) (ae fH) (ae fI) rfl (by decide) (.slice sa eu.length sc) eu.length (aL eu) rfl ?pX ⟨w5.heap.size,0,none⟩ 1 1 (gG ⟨bi st,sp,false⟩) rfl rfl ?ky ?nU (by decide) ?vP ?iO ?kD (w5.heap.size+1) ?Mv ?nz))
    case pX=>exact (ae O5).alloc _
    case ky=>exact World.news_of_block (B:=w5.heap.size) (cs:=#[.string st,.int .i64 sp,.bool false]) (t:=259) (fr:=(0,0)) (ai.new' _ _ _ _ (by simp))
    case nU=>
     intro u hu;simp only [gG,List.mem_cons,List.not_mem_nil,or_false] at hu
     rcases hu with rfl|rfl|rfl<;>rfl
    case vP=>unfold maxLen;omega
    case iO=>omega
    case kD=>simp;omega
    case Mv=>simp
    intro g7 mO w7 Fp tC Jr hgl7;obtain ⟨Uq,Qc⟩:=(ae Bu).grownS DF hbb bF tC Fp (by simpa using Jr);have OA:=af Qc;have SA:=(ae SX).alloc (.cells #[.string st,.int .i64 sp,.bool false] 259);have XP:=af (show ai w7 (w.heap.size+1) _ 259 from (tC.block _ SA.lt (fun e=>ae NS1 e.symm)).trans SA);obtain ⟨v0,v1,v2,v3,v4,v5,v6,v7⟩:=Uq.eight;have zv:=Uq.fz;have lv7:=Uq.lt;have Qd:=af (show (Value.slice (some ⟨g7,0,none⟩) (eu.length+1) mO).ownBlock≠some (w.heap.size+1) from fun e=>by
     simp only [Value.ownBlock,Option.some.injEq] at e;subst e
     rcases Jr with e|e
     ·exact ae NS1 e
     ·omega)
    clear Fp tC Jr Uq Qc SA SX q0 q1 q2 q3 q4 q5 q6 q7 zq Zl s1' s2';have RE:=af (show R=.error (c0,jj) from by
     rcases ae HS with ⟨_,_,_,_,_,h⟩|⟨_,_,_,x,_,h⟩
     ·rw [←h];exact uT (ae HU)
     ·rw [←h];exact uT (ae HU))
    have vU:base≤(w7.setCell ⟨w.heap.size,7,none⟩ (.slice (some ⟨g7,0,none⟩) (eu.length+1) mO)).heap.size:=Nat.le_trans bF (ae OA).fr.below.size;go_wp2_with fail;refine (ib b s tv j1 d c0 (PP s jj) kv rv sZ (sg 38) _ (ae OA).rs hc0).mono ?_;rintro e' w8 ⟨rfl,uU⟩;have xQ:=af ((ae OA).below uU vU hbb);have RU:=af (((ae XP).other Zm _).below uU);have uV:base≤w8.heap.size:=Nat.le_trans vU uU.size;clear uU OA XP;go_wp2_with fail;refine (ib b s tv j1 d c0 (PP s jj) kv rv sZ (sg 45) _ (ae xQ).rs hc0).mono ?_;rintro e' w9 ⟨rfl,qX⟩;have xm:=af ((ae xQ).below qX uV hbb);have Js:=af ((ae RU).below qX);clear qX xQ RU;have J9:=af (show Zj base b s tv d kv rv pv i pl l w w9 sZ j1 c0 (PP s jj) (gm++t) (lr++tl) (ps++[m]) (some ⟨g5,0,none⟩) aD (eu++[⟨bi st,sp,false⟩]) (some ⟨g7,0,none⟩) mO st sp from ⟨ae xm,ae Js,ae Qd,fun e=>absurd e hc0,by have:=ae LS;simp [this],ae RQ⟩);have PC:=af (show ChC (TT s) (PP s) [sg 38,sg 45] (gY (TT s) (PP s) room inner) i a (ex+1) pl.length R fu false j1 c0 (PP s jj) (gm++t) (ps++[m]) (eu++[⟨bi st,sp,false⟩]) st sp from .inr (.inr ⟨rfl,hc0,by omega,by omega,by simp,jj,rfl,ae RE⟩));clear v0 v1 v2 v3 v4 v5 v6 v7 zv;go_wp2
    go_roundg fu
    case measure=>omega
    case rel=>exact ⟨false,sZ,j1,c0,PP s jj,gm++t,lr++tl,ps++[m],some ⟨g5,0,none⟩,aD,eu++[⟨bi st,sp,false⟩],some ⟨g7,0,none⟩,mO,st,sp,rfl,ae J9,(fun h=>by cases h),PC⟩
   |ok yy=>
    obtain ⟨y,j1⟩:=yy;rw [hu] at hres;obtain ⟨rs,Oz,Aq,f1,htr⟩:=hres;have tu:=af ((ae HI).ch.call fr pt rs EE (Uo:=[]) (l1:=[]));have HU:=af hu;have TR:=af htr;clear fr pt rs EE C HI hu htr;have hsz1:=(ae tu).rs.sz;have XN:=(ae tu).rs.gd.le;obtain ⟨p0,p1,p2,p3,p4,p5,p6,p7⟩:=(ae tu).box.eight;obtain ⟨s0,s1,s2⟩:=(ae Zk).three;have zp:=(ae tu).box.fz;have lq1:=(ae tu).box.lt;have lq2:=(ae Zk).lt;have O1:=af (ae tu).prow;go_wp2_with (at_builtin;go_must (refine wpList_append_lies _ rfl _ _ 29 rfl w.heap.size 3 iI _ 1 8 Tryz.underlying29 (ae II) (ae xe) (ae xg) (ae xh) rfl (by decide) (.slice pa ps.length pc) ps.length (ps.map fun n:Nat=> .int .i64 n) rfl ?EZ ⟨w1.heap.size,0,none⟩ 1 1 [.int .i64 m] rfl rfl ?yI ?yJ (by decide) ?vQ ?iP ?yK (w1.heap.size+1) ?hHC ?nA))
    case EZ=>exact (ae O1).alloc _
    case yI=>exact World.news_of_block (B:=w1.heap.size) (cs:=#[.int .i64 m]) (t:=3) (fr:=(0,0)) (ai.new' _ _ _ _ rfl)
    case yJ=>
     intro u hu;simp only [List.mem_cons,List.not_mem_nil,or_false] at hu
     rcases hu with rfl
     rfl
    case vQ=>unfold maxLen;omega
    case iP=>omega
    case yK=>simp;omega
    case hHC=>simp
    intro g5 aD w5 aC aj aP di;obtain ⟨xk,yT⟩:=(ae tu).grownP Fj hbb bF aj aC aP;have Bu:=af yT;have SA:=(ae Zk).alloc (.cells #[.int .i64 m] 3);have XO:=af (show ai w5 (w.heap.size+1) _ 259 from (aj.block _ SA.lt (own_ne ((ae O1).alloc _) SA (by decide))).trans SA);clear SA;obtain ⟨Zl,s1',s2'⟩:=(ae XO).three;have Zm:¬(w.heap.size+1=w.heap.size):=by omega
    have nq2:¬(w.heap.size=w.heap.size+1):=by omega
    have lq6:=(ae XO).lt;obtain ⟨q0,q1,q2,q3,q4,q5,q6,q7⟩:=xk.eight;have zq:=xk.fz;have lq5:=xk.lt;clear aC aj aP xk yT p0 p1 p2 p3 p4 p5 p6 p7 s0 s1 s2 zp;have SX:=af (show ai (w5.setCell ⟨w.heap.size,6,none⟩ (.slice (some ⟨g5,0,none⟩) (ps.length+1) aD)) (w.heap.size+1) #[.string st,.int .i64 sp,.bool false] 259 from (ae XO).other Zm _);have O5:=af (ae Bu).srow;have DF:base≤(w5.setCell ⟨w.heap.size,6,none⟩ (.slice (some ⟨g5,0,none⟩) (ps.length+1) aD)).heap.size:=Nat.le_trans bF (ae Bu).fr.below.size;go_wp2_with (at_builtin;go_must (refine wpList_append_lies _ rfl _ _ 249 rfl w.heap.size 259 i0 _ 3 32 Tryz.underlying249 (ae HI0) (ae fG) (ae fH) (ae fI) rfl (by decide) (.slice sa eu.length sc) eu.length (aL eu) rfl ?hownD ⟨w5.heap.size,0,none⟩ 1 1 (gG ⟨bi st,sp,false⟩) rfl rfl ?XQ ?honeD (by decide) ?h63D ?Ur ?XR (w5.heap.size+1) ?hHD ?hrestD))
    case hownD=>exact (ae O5).alloc _
    case XQ=>exact World.news_of_block (B:=w5.heap.size) (cs:=#[.string st,.int .i64 sp,.bool false]) (t:=259) (fr:=(0,0)) (ai.new' _ _ _ _ (by simp))
    case honeD=>
     intro u hu;simp only [gG,List.mem_cons,List.not_mem_nil,or_false] at hu
     rcases hu with rfl|rfl|rfl<;>rfl
    case h63D=>unfold maxLen;omega
    case Ur=>omega
    case XR=>simp;omega
    case hHD=>simp
    intro g7 mO w7 Fp tC Jr hgl7;obtain ⟨Uq,Qc⟩:=(ae Bu).grownS DF hbb bF tC Fp (by simpa using Jr);have OA:=af Qc;have SA:=(ae SX).alloc (.cells #[.string st,.int .i64 sp,.bool false] 259);have XP:=af (show ai w7 (w.heap.size+1) _ 259 from (tC.block _ SA.lt (fun e=>ae NS1 e.symm)).trans SA);obtain ⟨v0,v1,v2,v3,v4,v5,v6,v7⟩:=Uq.eight;have zv:=Uq.fz;have lv7:=Uq.lt;have Qd:=af (show (Value.slice (some ⟨g7,0,none⟩) (eu.length+1) mO).ownBlock≠some (w.heap.size+1) from fun e=>by
     simp only [Value.ownBlock,Option.some.injEq] at e;subst e
     rcases Jr with e|e
     ·exact ae NS1 e
     ·omega)
    clear Fp tC Jr Uq Qc SA SX q0 q1 q2 q3 q4 q5 q6 q7 zq Zl s1' s2';have BU:=af (show ∃x,mY (gm++t) (ps++[m]) (eu++[⟨bi st,sp,false⟩]) x∧joinL (TT s) (PP s) [sg 38,sg 45] (gY (TT s) (PP s) room inner) (fu+1) x j1=R from by
     rcases ae HS with ⟨_,rfl,rfl,rfl,rfl,h⟩|⟨_,_,hst,x,hx,h⟩
     ·rw [xO (ae HU)] at h;exact ⟨_,mY.one (ae TR),h⟩
     ·rw [xO (ae HU)] at h;exact ⟨_,hx.snoc (ae TR) st sp hst,h⟩)
    have HQ:=af (show (ps++[m]).length≠1→(gm++t).length+i+1≤pl.length+j1 from fun hne=>by
     rcases ae HS with ⟨_,rfl,_⟩|⟨_,hq,_⟩
     ·exact absurd rfl hne
     ·omega)
    have vU:base≤(w7.setCell ⟨w.heap.size,7,none⟩ (.slice (some ⟨g7,0,none⟩) (eu.length+1) mO)).heap.size:=Nat.le_trans bF (ae OA).fr.below.size
    cases OC:eqs (TT s j1) (sg 38)
    ·go_wp2_with fail;refine (aZ b s tv j1 d a kv rv sZ (sg 38) _ (ae OA).rs false OC).mono ?_;rintro e' w8 ⟨rfl,uU⟩;have xQ:=af ((ae OA).below uU vU hbb);have RU:=af (((ae XP).other Zm _).below uU);have uV:base≤w8.heap.size:=Nat.le_trans vU uU.size;clear uU OA XP
     cases Qe:eqs (TT s j1) (sg 45)
     ·have RE:=af (show ∃x,mY (gm++t) (ps++[m]) (eu++[⟨bi st,sp,false⟩]) x∧R=.ok (x,j1) from by
       obtain ⟨x,hx,hy⟩:=ae BU;rw [Fh (by simp [gX,OC,Qe])] at hy;exact ⟨x,hx,hy.symm⟩)
      go_wp2_with fail;refine (aZ b s tv j1 d a kv rv sZ (sg 45) _ (ae xQ).rs false Qe).mono ?_;rintro e' w9 ⟨rfl,qX⟩;have xm:=af ((ae xQ).below qX uV hbb);have Js:=af ((ae RU).below qX);clear qX xQ RU;have J9:=af (show Zj base b s tv d kv rv pv i pl l w w9 sZ j1 0 a (gm++t) (lr++tl) (ps++[m]) (some ⟨g5,0,none⟩) aD (eu++[⟨bi st,sp,false⟩]) (some ⟨g7,0,none⟩) mO st sp from ⟨ae xm,ae Js,ae Qd,fun _=>by simp;omega,by have:=ae LS;simp [this],ae RQ⟩);have PC:=af (show ChC (TT s) (PP s) [sg 38,sg 45] (gY (TT s) (PP s) room inner) i a (ex+1) pl.length R fu false j1 0 a (gm++t) (ps++[m]) (eu++[⟨bi st,sp,false⟩]) st sp from .inr (.inl ⟨rfl,rfl,rfl,by omega,by omega,ae HQ,ae RE⟩));clear v0 v1 v2 v3 v4 v5 v6 v7 zv OC Qe;go_wp2
      go_roundg fu
      case measure=>omega
      case rel=>exact ⟨false,sZ,j1,0,a,gm++t,lr++tl,ps++[m],some ⟨g5,0,none⟩,aD,eu++[⟨bi st,sp,false⟩],some ⟨g7,0,none⟩,mO,st,sp,rfl,ae J9,(fun h=>by cases h),PC⟩
     ·go_wp2_with fail;refine (aZ b s tv j1 d a kv rv sZ (sg 45) _ (ae xQ).rs true Qe).mono ?_;rintro e' w9 ⟨rfl,qX⟩;have xm:=af ((ae xQ).below qX uV hbb);have Js:=af ((ae RU).below qX);clear qX xQ RU;have HJ:=af ((ae xm).rs.gd.succ (bZ Qe (by decide)));clear v0 v1 v2 v3 v4 v5 v6 v7 zv;obtain ⟨g9,c9,e9,hi9,t0,t1,t2⟩:=(ae xm).rs.at;obtain ⟨r0,r1,r2,r3,r4,_⟩:=(ae xm).rs.blk.eight;have zr:=(ae xm).rs.blk.fz;obtain ⟨s0,s1,s2⟩:=(ae Js).three;have zs:=(ae Js).fz;have l9:=(ae Js).lt;have tvl:=(ae xm).tvl g9 (by rw [e9];rfl);rw [e9] at r0;have E9:=af e9;clear e9;have k1:¬(w.heap.size+1=b):=by omega
      have k2:¬(b=w.heap.size+1):=by omega
      have k3:¬(w.heap.size+1=g9):=by omega
      have k4:¬(g9=w.heap.size+1):=by omega
      have k5:¬(b=g9):=fun e=>by
       have:=own_ne (ae xm).rs.tok (ae xm).rs.blk (by decide);rw [ae E9,e] at this;exact this rfl
      have k6:¬(g9=b):=fun e=>k5 e.symm
      go_wp2_with fail
      go_region_held3 (fun w'=>w'.cell? ⟨b,0,none⟩=some (.slice (some ⟨g9,0,none⟩) (jM s).length c9)∧w'.cell? ⟨b,1,none⟩=some (.int .i64 j1)∧w'.cell? ⟨g9,j1*3,none⟩=some (.string (TT s j1))∧w'.cell? ⟨g9,j1*3+1,none⟩=some (.int .i64 (PP s j1))∧w'.cell? ⟨g9,j1*3+2,none⟩=some (.bool (aT (TT s j1)))) (go_keep) (fail)
      rename_i hh;clear hh;have WF:aT (TT s j1)=false:=by
       have e:=Qe;unfold eqs at e;rw [beq_iff_eq] at e;unfold aT;rw [e]
       decide
      have e0:=Nat.le_trans bF (ae xm).fr.below.size;have c1:=(ae xm).sign bF (ae Js) (by simpa using ae Qd) (ae RQ) 0 (.string (TT s j1));have S1:=(ae Js).set 0 (.string (TT s j1));have c2:=c1.sign bF S1 (by simpa using ae Qd) (ae RQ) 1 (.int .i64 (PP s j1));have S2:=S1.set 1 (.int .i64 (PP s j1));have c3:=c2.sign bF S2 (by simpa using ae Qd) (ae RQ) 2 (.bool (aT (TT s j1)));have S3:=S2.set 2 (.bool (aT (TT s j1)));have c4:=c3.but ((But.refl b _).setCell 1 (.int .i64 ((j1:Int)+1))) (Nat.le_trans bF c3.fr.below.size) hbb (c3.rs.setI (j1+1) (ae HJ));have c5:=c4.below ((Below.refl _ _).drew) (Nat.le_trans bF c4.fr.below.size) hbb;have S5:=(ai.other S3 (a:=⟨b,1,none⟩) k1 (.int .i64 ((j1:Int)+1))).drew;have J9:=af (show Zj base b s tv d kv rv pv i pl l w _ sZ (j1+1) 0 a (gm++t) (lr++tl) (ps++[m]) (some ⟨g5,0,none⟩) aD (eu++[⟨bi st,sp,false⟩]) (some ⟨g7,0,none⟩) mO (TT s j1) (PP s j1) from ⟨c5,by rw [←WF];exact S5,ae Qd,fun _=>by simp;omega,by have:=ae LS;simp [this],ae RQ⟩);have PC:=af (show ChC (TT s) (PP s) [sg 38,sg 45] (gY (TT s) (PP s) room inner) i a (ex+1) pl.length R fu true (j1+1) 0 a (gm++t) (ps++[m]) (eu++[⟨bi st,sp,false⟩]) (TT s j1) (PP s j1) from .inl ⟨rfl,rfl,rfl,by omega,.inr ⟨by omega,by omega,(by first|exact .inl (xP Qe)|exact .inr (xP Qe)),by
       obtain ⟨x,hx,hy⟩:=ae BU;rw [vT (by simp [gX,Qe])] at hy;exact ⟨x,hx,hy⟩⟩⟩)
      have hk9:512≤fu+(j1+1):=by omega
      clear c1 c2 c3 c4 c5 S1 S2 S3 S5 WF;go_wp2
      go_roundg fu
      case measure=>omega
      case rel=>exact ⟨true,sZ,j1+1,0,a,gm++t,lr++tl,ps++[m],some ⟨g5,0,none⟩,aD,eu++[⟨bi st,sp,false⟩],some ⟨g7,0,none⟩,mO,TT s j1,PP s j1,rfl,ae J9,(fun _=>hk9),PC⟩
    ·have Qe:eqs (TT s j1) (sg 45)=false:=by
      unfold eqs at OC ⊢;rw [beq_iff_eq] at OC;rw [OC];decide
     go_wp2_with fail;refine (aZ b s tv j1 d a kv rv sZ (sg 38) _ (ae OA).rs true OC).mono ?_;rintro e' w8 ⟨rfl,uU⟩;have xQ:=af ((ae OA).below uU vU hbb);have RU:=af (((ae XP).other Zm _).below uU);have uV:base≤w8.heap.size:=Nat.le_trans vU uU.size;clear uU OA XP;go_wp2_with fail;refine (aZ b s tv j1 d a kv rv sZ (sg 45) _ (ae xQ).rs false Qe).mono ?_;rintro e' w9 ⟨rfl,qX⟩;have xm:=af ((ae xQ).below qX uV hbb);have Js:=af ((ae RU).below qX);clear qX xQ RU;have HJ:=af ((ae xm).rs.gd.succ (bZ OC (by decide)));clear v0 v1 v2 v3 v4 v5 v6 v7 zv;obtain ⟨g9,c9,e9,hi9,t0,t1,t2⟩:=(ae xm).rs.at;obtain ⟨r0,r1,r2,r3,r4,_⟩:=(ae xm).rs.blk.eight;have zr:=(ae xm).rs.blk.fz;obtain ⟨s0,s1,s2⟩:=(ae Js).three;have zs:=(ae Js).fz;have l9:=(ae Js).lt;have tvl:=(ae xm).tvl g9 (by rw [e9];rfl);rw [e9] at r0;have E9:=af e9;clear e9;have k1:¬(w.heap.size+1=b):=by omega
     have k2:¬(b=w.heap.size+1):=by omega
     have k3:¬(w.heap.size+1=g9):=by omega
     have k4:¬(g9=w.heap.size+1):=by omega
     have k5:¬(b=g9):=fun e=>by
      have:=own_ne (ae xm).rs.tok (ae xm).rs.blk (by decide);rw [ae E9,e] at this;exact this rfl
     have k6:¬(g9=b):=fun e=>k5 e.symm
     go_wp2_with fail
     go_region_held3 (fun w'=>w'.cell? ⟨b,0,none⟩=some (.slice (some ⟨g9,0,none⟩) (jM s).length c9)∧w'.cell? ⟨b,1,none⟩=some (.int .i64 j1)∧w'.cell? ⟨g9,j1*3,none⟩=some (.string (TT s j1))∧w'.cell? ⟨g9,j1*3+1,none⟩=some (.int .i64 (PP s j1))∧w'.cell? ⟨g9,j1*3+2,none⟩=some (.bool (aT (TT s j1)))) (go_keep) (fail)
     rename_i hh;clear hh;have WF:aT (TT s j1)=false:=by
      have e:=OC;unfold eqs at e;rw [beq_iff_eq] at e;unfold aT;rw [e]
      decide
     have e0:=Nat.le_trans bF (ae xm).fr.below.size;have c1:=(ae xm).sign bF (ae Js) (by simpa using ae Qd) (ae RQ) 0 (.string (TT s j1));have S1:=(ae Js).set 0 (.string (TT s j1));have c2:=c1.sign bF S1 (by simpa using ae Qd) (ae RQ) 1 (.int .i64 (PP s j1));have S2:=S1.set 1 (.int .i64 (PP s j1));have c3:=c2.sign bF S2 (by simpa using ae Qd) (ae RQ) 2 (.bool (aT (TT s j1)));have S3:=S2.set 2 (.bool (aT (TT s j1)));have c4:=c3.but ((But.refl b _).setCell 1 (.int .i64 ((j1:Int)+1))) (Nat.le_trans bF c3.fr.below.size) hbb (c3.rs.setI (j1+1) (ae HJ));have c5:=c4.below ((Below.refl _ _).drew) (Nat.le_trans bF c4.fr.below.size) hbb;have S5:=(ai.other S3 (a:=⟨b,1,none⟩) k1 (.int .i64 ((j1:Int)+1))).drew;have J9:=af (show Zj base b s tv d kv rv pv i pl l w _ sZ (j1+1) 0 a (gm++t) (lr++tl) (ps++[m]) (some ⟨g5,0,none⟩) aD (eu++[⟨bi st,sp,false⟩]) (some ⟨g7,0,none⟩) mO (TT s j1) (PP s j1) from ⟨c5,by rw [←WF];exact S5,ae Qd,fun _=>by simp;omega,by have:=ae LS;simp [this],ae RQ⟩);have PC:=af (show ChC (TT s) (PP s) [sg 38,sg 45] (gY (TT s) (PP s) room inner) i a (ex+1) pl.length R fu true (j1+1) 0 a (gm++t) (ps++[m]) (eu++[⟨bi st,sp,false⟩]) (TT s j1) (PP s j1) from .inl ⟨rfl,rfl,rfl,by omega,.inr ⟨by omega,by omega,(by first|exact .inl (xP OC)|exact .inr (xP OC)),by
      obtain ⟨x,hx,hy⟩:=ae BU;rw [vT (by simp [gX,OC])] at hy;exact ⟨x,hx,hy⟩⟩⟩)
     have hk9:512≤fu+(j1+1):=by omega
     clear c1 c2 c3 c4 c5 S1 S2 S3 S5 WF;go_wp2
     go_roundg fu
     case measure=>omega
     case rel=>exact ⟨true,sZ,j1+1,0,a,gm++t,lr++tl,ps++[m],some ⟨g5,0,none⟩,aD,eu++[⟨bi st,sp,false⟩],some ⟨g7,0,none⟩,mO,TT s j1,PP s j1,rfl,ae J9,(fun _=>hk9),PC⟩
  ·have HB:=af hbu;have Ar:=af hres;have HQ:=af hq;have iV:=af hI.ch;have LSX:=af hI.ls;clear hI HC HR I0 hbu hres hq hk
   by_cases h1:ps.length=1
   ·obtain ⟨m,rfl⟩:=List.length_eq_one_iff.1 h1;obtain ⟨p0,p1,p2,p3,p4,p5,p6,p7⟩:=(ae iV).box.eight;obtain ⟨gp,gcp,ep,cp⟩:=aK (ae iV).prow 0 (.int .i64 m) rfl;simp only [Value.slice.injEq] at ep;obtain ⟨rfl,_,rfl⟩:=ep;clear h1;go_wp2;go_ret;rw [ae Ar];obtain ⟨t,rfl⟩:=(ae iV).sfx;obtain ⟨tl,rfl,hnew⟩:=(ae iV).new;exact ⟨m,rfl,lI,_,_,t,tl,(ae iV).fr,(ae iV).pt,rfl,rfl,hnew,(ae iV).rs,hij,hn,(ae HB).alone⟩
   ·skip
    have H1:=af h1;have h1':¬((ps.length:Int)=1):=by omega
    have h1b:((ps.length:Int)==1)=false:=beq_eq_false_iff_ne.2 h1';have hq:=ae HQ h1;clear h1;obtain ⟨p0,p1,p2,p3,p4,p5,p6,p7⟩:=(ae iV).box.eight;have X4:=af (show nD wr (⟨4,[],em,em,PP s i,0,ps,eu⟩,.slice none 0 0,.slice pa ps.length pc,.slice sa eu.length sc) from ⟨World.ownsRow_nil _ _ _ _,fB (ae iV).prow,fB (ae iV).srow⟩);have FX:=af (show lH w.heap.size (⟨4,[],em,em,PP s i,0,ps,eu⟩,.slice none 0 0,.slice pa ps.length pc,.slice sa eu.length sc) from fun g hg=>by
     rcases hg with hg|hg|hg
     ·cases hg
     ·exact ((ae iV).prow.lt g hg).1
     ·exact ((ae iV).srow.lt g hg).1)
    go_wp2_with fail;refine (fV base b s tv j d 0 (a) kv rv lI gm lr ⟨4,[],em,em,PP s i,0,ps,eu⟩ none 0 pa pc sa sc wr (ae iV).rs (ae iV).pt (ae X4) (by omega) oJ hbb).mono ?_;rintro e' wf ⟨pv',rfl,fr,pg,pu⟩;have F6:=af ((ae iV).fr.trans fr);have R6:=af pg;have P6:=af pu;clear fr pg pu p0 p1 p2 p3 p4 p5 p6 p7;go_wp2;go_ret;rw [ae Ar];obtain ⟨t,rfl⟩:=(ae iV).sfx;obtain ⟨tl,rfl,hnew⟩:=(ae iV).new;exact ⟨_,rfl,pv',_,_,t++[_],tl++[_],ae F6,ae P6,by rw [List.append_assoc],by rw [List.append_assoc],fun x hx=>by
     rw [List.mem_append,List.mem_singleton] at hx
     rcases hx with hx|rfl
     ·exact hnew x hx
     ·exact ae FX,ae R6,hij,by simp at hq ⊢;omega,(ae HB).chain (by simpa using ae H1) _⟩
  ·have Ar:=af hres;have HPS:=af hps;have iV:=af hI.ch;have LSX:=af hI.ls;clear hI HC HR I0 hres hps hk
   by_cases h1:ps.length=1
   ·obtain ⟨m,rfl⟩:=List.length_eq_one_iff.1 h1;obtain ⟨p0,p1,p2,p3,p4,p5,p6,p7⟩:=(ae iV).box.eight;obtain ⟨gp,gcp,ep,cp⟩:=aK (ae iV).prow 0 (.int .i64 m) rfl;simp only [Value.slice.injEq] at ep;obtain ⟨rfl,_,rfl⟩:=ep;clear h1;go_wp2;go_ret;rw [ae Ar];obtain ⟨t,rfl⟩:=(ae iV).sfx;obtain ⟨tl,rfl,hnew⟩:=(ae iV).new;exact ⟨m,rfl,lI,_,_,t,tl,(ae iV).fr,(ae iV).pt,rfl,rfl,hnew,he,j,hij,(ae iV).rs,by omega⟩
   ·skip
    have H1:=af h1;have h1':¬((ps.length:Int)=1):=by omega
    have h1b:((ps.length:Int)==1)=false:=beq_eq_false_iff_ne.2 h1';clear h1;obtain ⟨p0,p1,p2,p3,p4,p5,p6,p7⟩:=(ae iV).box.eight;have X4:=af (show nD wr (⟨4,[],em,em,PP s i,0,ps,eu⟩,.slice none 0 0,.slice pa ps.length pc,.slice sa eu.length sc) from ⟨World.ownsRow_nil _ _ _ _,fB (ae iV).prow,fB (ae iV).srow⟩);have FX:=af (show lH w.heap.size (⟨4,[],em,em,PP s i,0,ps,eu⟩,.slice none 0 0,.slice pa ps.length pc,.slice sa eu.length sc) from fun g hg=>by
     rcases hg with hg|hg|hg
     ·cases hg
     ·exact ((ae iV).prow.lt g hg).1
     ·exact ((ae iV).srow.lt g hg).1)
    go_wp2_with fail;refine (fV base b s tv j d e (PP s jj) kv rv lI gm lr ⟨4,[],em,em,PP s i,0,ps,eu⟩ none 0 pa pc sa sc wr (ae iV).rs (ae iV).pt (ae X4) (by omega) oJ hbb).mono ?_;rintro e' wf ⟨pv',rfl,fr,pg,pu⟩;have F6:=af ((ae iV).fr.trans fr);have R6:=af pg;have P6:=af pu;clear fr pg pu p0 p1 p2 p3 p4 p5 p6 p7;go_wp2;go_ret;rw [ae Ar];obtain ⟨t,rfl⟩:=(ae iV).sfx;obtain ⟨tl,rfl,hnew⟩:=(ae iV).new;exact ⟨_,rfl,pv',_,_,t++[_],tl++[_],ae F6,ae P6,by rw [List.append_assoc],by rw [List.append_assoc],fun x hx=>by
     rw [List.mem_append,List.mem_singleton] at hx
     rcases hx with hx|rfl
     ·exact hnew x hx
     ·exact ae FX,he,j,hij,ae R6,by simp at hn ⊢;omega⟩
theorem XT {a c:aei} (h:eqs a c=true):a=c:=by
 unfold eqs at h;rw [beq_iff_eq] at h;rw [←gV a,←gV c,h]
def kH (pl:List PV) (ps:List Nat) (x:Ex):Prop:=
 ∃n0 ns x0 rs f,ps=n0::ns∧Tr pl f n0 x0∧bQ (Tr pl f) ns (rs.map fun r=>r.2.2)∧(∀r∈rs,r.1=sg 124)∧x=kV x0 rs
theorem kH.one {pl:List PV} {f m:Nat} {y:Ex} (h:Tr pl f m y):kH pl [m] y:=⟨m,[],y,[],f,rfl,h,trivial,by simp,rfl⟩
theorem kH.snoc {pl t:List PV} {ps:List Nat} {x:Ex} (h:kH pl ps x) {f m:Nat} {y:Ex} (k:Tr (pl++t) f m y) (p:Nat):kH (pl++t) (ps++[m]) (jZ (sg 124) p x y):=by
 obtain ⟨n0,ns,x0,rs,g,rfl,h1,h2,h3,rfl⟩:=h;refine ⟨n0,ns++[m],x0,rs++[(sg 124,p,y)],g+f,rfl,Tr.le _ (by omega) (Tr.more pl t g _ _ h1),?_,?_,?_⟩
 ·rw [List.map_append];exact bQ.snoc (Tr.le _ (by omega) k) _ _ (bQ.mono (fun n x hx=>Tr.le _ (by omega) (Tr.more pl t g _ _ hx)) _ _ h2)
 ·intro r hr;rw [List.mem_append,List.mem_singleton] at hr
  rcases hr with hr|rfl
  ·exact h3 r hr
  ·rfl
 ·rw [tq]
theorem kH.some {pl:List PV} {ps:List Nat} {x:Ex} (h:kH pl ps x) (hn:ps.length≠1) (p:Nat):∃f,Tr (pl++[⟨5,[],em,em,p,0,ps,[]⟩]) f pl.length x:=by
 obtain ⟨n0,ns,x0,rs,g,rfl,h1,h2,h3,rfl⟩:=h;refine ⟨g+1,_,List.getElem?_concat_length,.inr (.inr (.inr (.inr ⟨rfl,rfl,rfl,n0,ns,x0,rs,rfl,Tr.more pl _ g _ _ h1,bQ.mono (Tr.more pl _ g) _ _ h2,h3,?_,rfl⟩)))⟩;rintro rfl
 cases ns with
 |nil=>exact hn rfl
 |cons n ns=>exact h2.elim
theorem kH.alone {pl:List PV} {m:Nat} {x:Ex} (h:kH pl [m] x):∃f,Tr pl f m x:=by
 obtain ⟨n0,ns,x0,rs,g,e,h1,h2,h3,rfl⟩:=h;simp only [List.cons.injEq] at e;obtain ⟨rfl,rfl⟩:=e
 cases rs with
 |nil=>exact ⟨g,h1⟩
 |cons r rs=>exact h2.elim
def ExC (T:Nat→aei) (P:Nat→Nat) (part:Nat→dM Ex) (i a ex n:Nat) (R:dM Ex) (k:Nat) (more:Bool) (j e aa:Nat) (gm:List PV) (ps:List Nat):Prop:=
 (more=true∧e=0∧a=aa∧gm.length+i≤n+j∧((i=j∧ps=[]∧pz T P [sg 124] part k none j=R)∨(i<j∧gm.length+i+1≤n+j∧∃x p,kH gm ps x∧pz T P [sg 124] part k (some (x,sg 124,p)) j=R)))∨
 (more=false∧e=0∧a=aa∧gm.length+i≤n+j∧i<j∧(ps.length≠1→gm.length+i+1≤n+j)∧∃x,kH gm ps x∧R=.ok (x,j))∨
 (more=false∧e≠0∧gm.length+i≤n+j+ex∧i≤j∧ps≠ []∧∃jj,P jj=aa∧R=.error (e,jj))
theorem Bv (base b:Nat) (s:aei) (tv:Value) (i d a:Nat) (kv rv pv:Value) (pl:List PV) (l:List PX) (w:World) (h:RS w b s tv i d 0 a kv rv pv) (ht:PT base w pv pl l) (hbb:base≤b) (bF:base≤w.heap.size) (hl:pl.length≤i) (room:Bool) (inner:Nat→dM Ex) (ex:Nat) (hex:ex≤800) (hr:room=true→d<4∧uR s inner (d+1) ex) (hf:room=false→d=4):
  Calls Tryz.prog 229 #[.pointer (some ⟨b,0,none⟩)] w (nY base b s tv i d a kv rv pv pl l w (ex+3) (gJ (TT s) (PP s) [sg 124] (jL (TT s) (PP s) room inner) i)):=by
 obtain ⟨iI,hi1,hy0,hy1,hy2⟩:=info_parts Tryz.infoInt;have II:=af hi1;have xe:=af hy0;have xg:=af hy1;have xh:=af hy2;clear hi1 hy0 hy1 hy2;generalize hR:gJ (TT s) (PP s) [sg 124] (jL (TT s) (PP s) room inner) i=R;rw [yS] at hR;have HR:=af hR;have H0:=af h;have uL:=af ht;obtain ⟨g,c,e0,hi,t0,t1,t2⟩:=h.at;obtain ⟨r0,r1,r2,r3,r4,r5,r6,r7⟩:=h.blk.eight;have hz:=h.blk.fz;have hlt:=h.lt;have E0:=af e0;rw [e0] at r0;have gl:=bU t0;have m0:=World.new_ne w _ r0;have m1:=World.new_ne w _ r1;have m2:=World.new_ne w _ t1;clear h ht e0 hR;go_enter Tryz.func229,Tryz.ntmps229;go_wp2_with fail
 go_region_held3 (fun w'=>w'.cell? ⟨b,0,none⟩=some (.slice (some ⟨g,0,none⟩) (jM s).length c)∧w'.cell? ⟨b,1,none⟩=some (.int .i64 i)∧w'.cell? ⟨g,i*3+1,none⟩=some (.int .i64 (PP s i))) (go_keep) (fail)
 rename_i hh;clear hh r0 r1 r2 r3 r4 r5 r6 r7 t0 t1 t2 m0 m1 m2 hz;have b1:Below w.heap.size w ((w.alloc (.cells #[.int .i64 5,.slice none 0 0,.string ⟨#[]⟩,.string ⟨#[]⟩,.int .i64 (PP s i),.int .i64 0,.slice none 0 0,.slice none 0 0] 255)).drew):=((Below.refl _ w).alloc aeg _).drew;have I0:=af (show xN base b s tv d kv rv pv i pl l w 5 ((w.alloc (.cells #[.int .i64 5,.slice none 0 0,.string ⟨#[]⟩,.string ⟨#[]⟩,.int .i64 (PP s i),.int .i64 0,.slice none 0 0,.slice none 0 0] 255)).drew) pv i 0 a pl l [] none 0 [] none 0 from
  ⟨Fr.of_below b1 bF,(ae H0).below b1,(ae uL).but (But.of_below (b:=b) b1) (ae H0).blk hbb bF,(ai.new w _ _).drew,fun e=>by
    have:=((ae uL).row.lt _ e).2;omega,World.ownsRow_nil _ _ _ _,World.ownsRow_nil _ _ _ _,fun x hx g hg e=>(by cases e),fun x hx g hg e=>(by cases e),⟨[],by simp⟩,⟨[],by simp⟩,hlt,fun g hg=>((ae H0).tok.lt g hg).2⟩)
 clear b1;go_wp2_with fail
 go_loopg [4] 512 (fun k vm wr=>∃(more:Bool) (lI:Value) (j e aa:Nat) (gm:List PV) (lr:List PX) (ps:List Nat) (pa:Option Addr) (pc:Nat),vm=.bool more∧xN base b s tv d kv rv pv i pl l w 5 wr lI j e aa gm lr ps pa pc [] none 0∧(e=0→ps.length≤j)∧(more=true→512≤k+j)∧Hid (ExC (TT s) (PP s) (jL (TT s) (PP s) room inner) i a (ex+2) pl.length R k more j e aa gm ps))
 case atStart=>exact ⟨true,pv,i,0,a,pl,l,[],none,0,rfl,ae I0,(fun _=>by simp),(fun _=>by omega),af (.inl ⟨rfl,rfl,rfl,by omega,.inl ⟨rfl,rfl,ae HR⟩⟩)⟩
 case round=>
  obtain ⟨more,lI,j,e,aa,gm,lr,ps,pa,pc,rfl,hI,IL,hk,HC⟩:=hrel;have hle:=hI.rs.gd.le;have hsz:=hI.rs.sz;have oJ:base≤wr.heap.size:=Nat.le_trans bF hI.fr.below.size
  rcases ae HC with ⟨rfl,rfl,rfl,hn,hs⟩|⟨rfl,rfl,rfl,hn,hij,hq,x,hbu,hres⟩|⟨rfl,he,hn,hij,hps,jj,rfl,hres⟩
  ·have hk:=hk rfl;obtain ⟨fu,rfl⟩:∃f,gk=f+1:=⟨gk-1,by omega⟩;have HS:=af hs;have C:=af (Jq base b s tv j d a kv rv lI gm lr wr hI.rs hI.pt hbb oJ (by omega) room inner ex (by omega) hr hf);have HI:=af hI;have lp:=IL rfl;have hij:i≤j:=by rcases hs with ⟨h,_⟩|⟨h,_⟩<;>omega
   clear hI HC hs HR I0 IL;go_wp2_with fail;refine (ae C).mono ?_;rintro e' w1 ⟨m,rfl,sZ,Uo,l1,t,tl,fr,pt,rfl,rfl,EE,hres⟩;have Fj:base≤w1.heap.size:=Nat.le_trans oJ fr.below.size
   cases hu:jL (TT s) (PP s) room inner j with
   |error er=>
    obtain ⟨c0,jj⟩:=er;rw [hu] at hres;obtain ⟨hc0,j1,Oz,rs,Aq⟩:=hres;have tu:=af ((ae HI).call fr pt rs EE (Uo:=[]) (l1:=[]));have RE:=af (show R=.error (c0,jj) from by
     rcases ae HS with ⟨_,_,h⟩|⟨_,_,x,p,_,h⟩
     ·rw [←h];exact uT hu
     ·rw [←h];exact uT hu)
    clear fr pt rs EE C HI hu;have hsz1:=(ae tu).rs.sz;have XN:=(ae tu).rs.gd.le;obtain ⟨p0,p1,p2,p3,p4,p5,p6,p7⟩:=(ae tu).box.eight;have zp:=(ae tu).box.fz;have lq1:=(ae tu).box.lt;have O1:=af (ae tu).prow;go_wp2_with (at_builtin;go_must (refine wpList_append_lies _ rfl _ _ 29 rfl w.heap.size 3 iI _ 1 8 Tryz.underlying29 (ae II) (ae xe) (ae xg) (ae xh) rfl (by decide) (.slice pa ps.length pc) ps.length (ps.map fun n:Nat=> .int .i64 n) rfl ?yH ⟨w1.heap.size,0,none⟩ 1 1 [.int .i64 m] rfl rfl ?mf ?nS (by decide) ?oC ?dX ?mg (w1.heap.size+1) ?Pg ?kw))
    case yH=>exact (ae O1).alloc _
    case mf=>exact World.news_of_block (B:=w1.heap.size) (cs:=#[.int .i64 m]) (t:=3) (fr:=(0,0)) (ai.new' _ _ _ _ rfl)
    case nS=>
     intro u hu;simp only [List.mem_cons,List.not_mem_nil,or_false] at hu
     rcases hu with rfl
     rfl
    case oC=>unfold maxLen;omega
    case dX=>omega
    case mg=>simp;omega
    case Pg=>simp
    intro g5 aD w5 aC aj aP di;obtain ⟨xk,yT⟩:=(ae tu).grownP Fj hbb bF aj aC aP;have Bu:=af yT;obtain ⟨q0,q1,q2,q3,q4,q5,q6,q7⟩:=xk.eight;have zq:=xk.fz;have lq5:=xk.lt;clear aC aj aP xk yT p0 p1 p2 p3 p4 p5 p6 p7 zp;have DF:base≤(w5.setCell ⟨w.heap.size,6,none⟩ (.slice (some ⟨g5,0,none⟩) (ps.length+1) aD)).heap.size:=Nat.le_trans bF (ae Bu).fr.below.size;go_wp2_with fail;refine (ib b s tv j1 d c0 (PP s jj) kv rv sZ (sg 124) _ (ae Bu).rs hc0).mono ?_;rintro e' w8 ⟨rfl,uU⟩;have xQ:=af ((ae Bu).below uU DF hbb);clear uU Bu;have PC:=af (show ExC (TT s) (PP s) (jL (TT s) (PP s) room inner) i a (ex+2) pl.length R fu false j1 c0 (PP s jj) (gm++t) (ps++[m]) from .inr (.inr ⟨rfl,hc0,by omega,by omega,by simp,jj,rfl,ae RE⟩));go_wp2
    go_roundg fu
    case measure=>omega
    case rel=>exact ⟨false,sZ,j1,c0,PP s jj,gm++t,lr++tl,ps++[m],some ⟨g5,0,none⟩,aD,rfl,ae xQ,(fun e=>absurd e hc0),(fun h=>by cases h),PC⟩
   |ok yy=>
    obtain ⟨y,j1⟩:=yy;rw [hu] at hres;obtain ⟨rs,Oz,Aq,f1,htr⟩:=hres;have tu:=af ((ae HI).call fr pt rs EE (Uo:=[]) (l1:=[]));have BU:=af (show ∃x,kH (gm++t) (ps++[m]) x∧joinL (TT s) (PP s) [sg 124] (jL (TT s) (PP s) room inner) (fu+1) x j1=R from by
     rcases ae HS with ⟨_,rfl,h⟩|⟨_,_,x,p,hx,h⟩
     ·rw [xO hu] at h;exact ⟨_,kH.one htr,h⟩
     ·rw [xO hu] at h;exact ⟨_,hx.snoc htr p,h⟩)
    have HQ:=af (show (ps++[m]).length≠1→(gm++t).length+i+1≤pl.length+j1 from fun hne=>by
     rcases ae HS with ⟨_,rfl,_⟩|⟨_,hq,_⟩
     ·exact absurd rfl hne
     ·omega)
    clear fr pt rs EE C HI hu htr;have hsz1:=(ae tu).rs.sz;have XN:=(ae tu).rs.gd.le;obtain ⟨p0,p1,p2,p3,p4,p5,p6,p7⟩:=(ae tu).box.eight;have zp:=(ae tu).box.fz;have lq1:=(ae tu).box.lt;have O1:=af (ae tu).prow;go_wp2_with (at_builtin;go_must (refine wpList_append_lies _ rfl _ _ 29 rfl w.heap.size 3 iI _ 1 8 Tryz.underlying29 (ae II) (ae xe) (ae xg) (ae xh) rfl (by decide) (.slice pa ps.length pc) ps.length (ps.map fun n:Nat=> .int .i64 n) rfl ?EZ ⟨w1.heap.size,0,none⟩ 1 1 [.int .i64 m] rfl rfl ?yI ?yJ (by decide) ?vQ ?iP ?yK (w1.heap.size+1) ?hHC ?nA))
    case EZ=>exact (ae O1).alloc _
    case yI=>exact World.news_of_block (B:=w1.heap.size) (cs:=#[.int .i64 m]) (t:=3) (fr:=(0,0)) (ai.new' _ _ _ _ rfl)
    case yJ=>
     intro u hu;simp only [List.mem_cons,List.not_mem_nil,or_false] at hu
     rcases hu with rfl
     rfl
    case vQ=>unfold maxLen;omega
    case iP=>omega
    case yK=>simp;omega
    case hHC=>simp
    intro g5 aD w5 aC aj aP di;obtain ⟨xk,yT⟩:=(ae tu).grownP Fj hbb bF aj aC aP;have Bu:=af yT;obtain ⟨q0,q1,q2,q3,q4,q5,q6,q7⟩:=xk.eight;have zq:=xk.fz;have lq5:=xk.lt;clear aC aj aP xk yT p0 p1 p2 p3 p4 p5 p6 p7 zp;have DF:base≤(w5.setCell ⟨w.heap.size,6,none⟩ (.slice (some ⟨g5,0,none⟩) (ps.length+1) aD)).heap.size:=Nat.le_trans bF (ae Bu).fr.below.size
    cases Fq:eqs (TT s j1) (sg 124)
    ·go_wp2_with fail;refine (aZ b s tv j1 d a kv rv sZ (sg 124) _ (ae Bu).rs false Fq).mono ?_;rintro e' w8 ⟨rfl,uU⟩;have xQ:=af ((ae Bu).below uU DF hbb);clear uU Bu;have PC:=af (show ExC (TT s) (PP s) (jL (TT s) (PP s) room inner) i a (ex+2) pl.length R fu false j1 0 a (gm++t) (ps++[m]) from .inr (.inl ⟨rfl,rfl,rfl,by omega,by omega,ae HQ,by
      obtain ⟨x,hx,hy⟩:=ae BU;rw [Fh (by simp [gX,Fq])] at hy;exact ⟨x,hx,hy.symm⟩⟩))
     clear Fq;go_wp2
     go_roundg fu
     case measure=>omega
     case rel=>exact ⟨false,sZ,j1,0,a,gm++t,lr++tl,ps++[m],some ⟨g5,0,none⟩,aD,rfl,ae xQ,(fun _=>by simp;omega),(fun h=>by cases h),PC⟩
    ·go_wp2_with fail;refine (aZ b s tv j1 d a kv rv sZ (sg 124) _ (ae Bu).rs true Fq).mono ?_;rintro e' w8 ⟨rfl,uU⟩;have xQ:=af ((ae Bu).below uU DF hbb);have uV:base≤w8.heap.size:=Nat.le_trans DF uU.size;clear uU Bu;have HJ:=af ((ae xQ).rs.gd.succ (bZ Fq (by decide)));obtain ⟨r0,r1,r2,r3,r4,_⟩:=(ae xQ).rs.blk.eight;have zr:=(ae xQ).rs.blk.fz;have xm:=af ((ae xQ).but ((But.refl b w8).setCell 1 (.int .i64 ((j1:Int)+1))) uV hbb ((ae xQ).rs.setI (j1+1) (ae HJ)));have PC:=af (show ExC (TT s) (PP s) (jL (TT s) (PP s) room inner) i a (ex+2) pl.length R fu true (j1+1) 0 a (gm++t) (ps++[m]) from .inl ⟨rfl,rfl,rfl,by omega,.inr ⟨by omega,by omega,by
      obtain ⟨x,hx,hy⟩:=ae BU;rw [vT (by simp [gX,Fq])] at hy;have e:TT s j1=sg 124:=XT Fq;rw [e] at hy;exact ⟨x,PP s j1,hx,hy⟩⟩⟩)
     have hk9:512≤fu+(j1+1):=by omega
     clear Fq;go_wp2
     go_roundg fu
     case measure=>omega
     case rel=>exact ⟨true,sZ,j1+1,0,a,gm++t,lr++tl,ps++[m],some ⟨g5,0,none⟩,aD,rfl,ae xm,(fun _=>by simp;omega),(fun _=>hk9),PC⟩
  ·have HB:=af hbu;have Ar:=af hres;have HQ:=af hq;have iV:=af hI;clear hI HC HR I0 hbu hres hq hk IL
   by_cases h1:ps.length=1
   ·obtain ⟨m,rfl⟩:=List.length_eq_one_iff.1 h1;obtain ⟨p0,p1,p2,p3,p4,p5,p6,p7⟩:=(ae iV).box.eight;obtain ⟨gp,gcp,ep,cp⟩:=aK (ae iV).prow 0 (.int .i64 m) rfl;simp only [Value.slice.injEq] at ep;obtain ⟨rfl,_,rfl⟩:=ep;clear h1;go_wp2;go_ret;rw [ae Ar];obtain ⟨t,rfl⟩:=(ae iV).sfx;obtain ⟨tl,rfl,hnew⟩:=(ae iV).new;exact ⟨m,rfl,lI,_,_,t,tl,(ae iV).fr,(ae iV).pt,rfl,rfl,hnew,(ae iV).rs,hij,hn,(ae HB).alone⟩
   ·skip
    have H1:=af h1;have h1':¬((ps.length:Int)=1):=by omega
    have h1b:((ps.length:Int)==1)=false:=beq_eq_false_iff_ne.2 h1';have hq:=ae HQ h1;clear h1;obtain ⟨p0,p1,p2,p3,p4,p5,p6,p7⟩:=(ae iV).box.eight;have X4:=af (show nD wr (⟨5,[],em,em,PP s i,0,ps,[]⟩,.slice none 0 0,.slice pa ps.length pc,.slice none 0 0) from ⟨World.ownsRow_nil _ _ _ _,fB (ae iV).prow,World.ownsRow_nil _ _ _ _⟩);have FX:=af (show lH w.heap.size (⟨5,[],em,em,PP s i,0,ps,[]⟩,.slice none 0 0,.slice pa ps.length pc,.slice none 0 0) from fun g hg=>by
     rcases hg with hg|hg|hg
     ·cases hg
     ·exact ((ae iV).prow.lt g hg).1
     ·cases hg)
    go_wp2_with fail;refine (fV base b s tv j d 0 (a) kv rv lI gm lr ⟨5,[],em,em,PP s i,0,ps,[]⟩ none 0 pa pc none 0 wr (ae iV).rs (ae iV).pt (ae X4) (by omega) oJ hbb).mono ?_;rintro e' wf ⟨pv',rfl,fr,pg,pu⟩;have F6:=af ((ae iV).fr.trans fr);have R6:=af pg;have P6:=af pu;clear fr pg pu p0 p1 p2 p3 p4 p5 p6 p7;go_wp2;go_ret;rw [ae Ar];obtain ⟨t,rfl⟩:=(ae iV).sfx;obtain ⟨tl,rfl,hnew⟩:=(ae iV).new;exact ⟨_,rfl,pv',_,_,t++[_],tl++[_],ae F6,ae P6,by rw [List.append_assoc],by rw [List.append_assoc],fun x hx=>by
     rw [List.mem_append,List.mem_singleton] at hx
     rcases hx with hx|rfl
     ·exact hnew x hx
     ·exact ae FX,ae R6,hij,by simp at hq ⊢;omega,(ae HB).some (by simpa using ae H1) _⟩
  ·have Ar:=af hres;have iV:=af hI;clear hI HC HR I0 hres hps hk IL
   by_cases h1:ps.length=1
   ·obtain ⟨m,rfl⟩:=List.length_eq_one_iff.1 h1;obtain ⟨p0,p1,p2,p3,p4,p5,p6,p7⟩:=(ae iV).box.eight;obtain ⟨gp,gcp,ep,cp⟩:=aK (ae iV).prow 0 (.int .i64 m) rfl;simp only [Value.slice.injEq] at ep;obtain ⟨rfl,_,rfl⟩:=ep;clear h1;go_wp2;go_ret;rw [ae Ar];obtain ⟨t,rfl⟩:=(ae iV).sfx;obtain ⟨tl,rfl,hnew⟩:=(ae iV).new;exact ⟨m,rfl,lI,_,_,t,tl,(ae iV).fr,(ae iV).pt,rfl,rfl,hnew,he,j,hij,(ae iV).rs,by omega⟩
   ·skip
    have H1:=af h1;have h1':¬((ps.length:Int)=1):=by omega
    have h1b:((ps.length:Int)==1)=false:=beq_eq_false_iff_ne.2 h1';clear h1;obtain ⟨p0,p1,p2,p3,p4,p5,p6,p7⟩:=(ae iV).box.eight;have X4:=af (show nD wr (⟨5,[],em,em,PP s i,0,ps,[]⟩,.slice none 0 0,.slice pa ps.length pc,.slice none 0 0) from ⟨World.ownsRow_nil _ _ _ _,fB (ae iV).prow,World.ownsRow_nil _ _ _ _⟩);have FX:=af (show lH w.heap.size (⟨5,[],em,em,PP s i,0,ps,[]⟩,.slice none 0 0,.slice pa ps.length pc,.slice none 0 0) from fun g hg=>by
     rcases hg with hg|hg|hg
     ·cases hg
     ·exact ((ae iV).prow.lt g hg).1
     ·cases hg)
    go_wp2_with fail;refine (fV base b s tv j d e (PP s jj) kv rv lI gm lr ⟨5,[],em,em,PP s i,0,ps,[]⟩ none 0 pa pc none 0 wr (ae iV).rs (ae iV).pt (ae X4) (by omega) oJ hbb).mono ?_;rintro e' wf ⟨pv',rfl,fr,pg,pu⟩;have F6:=af ((ae iV).fr.trans fr);have R6:=af pg;have P6:=af pu;clear fr pg pu p0 p1 p2 p3 p4 p5 p6 p7;go_wp2;go_ret;rw [ae Ar];obtain ⟨t,rfl⟩:=(ae iV).sfx;obtain ⟨tl,rfl,hnew⟩:=(ae iV).new;exact ⟨_,rfl,pv',_,_,t++[_],tl++[_],ae F6,ae P6,by rw [List.append_assoc],by rw [List.append_assoc],fun x hx=>by
     rw [List.mem_append,List.mem_singleton] at hx
     rcases hx with hx|rfl
     ·exact hnew x hx
     ·exact ae FX,he,j,hij,ae R6,by simp at hn ⊢;omega⟩
theorem wN (s:aei):∀(n d:Nat),d+n=4→uR s (gZ (TT s) (PP s) n) d (3*(n+1))
 |0,d,h=>fun base b tv i a kv rv pv pl l w h1 h2 h3 h4 h5=>
  Bv base b s tv i d a kv rv pv pl l w h1 h2 h3 h4 h5 false (fun _=> .error (0,0)) 0 (by omega) (fun e=>by cases e) (fun _=>by omega)
 |n+1,d,h=>fun base b tv i a kv rv pv pl l w h1 h2 h3 h4 h5=>by
  have:=Bv base b s tv i d a kv rv pv pl l w h1 h2 h3 h4 h5 true (gZ (TT s) (PP s) n) (3*(n+1)) (by omega) (fun _=>⟨by omega,wN s n (d+1) (by omega)⟩) (fun e=>by cases e);rw [show 3*(n+1+1)=3*(n+1)+3 by omega];exact this
def Zn (s:aei) (rm:Bool) (i a:Nat):Nat×Nat×Nat:=if dh (TT s i) then (if (TT s i).size≤8∧rm=true then (i+1,0,a) else (i,3,PP s i)) else (i,2,PP s i)
def Lh (s x:aei) (i e a:Nat):Nat×Nat×Nat:=if e=0 then (if eqs (TT s i) x then (i+1,0,a) else (i,2,PP s i)) else (i,e,a)
theorem Bw (b:Nat) (s:aei) (tv:Value) (i d a:Nat) (kv rv pv:Value) (rm:Bool) (w:World) (h:RS w b s tv i d 0 a kv rv pv):
  Calls Tryz.prog 228 #[.pointer (some ⟨b,0,none⟩),.bool rm] w fun e w'=>e=.returned (qb s i)∧But b w w'∧∃i' e' a',(i',e',a')=Zn s rm i a∧RS w' b s tv i' d e' a' kv rv pv:=by
 unfold Zn
 cases hn:dh (TT s i)
 ·exact (jq b s tv i d a kv rv pv rm w h hn).mono (fun e w' ⟨h1,h2,h3⟩=>⟨h1,h2,_,_,_,rfl,h3⟩)
 ·by_cases hl:(TT s i).size≤8
  ·cases hr:rm
   ·exact (Jm b s tv i d a kv rv pv false w h hn hl rfl).mono (fun e w' ⟨h1,h2,h3⟩=>⟨h1,h2,_,_,_,by simp,h3⟩)
   ·exact (iX b s tv i d a kv rv pv w h hn hl).mono (fun e w' ⟨h1,h2,h3⟩=>⟨h1,h2,_,_,_,by simp [hl],h3⟩)
  ·exact (kG b s tv i d a kv rv pv rm w h hn (by omega)).mono (fun e w' ⟨h1,h2,h3⟩=>⟨h1,h2,_,_,_,by simp [hl],h3⟩)
theorem nZ (b:Nat) (s:aei) (tv:Value) (i d e0 a:Nat) (kv rv pv:Value) (x:aei) (w:World) (h:RS w b s tv i d e0 a kv rv pv) (hx:0<(bi x).length):
  Calls Tryz.prog 188 #[.pointer (some ⟨b,0,none⟩),.string x] w fun e w'=>e=.returned (.tuple #[])∧But b w w'∧∃i' e' a',(i',e',a')=Lh s x i e0 a∧RS w' b s tv i' d e' a' kv rv pv:=by
 unfold Lh
 by_cases h0:e0=0
 ·subst h0
  cases hn:eqs (TT s i) x
  ·exact (Dw b s tv i d a kv rv pv x w h hn).mono (fun e w' ⟨h1,h2,h3⟩=>⟨h1,h2,_,_,_,by simp,h3⟩)
  ·exact (yP b s tv i d a kv rv pv x w h hn hx).mono (fun e w' ⟨h1,h2,h3⟩=>⟨h1,h2,_,_,_,by simp,h3⟩)
 ·exact (yQ b s tv i d e0 a kv rv pv x w h h0).mono (fun e w' ⟨h1,h2⟩=>⟨h1,But.of_below h2,_,_,_,by simp [h0],h.below h2⟩)
structure RV where
 kd:aei
 nm:aei
 pl:Nat
 ex:Nat
def kC (k:aei×Nat):List Value:=[.string k.1,.int .i64 k.2]
def rC (r:RV):List Value:=[.string r.kd,.string r.nm,.int .i64 r.pl,.int .i64 r.ex]
structure RM (base:Nat) (w:World) (b:Nat) (s:aei) (tv:Value) (i d e a:Nat) (kv rv pv:Value) (kl:List (aei×Nat)) (rl:List RV) (pl:List PV) (l:List PX):Prop where
 rs:RS w b s tv i d e a kv rv pv
 pt:PT base w pv pl l
 kt:w.ownsRow base 170 2 kv kl.length (kl.flatMap kC)
 rt:w.ownsRow base 172 4 rv rl.length (rl.flatMap rC)
 fh:∀x∈l,lH base x
def NX (T:TypeId) (w w':World):Prop:=∀(g:Nat) (cs:Array Value) (T':TypeId) (f:Nat×Nat),w.heap[g]? =some (Obj.cells cs T' f)→T'≠T→T'≠252→w'.heap[g]? =w.heap[g]?
theorem NX.row {T:TypeId} {w w':World} (k:NX T w w') {base:Nat} {e:TypeId} {size:Nat} {v:Value} {n:Nat} {xs:List Value} (h:w.ownsRow base e size v n xs) (h1:e≠T) (h2:e≠252):w'.ownsRow base e size v n xs:=ak h (fun g cs f _ hh=>k g cs _ f hh h1 h2)
theorem NX.pt {T:TypeId} {w w':World} (k:NX T w w') {base:Nat} {pv:Value} {pl:List PV} {l:List PX} (h:PT base w pv pl l) (h1:255≠T) (h2:257≠T) (h3:3≠T) (h4:259≠T):PT base w' pv pl l:=
 ⟨h.fst,k.row h.row h1 (by decide),fun x hx=>⟨k.row (h.rep x hx).g h2 (by decide),k.row (h.rep x hx).p h3 (by decide),k.row (h.rep x hx).s h4 (by decide)⟩⟩
theorem NX.grown {T:TypeId} {w W w5:World} {v:Value} {base:Nat} {size n:Nat} {xs:List Value} (h:w.ownsRow base T size v n xs) (k:Below w.heap.size w W) (hg:W.grownBy w5 v.ownBlock) (b:Nat) {cs:Array Value} (hb:ai w b cs 252) (o:Nat) (u:Value):NX T w (w5.setCell ⟨b,o,none⟩ u):=by
 intro g cs' T' f hh h1 h2;refine (Below.heap_setCell _ _ _ _ ?_).trans ((hg.block g (Nat.lt_of_lt_of_le (lt_of_some hh) k.size) (fun e=>cO h hh h1 e)).trans (k.block g (lt_of_some hh)));intro e;subst e;unfold ai at hb;rw [hb] at hh;simp only [Option.some.injEq,Obj.cells.injEq] at hh;exact h2 hh.2.1.symm
section
variable {base b:Nat} {w w':World} {s:aei} {tv:Value} {i d e a:Nat} {kv rv pv:Value} {kl:List (aei×Nat)} {rl:List RV} {pl:List PV} {l:List PX}
theorem RM.below (h:RM base w b s tv i d e a kv rv pv kl rl pl l) (k:Below w.heap.size w w') (hbb:base≤b) (bF:base≤w.heap.size):RM base w' b s tv i d e a kv rv pv kl rl pl l:=
 ⟨h.rs.below k,h.pt.but (But.of_below (b:=b) k) h.rs.blk hbb bF,ak h.kt (fun g cs f _ hh=>k.block g (lt_of_some hh)),ak h.rt (fun g cs f _ hh=>k.block g (lt_of_some hh)),h.fh⟩
theorem But.row {v:Value} {T:TypeId} {size n:Nat} {xs:List Value} {bs:Nat} (k:But b w w') {cs:Array Value} (hb:ai w b cs 252) (h:w.ownsRow bs T size v n xs) (h1:T≠252):w'.ownsRow bs T size v n xs:=
 ak h (fun g cs f _ hh=>k.block g (lt_of_some hh) (fun e=>by
  subst e;unfold ai at hb;rw [hb] at hh;simp only [Option.some.injEq,Obj.cells.injEq] at hh;exact h1 hh.2.1.symm))
theorem RM.but (h:RM base w b s tv i d e a kv rv pv kl rl pl l) (k:But b w w') (hbb:base≤b) (bF:base≤w.heap.size) {i' d' e' a':Nat} (r:RS w' b s tv i' d' e' a' kv rv pv):RM base w' b s tv i' d' e' a' kv rv pv kl rl pl l:=
 ⟨r,h.pt.but k h.rs.blk hbb bF,k.row h.rs.blk h.kt (by decide),k.row h.rs.blk h.rt (by decide),h.fh⟩
theorem RM.fr (h:RM base w b s tv i d e a kv rv pv kl rl pl l) {pv':Value} (k:Fr base b w w' pv pv') {mX:List PV} {l':List PX} (p:PT base w' pv' mX l') {i' d' e' a':Nat} (r:RS w' b s tv i' d' e' a' kv rv pv') (hf:∀x∈l',lH base x):RM base w' b s tv i' d' e' a' kv rv pv' kl rl mX l':=
 ⟨r,p,k.row h.kt h.rs.blk h.pt.row (by decide) (by decide),k.row h.rt h.rs.blk h.pt.row (by decide) (by decide),hf⟩
theorem RM.kinds (h:RM base w b s tv i d e a kv rv pv kl rl pl l) (hbb:base≤b) (bF:base≤w.heap.size) {W w5:World} {g5 aD:Nat} {x:aei×Nat} (hB:Below w.heap.size w W) (G5:W.grownBy w5 kv.ownBlock) (O5:w5.ownsRow base 170 2 (.slice (some ⟨g5,0,none⟩) (kl.length+1) aD) (kl.length+1) (kl.flatMap kC++kC x)):
  RM base (w5.setCell ⟨b,5,none⟩ (.slice (some ⟨g5,0,none⟩) (kl.length+1) aD)) b s tv i d e a (.slice (some ⟨g5,0,none⟩) (kl.length+1) aD) rv pv (kl++[x]) rl pl l∧Below base w (w5.setCell ⟨b,5,none⟩ (.slice (some ⟨g5,0,none⟩) (kl.length+1) aD))∧NX 170 w (w5.setCell ⟨b,5,none⟩ (.slice (some ⟨g5,0,none⟩) (kl.length+1) aD)):=by
 have nx:=NX.grown h.kt hB G5 b h.rs.blk 5 (.slice (some ⟨g5,0,none⟩) (kl.length+1) aD);have K5:ai w5 b _ 252:=(G5.block b (Nat.lt_of_lt_of_le h.rs.lt hB.size) (fun e=>cO h.kt h.rs.blk (by decide) e)).trans ((hB.block b h.rs.lt).trans h.rs.blk);refine ⟨⟨⟨K5.set 5 _,nx.row h.rs.tok (by decide) (by decide),h.rs.gd,⟨⟨_,_,_,rfl⟩,h.rs.fm.2⟩,h.rs.sz⟩,nx.pt h.pt (by decide) (by decide) (by decide) (by decide),?_,nx.row h.rt (by decide) (by decide),h.fh⟩,?_,nx⟩
 ·have:=aX O5 K5 (by decide) 5 (.slice (some ⟨g5,0,none⟩) (kl.length+1) aD);rw [List.flatMap_append,List.length_append]
  simpa using this
 ·exact (Below.grown (hB.mono bF) G5 (Nat.le_trans bF hB.size) (fun k hk=>(h.kt.lt k hk).1)).setCell hbb _
theorem RM.rels (h:RM base w b s tv i d e a kv rv pv kl rl pl l) (hbb:base≤b) (bF:base≤w.heap.size) {W w5:World} {g5 aD:Nat} {x:RV} (hB:Below w.heap.size w W) (G5:W.grownBy w5 rv.ownBlock) (O5:w5.ownsRow base 172 4 (.slice (some ⟨g5,0,none⟩) (rl.length+1) aD) (rl.length+1) (rl.flatMap rC++rC x)):
  RM base (w5.setCell ⟨b,6,none⟩ (.slice (some ⟨g5,0,none⟩) (rl.length+1) aD)) b s tv i d e a kv (.slice (some ⟨g5,0,none⟩) (rl.length+1) aD) pv kl (rl++[x]) pl l∧Below base w (w5.setCell ⟨b,6,none⟩ (.slice (some ⟨g5,0,none⟩) (rl.length+1) aD))∧NX 172 w (w5.setCell ⟨b,6,none⟩ (.slice (some ⟨g5,0,none⟩) (rl.length+1) aD)):=by
 have nx:=NX.grown h.rt hB G5 b h.rs.blk 6 (.slice (some ⟨g5,0,none⟩) (rl.length+1) aD);have K5:ai w5 b _ 252:=(G5.block b (Nat.lt_of_lt_of_le h.rs.lt hB.size) (fun e=>cO h.rt h.rs.blk (by decide) e)).trans ((hB.block b h.rs.lt).trans h.rs.blk);refine ⟨⟨⟨K5.set 6 _,nx.row h.rs.tok (by decide) (by decide),h.rs.gd,⟨h.rs.fm.1,⟨_,_,_,rfl⟩,h.rs.fm.2.2⟩,h.rs.sz⟩,nx.pt h.pt (by decide) (by decide) (by decide) (by decide),nx.row h.kt (by decide) (by decide),?_,h.fh⟩,?_,nx⟩
 ·have:=aX O5 K5 (by decide) 6 (.slice (some ⟨g5,0,none⟩) (rl.length+1) aD);rw [List.flatMap_append,List.length_append]
  simpa using this
 ·exact (Below.grown (hB.mono bF) G5 (Nat.le_trans bF hB.size) (fun k hk=>(h.rt.lt k hk).1)).setCell hbb _
end
theorem NX.blk {T:TypeId} {w w':World} (k:NX T w w') {g:Nat} {cs:Array Value} {T':TypeId} (h:ai w g cs T') (h1:T'≠T) (h2:T'≠252):ai w' g cs T':=(k g cs T' (0,0) h h1 h2).trans h
theorem Tryz.infoKd:(Tryz.prog.info? 170).map (fun i=>(i.zero,i.size,i.bytes))=some (some (.agg #[.string ⟨#[]⟩,.int .i64 0]),2,24):=by kernel_rfl
theorem Tryz.infoRl:(Tryz.prog.info? 172).map (fun i=>(i.zero,i.size,i.bytes))=some (some (.agg #[.string ⟨#[]⟩,.string ⟨#[]⟩,.int .i64 0,.int .i64 0]),4,48):=by kernel_rfl
