import Derived.Test.YtlbpnlngckgcbaaGreatDoorM08
import Derived.Test.YtlbpnlngckgcbaaGreatDoorM10
set_option linter.all false
set_option maxHeartbeats 4000000
set_option maxRecDepth 100000
namespace Go.Proofs.YtlbpnlngckgcbaaGreatDoor
open Go.RowKit Go.PlainAid Go.Proofs.Tryz
variable {aA aU:Prop} {pl:List PV} {f m base size n i' d' e' a' g5 aT g c b1 n1 B:Nat} {ps:List Nat} {T e T' E:TypeId} {w w' W w5:af} {v pv pv' v1:ag} {xs:List ag} {cs:Array ag} {α β:Type} {P:Program} {rest:List Oper}
abbrev Oq(a0:Int):Obj:=.cells #[.int .i64 4,.slice none 0 0,.string ⟨#[]⟩,.string ⟨#[]⟩,.int .i64 a0,.int .i64 0,.slice none 0 0,.slice none 0 0] 255
def Ot (h:aA:=by
 simpa using NS7.u):aA:=h
def W8 (h:aA:=by
 refine Fv ?_;intro wf pv' F6 R6 P6;clear p0 p1 p2 p3 p4 p5 p6 p7;go_wp2;go_ret;rw [W9.u];obtain ⟨t,rfl⟩:=kV.u.sfx;obtain ⟨tl,rfl,C⟩:=kV.u.new;exact ⟨_,rfl,pv',_,_,t++[_],tl++[_],F6.u,P6.u,by rw [dc],by rw [dc],fun x A=>by
  rw [aQ,aR] at A
  rcases A with A|rfl
  ·exact C x A
  exact FX.u,he,j,hij,R6.u,by simp at hn ⊢;omega⟩):aA:=h
def Xa (h:aA:=by
 obtain ⟨m,rfl⟩:=List.length_eq_one_iff.1 h1;obtain ⟨Q,p1,p2,R,U,V,Y,Z⟩:=kV.u.box.eight;obtain ⟨J,I,A,D⟩:=aS kV.u.prow 0 (.int .i64 m) rfl;simp only [aI] at A;obtain ⟨rfl,_,rfl⟩:=A;clear h1;go_wp2;go_ret;rw [W9.u];obtain ⟨t,rfl⟩:=kV.u.sfx;obtain ⟨tl,rfl,C⟩:=kV.u.new;exact ⟨m,rfl,lD,_,_,t,tl,kV.u.fr,kV.u.pt,rfl,rfl,C,kV.u.rs,hij,hn,HB.u.alone⟩):aA:=h
def Xb (h:aA:=by
 obtain ⟨m,rfl⟩:=List.length_eq_one_iff.1 h1;obtain ⟨Q,p1,p2,R,U,V,Y,Z⟩:=kV.u.box.eight;obtain ⟨J,I,A,D⟩:=aS kV.u.prow 0 (.int .i64 m) rfl;simp only [aI] at A;obtain ⟨rfl,_,rfl⟩:=A;clear h1;go_wp2;go_ret;rw [W9.u];obtain ⟨t,rfl⟩:=kV.u.sfx;obtain ⟨tl,rfl,C⟩:=kV.u.new;exact ⟨m,rfl,lD,_,_,t,tl,kV.u.fr,kV.u.pt,rfl,rfl,C,he,j,hij,kV.u.rs,aj⟩):aA:=h
def Xc (h:aA:=by
 have A:512<=fu+(j1+1):=aj;clear c1 c2 c3 c4 c5 S1 S2 S3 S5 WF;go_wp2
 go_roundg fu
 case measure=>omega
 case rel=>exact ⟨true,KQ,j1+1,0,a,fx++t,lr++tl,ps++[m],some ⟨g5,0,none⟩,aT,eJ++[⟨bJ st,sp,false⟩],some ⟨g7,0,none⟩,xx,TT s j1,PP s j1,rfl,J9.u,(fun _=>A),PC⟩):aA:=h
def Ou (h:aA:=by
 intro u A;simp only [eW,bi,dK,dP] at A
 rcases A with rfl|rfl|rfl<;>rfl):aA:=h
def pD (h:aA:=by
 exact Ov):aA:=h
def Ov (h:aA:=by
 intro u A;simp only [bi,dK,dP] at A
 rcases A with rfl
 rfl):aA:=h
def Ow(q:aU) (h:bF aU->aA:=by
 intro zq;have c1:=BQ.u.sign mm Fw.u Ot DA1.u 0 (.string (TT s j1));have S1:=Fw.u.set 0 (.string (TT s j1));have c2:=c1.sign mm S1 Ot DA1.u 1 (.int .i64 (PP s j1));have S2:=S1.set 1 (.int .i64 (PP s j1));have c3:=c2.sign mm S2 Ot DA1.u 2 (.bool (dw (TT s j1)));have S3:=S2.set 2 (.bool (dw (TT s j1)));have c4:=c3.but ((But.refl b _).setCell 1 (.int .i64 ((j1:Int)+1))) (aP mm c3.fr.below.size) hbb (c3.rs.setI (j1+1) HJ.u);have c5:=c4.below (bj.drew) (aP mm c4.fr.below.size) hbb;have S5:=(aE.other S3 (a:=⟨b,1,none⟩) k1 (.int .i64 ((j1:Int)+1))).drew;have J9:=ai (show ChJ base b s tv d kv rv pv i pl l w _ KQ (j1+1) 0 a (fx++t) (lr++tl) (ps++[m]) (some ⟨g5,0,none⟩) aT (eJ++[⟨bJ st,sp,false⟩]) (some ⟨g7,0,none⟩) xx (TT s j1) (PP s j1) from ⟨c5,by rw [<-WF];exact S5,NS7.u,fun _=>aM,by have:=LS.u;simp [this],DA1.u⟩)
 revert c1 S1 c2 S2 c3 S3 c4 c5 S5 J9
 exact zq.1):aA:=h ⟨q⟩
def Ox(q:aU) (h:bF aU->aA:=by
 intro zq;intro g5 aT w5 fg bE nx rH;obtain ⟨Uc,Oy⟩:=xj.u.grownP Yp hbb mm bE fg nx;have ye:=ai Oy;have SA:=SB1.u.alloc (.cells #[.int .i64 m] 3);have SB5:=ai (show aE w5 (w.heap.size+1) _ 259 from (bE.block _ SA.lt (own_ne (O1.u.alloc _) SA au)).trans SA);clear SA;obtain ⟨s0',s1',s2'⟩:=SB5.u.three;have nq1:¬(w.heap.size+1=w.heap.size):=aj;have lq6:=SB5.u.lt;obtain ⟨q0,q1,q2,q3,q4,q5,q6,q7⟩:=Uc.eight;have zq:=Uc.fz;clear fg bE nx Uc Oy;have SX:=ai (show aE (w5.setCell ⟨w.heap.size,6,none⟩ (.slice (some ⟨g5,0,none⟩) (ps.length+1) aT)) (w.heap.size+1) #[.string st,.int .i64 sp,.bool false] 259 from SB5.u.other nq1 _);have O5:=ai ye.u.srow;have tF:base<=(w5.setCell ⟨w.heap.size,6,none⟩ (.slice (some ⟨g5,0,none⟩) (ps.length+1) aT)).heap.size:=aP mm ye.u.fr.below.size
 revert g5 aT w5 rH ye SB5 s0' s1' s2' nq1 lq6 q0 q1 q2 q3 q4 q5 q6 q7 zq SX O5 tF
 exact zq.1):aA:=h ⟨q⟩
def Fx(q:aU) (h:bF aU->aA:=by
 intro zq;rintro e' w8 ⟨rfl,hb8⟩;have KR:=ai (Oz.u.below hb8 OA hbb);have UW:=ai ((Yq.u.other nq1 _).below hb8);have OB:base<=w8.heap.size:=aP OA hb8.size;clear hb8
 revert w8 KR UW OB
 exact zq.1):aA:=h ⟨q⟩
def Ah(q:aU) (h:bF aU->aA:=by
 intro zq;have h1':¬((ps.length:Int)=1):=aj;have h1b:((ps.length:Int)==1)=false:=b6.2 h1'
 revert h1' h1b
 exact zq.1):aA:=h ⟨q⟩
def OC(q:aU) (h:bF aU->aA:=by
 intro zq;obtain ⟨Yr,KS⟩:=ye.u.grownS tF hbb mm u5 IY (by simpa using KU);have Oz:=ai KS;have SA:=SX.u.alloc (.cells #[.string st,.int .i64 sp,.bool false] 259);have Yq:=ai (show aE w7 (w.heap.size+1) _ 259 from (u5.block _ SA.lt (fun e=>NS1.u e.symm)).trans SA);obtain ⟨v0,v1,v2,v3,v4,v5,v6,v7⟩:=Yr.eight;have zv:=Yr.fz
 revert Yr KS Oz SA Yq v0 v1 v2 v3 v4 v5 v6 v7 zv
 exact zq.1):aA:=h ⟨q⟩
def Ai(q:aU) (h:bF aU->aA:=by
 intro zq;rintro e' w9 ⟨rfl,hb9⟩;have BQ:=ai (KR.u.below hb9 OB hbb);have Fw:=ai (UW.u.below hb9);clear hb9
 revert w9 BQ Fw
 exact zq.1):aA:=h ⟨q⟩
def OD(q:aU) (h:bF aU->aA:=by
 intro zq;obtain ⟨p0,p1,p2,p3,p4,p5,p6,p7⟩:=kV.u.box.eight;have X4:=ai (show nw wr (⟨4,[],em,em,PP s i,0,ps,eJ⟩,.slice none 0 0,.slice pa ps.length pc,.slice sa eJ.length sc) from ⟨bL,hT kV.u.prow,hT kV.u.srow⟩)
 revert p0 p1 p2 p3 p4 p5 p6 p7 X4
 exact zq.1):aA:=h ⟨q⟩
def Fv(q:aU) (h:bF aU->aA:=by
 intro zq;rintro e' wf ⟨pv',rfl,fr,rs6,pt6⟩;have F6:=ai (kV.u.fr.trans fr);have R6:=ai rs6;have P6:=ai pt6;clear fr rs6 pt6
 revert wf pv' F6 R6 P6
 exact zq.1):aA:=h ⟨q⟩
def OE(q:aU) (h:bF aU->aA:=by
 intro zq;have OA:base<=(w7.setCell ⟨w.heap.size,7,none⟩ (.slice (some ⟨g7,0,none⟩) (eJ.length+1) xx)).heap.size:=aP mm Oz.u.fr.below.size
 revert OA
 exact zq.1):aA:=h ⟨q⟩
def tT{a c}(h:eqs a c=true):a=c:=by
 unfold eqs at h;rw [dA] at h;rw [<-dj a,<-dj c,h]
def ChC(T:Nat->ae)(P:Nat->Nat)(signs:List ae)(part:Nat->eI Ex)(i a ex n:Nat)(h:eI Ex)(k:Nat)(more:Bool)(j e aa:Nat)(fx:List PV)(ps:List Nat)(eJ:List Tk)(st:ae)(C:Nat):Prop:=
 (more=true/\e=0/\a=aa/\fx.length+i<=n+j/\((i=j/\ps=[]/\eJ=[]/\st=em/\C=0/\mO T P signs part k none j=h)\/(i<j/\fx.length+i+1<=n+j/\(st=sg 38\/st=sg 45)/\∃x,kH fx ps eJ x/\mO T P signs part k (some (x,st,C)) j=h)))\/
 (more=false/\e=0/\a=aa/\fx.length+i<=n+j/\i<j/\(ps.length≠1->fx.length+i+1<=n+j)/\∃x,kH fx ps eJ x/\h=.ok (x,j))\/
 (more=false/\e≠0/\fx.length+i<=n+j+ex/\i<=j/\ps≠ []/\∃A,P A=aa/\h=.error (e,A))
structure ChJ(base b:Nat)(s:ae)(tv:ag)(d:Nat)(kv rv pv:ag)(i:Nat)(pl:List PV)(l:List PX)(w:af)(wr:af)(lD:ag)(j e aa:Nat)(fx:List PV)(lr:List PX)(ps:List Nat)(pa:Option Addr)(pc:Nat)(eJ:List Tk)(sa:Option Addr)(sc:Nat)(st:ae)(sp:Nat):Prop where
 ch:tR base b s tv d kv rv pv i pl l w 4 wr lD j e aa fx lr ps pa pc eJ sa sc
 sb:aE wr (w.heap.size+1) #[.string st,.int .i64 sp,.bool false] 259
 ns:(Value.slice sa eJ.length sc).ownBlock≠some (w.heap.size+1)
 lp:e=0->ps.length<=j
 ls:eJ.length=ps.length
 da:∀x∈lr,xw (some (w.heap.size+1)) x
def Tryz.infoInt:(Tryz.prog.info? 3).map (fun i=>(i.zero,i.size,i.bytes))=some (some (.int .i64 0),1,8):=by kernel_rfl
def Fy(base b s tv i d a kv rv pv pl l w)(h:RS w b s tv i d 0 a kv rv pv)(bv:PT base w pv pl l)(hbb:base<=b)(mm:base<=w.heap.size)(cg:pl.length<=i)(room inner ex)(hex:ex<=900)(bX:room=true->d<4/\qo s inner (d+1) ex)(bP:room=false->d=4):
  Calls prog 251 #[.pointer (some ⟨b,0,none⟩)] w (qn base b s tv i d a kv rv pv pl l w (ex+2) (hE (TT s) (PP s) room inner i)):=by
 obtain ⟨bH,bs,bx,bz,bA⟩:=bK Tryz.infoInt;have bl:=ai bs;have bn:=ai bx;have bo:=ai bz;have bp:=ai bA;clear bs bx bz bA;obtain ⟨i0,br,bB,bD,bG⟩:=bK Tryz.infoTk;have bf:=ai br;have bg:=ai bB;have bh:=ai bD;have bk:=ai bG;clear br bB bD bG;generalize aY:hE (TT s) (PP s) room inner i=ax;unfold hE at aY;rw [u4] at aY;have aW:=ai aY;have a5:=ai h;have a8:=ai bv;obtain ⟨g,c,e0,hi,t0,t1,t2⟩:=h.at;obtain ⟨aB,a3,bb,r3,bc,b7,b8,b9⟩:=h.blk.eight;have bZ:=h.blk.fz;have bT:=h.lt;have ce:=ai e0;rw [e0] at aB;have b3:=cm w _ aB;have b4:=cm w _ a3;have b5:=cm w _ t1;clear h bv e0 aY;go_enter func251,ntmps251;go_wp2_with fail
 go_region_held3 (fun w'=>w'.cell? ⟨b,0,none⟩=some (.slice (some ⟨g,0,none⟩) (iV s).length c)/\w'.cell? ⟨b,1,none⟩=some (.int .i64 i)/\w'.cell? ⟨g,i*3+1,none⟩=some (.int .i64 (PP s i))) (go_keep) (fail)
 rename_i aH;clear aH aB a3 bb r3 bc b7 b8 b9 t0 t1 t2 b3 b4 b5 bZ;have b1:an w (((w.alloc (Oq (PP s i))).alloc nu).drew):=(((az _ w).alloc aD _).alloc ar _).drew;have aX:=ai (show ChJ base b s tv d kv rv pv i pl l w (((w.alloc (Oq (PP s i))).alloc nu).drew) pv i 0 a pl l [] none 0 [] none 0 em 0 from
  ⟨⟨Fr.of_below b1 mm,a5.u.below b1,a8.u.but (But.of_below (b:=b) b1) a5.u.blk hbb mm,((aE.new w _ _).alloc _).drew,fun e=>by
    have:=(a8.u.row.lt _ e).2;omega,bL,bL,fun x ac g ab e=>(by cases e),fun x ac g ab e=>(by cases e),⟨[],ar⟩,⟨[],ar⟩,bT,fun g ab=>(a5.u.tok.lt g ab).2⟩,
   (aE.new' (w.alloc _) _ _ _ ar).drew,fun e=>(by cases e),fun _=>ar,rfl,fun x ac g ab e=>by
    have:=(a8.u.rep x ac).lt g ab;simp only [aL] at e;omega⟩)
 clear b1;go_wp2_with fail
 go_loopg [5] 512 (fun k cb wr=>∃(more:Bool)(lD:ag)(j e aa:Nat)(fx:List PV)(lr:List PX)(ps:List Nat)(pa:Option Addr)(pc:Nat)(eJ:List Tk)(sa:Option Addr)(sc:Nat)(st:ae)(sp:Nat),cb=.bool more/\ChJ base b s tv d kv rv pv i pl l w wr lD j e aa fx lr ps pa pc eJ sa sc st sp/\(more=true->512<=k+j)/\Hid (ChC (TT s) (PP s) [sg 38,sg 45] (eR (TT s) (PP s) room inner) i a (ex+1) pl.length ax k more j e aa fx ps eJ st sp))
 case atStart=>exact ⟨true,pv,i,0,a,pl,l,[],none,0,[],none,0,em,0,rfl,aX.u,(fun _=>aj),ai (.inl ⟨rfl,rfl,rfl,aj,.inl ⟨rfl,rfl,rfl,rfl,rfl,aW.u⟩⟩)⟩
 case round=>
  obtain ⟨more,lD,j,e,aa,fx,lr,ps,pa,pc,eJ,sa,sc,st,sp,rfl,ad,a2,aV⟩:=hrel;have ci:=ad.ch.rs.gd.le;have ck:=ad.ch.rs.sz;have aZ:base<=wr.heap.size:=aP mm ad.ch.fr.below.size
  rcases ak aV with ⟨rfl,rfl,rfl,hn,hs⟩|⟨rfl,rfl,rfl,hn,hij,aJ,x,bq,ap⟩|⟨rfl,he,hn,hij,bt,aw,rfl,ap⟩
  ·have a2:=a2 rfl;obtain ⟨fu,rfl⟩:∃f,gk=f+1:=⟨gk-1,aj⟩;have a7:=ai hs;have C:=ai (KP base b s tv j d a kv rv lD fx lr wr ad.ch.rs ad.ch.pt hbb aZ aj room inner ex bX bP);have am:=ai ad;have lp:=ad.lp rfl;have hij:i<=j:=by rcases hs with ⟨h,_⟩|⟨h,_⟩<;>omega
   have LS:=ai ad.ls;have ls:=Nat.le_of_eq ad.ls;clear ad aV hs aW aX;go_wp2_with fail;refine C.u.mono ?_;rintro e' w1 ⟨m,rfl,KQ,Yo,l1,t,tl,fr,pt,rfl,rfl,aG,ap⟩;have SB1:=ai (fr.blk am.u.sb aj (gB am.u.ch.pt.row am.u.sb au));have NS1:=ai am.u.ns;have DA1:=ai (show ∀x∈lr++tl,xw (some (w.heap.size+1)) x from fun x ac=>by
    rw [aQ] at ac
    rcases ac with ac|ac
    ·exact am.u.da x ac
    intro g ab e;have:=aG x ac g ab;have:=am.u.sb.lt;simp only [aL] at e;omega)
   have Yp:base<=w1.heap.size:=aP aZ fr.below.size
   cases aC:eR (TT s) (PP s) room inner j with
   |error er=>
    obtain ⟨c0,aw⟩:=er;rw [aC] at ap;obtain ⟨a1,j1,bS,rs,bU⟩:=ap;have xj:=ai (am.u.ch.call fr pt rs aG (Yo:=[]) (l1:=[]));have aF:=ai aC;clear fr pt rs aG C am aC;obtain ⟨p0,p1,p2,p3,p4,p5,p6,p7⟩:=xj.u.box.eight;obtain ⟨aK,aN,aO⟩:=SB1.u.three;have be:=xj.u.box.fz;have b2:=SB1.u.lt;have O1:=ai xj.u.prow;go_wp2_with (at_builtin;go_must (refine bI _ rfl _ _ 29 rfl w.heap.size 3 bH _ 1 8 underlying29 bl.u bn.u bo.u bp.u rfl au (.slice pa ps.length pc) ps.length (ps.map fun n:Nat=> .int .i64 n) rfl ?uI ⟨w1.heap.size,0,none⟩ 1 1 [.int .i64 m] rfl rfl ?l8 ?nj au ?nk ?ew ?l9 (w1.heap.size+1) ?UL ?jm))
    case uI=>exact O1.u.alloc _
    case l8=>exact bu (B:=w1.heap.size) (cs:=#[.int .i64 m]) (t:=3) (fr:=(0,0)) (aE.new' _ _ _ _ rfl)
    case nj=>
     exact pD
    case nk=>unfold maxLen;omega
    case ew=>omega
    case l9=>simp;omega
    case UL=>simp
    refine Ox ?_;intro g5 aT w5 rH ye SB5 s0' s1' s2' nq1 lq6 q0 q1 q2 q3 q4 q5 q6 q7 zq SX O5 tF;clear p0 p1 p2 p3 p4 p5 p6 p7 aK aN aO be;go_wp2_with (at_builtin;go_must (refine bI _ rfl _ _ 249 rfl w.heap.size 259 i0 _ 3 32 underlying249 bf.u bg.u bh.u bk.u rfl au (.slice sa eJ.length sc) eJ.length (bC eJ) rfl ?lA ⟨w5.heap.size,0,none⟩ 1 1 (eW ⟨bJ st,sp,false⟩) rfl rfl ?gK ?jX au ?pi ?eZ ?gL (w5.heap.size+1) ?Fo ?jn))
    case lA=>exact O5.u.alloc _
    case gK=>exact bu (B:=w5.heap.size) (cs:=#[.string st,.int .i64 sp,.bool false]) (t:=259) (fr:=(0,0)) (aE.new' _ _ _ _ ar)
    case jX=>
     exact Ou
    case pi=>unfold maxLen;omega
    case eZ=>omega
    case gL=>simp;omega
    case Fo=>simp
    intro g7 xx w7 IY u5 KU bQ;refine OC ?_;intro Yr KS Oz SA Yq v0 v1 v2 v3 v4 v5 v6 v7 zv;have NS7:=ai (show (Value.slice (some ⟨g7,0,none⟩) (eJ.length+1) xx).ownBlock≠some (w.heap.size+1) from fun e=>by
     simp only [Value.ownBlock,aL] at e;subst e
     rcases KU with e|e
     ·exact NS1.u e
     omega)
    clear IY u5 KU Yr KS SA SX q0 q1 q2 q3 q4 q5 q6 q7 zq s0' s1' s2';have a9:=ai (show ax=.error (c0,aw) from by
     rcases a7.u with ⟨_,_,_,_,_,h⟩|⟨_,_,_,x,_,h⟩
     ·rw [<-h];exact qq aF.u
     rw [<-h];exact qq aF.u)
    refine OE ?_;intro OA;go_wp2_with fail;refine (kF b s tv j1 d c0 (PP s aw) kv rv KQ (sg 38) _ Oz.u.rs a1).mono ?_;refine Fx ?_;intro w8 KR UW OB;clear Oz Yq;go_wp2_with fail;refine (kF b s tv j1 d c0 (PP s aw) kv rv KQ (sg 45) _ KR.u.rs a1).mono ?_;refine Ai ?_;intro w9 BQ Fw;clear KR UW;have J9:=ai (show ChJ base b s tv d kv rv pv i pl l w w9 KQ j1 c0 (PP s aw) (fx++t) (lr++tl) (ps++[m]) (some ⟨g5,0,none⟩) aT (eJ++[⟨bJ st,sp,false⟩]) (some ⟨g7,0,none⟩) xx st sp from ⟨BQ.u,Fw.u,NS7.u,fun e=>absurd e a1,by have:=LS.u;simp [this],DA1.u⟩);have PC:=ai (show ChC (TT s) (PP s) [sg 38,sg 45] (eR (TT s) (PP s) room inner) i a (ex+1) pl.length ax fu false j1 c0 (PP s aw) (fx++t) (ps++[m]) (eJ++[⟨bJ st,sp,false⟩]) st sp from .inr (.inr ⟨rfl,a1,aj,aj,ar,aw,rfl,a9.u⟩));clear v0 v1 v2 v3 v4 v5 v6 v7 zv;go_wp2
    go_roundg fu
    case measure=>omega
    case rel=>exact ⟨false,KQ,j1,c0,PP s aw,fx++t,lr++tl,ps++[m],some ⟨g5,0,none⟩,aT,eJ++[⟨bJ st,sp,false⟩],some ⟨g7,0,none⟩,xx,st,sp,rfl,J9.u,(fun h=>by cases h),PC⟩
   |ok yy=>
    obtain ⟨y,j1⟩:=yy;rw [aC] at ap;obtain ⟨rs,bS,bU,f1,bw⟩:=ap;have xj:=ai (am.u.ch.call fr pt rs aG (Yo:=[]) (l1:=[]));have aF:=ai aC;have TR:=ai bw;clear fr pt rs aG C am aC bw;have cj:=xj.u.rs.gd.le;obtain ⟨p0,p1,p2,p3,p4,p5,p6,p7⟩:=xj.u.box.eight;obtain ⟨aK,aN,aO⟩:=SB1.u.three;have be:=xj.u.box.fz;have b2:=SB1.u.lt;have O1:=ai xj.u.prow;go_wp2_with (at_builtin;go_must (refine bI _ rfl _ _ 29 rfl w.heap.size 3 bH _ 1 8 underlying29 bl.u bn.u bo.u bp.u rfl au (.slice pa ps.length pc) ps.length (ps.map fun n:Nat=> .int .i64 n) rfl ?Cp ⟨w1.heap.size,0,none⟩ 1 1 [.int .i64 m] rfl rfl ?uJ ?uK au ?rD ?fT ?uL (w1.heap.size+1) ?hHC ?kT))
    case Cp=>exact O1.u.alloc _
    case uJ=>exact bu (B:=w1.heap.size) (cs:=#[.int .i64 m]) (t:=3) (fr:=(0,0)) (aE.new' _ _ _ _ rfl)
    case uK=>
     exact pD
    case rD=>unfold maxLen;omega
    case fT=>omega
    case uL=>simp;omega
    case hHC=>simp
    refine Ox ?_;intro g5 aT w5 rH ye SB5 s0' s1' s2' nq1 lq6 q0 q1 q2 q3 q4 q5 q6 q7 zq SX O5 tF;clear p0 p1 p2 p3 p4 p5 p6 p7 aK aN aO be;go_wp2_with (at_builtin;go_must (refine bI _ rfl _ _ 249 rfl w.heap.size 259 i0 _ 3 32 underlying249 bf.u bg.u bh.u bk.u rfl au (.slice sa eJ.length sc) eJ.length (bC eJ) rfl ?hownD ⟨w5.heap.size,0,none⟩ 1 1 (eW ⟨bJ st,sp,false⟩) rfl rfl ?Ys ?honeD au ?h63D ?UX ?Yt (w5.heap.size+1) ?hHD ?hrestD))
    case hownD=>exact O5.u.alloc _
    case Ys=>exact bu (B:=w5.heap.size) (cs:=#[.string st,.int .i64 sp,.bool false]) (t:=259) (fr:=(0,0)) (aE.new' _ _ _ _ ar)
    case honeD=>
     exact Ou
    case h63D=>unfold maxLen;omega
    case UX=>omega
    case Yt=>simp;omega
    case hHD=>simp
    intro g7 xx w7 IY u5 KU bQ;refine OC ?_;intro Yr KS Oz SA Yq v0 v1 v2 v3 v4 v5 v6 v7 zv;have NS7:=ai (show (Value.slice (some ⟨g7,0,none⟩) (eJ.length+1) xx).ownBlock≠some (w.heap.size+1) from fun e=>by
     simp only [Value.ownBlock,aL] at e;subst e
     rcases KU with e|e
     ·exact NS1.u e
     omega)
    clear IY u5 KU Yr KS SA SX q0 q1 q2 q3 q4 q5 q6 q7 zq s0' s1' s2';have a4:=ai (show ∃x,kH (fx++t) (ps++[m]) (eJ++[⟨bJ st,sp,false⟩]) x/\joinL (TT s) (PP s) [sg 38,sg 45] (eR (TT s) (PP s) room inner) (fu+1) x j1=ax from by
     rcases a7.u with ⟨_,rfl,rfl,rfl,rfl,h⟩|⟨_,_,bY,x,ac,h⟩
     ·rw [tS aF.u] at h;exact ⟨_,kH.one TR.u,h⟩
     rw [tS aF.u] at h;exact ⟨_,ac.snoc TR.u st sp bY,h⟩)
    have a6:=ai (show (ps++[m]).length≠1->(fx++t).length+i+1<=pl.length+j1 from fun bV=>by
     rcases a7.u with ⟨_,rfl,_⟩|⟨_,aJ,_⟩
     ·exact absurd rfl bV
     omega)
    refine OE ?_;intro OA
    cases ah:eqs (TT s j1) (sg 38)
    ·go_wp2_with fail;refine (de b s tv j1 d a kv rv KQ (sg 38) _ Oz.u.rs false ah).mono ?_;refine Fx ?_;intro w8 KR UW OB;clear Oz Yq
     cases al:eqs (TT s j1) (sg 45)
     ·have a9:=ai (show ∃x,kH (fx++t) (ps++[m]) (eJ++[⟨bJ st,sp,false⟩]) x/\ax=.ok (x,j1) from by
       obtain ⟨x,ac,ay⟩:=a4.u;rw [Cy (by simp [gw,ah,al])] at ay;exact ⟨x,ac,ay.symm⟩)
      go_wp2_with fail;refine (de b s tv j1 d a kv rv KQ (sg 45) _ KR.u.rs false al).mono ?_;refine Ai ?_;intro w9 BQ Fw;clear KR UW;have J9:=ai (show ChJ base b s tv d kv rv pv i pl l w w9 KQ j1 0 a (fx++t) (lr++tl) (ps++[m]) (some ⟨g5,0,none⟩) aT (eJ++[⟨bJ st,sp,false⟩]) (some ⟨g7,0,none⟩) xx st sp from ⟨BQ.u,Fw.u,NS7.u,fun _=>aM,by have:=LS.u;simp [this],DA1.u⟩);have PC:=ai (show ChC (TT s) (PP s) [sg 38,sg 45] (eR (TT s) (PP s) room inner) i a (ex+1) pl.length ax fu false j1 0 a (fx++t) (ps++[m]) (eJ++[⟨bJ st,sp,false⟩]) st sp from .inr (.inl ⟨rfl,rfl,rfl,aj,aj,a6.u,a9.u⟩));clear v0 v1 v2 v3 v4 v5 v6 v7 zv ah al;go_wp2
      go_roundg fu
      case measure=>omega
      case rel=>exact ⟨false,KQ,j1,0,a,fx++t,lr++tl,ps++[m],some ⟨g5,0,none⟩,aT,eJ++[⟨bJ st,sp,false⟩],some ⟨g7,0,none⟩,xx,st,sp,rfl,J9.u,(fun h=>by cases h),PC⟩
     go_wp2_with fail;refine (de b s tv j1 d a kv rv KQ (sg 45) _ KR.u.rs true al).mono ?_;refine Ai ?_;intro w9 BQ Fw;clear KR UW;have HJ:=ai (BQ.u.rs.gd.succ (df al au));clear v0 v1 v2 v3 v4 v5 v6 v7 zv;obtain ⟨af,ba,av,bR,t0,t1,t2⟩:=BQ.u.rs.at;obtain ⟨aB,a3,bb,r3,bc,_⟩:=BQ.u.rs.blk.eight;have cd:=BQ.u.rs.blk.fz;obtain ⟨aK,aN,aO⟩:=Fw.u.three;have zs:=Fw.u.fz;have b0:=Fw.u.lt;have tvl:=BQ.u.tvl af (by rw [av];rfl);rw [av] at aB;have bM:=ai av;clear av;have k1:¬(w.heap.size+1=b):=aj;have k3:¬(w.heap.size+1=af):=aj;go_wp2_with fail
     go_region_held3 (fun w'=>w'.cell? ⟨b,0,none⟩=some (.slice (some ⟨af,0,none⟩) (iV s).length ba)/\w'.cell? ⟨b,1,none⟩=some (.int .i64 j1)/\w'.cell? ⟨af,j1*3,none⟩=some (.string (TT s j1))/\w'.cell? ⟨af,j1*3+1,none⟩=some (.int .i64 (PP s j1))/\w'.cell? ⟨af,j1*3+2,none⟩=some (.bool (dw (TT s j1)))) (go_keep) (fail)
     rename_i aH;clear aH;have WF:dw (TT s j1)=false:=by
      have e:=al;unfold eqs at e;rw [dA] at e;unfold dw;rw [e]
      decide
     refine Ow ?_;intro c1 S1 c2 S2 c3 S3 c4 c5 S5 J9;have PC:=ai (show ChC (TT s) (PP s) [sg 38,sg 45] (eR (TT s) (PP s) room inner) i a (ex+1) pl.length ax fu true (j1+1) 0 a (fx++t) (ps++[m]) (eJ++[⟨bJ st,sp,false⟩]) (TT s j1) (PP s j1) from .inl ⟨rfl,rfl,rfl,aj,.inr ⟨aj,aj,(by first|exact .inl (tT al)|exact .inr (tT al)),by
      obtain ⟨x,ac,ay⟩:=a4.u;rw [rI (by simp [gw,al])] at ay;exact ⟨x,ac,ay⟩⟩⟩)
     exact Xc
    have al:eqs (TT s j1) (sg 45)=false:=by
     unfold eqs at ah ⊢;rw [dA] at ah;rw [ah];decide
    go_wp2_with fail;refine (de b s tv j1 d a kv rv KQ (sg 38) _ Oz.u.rs true ah).mono ?_;refine Fx ?_;intro w8 KR UW OB;clear Oz Yq;go_wp2_with fail;refine (de b s tv j1 d a kv rv KQ (sg 45) _ KR.u.rs false al).mono ?_;refine Ai ?_;intro w9 BQ Fw;clear KR UW;have HJ:=ai (BQ.u.rs.gd.succ (df ah au));clear v0 v1 v2 v3 v4 v5 v6 v7 zv;obtain ⟨af,ba,av,bR,t0,t1,t2⟩:=BQ.u.rs.at;obtain ⟨aB,a3,bb,r3,bc,_⟩:=BQ.u.rs.blk.eight;have cd:=BQ.u.rs.blk.fz;obtain ⟨aK,aN,aO⟩:=Fw.u.three;have zs:=Fw.u.fz;have b0:=Fw.u.lt;have tvl:=BQ.u.tvl af (by rw [av];rfl);rw [av] at aB;have bM:=ai av;clear av;have k1:¬(w.heap.size+1=b):=aj;have k3:¬(w.heap.size+1=af):=aj;go_wp2_with fail
    go_region_held3 (fun w'=>w'.cell? ⟨b,0,none⟩=some (.slice (some ⟨af,0,none⟩) (iV s).length ba)/\w'.cell? ⟨b,1,none⟩=some (.int .i64 j1)/\w'.cell? ⟨af,j1*3,none⟩=some (.string (TT s j1))/\w'.cell? ⟨af,j1*3+1,none⟩=some (.int .i64 (PP s j1))/\w'.cell? ⟨af,j1*3+2,none⟩=some (.bool (dw (TT s j1)))) (go_keep) (fail)
    rename_i aH;clear aH;have WF:dw (TT s j1)=false:=by
     have e:=ah;unfold eqs at e;rw [dA] at e;unfold dw;rw [e]
     decide
    refine Ow ?_;intro c1 S1 c2 S2 c3 S3 c4 c5 S5 J9;have PC:=ai (show ChC (TT s) (PP s) [sg 38,sg 45] (eR (TT s) (PP s) room inner) i a (ex+1) pl.length ax fu true (j1+1) 0 a (fx++t) (ps++[m]) (eJ++[⟨bJ st,sp,false⟩]) (TT s j1) (PP s j1) from .inl ⟨rfl,rfl,rfl,aj,.inr ⟨aj,aj,(by first|exact .inl (tT ah)|exact .inr (tT ah)),by
     obtain ⟨x,ac,ay⟩:=a4.u;rw [rI (by simp [gw,ah])] at ay;exact ⟨x,ac,ay⟩⟩⟩)
    exact Xc
  ·have HB:=ai bq;have W9:=ai ap;have a6:=ai aJ;have kV:=ai ad.ch;have bO:=ai ad.ls;clear ad aV aW aX bq ap aJ a2
   by_cases h1:ps.length=1
   ·exact Xa
   skip
   have bN:=ai h1;refine Ah ?_;intro h1' h1b;have aJ:=a6.u h1;refine OD ?_;intro p0 p1 p2 p3 p4 p5 p6 p7 X4;clear h1;have FX:=ai (show jC w.heap.size (⟨4,[],em,em,PP s i,0,ps,eJ⟩,.slice none 0 0,.slice pa ps.length pc,.slice sa eJ.length sc) from fun g ab=>by
    rcases ab with ab|ab|ab
    ·cases ab
    ·exact (kV.u.prow.lt g ab).1
    exact (kV.u.srow.lt g ab).1)
   go_wp2_with fail;refine (j0 base b s tv j d 0 (a) kv rv lD fx lr ⟨4,[],em,em,PP s i,0,ps,eJ⟩ none 0 pa pc sa sc wr kV.u.rs kV.u.pt X4.u aj aZ hbb).mono ?_;refine Fv ?_;intro wf pv' F6 R6 P6;clear p0 p1 p2 p3 p4 p5 p6 p7;go_wp2;go_ret;rw [W9.u];obtain ⟨t,rfl⟩:=kV.u.sfx;obtain ⟨tl,rfl,bW⟩:=kV.u.new;exact ⟨_,rfl,pv',_,_,t++[_],tl++[_],F6.u,P6.u,by rw [dc],by rw [dc],fun x ac=>by
    rw [aQ,aR] at ac
    rcases ac with ac|rfl
    ·exact bW x ac
    exact FX.u,R6.u,hij,by simp at aJ ⊢;omega,HB.u.chain (by simpa using bN.u) _⟩
  have W9:=ai ap;have cf:=ai bt;have kV:=ai ad.ch;have bO:=ai ad.ls;clear ad aV aW aX ap bt a2
  by_cases h1:ps.length=1
  ·exact Xb
  skip
  refine Ah ?_;intro h1' h1b;refine OD ?_;intro p0 p1 p2 p3 p4 p5 p6 p7 X4;clear h1;have FX:=ai (show jC w.heap.size (⟨4,[],em,em,PP s i,0,ps,eJ⟩,.slice none 0 0,.slice pa ps.length pc,.slice sa eJ.length sc) from fun g ab=>by
   rcases ab with ab|ab|ab
   ·cases ab
   ·exact (kV.u.prow.lt g ab).1
   exact (kV.u.srow.lt g ab).1)
  go_wp2_with fail;refine (j0 base b s tv j d e (PP s aw) kv rv lD fx lr ⟨4,[],em,em,PP s i,0,ps,eJ⟩ none 0 pa pc sa sc wr kV.u.rs kV.u.pt X4.u aj aZ hbb).mono ?_;exact W8
abbrev OG(a0:Int):Obj:=.cells #[.int .i64 5,.slice none 0 0,.string ⟨#[]⟩,.string ⟨#[]⟩,.int .i64 a0,.int .i64 0,.slice none 0 0,.slice none 0 0] 255
def OH(q:aU) (h:bF aU->aA:=by
 intro zq;have tF:base<=(w5.setCell ⟨w.heap.size,6,none⟩ (.slice (some ⟨g5,0,none⟩) (ps.length+1) aT)).heap.size:=aP mm ye.u.fr.below.size
 revert tF
 exact zq.1):aA:=h ⟨q⟩
def OI(q:aU) (h:bF aU->aA:=by
 intro zq;obtain ⟨p0,p1,p2,p3,p4,p5,p6,p7⟩:=kV.u.box.eight;have X4:=ai (show nw wr (⟨5,[],em,em,PP s i,0,ps,[]⟩,.slice none 0 0,.slice pa ps.length pc,.slice none 0 0) from ⟨bL,hT kV.u.prow,bL⟩)
 revert p0 p1 p2 p3 p4 p5 p6 p7 X4
 exact zq.1):aA:=h ⟨q⟩
def OJ(q:aU) (h:bF aU->aA:=by
 intro zq;intro g5 aT w5 fg bE nx rH;obtain ⟨Uc,Oy⟩:=xj.u.grownP Yp hbb mm bE fg nx;have ye:=ai Oy;obtain ⟨q0,q1,q2,q3,q4,q5,q6,q7⟩:=Uc.eight;have zq:=Uc.fz;clear fg bE nx Uc Oy
 revert g5 aT w5 rH ye q0 q1 q2 q3 q4 q5 q6 q7 zq
 exact zq.1):aA:=h ⟨q⟩
def Yu{a c}(h:eqs a c=true):a=c:=by
 unfold eqs at h;rw [dA] at h;rw [<-dj a,<-dj c,h]
def iG(pl:List PV)(ps:List Nat)(x:Ex):Prop:=
 ∃h ns A rs f,ps=h::ns/\Tr pl f h A/\cG (Tr pl f) ns (rs.map fun r=>r.2.2)/\(∀r∈rs,r.1=sg 124)/\x=ec A rs
def iG.one{y}(h:Tr pl f m y):iG pl [m] y:=⟨m,[],y,[],f,rfl,h,trivial,by simp,rfl⟩
def iG.snoc{t x}(h:iG pl ps x){y}(k:Tr (pl++t) f m y)(p):iG (pl++t) (ps++[m]) (fU (sg 124) p x y):=by
 obtain ⟨I,ns,J,rs,g,rfl,h1,h2,D,rfl⟩:=h;refine ⟨I,ns++[m],J,rs++[(sg 124,p,y)],g+f,rfl,Tr.le _ aj (Tr.more pl t g _ _ h1),?_,?_,?_⟩
 ·exact Oo
 ·intro r C;rw [aQ,aR] at C
  rcases C with C|rfl
  ·exact D r C
  rfl
 rw [pC]
def iG.some{x}(h:iG pl ps x)(C:ps.length≠1)(p):∃f,Tr (pl++[⟨5,[],em,em,p,0,ps,[]⟩]) f pl.length x:=by
 obtain ⟨D,ns,I,rs,g,rfl,h1,h2,A,rfl⟩:=h;refine ⟨g+1,_,u0,.inr (.inr (.inr (.inr ⟨rfl,rfl,rfl,D,ns,I,rs,rfl,Tr.more pl _ g _ _ h1,cG.mono (Tr.more pl _ g) _ _ h2,A,?_,rfl⟩)))⟩;rintro rfl
 cases ns with
 |nil=>exact C rfl
 |cons n ns=>exact h2.elim
def iG.alone{x:Ex}(h:iG pl [m] x):∃f,Tr pl f m x:=by
 obtain ⟨C,ns,D,rs,g,e,h1,h2,A,rfl⟩:=h;simp only [kO] at e;obtain ⟨rfl,rfl⟩:=e
 cases rs with
 |nil=>exact ⟨g,h1⟩
 |cons r rs=>exact h2.elim
def ExC(T:Nat->ae)(P:Nat->Nat)(part:Nat->eI Ex)(i a ex n:Nat)(h:eI Ex)(k:Nat)(more:Bool)(j e aa:Nat)(fx:List PV)(ps:List Nat):Prop:=
 (more=true/\e=0/\a=aa/\fx.length+i<=n+j/\((i=j/\ps=[]/\mO T P [sg 124] part k none j=h)\/(i<j/\fx.length+i+1<=n+j/\∃x p,iG fx ps x/\mO T P [sg 124] part k (some (x,sg 124,p)) j=h)))\/
 (more=false/\e=0/\a=aa/\fx.length+i<=n+j/\i<j/\(ps.length≠1->fx.length+i+1<=n+j)/\∃x,iG fx ps x/\h=.ok (x,j))\/
 (more=false/\e≠0/\fx.length+i<=n+j+ex/\i<=j/\ps≠ []/\∃A,P A=aa/\h=.error (e,A))
def yf(base b s tv i d a kv rv pv pl l w)(h:RS w b s tv i d 0 a kv rv pv)(bh:PT base w pv pl l)(hbb:base<=b)(mm:base<=w.heap.size)(bX:pl.length<=i)(room inner ex)(hex:ex<=800)(bM:room=true->d<4/\qo s inner (d+1) ex)(bw:room=false->d=4):
  Calls prog 229 #[.pointer (some ⟨b,0,none⟩)] w (qn base b s tv i d a kv rv pv pl l w (ex+3) (fe (TT s) (PP s) [sg 124] (hE (TT s) (PP s) room inner) i)):=by
 obtain ⟨bn,bg,bj,bk,bl⟩:=bK Tryz.infoInt;have ba:=ai bg;have bb:=ai bj;have bc:=ai bk;have be:=ai bl;clear bg bj bk bl;generalize a3:fe (TT s) (PP s) [sg 124] (hE (TT s) (PP s) room inner) i=ax;rw [u4] at a3;have aJ:=ai a3;have aY:=ai h;have a9:=ai bh;obtain ⟨g,c,e0,hi,t0,t1,t2⟩:=h.at;obtain ⟨aW,a6,bo,r3,bp,bS,bT,bU⟩:=h.blk.eight;have bN:=h.blk.fz;have bC:=h.lt;have bW:=ai e0;rw [e0] at aW;have bP:=cm w _ aW;have bQ:=cm w _ a6;have bR:=cm w _ t1;clear h bh e0 a3;go_enter func229,ntmps229;go_wp2_with fail
 go_region_held3 (fun w'=>w'.cell? ⟨b,0,none⟩=some (.slice (some ⟨g,0,none⟩) (iV s).length c)/\w'.cell? ⟨b,1,none⟩=some (.int .i64 i)/\w'.cell? ⟨g,i*3+1,none⟩=some (.int .i64 (PP s i))) (go_keep) (fail)
 rename_i bx;clear bx aW a6 bo r3 bp bS bT bU t0 t1 t2 bP bQ bR bN;have b1:an w ((w.alloc (OG (PP s i))).drew):=((az _ w).alloc aD _).drew;have aK:=ai (show tR base b s tv d kv rv pv i pl l w 5 ((w.alloc (OG (PP s i))).drew) pv i 0 a pl l [] none 0 [] none 0 from
  ⟨Fr.of_below b1 mm,aY.u.below b1,a9.u.but (But.of_below (b:=b) b1) aY.u.blk hbb mm,(aE.new w _ _).drew,fun e=>by
    have:=(a9.u.row.lt _ e).2;omega,bL,bL,fun x ad g ab e=>(by cases e),fun x ad g ab e=>(by cases e),⟨[],ar⟩,⟨[],ar⟩,bC,fun g ab=>(aY.u.tok.lt g ab).2⟩)
 clear b1;go_wp2_with fail
 go_loopg [4] 512 (fun k bV wr=>∃(more:Bool)(lD:ag)(j e aa:Nat)(fx:List PV)(lr:List PX)(ps:List Nat)(pa:Option Addr)(pc:Nat),bV=.bool more/\tR base b s tv d kv rv pv i pl l w 5 wr lD j e aa fx lr ps pa pc [] none 0/\(e=0->ps.length<=j)/\(more=true->512<=k+j)/\Hid (ExC (TT s) (PP s) (hE (TT s) (PP s) room inner) i a (ex+2) pl.length ax k more j e aa fx ps))
 case atStart=>exact ⟨true,pv,i,0,a,pl,l,[],none,0,rfl,aK.u,(fun _=>ar),(fun _=>aj),ai (.inl ⟨rfl,rfl,rfl,aj,.inl ⟨rfl,rfl,aJ.u⟩⟩)⟩
 case round=>
  obtain ⟨more,lD,j,e,aa,fx,lr,ps,pa,pc,rfl,ae,aV,aO,aG⟩:=hrel;have bY:=ae.rs.gd.le;have bZ:=ae.rs.sz;have aL:base<=wr.heap.size:=aP mm ae.fr.below.size
  rcases ak aG with ⟨rfl,rfl,rfl,hn,hs⟩|⟨rfl,rfl,rfl,hn,hij,aF,x,bf,af⟩|⟨rfl,he,hn,hij,bJ,aw,rfl,af⟩
  ·have aO:=aO rfl;obtain ⟨am,rfl⟩:∃f,gk=f+1:=⟨gk-1,aj⟩;have a1:=ai hs;have C:=ai (Fy base b s tv j d a kv rv lD fx lr wr ae.rs ae.pt hbb aL aj room inner ex aj bM bw);have aH:=ai ae;have lp:=aV rfl;have hij:i<=j:=by rcases hs with ⟨h,_⟩|⟨h,_⟩<;>omega
   clear ae aG hs aJ aK aV;go_wp2_with fail;refine C.u.mono ?_;rintro e' w1 ⟨m,rfl,aB,Yo,l1,t,tl,fr,pt,rfl,rfl,aN,af⟩;have Yp:base<=w1.heap.size:=aP aL fr.below.size
   cases av:hE (TT s) (PP s) room inner j with
   |error er=>
    obtain ⟨c0,aw⟩:=er;rw [av] at af;obtain ⟨a4,ac,bz,rs,bD⟩:=af;have xj:=ai (aH.u.call fr pt rs aN (Yo:=[]) (l1:=[]));have bt:=ai (show ax=.error (c0,aw) from by
     rcases a1.u with ⟨_,_,h⟩|⟨_,_,x,p,_,h⟩
     ·rw [<-h];exact qq av
     rw [<-h];exact qq av)
    clear fr pt rs aN C aH av;have bB:=xj.u.rs.gd.le;obtain ⟨p0,p1,p2,p3,p4,p5,p6,p7⟩:=xj.u.box.eight;have a7:=xj.u.box.fz;have bO:=xj.u.box.lt;have a2:=ai xj.u.prow;go_wp2_with (at_builtin;go_must (refine bI _ rfl _ _ 29 rfl w.heap.size 3 bn _ 1 8 underlying29 ba.u bb.u bc.u be.u rfl au (.slice pa ps.length pc) ps.length (ps.map fun n:Nat=> .int .i64 n) rfl ?uI ⟨w1.heap.size,0,none⟩ 1 1 [.int .i64 m] rfl rfl ?l8 ?nj au ?nk ?ew ?l9 (w1.heap.size+1) ?UL ?jm))
    case uI=>exact a2.u.alloc _
    case l8=>exact bu (B:=w1.heap.size) (cs:=#[.int .i64 m]) (t:=3) (fr:=(0,0)) (aE.new' _ _ _ _ rfl)
    case nj=>
     exact pD
    case nk=>unfold maxLen;omega
    case ew=>omega
    case l9=>simp;omega
    case UL=>simp
    refine OJ ?_;intro g5 aT w5 rH ye q0 q1 q2 q3 q4 q5 q6 q7 zq;clear p0 p1 p2 p3 p4 p5 p6 p7 a7;refine OH ?_;intro tF;go_wp2_with fail;refine (kF b s tv ac d c0 (PP s aw) kv rv aB (sg 124) _ ye.u.rs a4).mono ?_;rintro e' aX ⟨rfl,al⟩;have ah:=ai (ye.u.below al tF hbb);clear al ye;have aC:=ai (show ExC (TT s) (PP s) (hE (TT s) (PP s) room inner) i a (ex+2) pl.length ax am false ac c0 (PP s aw) (fx++t) (ps++[m]) from .inr (.inr ⟨rfl,a4,aj,aj,ar,aw,rfl,bt.u⟩));go_wp2
    go_roundg am
    case measure=>omega
    case rel=>exact ⟨false,aB,ac,c0,PP s aw,fx++t,lr++tl,ps++[m],some ⟨g5,0,none⟩,aT,rfl,ah.u,(fun e=>absurd e a4),(fun h=>by cases h),aC⟩
   |ok yy=>
    obtain ⟨y,ac⟩:=yy;rw [av] at af;obtain ⟨rs,bz,bD,f1,a5⟩:=af;have xj:=ai (aH.u.call fr pt rs aN (Yo:=[]) (l1:=[]));have a8:=ai (show ∃x,iG (fx++t) (ps++[m]) x/\joinL (TT s) (PP s) [sg 124] (hE (TT s) (PP s) room inner) (am+1) x ac=ax from by
     rcases a1.u with ⟨_,rfl,h⟩|⟨_,_,x,p,ad,h⟩
     ·rw [tS av] at h;exact ⟨_,iG.one a5,h⟩
     rw [tS av] at h;exact ⟨_,ad.snoc a5 p,h⟩)
    have aZ:=ai (show (ps++[m]).length≠1->(fx++t).length+i+1<=pl.length+ac from fun bG=>by
     rcases a1.u with ⟨_,rfl,_⟩|⟨_,aF,_⟩
     ·exact absurd rfl bG
     omega)
    clear fr pt rs aN C aH av a5;have bB:=xj.u.rs.gd.le;obtain ⟨p0,p1,p2,p3,p4,p5,p6,p7⟩:=xj.u.box.eight;have a7:=xj.u.box.fz;have bO:=xj.u.box.lt;have a2:=ai xj.u.prow;go_wp2_with (at_builtin;go_must (refine bI _ rfl _ _ 29 rfl w.heap.size 3 bn _ 1 8 underlying29 ba.u bb.u bc.u be.u rfl au (.slice pa ps.length pc) ps.length (ps.map fun n:Nat=> .int .i64 n) rfl ?Cp ⟨w1.heap.size,0,none⟩ 1 1 [.int .i64 m] rfl rfl ?uJ ?uK au ?rD ?fT ?uL (w1.heap.size+1) ?hHC ?kT))
    case Cp=>exact a2.u.alloc _
    case uJ=>exact bu (B:=w1.heap.size) (cs:=#[.int .i64 m]) (t:=3) (fr:=(0,0)) (aE.new' _ _ _ _ rfl)
    case uK=>
     exact pD
    case rD=>unfold maxLen;omega
    case fT=>omega
    case uL=>simp;omega
    case hHC=>simp
    refine OJ ?_;intro g5 aT w5 rH ye q0 q1 q2 q3 q4 q5 q6 q7 zq;clear p0 p1 p2 p3 p4 p5 p6 p7 a7;refine OH ?_;intro tF
    cases ap:eqs (TT s ac) (sg 124)
    ·go_wp2_with fail;refine (de b s tv ac d a kv rv aB (sg 124) _ ye.u.rs false ap).mono ?_;rintro e' aX ⟨rfl,al⟩;have ah:=ai (ye.u.below al tF hbb);clear al ye;have aC:=ai (show ExC (TT s) (PP s) (hE (TT s) (PP s) room inner) i a (ex+2) pl.length ax am false ac 0 a (fx++t) (ps++[m]) from .inr (.inl ⟨rfl,rfl,rfl,aj,aj,aZ.u,by
      obtain ⟨x,ad,ay⟩:=a8.u;rw [Cy (by simp [gw,ap])] at ay;exact ⟨x,ad,ay.symm⟩⟩))
     clear ap;go_wp2
     go_roundg am
     case measure=>omega
     case rel=>exact ⟨false,aB,ac,0,a,fx++t,lr++tl,ps++[m],some ⟨g5,0,none⟩,aT,rfl,ah.u,(fun _=>aM),(fun h=>by cases h),aC⟩
    go_wp2_with fail;refine (de b s tv ac d a kv rv aB (sg 124) _ ye.u.rs true ap).mono ?_;rintro e' aX ⟨rfl,al⟩;have ah:=ai (ye.u.below al tF hbb);have bv:base<=aX.heap.size:=aP tF al.size;clear al ye;have bs:=ai (ah.u.rs.gd.succ (df ap au));obtain ⟨aW,a6,bo,r3,bp,_⟩:=ah.u.rs.blk.eight;have b0:=ah.u.rs.blk.fz;have bq:=ai (ah.u.but ((But.refl b aX).setCell 1 (.int .i64 ((ac:Int)+1))) bv hbb (ah.u.rs.setI (ac+1) bs.u));have aC:=ai (show ExC (TT s) (PP s) (hE (TT s) (PP s) room inner) i a (ex+2) pl.length ax am true (ac+1) 0 a (fx++t) (ps++[m]) from .inl ⟨rfl,rfl,rfl,aj,.inr ⟨aj,aj,by
     obtain ⟨x,ad,ay⟩:=a8.u;rw [rI (by simp [gw,ap])] at ay;have e:TT s ac=sg 124:=Yu ap;rw [e] at ay;exact ⟨x,PP s ac,ad,ay⟩⟩⟩)
    have bA:512<=am+(ac+1):=aj;clear ap;go_wp2
    go_roundg am
    case measure=>omega
    case rel=>exact ⟨true,aB,ac+1,0,a,fx++t,lr++tl,ps++[m],some ⟨g5,0,none⟩,aT,rfl,bq.u,(fun _=>aM),(fun _=>bA),aC⟩
  ·have HB:=ai bf;have W9:=ai af;have aZ:=ai aF;have kV:=ai ae;clear ae aG aJ aK bf af aF aO aV
   by_cases h1:ps.length=1
   ·exact Xa
   skip
   have br:=ai h1;refine Ah ?_;intro h1' h1b;have aF:=aZ.u h1;refine OI ?_;intro p0 p1 p2 p3 p4 p5 p6 p7 X4;clear h1;have FX:=ai (show jC w.heap.size (⟨5,[],em,em,PP s i,0,ps,[]⟩,.slice none 0 0,.slice pa ps.length pc,.slice none 0 0) from fun g ab=>by
    rcases ab with ab|ab|ab
    ·cases ab
    ·exact (kV.u.prow.lt g ab).1
    cases ab)
   go_wp2_with fail;refine (j0 base b s tv j d 0 (a) kv rv lD fx lr ⟨5,[],em,em,PP s i,0,ps,[]⟩ none 0 pa pc none 0 wr kV.u.rs kV.u.pt X4.u aj aL hbb).mono ?_;refine Fv ?_;intro wf pv' F6 R6 P6;clear p0 p1 p2 p3 p4 p5 p6 p7;go_wp2;go_ret;rw [W9.u];obtain ⟨t,rfl⟩:=kV.u.sfx;obtain ⟨tl,rfl,bH⟩:=kV.u.new;exact ⟨_,rfl,pv',_,_,t++[_],tl++[_],F6.u,P6.u,by rw [dc],by rw [dc],fun x ad=>by
    rw [aQ,aR] at ad
    rcases ad with ad|rfl
    ·exact bH x ad
    exact FX.u,R6.u,hij,by simp at aF ⊢;omega,HB.u.some (by simpa using br.u) _⟩
  have W9:=ai af;have kV:=ai ae;clear ae aG aJ aK af bJ aO aV
  by_cases h1:ps.length=1
  ·exact Xb
  skip
  refine Ah ?_;intro h1' h1b;refine OI ?_;intro p0 p1 p2 p3 p4 p5 p6 p7 X4;clear h1;have FX:=ai (show jC w.heap.size (⟨5,[],em,em,PP s i,0,ps,[]⟩,.slice none 0 0,.slice pa ps.length pc,.slice none 0 0) from fun g ab=>by
   rcases ab with ab|ab|ab
   ·cases ab
   ·exact (kV.u.prow.lt g ab).1
   cases ab)
  go_wp2_with fail;refine (j0 base b s tv j d e (PP s aw) kv rv lD fx lr ⟨5,[],em,em,PP s i,0,ps,[]⟩ none 0 pa pc none 0 wr kV.u.rs kV.u.pt X4.u aj aL hbb).mono ?_;exact W8
def sY(s):∀(n d:Nat),d+n=4->qo s (fp (TT s) (PP s) n) d (3*(n+1))
 |0,d,h=>fun base b tv i a kv rv pv pl l w h1 h2 A C D=>
  yf base b s tv i d a kv rv pv pl l w h1 h2 A C D false (fun _=> .error (0,0)) 0 aj (fun e=>by cases e) (fun _=>aj)
 |n+1,d,h=>fun base b tv i a kv rv pv pl l w h1 h2 A C D=>by
  have:=yf base b s tv i d a kv rv pv pl l w h1 h2 A C D true (fp (TT s) (PP s) n) (3*(n+1)) aj (fun _=>⟨aj,sY s n (d+1) aj⟩) (fun e=>by cases e);rw [show 3*(n+1+1)=3*(n+1)+3 by omega];exact this
def nmS(s:ae)(h:Bool)(i a:Nat):Nat×Nat×Nat:=if dl (TT s i) then (if (TT s i).size<=8/\h=true then (i+1,0,a) else (i,3,PP s i)) else (i,2,PP s i)
def IZ(s x:ae)(i e a:Nat):Nat×Nat×Nat:=if e=0 then (if eqs (TT s i) x then (i+1,0,a) else (i,2,PP s i)) else (i,e,a)
def yh(b s tv i d a kv rv pv rm w)(h:RS w b s tv i d 0 a kv rv pv):
  Calls prog 228 #[.pointer (some ⟨b,0,none⟩),.bool rm] w fun e w'=>e=.returned (BO s i)/\But b w w'/\∃i' e' a',(i',e',a')=nmS s rm i a/\RS w' b s tv i' d e' a' kv rv pv:=by
 unfold nmS
 cases hn:dl (TT s i)
 ·exact (mi b s tv i d a kv rv pv rm w h hn).mono (fun e w' ⟨h1,h2,A⟩=>⟨h1,h2,_,_,_,rfl,A⟩)
 ·by_cases hl:(TT s i).size<=8
  ·cases C:rm
   ·exact (lC b s tv i d a kv rv pv false w h hn (.inr rfl)).mono (fun e w' ⟨h1,h2,A⟩=>⟨h1,h2,_,_,_,ar,A⟩)
   exact (nv b s tv i d a kv rv pv w h hn hl).mono (fun e w' ⟨h1,h2,A⟩=>⟨h1,h2,_,_,_,by simp [hl],A⟩)
  exact (lC b s tv i d a kv rv pv rm w h hn (.inl aj)).mono (fun e w' ⟨h1,h2,A⟩=>⟨h1,h2,_,_,_,by simp [hl],A⟩)
def lE(b s tv i d e0 a kv rv pv x w)(h:RS w b s tv i d e0 a kv rv pv)(C:0<(bJ x).length):
  Calls prog 188 #[.pointer (some ⟨b,0,none⟩),.string x] w fun e w'=>e=.returned (.tuple #[])/\But b w w'/\∃i' e' a',(i',e',a')=IZ s x i e0 a/\RS w' b s tv i' d e' a' kv rv pv:=by
 unfold IZ
 by_cases h0:e0=0
 ·subst h0
  cases hn:eqs (TT s i) x
  ·exact (Ac b s tv i d a kv rv pv x w h hn).mono (fun e w' ⟨h1,h2,A⟩=>⟨h1,h2,_,_,_,ar,A⟩)
  exact (uS b s tv i d a kv rv pv x w h hn C).mono (fun e w' ⟨h1,h2,A⟩=>⟨h1,h2,_,_,_,ar,A⟩)
 ·exact (uT b s tv i d e0 a kv rv pv x w h h0).mono (fun e w' ⟨h1,h2⟩=>⟨h1,But.of_below h2,_,_,_,by simp [h0],h.below h2⟩)
structure RV where
 kd:ae
 nm:ae
 pl:Nat
 ex:Nat
def kC(k:ae×Nat):List ag:=[.string k.1,.int .i64 k.2]
def rC(r:RV):List ag:=[.string r.kd,.string r.nm,.int .i64 r.pl,.int .i64 r.ex]
structure RM(base:Nat)(w:af)(b:Nat)(s:ae)(tv:ag)(i d e a:Nat)(kv rv pv:ag)(kl:List (ae×Nat))(rl:List RV)(pl:List PV)(l:List PX):Prop where
 rs:RS w b s tv i d e a kv rv pv
 pt:PT base w pv pl l
 kt:w.ownsRow base 170 2 kv kl.length (kl.flatMap kC)
 rt:w.ownsRow base 172 4 rv rl.length (rl.flatMap rC)
 fh:∀x∈l,jC base x
def NX(T:TypeId)(w w':af):Prop:=∀(g:Nat)(cs:Array ag)(T':TypeId)(f:Nat×Nat),w.heap[g]? =some (Obj.cells cs T' f)->T'≠T->T'≠252->w'.heap[g]? =w.heap[g]?
def NX.row(k:NX T w w')(h:w.ownsRow base e size v n xs)(h1:e≠T)(h2:e≠252):w'.ownsRow base e size v n xs:=ay h (fun g cs f _ A=>k g cs _ f A h1 h2)
def NX.pt(k:NX T w w'){l:List PX}(h:PT base w pv pl l)(h1:255≠T)(h2:257≠T)(C:3≠T)(D:259≠T):PT base w' pv pl l:=
 ⟨h.fst,k.row h.row h1 au,fun x A=>⟨k.row (h.rep x A).g h2 au,k.row (h.rep x A).p C au,k.row (h.rep x A).s D au⟩⟩
def NX.grown(h:w.ownsRow base T size v n xs)(k:an w W)(D:W.grownBy w5 v.ownBlock)(b)(C:aE w b cs 252)(o u):NX T w (w5.setCell ⟨b,o,none⟩ u):=by
 intro g I T' f A h1 h2;refine (dN _ _ _ _ ?_).trans ((D.block g (cK (lt_of_some A) k.size) (fun e=>dH h A h1 e)).trans (k.block g (lt_of_some A)));intro e;subst e;unfold aE at C;rw [C] at A;simp only [aL,uU] at A;exact h2 A.2.1.symm
section
variable {base b:Nat}{w w':af}{s:ae}{tv:ag}{i d e a:Nat}{kv rv pv:ag}{kl:List (ae×Nat)}{rl:List RV}{pl:List PV}{l:List PX}
def RM.below(h:RM base w b s tv i d e a kv rv pv kl rl pl l)(k:an w w')(C:base<=b)(D:base<=w.heap.size):RM base w' b s tv i d e a kv rv pv kl rl pl l:=
 ⟨h.rs.below k,h.pt.but (But.of_below (b:=b) k) h.rs.blk C D,ay h.kt (fun g cs f _ A=>k.block g (lt_of_some A)),ay h.rt (fun g cs f _ A=>k.block g (lt_of_some A)),h.fh⟩
def But.row{bs}(k:But b w w')(C:aE w b cs 252)(h:w.ownsRow bs T size v n xs)(h1:T≠252):w'.ownsRow bs T size v n xs:=
 ay h (fun g cs f _ A=>k.block g (lt_of_some A) (fun e=>by
  subst e;unfold aE at C;rw [C] at A;simp only [aL,uU] at A;exact h1 A.2.1.symm))
def RM.but(h:RM base w b s tv i d e a kv rv pv kl rl pl l)(k:But b w w')(A:base<=b)(C:base<=w.heap.size)(r:RS w' b s tv i' d' e' a' kv rv pv):RM base w' b s tv i' d' e' a' kv rv pv kl rl pl l:=
 ⟨r,h.pt.but k h.rs.blk A C,k.row h.rs.blk h.kt au,k.row h.rs.blk h.rt au,h.fh⟩
def RM.fr(h:RM base w b s tv i d e a kv rv pv kl rl pl l)(k:Fr base b w w' pv pv'){kG l'}(p:PT base w' pv' kG l')(r:RS w' b s tv i' d' e' a' kv rv pv')(A:∀x∈l',jC base x):RM base w' b s tv i' d' e' a' kv rv pv' kl rl kG l':=
 ⟨r,p,k.row h.kt h.rs.blk h.pt.row au au,k.row h.rt h.rs.blk h.pt.row au au,A⟩
def RM.kinds(h:RM base w b s tv i d e a kv rv pv kl rl pl l)(R:base<=b)(J:base<=w.heap.size){x:ae×Nat}(A:an w W)(D:W.grownBy w5 kv.ownBlock)(Q:w5.ownsRow base 170 2 (.slice (some ⟨g5,0,none⟩) (kl.length+1) aT) (kl.length+1) (kl.flatMap kC++kC x)):
  RM base (w5.setCell ⟨b,5,none⟩ (.slice (some ⟨g5,0,none⟩) (kl.length+1) aT)) b s tv i d e a (.slice (some ⟨g5,0,none⟩) (kl.length+1) aT) rv pv (kl++[x]) rl pl l/\Below base w (w5.setCell ⟨b,5,none⟩ (.slice (some ⟨g5,0,none⟩) (kl.length+1) aT))/\NX 170 w (w5.setCell ⟨b,5,none⟩ (.slice (some ⟨g5,0,none⟩) (kl.length+1) aT)):=by
 have C:=NX.grown h.kt A D b h.rs.blk 5 (.slice (some ⟨g5,0,none⟩) (kl.length+1) aT);have I:aE w5 b _ 252:=(D.block b (cK h.rs.lt A.size) (fun e=>dH h.kt h.rs.blk au e)).trans ((A.block b h.rs.lt).trans h.rs.blk);refine ⟨⟨⟨I.set 5 _,C.row h.rs.tok au au,h.rs.gd,⟨⟨_,_,_,rfl⟩,h.rs.fm.2⟩,h.rs.sz⟩,C.pt h.pt au au au au,?_,C.row h.rt au au,h.fh⟩,?_,C⟩
 ·have:=bN Q I au 5 (.slice (some ⟨g5,0,none⟩) (kl.length+1) aT);exact Ft
 ·exact (ct (A.mono J) D (aP J A.size) (fun k U=>(h.kt.lt k U).1)).setCell R _
def RM.rels(h:RM base w b s tv i d e a kv rv pv kl rl pl l)(R:base<=b)(J:base<=w.heap.size){x}(A:an w W)(D:W.grownBy w5 rv.ownBlock)(Q:w5.ownsRow base 172 4 (.slice (some ⟨g5,0,none⟩) (rl.length+1) aT) (rl.length+1) (rl.flatMap rC++rC x)):
  RM base (w5.setCell ⟨b,6,none⟩ (.slice (some ⟨g5,0,none⟩) (rl.length+1) aT)) b s tv i d e a kv (.slice (some ⟨g5,0,none⟩) (rl.length+1) aT) pv kl (rl++[x]) pl l/\Below base w (w5.setCell ⟨b,6,none⟩ (.slice (some ⟨g5,0,none⟩) (rl.length+1) aT))/\NX 172 w (w5.setCell ⟨b,6,none⟩ (.slice (some ⟨g5,0,none⟩) (rl.length+1) aT)):=by
 have C:=NX.grown h.rt A D b h.rs.blk 6 (.slice (some ⟨g5,0,none⟩) (rl.length+1) aT);have I:aE w5 b _ 252:=(D.block b (cK h.rs.lt A.size) (fun e=>dH h.rt h.rs.blk au e)).trans ((A.block b h.rs.lt).trans h.rs.blk);refine ⟨⟨⟨I.set 6 _,C.row h.rs.tok au au,h.rs.gd,⟨h.rs.fm.1,⟨_,_,_,rfl⟩,h.rs.fm.2.2⟩,h.rs.sz⟩,C.pt h.pt au au au au,C.row h.kt au au,?_,h.fh⟩,?_,C⟩
 ·have:=bN Q I au 6 (.slice (some ⟨g5,0,none⟩) (rl.length+1) aT);exact Ft
 ·exact (ct (A.mono J) D (aP J A.size) (fun k U=>(h.rt.lt k U).1)).setCell R _
end
def NX.blk(k:NX T w w')(h:aE w g cs T')(h1:T'≠T)(h2:T'≠252):aE w' g cs T':=(k g cs T' (0,0) h h1 h2).trans h
def Tryz.infoKd:(Tryz.prog.info? 170).map (fun i=>(i.zero,i.size,i.bytes))=some (some (.agg #[.string ⟨#[]⟩,.int .i64 0]),2,24):=by kernel_rfl
def Tryz.infoRl:(Tryz.prog.info? 172).map (fun i=>(i.zero,i.size,i.bytes))=some (some (.agg #[.string ⟨#[]⟩,.string ⟨#[]⟩,.int .i64 0,.int .i64 0]),4,48):=by kernel_rfl
abbrev pE:=@Nat.zero_add
abbrev Uzb:=@List.getElem?_cons_succ
abbrev nz:=@List.getElem?_append_right
abbrev j2:=@List.any_cons
def OK (h:aA:=by
 rw [aK] at he;have kP:=ai hR;clear hb HQ hR;exact OL):aA:=h
def OM (h:aA:=by
 have hR:=ak HQ;rw [ei aj,List.any_nil] at hR;exact ON):aA:=h
def OO (h:aA:=by
 exact OL):aA:=h
def Fz (h:aA:=by
 exact ON):aA:=h
def OL (h:aA:=by
 go_wp2;go_roundw
 case rel=>exact ⟨k+1,aj,by go_num,HB.u,kP⟩
 case measure=>simp [intOf];omega):aA:=h
def ON (h:aA:=by
 have KV:=ai hR;clear hb HQ hR;exact Uza):aA:=h
def Uza (h:aA:=by
 go_wp2;go_ret;exact ⟨by rw [<-KV.u];rfl,HB.u⟩):aA:=h
structure DM(w:af)(b:Nat)(kv rv pv:ag)(kl:List (ae×Nat))(rl:List RV)(pl:List PV)(l:List PX):Prop where
 c5:w.cell? ⟨b,5,none⟩=some kv
 c6:w.cell? ⟨b,6,none⟩=some rv
 c7:w.cell? ⟨b,7,none⟩=some pv
 kt:w.ownsRow 0 170 2 kv kl.length (kl.flatMap kC)
 rt:w.ownsRow 0 172 4 rv rl.length (rl.flatMap rC)
 pt:PT 0 w pv pl l
 kn:kl.length<=5
 rn:rl.length<=500
 pn:pl.length<=500
def aB(h:w.ownsRow base e size v n xs)(k:an w w'):w'.ownsRow base e size v n xs:=ay h (fun g cs f _ A=>k.block g (lt_of_some A))
def am{a}(h:w.cell? a=some v)(k:an w w'):w'.cell? a=some v:=(ji (k.block a.block (World.block_lt_of_cell? w a h))).trans h
def PT.below{l:List PX}(h:PT base w pv pl l)(k:an w w'):PT base w' pv pl l:=
 ⟨h.fst,aB h.row k,fun x A=>⟨aB (h.rep x A).g k,aB (h.rep x A).p k,aB (h.rep x A).s k⟩⟩
section
variable {w w':af}{b:Nat}{kv rv pv:ag}{kl:List (ae×Nat)}{rl:List RV}{pl:List PV}{l:List PX}
def DM.below(h:DM w b kv rv pv kl rl pl l)(k:an w w'):DM w' b kv rv pv kl rl pl l:=
 ⟨am h.c5 k,am h.c6 k,am h.c7 k,aB h.kt k,aB h.rt k,h.pt.below k,h.kn,h.rn,h.pn⟩
def Cz{α:Type}(f:α->List ag)(k)(A:∀a,(f a).length=k)(a:α)(j)(C:j<k):∀(l:List α)(i:Nat),l[i]? =some a->(l.flatMap f)[i*k+j]? =(f a)[j]?
 | [],i,h=>by simp at h
 |x::l,0,h=>by
  simp only [List.getElem?_cons_zero,aL] at h;subst h;rw [cq,Nat.zero_mul,pE,ny (by rw [A];exact C)]
 |x::l,i+1,h=>by
  rw [Uzb] at h;rw [cq,nz (by rw [A,Nat.add_mul];omega),A,show (i+1)*k+j-k=i*k+j by rw [Nat.add_mul];omega];exact Cz f k A a j C l i h
def bf(f:α->List ag)(k)(A:∀a,(f a).length=k){l:List α}(h:w.ownsRow base T k v l.length (l.flatMap f))(i)(a:α)(hi:l[i]? =some a):
  ∃g c,v=.slice (some ⟨g,0,none⟩) l.length c/\∀j u,j<k->(f a)[j]? =some u->w.cell? ⟨g,i*k+j,none⟩=some u:=by
 obtain ⟨g,c,e,_⟩:=h.form (n:=l.length) (by have:=(br.1 hi).1;omega);refine ⟨g,c,e,fun j u C D=> ?_⟩;obtain ⟨g',I,e',hc⟩:=aS h (i*k+j) u (by rw [Cz f k A a j C l i hi];exact D);rw [e] at e';simp only [aI,aL,ce] at e';rw [e'.1.1];exact hc
def DM.kat(h:DM w b kv rv pv kl rl pl l)(i)(x:ae×Nat)(hi:kl[i]? =some x):∃g c,kv=.slice (some ⟨g,0,none⟩) kl.length c/\w.cell? ⟨g,i*2,none⟩=some (.string x.1)/\w.cell? ⟨g,i*2+1,none⟩=some (.int .i64 x.2):=by
 obtain ⟨g,c,e,hc⟩:=bf kC 2 (fun _=>rfl) h.kt i x hi;exact ⟨g,c,e,hc 0 _ aj rfl,hc 1 _ aj rfl⟩
def DM.rat(h:DM w b kv rv pv kl rl pl l)(i x)(hi:rl[i]? =some x):∃g c,rv=.slice (some ⟨g,0,none⟩) rl.length c/\w.cell? ⟨g,i*4,none⟩=some (.string x.kd)/\w.cell? ⟨g,i*4+1,none⟩=some (.string x.nm)/\w.cell? ⟨g,i*4+2,none⟩=some (.int .i64 x.pl)/\w.cell? ⟨g,i*4+3,none⟩=some (.int .i64 x.ex):=by
 obtain ⟨g,c,e,hc⟩:=bf rC 4 (fun _=>rfl) h.rt i x hi;exact ⟨g,c,e,hc 0 _ aj rfl,hc 1 _ aj rfl,hc 2 _ aj rfl,hc 3 _ aj rfl⟩
end
def aK(a c):eqs a c=(a.toList==c.toList):=by unfold eqs;rw [aO,aO]
def CA(b kv rv pv kl rl pl l x w)(h:DM w b kv rv pv kl rl pl l):
  Calls prog 137 #[.pointer (some ⟨b,5,none⟩),.string x] w fun e w'=>e=.returned (.bool (kl.any fun k=>eqs k.1 x))/\an w w':=by
 obtain ⟨R,U,rfl⟩:=ax h.kt;have H:=ai h;have Q:=h.kn;generalize hR:(kl.any fun k=>eqs k.1 x)=A;have D:=ai (hR:((kl.drop 0).any fun k=>eqs k.1 x)=A);clear h hR;go_enter func137,ntmps137;go_wp2_with fail
 go_loopw [5] (fun u wr=>∃k:Nat,k<=kl.length/\u=.int .i64 k/\an w wr/\Hid (((kl.drop k).any fun q=>eqs q.1 x)=A)) (fun u _=>kl.length-(intOf u).toNat)
 case atStart=>exact ⟨0,aj,rfl,az _ _,D⟩
 case round=>
  obtain ⟨k,J,rfl,hb,HQ⟩:=hrel;have c5:=(H.u.below hb).c5;have HB:=ai hb
  by_cases C:k<kl.length
  ·obtain ⟨g,c,e1,k0,k1⟩:=(H.u.below hb).kat k kl[k] (aH C);simp only [aI,true_and] at e1;obtain ⟨rfl,rfl⟩:=e1;have hR:=ak HQ;rw [dI C,j2] at hR;generalize kl[k]=q at*;have I:(k:Int)<(kl.length:Int):=aj
   cases he:eqs q.1 x
   ·rw [he,Bool.false_or] at hR;exact OK
   rw [he,Bool.true_or] at hR;rw [aK] at he;exact Fz
  have I:¬((k:Int)<(kl.length:Int)):=aj;exact OM
def aY(k n:ae):List RV->Nat->Int
 | [],_=> -1
 |x::xs,i=>if eqs x.kd k&&eqs x.nm n then i else aY k n xs (i+1)
def dV(b kv rv pv kl rl pl l x y w)(h:DM w b kv rv pv kl rl pl l):
  Calls prog 132 #[.pointer (some ⟨b,5,none⟩),.string x,.string y] w fun e w'=>e=.returned (.int .i64 (aY x y rl 0))/\an w w':=by
 obtain ⟨V,rc,rfl⟩:=ax h.rt;have H:=ai h;have R:=h.rn;generalize hR:aY x y rl 0=C;have I:=ai (hR:aY x y (rl.drop 0) 0=C);clear h hR;go_enter func132,ntmps132;go_wp2_with fail
 go_loopw [7] (fun u wr=>∃k:Nat,k<=rl.length/\u=.int .i64 k/\an w wr/\Hid (aY x y (rl.drop k) k=C)) (fun u _=>rl.length-(intOf u).toNat)
 case atStart=>exact ⟨0,aj,rfl,az _ _,I⟩
 case round=>
  obtain ⟨k,Q,rfl,hb,HQ⟩:=hrel;have c6:=(H.u.below hb).c6;have HB:=ai hb
  by_cases D:k<rl.length
  ·obtain ⟨g,c,e1,k0,k1,U,k3⟩:=(H.u.below hb).rat k rl[k] (aH D);simp only [aI,true_and] at e1;obtain ⟨rfl,rfl⟩:=e1;have hR:=ak HQ;rw [dI D,aY] at hR;generalize rl[k]=q at*;have J:(k:Int)<(rl.length:Int):=aj
   cases he:eqs q.kd x
   ·rw [he,eB] at hR;simp only [bH,aV] at hR;exact OK
   rw [he,Bool.true_and] at hR;rw [aK] at he
   cases A:eqs q.nm y
   ·rw [A] at hR;simp only [bH,aV] at hR;rw [aK] at A;have kP:=ai hR;clear hb HQ hR;exact OO
   rw [A] at hR;simp only [if_true] at hR;rw [aK] at A;exact Fz
  have J:¬((k:Int)<(rl.length:Int)):=aj;have hR:=ak HQ;rw [ei aj,aY] at hR;exact Fz
abbrev bV:=@wpAnyH_take
abbrev fo:=@List.setIfInBounds_toArray
abbrev pM:=@wpAnyH_ready
abbrev nG:=@AllReadyH.cons
abbrev pN:=@AllReadyH.nil
def fW (h:aA:=by
 assumption):aA:=h
def Pw (h:aA:=by
 have A:=ai ((ak B0).trans (BB.u.mono (ak B0).size));go_wp2;go_ret;exact ⟨rfl,A.u⟩):aA:=h
def F7 (h:aA:=by
 go_enter func154,ntmps154;go_wp2;go_ret;exact ⟨rfl,B0.u⟩):aA:=h
def eD(q:aU) (h:bF aU->aA:=by
 intro zq;simp only [Act.put,fo,List.set_cons_zero,List.set_cons_succ,List.getElem_toArray,List.getElem_cons_zero,List.getElem_cons_succ];exact zq.1):aA:=h ⟨q⟩
def Px(q:aU) (h:bF aU->aA:=by
 intro zq;have g1:W.cell? ⟨w.heap.size,1,none⟩=some (.string t.sub):=(ak G0).cell rfl;have g2:W.cell? ⟨w.heap.size,2,none⟩=some (.int .i64 g.reach):=(ak G0).cell rfl;have g4:W.cell? ⟨w.heap.size,4,none⟩=some (.string g.rel):=(ak G0).cell rfl;have s0:W.cell? ⟨w.heap.size+1,0,none⟩=some (.string t.sub):=(ak S0).cell rfl;have s1:W.cell? ⟨w.heap.size+1,1,none⟩=some (.string t.who):=(ak S0).cell rfl;have s2:W.cell? ⟨w.heap.size+1,2,none⟩=some (.string t.of):=(ak S0).cell rfl;have D:=ai (C.u W.drew)
 revert g1 g2 g4 s0 s1 s2 D
 exact zq.1):aA:=h ⟨q⟩
def hX(i r:ae):Nat:=if r.size=0 then (if eqs i dB then 1 else 0) else 2
def K6(k i r w):
  Calls prog 154 #[.agg #[.string k,.string i,.string r]] w fun e w'=>e=.returned (.int .i64 (hX i r))/\an w w':=by
 have B0:=ai ((az w.heap.size w).alloc aD (cB k i r));unfold hX
 by_cases h0:r.size=0
 ·rw [if_pos h0];have D:(r.toList== [])=true:=by rw [aO,dA];exact jP (by rw [bh];exact h0)
  have A:r.toList.isEmpty=true:=by rw [aO,List.isEmpty_iff];exact jP (by rw [bh];exact h0)
  have C:eqs i dB=(i.toList== [42]):=by unfold eqs dB;rw [aO];rfl
  rw [C];clear h0 C
  cases I:(i.toList== [42])
  ·rw [if_neg ar];exact F7
  rw [if_pos rfl];exact F7
 ·rw [if_neg h0];have A:r.toList.isEmpty=false:=by
   rw [aO,Bool.eq_false_iff];intro h;rw [List.isEmpty_iff] at h;exact h0 (by rw [<-bh,h];rfl)
  have D:(r.toList== [])=false:=by rw [aO] at A ⊢;revert A;cases bJ r<;>simp
  clear h0;exact F7
def fX(g:Gr)(t:Tu):Bool:=eqs g.ty t.sub&&((g.reach==hX t.who t.of)&&eqs g.rel t.of)
def K7(g t w):
  Calls prog 104 #[E7 g,.agg #[.string t.sub,.string t.who,.string t.of]] w fun e w'=>e=.returned (.bool (fX g t))/\an w w':=by
 obtain ⟨R,J⟩:∃R,R=fX g t:=⟨_,rfl⟩;rw [<-J];unfold fX at J;unfold E7 cR;have C:=ai (fun w=>K6 t.sub t.who t.of w);generalize hX t.who t.of=n at*;have B0:=ai (((az w.heap.size w).alloc aD (hQ g.tp g.ty g.reach g.rp g.rel)).alloc ar (cB t.sub t.who t.of));have G0:=ai ((aE.new w #[.int .i64 g.tp,.string g.ty,.int .i64 g.reach,.int .i64 g.rp,.string g.rel] 207).alloc (cB t.sub t.who t.of));have S0:=ai (aE.new' (w.alloc (hQ g.tp g.ty g.reach g.rp g.rel)) (rK t.sub t.who t.of) 102 (w.heap.size+1) ar)
 cases h1:eqs g.ty t.sub
 ·rw [h1,eB] at J;subst J;have ac:(g.ty.toList==t.sub.toList)=false:=by rw [<-aK];exact h1
  go_enter func104,ntmps104;go_wp2_with fail;generalize ((w.alloc (hQ g.tp g.ty g.reach g.rp g.rel)).alloc (cB t.sub t.who t.of))=W at*;have g1:W.cell? ⟨w.heap.size,1,none⟩=some (.string g.ty):=(ak G0).cell rfl;have s0:W.cell? ⟨w.heap.size+1,0,none⟩=some (.string t.sub):=(ak S0).cell rfl
  go_quiet (fail)
  go_wp2;go_ret;exact ⟨rfl,cF (ak B0) _⟩
 ·have e1:g.ty=t.sub:=(bo _ _).1 h1;rw [h1,fE] at J;rw [e1] at G0 S0 B0 ⊢
  cases h2:(g.reach==n)
  ·rw [h2,eB] at J;subst J;have Z:((g.reach:Int)==(n:Int))=false:=by rw [b6] at h2 ⊢;omega
   go_enter func104,ntmps104;go_wp2_with fail;generalize ((w.alloc (hQ g.tp t.sub g.reach g.rp g.rel)).alloc (cB t.sub t.who t.of))=W at*;refine Px ?_;intro g1 g2 g4 s0 s1 s2 D;refine wp_region_held_drew (S:=fun w'=>w'.cell? ⟨w.heap.size,1,none⟩=some (.string t.sub)/\w'.cell? ⟨w.heap.size,2,none⟩=some (.int .i64 g.reach)/\w'.cell? ⟨w.heap.size,4,none⟩=some (.string g.rel)/\w'.cell? ⟨w.heap.size+1,0,none⟩=some (.string t.sub)/\w'.cell? ⟨w.heap.size+1,1,none⟩=some (.string t.who)/\w'.cell? ⟨w.heap.size+1,2,none⟩=some (.string t.of)) aw (by go_keep) (fun ad=> ?_);refine bV (i:=0) (v:= ?v0) rfl aw aw aw (fun _ _ _ h=>h) (Or.inl ⟨bc,?hy0⟩) fW ?_
   case hy0=>(intro w' I;(try dsimp only at I);go_simp)<;>with_reducible rfl
   simp only [Act.put,fo,List.set_cons_zero,List.set_cons_succ,List.getElem_toArray,List.getElem_cons_zero];refine bV (i:=1) (v:= ?v1) rfl aw aw aw (fun _ _ _ h=>h) (Or.inl ⟨bc,?hy1⟩) fW ?_
   case hy1=>(intro w' I;(try dsimp only at I);go_simp)<;>with_reducible rfl
   refine eD ?_;refine bV (i:=2) (v:= ?v2) rfl aw aw aw (fun _ _ _ h=>h) (Or.inl ⟨bc,?hy2⟩) fW ?_
   case hy2=>(intro w' I;(try dsimp only at I);go_simp)<;>with_reducible rfl
   refine eD ?_;refine bV (i:=3) (v:= ?v3) rfl aw aw aw (fun _ _ _ h=>h) (Or.inl ⟨bc,?hy3⟩) fW ?_
   case hy3=>(intro w' I;(try dsimp only at I);go_simp)<;>with_reducible rfl
   refine eD ?_;refine bV (i:=4) (v:= ?v4) rfl aw aw aw (fun _ _ _ h=>h) (Or.inl ⟨bc,?hy4⟩) fW ?_
   case hy4=>(intro w' I;(try dsimp only at I);go_simp)<;>with_reducible rfl
   refine eD ?_;refine bV (i:=5) (v:= ?v5) rfl aw aw aw (fun _ _ _ h=>h) (Or.inl ⟨bc,?hy5⟩) fW ?_
   case hy5=>(intro w' I;(try dsimp only at I);go_simp)<;>with_reducible rfl
   refine eD ?_;refine bV (i:=6) (v:= ?v6) rfl aw aw aw (fun _ _ _ h=>h) (Or.inl ⟨bc,?hy6⟩) fW ?_
   case hy6=>(intro w' I;(try dsimp only at I);go_simp)<;>with_reducible rfl
   refine eD ?_;refine bV (i:=7) (v:= ?v7) rfl aw aw aw (fun _ _ _ h=>h) (Or.inl ⟨bc,?hy7⟩) fW ?_
   case hy7=>(intro w' I;(try dsimp only at I);go_simp)<;>with_reducible rfl
   refine eD ?_;refine bV (i:=8) (v:= ?v8) rfl aw aw aw (fun _ _ _ h=>h) (Or.inl ⟨bc,?hy8⟩) fW ?_
   case hy8=>(intro w' I;(try dsimp only at I);go_simp)<;>with_reducible rfl
   refine eD ?_;refine bV (i:=9) (v:= ?v9) rfl aw aw aw (fun _ _ _ h=>h) (Or.inl ⟨bc,?hy9⟩) fW ?_
   case hy9=>(intro w' I;(try dsimp only at I);go_simp)<;>with_reducible rfl
   refine eD ?_;refine bV (i:=10) (v:= ?v10) rfl aw aw aw (fun _ _ _ h=>h) (Or.inl ⟨bc,?hy10⟩) fW ?_
   case hy10=>(intro w' I;(try dsimp only at I);go_simp)<;>with_reducible rfl
   refine eD ?_;refine pM (rs:=[11]) aw ar ?_;refine nG rfl (fun K ab=> ?_) pN
   go_simp
   refine D.u.mono ?_;rintro e w1 ⟨rfl,Q⟩;have BB:=ai ((az _ W).drew.trans Q:an W w1);have d1:=am g1 BB.u;have d2:=am g2 BB.u;have d4:=am g4 BB.u;have U:=am s0 BB.u;have V:=am s1 BB.u;have Y:=am s2 BB.u;refine ab.out _ _ ⟨d1,d2,d4,U,V,Y⟩ (fun ae=> ?_)
   try simp only [Act.put,fo,List.set_cons_zero,List.set_cons_succ,List.getElem_toArray,List.getElem_cons_zero,List.getElem_cons_succ]
   refine bV (i:=12) (v:= ?v12) rfl aw aw aw (fun _ _ _ h=>h) (Or.inl ⟨bc,?hy12⟩) fW ?_
   case hy12=>(intro w' I;(try dsimp only at I);go_simp)<;>with_reducible rfl
   refine eD ?_;refine bV (i:=13) (v:= ?v13) rfl aw aw aw (fun _ _ _ h=>h) (Or.inl ⟨bc,?hy13⟩) fW ?_
   case hy13=>(intro w' I;(try dsimp only at I);go_simp)<;>with_reducible rfl
   refine eD ?_;refine bV (i:=14) (v:= ?v14) rfl aw aw aw (fun _ _ _ h=>h) (Or.inl ⟨bc,?hy14⟩) fW ?_
   case hy14=>(intro w' I;(try dsimp only at I);go_simp)<;>with_reducible rfl
   refine eD ?_;refine bV (i:=15) (v:=undef) rfl aw aw aw (fun _ _ _ h=>h) (Or.inr ⟨bc,rfl⟩) fW ?_;refine eD ?_;refine bV (i:=16) (v:=undef) rfl aw aw aw (fun _ _ _ h=>h) (Or.inr ⟨bc,rfl⟩) fW ?_;refine eD ?_;refine bV (i:=17) (v:=undef) rfl aw aw aw (fun _ _ _ h=>h) (Or.inr ⟨bc,rfl⟩) fW ?_;refine eD ?_;refine bV (i:=18) (v:=undef) rfl aw aw aw (fun _ _ _ h=>h) (Or.inr ⟨bc,rfl⟩) fW ?_;refine eD ?_;refine bV (i:=19) (v:=undef) rfl aw aw aw (fun _ _ _ h=>h) (Or.inr ⟨bc,rfl⟩) fW ?_;refine eD ?_;refine bV (i:=20) (v:=undef) rfl aw aw aw (fun _ _ _ h=>h) (Or.inr ⟨bc,rfl⟩) fW ?_;refine eD ?_;refine bV (i:=21) (v:= ?v21) rfl aw aw aw (fun _ _ _ h=>h) (Or.inl ⟨bc,?hy21⟩) fW ?_
   case hy21=>(intro w' I;(try dsimp only at I);go_simp)<;>with_reducible rfl
   refine eD ?_;refine bV (i:=22) (v:= ?v22) rfl aw aw aw (fun _ _ _ h=>h) (Or.inl ⟨bc,?hy22⟩) fW ?_
   case hy22=>(intro w' I;(try dsimp only at I);go_simp)<;>with_reducible rfl
   refine eD ?_;refine wpAnyH_done aw ?_ _;exact Pw
  rw [h2,fE,aK] at J;subst J;have Z:((g.reach:Int)==(n:Int))=true:=by rw [dA] at h2 ⊢;omega
  go_enter func104,ntmps104;go_wp2_with fail;generalize ((w.alloc (hQ g.tp t.sub g.reach g.rp g.rel)).alloc (cB t.sub t.who t.of))=W at*;refine Px ?_;intro g1 g2 g4 s0 s1 s2 D
  go_region_held3 (fun w'=>w'.cell? ⟨w.heap.size,1,none⟩=some (.string t.sub)/\w'.cell? ⟨w.heap.size,2,none⟩=some (.int .i64 g.reach)/\w'.cell? ⟨w.heap.size,4,none⟩=some (.string g.rel)/\w'.cell? ⟨w.heap.size+1,0,none⟩=some (.string t.sub)/\w'.cell? ⟨w.heap.size+1,1,none⟩=some (.string t.who)/\w'.cell? ⟨w.heap.size+1,2,none⟩=some (.string t.of)) (go_keep)
   ((go_at_call 154;refine D.u.mono ?_;rintro e w1 ⟨rfl,Q⟩;have BB:=ai ((az _ W).drew.trans Q:an W w1);have d1:=am g1 BB.u;have d2:=am g2 BB.u;have d4:=am g4 BB.u;have U:=am s0 BB.u;have V:=am s1 BB.u;have Y:=am s2 BB.u))
  exact Pw
def vE (h:aA:=by
 simp [aH hlt]):aA:=h
def XC (h:aA:=by
 clear B0 PB0;obtain ⟨k,fv,aF,aG,aW,rfl,rfl,A,Q,ab,V⟩:=hrel;have U:=ai A;have ad:=ai Q;have Y:=ai ab;obtain ⟨aY,p1,p2,a0,a1,a2,a3,a4⟩:=Q.eight;have aR:=A.size
 by_cases hlt:k<p.ps.length
 ·have al:=bn hlt;obtain ⟨q,aV,e1,aX⟩:=aS (aB RP.u A) k (.int .i64 (p.ps[k]:Nat)) vE;simp only [aI,true_and] at e1;obtain ⟨rfl,rfl⟩:=e1;obtain ⟨ag,an⟩:=HC.u _ al;have C:=ai (ag b kv rv _ kl rl l wr (HD.u.below A));have ac:=ai (jN lf p.ps k _ (aH hlt));have aP:=om lf p.ps (k+1);rw [ac.u,<-ak V,aZ,HG.u] at aP;have aO:(k:Int)<(p.ps.length:Int):=aj;generalize p.ps[k]=m at*;clear A Q ab ag al;go_wp2_with fail;refine C.u.mono ?_;rintro e w1 ⟨sv,rfl,J,ap⟩;obtain ⟨aJ,c1,rfl,av,aw⟩:=Cm ap an;have R:=ai (U.u.trans (J.mono aR));have D:=ai (ad.u.below J);have I:=ai (aB Y.u J);have ax:=R.u.size;have ae:=ai av;have af:=ai aw;clear J ap C U ad Y av aw;go_wp2_with (at_builtin;go_must (refine bI _ rfl _ _ 29 rfl w.heap.size 3 iI _ 1 8 underlying29 II.u Vv.u Vw.u Vx.u rfl au (.slice aF fv.length aG) fv.length (fv.map fun n:Nat=> .int .i64 n) rfl I.u ⟨aJ,0,none⟩ (lf m).length c1 ((lf m).map fun n:Nat=> .int .i64 n) rfl ae.u af.u ?hone an ?h63 ?hbytes ax w1.heap.size rfl ?hrest))
  case hone=>
   intro u aQ;obtain ⟨n,_,rfl⟩:=aN.1 aQ
   rfl
  case h63=>unfold maxLen;omega
  case hbytes=>omega
  intro g5 aT w5 am Z aK aL;have ay:=ai (ct R.u Z ax (fun k aM=>(I.u.lt k aM).1));have aC:=ai ((Z.block _ D.u.lt (own_ne I.u D.u au)).trans D.u:aE w5 w.heap.size _ 255);have aD:=ai am;clear am Z aK aL R D I ae af;go_wp2;go_roundw
  case rel=>exact ⟨k+1,fv++lf m,some ⟨g5,0,none⟩,aT,aj,by go_num,ar,ay.u,aC.u,by simpa using aD.u,ai (by rw [ak V,ac.u])⟩
  case measure=>simp [intOf];omega
 have aO:¬((k:Int)<(p.ps.length:Int)):=aj;have ah:fv=G:=by rw [ak V,dy aj,HG.u]
 have az:=ai ah;clear A Q ab ah;go_wp2;go_ret;rw [<-az.u];exact ⟨_,rfl,U.u,Y.u⟩):aA:=h
def P8 (h:aA:=by
 exact cG.app (vF (dW pl f) _ _ h5) _ _ (dW pl f _ _ h4)):aA:=h
def AL(q:aU) (h:bF aU->aA:=by
 intro zq;have PB0:=ai (aE.new w (jZ p.kind ga p.gs.length gc p.nb p.nr p.pa p.pr pa p.ps.length pc sa p.sg.length sc) 255)
 revert PB0
 exact zq.1):aA:=h ⟨q⟩
def P9(q:aU) (h:bF aU->aA:=by
 intro zq;have hkq:((p.kind:Int) != 4&&(p.kind:Int) != 5)=false:=by rw [hk];rfl
 have HD:=ai h;have RP:=ai hr.p;have HC:=ai hc;have B0:=ai ((az _ w).alloc aD _:an w (w.alloc (dq p.kind ga p.gs.length gc p.nb p.nr p.pa p.pr pa p.ps.length pc sa p.sg.length sc)))
 revert hkq HD RP HC B0
 exact zq.1):aA:=h ⟨q⟩
def Gh(q:aU) (h:bF aU->aA:=by
 intro zq;have c7:=h.c7;have hn:=(br.1 hp).1;have hn':(n:Int)<(pl.length:Int):=aj
 revert c7 hn hn'
 exact zq.1):aA:=h ⟨q⟩
def Qa(q:aU) (h:bF aU->aA:=by
 intro zq;obtain ⟨iI,hi1,hy0,hy1,hy2⟩:=bK Tryz.infoInt;have II:=ai hi1;have Vv:=ai hy0;have Vw:=ai hy1;have Vx:=ai hy2;clear hi1 hy0 hy1 hy2
 revert iI II Vv Vw Vx
 exact zq.1):aA:=h ⟨q⟩
def aF(pl:List PV):Nat->Nat->List Nat
 |0,_=>[]
 |f+1,n=>match pl[n]? with
  |none=>[]
  |some p=>if p.kind=4\/p.kind=5 then p.ps.flatMap (aF pl f) else [n]
def aJ:Ex->List Ex
 |⟨_,some x,some y⟩=>aJ x++aJ y
 |⟨n,none,r⟩=>[⟨n,none,r⟩]
 |⟨_,some _,none⟩=>[]
def cG.app{R c cs}(k:cG R c cs):∀(ns:List Nat)(xs:List Ex),cG R ns xs->cG R (ns++c) (xs++cs)
 | [],[],_=>k
 |n::ns,x::xs,h=>⟨h.1,cG.app k ns xs h.2⟩
 | [],_::_,h=>h.elim
 |_::_,[],h=>h.elim
def cG.len{R}:∀(ns:List Nat)(xs:List Ex),cG R ns xs->ns.length=xs.length
 | [],[],_=>rfl
 |n::ns,x::xs,h=>by simp [cG.len ns xs h.2]
 | [],_::_,h=>h.elim
 |_::_,[],h=>h.elim
def dR:∀(rs:List (ae×Nat×Ex)) (x:Ex),aJ (ec x rs)=aJ x++(rs.map fun r=>r.2.2).flatMap aJ
 | [],x=>by simp [ec]
 |(t,p,y)::rs,x=>by
  rw [ec,dR rs];simp [fU,aJ]
def vF{pl:List PV}{f:Nat}(A:∀n x,Tr pl f n x->cG (Tr pl 1) (aF pl f n) (aJ x)):∀(ns:List Nat)(xs:List Ex),cG (Tr pl f) ns xs->cG (Tr pl 1) (ns.flatMap (aF pl f)) (xs.flatMap aJ)
 | [],[],_=>trivial
 |n::ns,x::xs,h=>by
  simp only [cq];exact cG.app (vF A ns xs h.2) _ _ (A n x h.1)
 | [],_::_,h=>h.elim
 |_::_,[],h=>h.elim
def dW(pl):∀(f n:Nat)(x:Ex),Tr pl f n x->cG (Tr pl 1) (aF pl f n) (aJ x)
 |0,_,_,h=>h.elim
 |f+1,n,x,⟨p,hp,h⟩=>by
  rw [aF,hp]
  rcases h with ⟨h1,hn,h2⟩|⟨h1,h0,hn,h2⟩|⟨h1,h0,hn,h2⟩|⟨h1,h0,J,ns,Q,rs,A,h4,h5,D,I,C⟩|⟨h1,h0,R,J,ns,Q,rs,A,h4,h5,D,I,C⟩
  ·simp only [h1,Nat.reduceEqDiff,or_self,aV,h2,aJ];exact ⟨⟨p,hp,.inl ⟨h1,hn,rfl⟩⟩,trivial⟩
  ·simp only [h1,Nat.reduceEqDiff,or_self,aV,h2,aJ];exact ⟨⟨p,hp,.inr (.inl ⟨h1,h0,hn,rfl⟩)⟩,trivial⟩
  ·simp only [h1,Nat.reduceEqDiff,or_self,aV,h2,aJ];exact ⟨⟨p,hp,.inr (.inr (.inl ⟨h1,h0,hn,rfl⟩))⟩,trivial⟩
  ·simp only [h1,true_or,if_true,C,A,dR,cq];exact P8
  simp only [h1,or_true,if_true,C,A,dR,cq];exact P8
section
variable {w w':af}{b:Nat}{kv rv pv:ag}{kl:List (ae×Nat)}{rl:List RV}{pl:List PV}{l:List PX}
def DM.pat(h:DM w b kv rv pv kl rl pl l)(i p)(hi:pl[i]? =some p):∃g c ga gc pa pc sa sc,pv=.slice (some ⟨g,0,none⟩) pl.length c/\nw w (p,.slice ga p.gs.length gc,.slice pa p.ps.length pc,.slice sa p.sg.length sc)/\
  w.cell? ⟨g,i*8,none⟩=some (.int .i64 p.kind)/\w.cell? ⟨g,i*8+1,none⟩=some (.slice ga p.gs.length gc)/\w.cell? ⟨g,i*8+2,none⟩=some (.string p.nb)/\w.cell? ⟨g,i*8+3,none⟩=some (.string p.nr)/\w.cell? ⟨g,i*8+4,none⟩=some (.int .i64 p.pa)/\w.cell? ⟨g,i*8+5,none⟩=some (.int .i64 p.pr)/\w.cell? ⟨g,i*8+6,none⟩=some (.slice pa p.ps.length pc)/\w.cell? ⟨g,i*8+7,none⟩=some (.slice sa p.sg.length sc):=by
 have hl:pl.length=l.length:=by rw [<-h.pt.fst,List.length_map]
 rw [<-h.pt.fst,List.getElem?_map] at hi;obtain ⟨x,J,rfl⟩:=Option.map_eq_some_iff.1 hi;have I:=h.pt.row;rw [hl] at I;obtain ⟨g,c,e,hc⟩:=bf kU 8 (fun _=>rfl) I i x J;have A:=h.pt.rep x (bA J);obtain ⟨p,gv,Q,sv⟩:=x;obtain ⟨ga,gc,e1⟩:=ax A.g;obtain ⟨pa,pc,C⟩:=ax A.p;obtain ⟨sa,sc,D⟩:=ax A.s;simp only at e1 C D;subst e1 C D;exact ⟨g,c,ga,gc,pa,pc,sa,sc,by rw [e,hl],A,hc 0 _ aj rfl,hc 1 _ aj rfl,hc 2 _ aj rfl,hc 3 _ aj rfl,hc 4 _ aj rfl,hc 5 _ aj rfl,hc 6 _ aj rfl,hc 7 _ aj rfl⟩
end
def gF(pl:List PV)(n:Nat)(lv:List Nat):Prop:=∀(b:Nat) (kv rv pv:ag) (kl:List (ae×Nat)) (rl:List RV) (l:List PX) (w:af),DM w b kv rv pv kl rl pl l->
 Calls prog 191 #[.pointer (some ⟨b,5,none⟩),.int .i64 n] w fun e w'=>∃sv,e=.returned sv/\an w w'/\w'.ownsRow w.heap.size 3 1 sv lv.length (lv.map fun n:Nat=> .int .i64 n)
def Dp(pl n p)(hp:pl[n]? =some p)(D:p.kind≠4)(J:p.kind≠5):gF pl n [n]:=by
 intro b kv rv pv kl rl l w h;obtain ⟨g,c,ga,gc,pa,pc,sa,sc,rfl,R,k0,k1,U,k3,V,Y,Z,ab⟩:=h.pat n p hp;refine Gh ?_;intro c7 hn hn';have A:¬((p.kind:Int)=4):=aj;have C:¬((p.kind:Int)=5):=aj;have I:((p.kind:Int) != 4)=true:=hP.2 A;have Q:((p.kind:Int) != 5)=true:=hP.2 C;go_enter func191,ntmps191;go_wp2;go_ret;refine ⟨_,rfl,((az _ w).alloc aD _).alloc ar _,rfl,.inr ⟨w.heap.size+1,1,#[.int .i64 n],rfl,aj,?_,aj,by unfold maxLen;omega,rfl,rfl⟩⟩;exact aE.new' (w.alloc _) _ _ _ ar
def jN(f:α->List β)(l:List α)(k)(a:α)(h:l[k]? =some a):(l.take (k+1)).flatMap f=(l.take k).flatMap f++f a:=by
 obtain ⟨A,rfl⟩:=br.1 h;rw [cJ A,cT];simp
def om(f:α->List β)(l:List α)(k):((l.take k).flatMap f).length<=(l.flatMap f).length:=by
 have:l.flatMap f=(l.take k).flatMap f++(l.drop k).flatMap f:=by rw [<-cT,o9]
 rw [this,aZ];omega
def AM(pl n p)(hp:pl[n]? =some p)(hk:p.kind=4)(lf)(hc:∀m∈p.ps,gF pl m (lf m)/\0<(lf m).length)(bp:(p.ps.flatMap lf).length<=1000)(bq:p.ps.length<=1000):gF pl n (p.ps.flatMap lf):=by
 generalize be:p.ps.flatMap lf=G at*;have HG:=ai be;clear be;intro b kv rv pv kl rl l w h;refine Qa ?_;intro iI II Vv Vw Vx;obtain ⟨g,c,ga,gc,pa,pc,sa,sc,rfl,hr,k0,k1,bh,k3,bi,bj,bk,bl⟩:=h.pat n p hp;refine Gh ?_;intro c7 hn hn';have bg:((p.kind:Int) != 4)=false:=by rw [hk];rfl
 have bf:((p.kind:Int) != 4)=false:=by rw [hk];rfl
 refine P9 ?_;intro hkq HD RP HC B0;clear hk;refine AL ?_;intro PB0;clear h hr hp hc;go_enter func191,ntmps191;go_wp2_with fail;clear k0 k1 bh k3 bi bj bk bl c7 bg hkq bf
 go_loopw [6,7] (fun bo ba wr=>∃(k:Nat)(fv:List Nat)(bb:Option Addr)(bc:Nat),k<=p.ps.length/\ba=.int .i64 k/\bo=.slice bb fv.length bc/\an w wr/\aE wr w.heap.size (jZ p.kind ga p.gs.length gc p.nb p.nr p.pa p.pr pa p.ps.length pc sa p.sg.length sc) 255/\wr.ownsRow w.heap.size 3 1 (.slice bb fv.length bc) fv.length (fv.map fun n:Nat=> .int .i64 n)/\Hid (fv=(p.ps.take k).flatMap lf)) (fun _ ba _=>p.ps.length-(intOf ba).toNat)
 case atStart=>exact ⟨0,[],none,0,aj,rfl,rfl,B0.u,PB0.u,bL,ai ar⟩
 case round=>
  exact XC
def AN(pl n p)(hp:pl[n]? =some p)(hk:p.kind=5)(lf)(hc:∀m∈p.ps,gF pl m (lf m)/\0<(lf m).length)(bp:(p.ps.flatMap lf).length<=1000)(bq:p.ps.length<=1000):gF pl n (p.ps.flatMap lf):=by
 generalize be:p.ps.flatMap lf=G at*;have HG:=ai be;clear be;intro b kv rv pv kl rl l w h;refine Qa ?_;intro iI II Vv Vw Vx;obtain ⟨g,c,ga,gc,pa,pc,sa,sc,rfl,hr,k0,k1,bh,k3,bi,bj,bk,bl⟩:=h.pat n p hp;refine Gh ?_;intro c7 hn hn';have bg:((p.kind:Int) != 5)=false:=by rw [hk];rfl
 have bf:((p.kind:Int) != 4)=true:=by rw [hk];rfl
 refine P9 ?_;intro hkq HD RP HC B0;clear hk;refine AL ?_;intro PB0;clear h hr hp hc;go_enter func191,ntmps191;go_wp2_with fail;clear k0 k1 bh k3 bi bj bk bl c7 bg hkq bf
 go_loopw [6,7] (fun bo ba wr=>∃(k:Nat)(fv:List Nat)(bb:Option Addr)(bc:Nat),k<=p.ps.length/\ba=.int .i64 k/\bo=.slice bb fv.length bc/\an w wr/\aE wr w.heap.size (jZ p.kind ga p.gs.length gc p.nb p.nr p.pa p.pr pa p.ps.length pc sa p.sg.length sc) 255/\wr.ownsRow w.heap.size 3 1 (.slice bb fv.length bc) fv.length (fv.map fun n:Nat=> .int .i64 n)/\Hid (fv=(p.ps.take k).flatMap lf)) (fun _ ba _=>p.ps.length-(intOf ba).toNat)
 case atStart=>exact ⟨0,[],none,0,aj,rfl,rfl,B0.u,PB0.u,bL,ai ar⟩
 case round=>
  exact XC
def Jj (h:aA:=by
 simp [hm]):aA:=h
def AO (h:aA:=by
 rw [h3] at hm
 rcases bi.1 hm with rfl|hm
 ·exact ⟨x0,h4⟩
 obtain ⟨y,_,A⟩:=cG.mem _ _ h5 m hm;exact ⟨y,A⟩):aA:=h
def Qb (h:aA:=by
 exact aP (s8 (aF pl f) _ (fun m A=>by obtain ⟨y,C⟩:=key m A;exact mx pl f m y C)) hl):aA:=h
def Qc (h:aA:=by
 obtain ⟨y,A⟩:=key m hm;exact ⟨ih m y A (aP (s9 _ _ _ hm) hl),mx pl f m y A⟩):aA:=h
def Gi (h:aA:=by
 simp only [h1,Nat.reduceEqDiff,or_self,aV];exact Dp pl n p hp aj aj):aA:=h
def AP (h:aA:=by
 simp only [cq,aZ,List.length_cons];omega):aA:=h
def Qd (h:aA:=by
 simp only [cT,cq,aZ];omega):aA:=h
def Qe(q:aU) (h:bF aU->aA:=by
 intro zq;unfold Oper.wp execOp;simp only [ho,resolve,invoke,builtin,Sem.run_bind,Sem.run_pure,Result.andThen_ok,List.map_toArray,List.map_cons,List.map_nil,hs,hx,hrun];exact zq.1):aA:=h ⟨q⟩
def Qf(q:aU) (h:bF aU->aA:=by
 intro zq;have hrun:=run_append_nothing (P:=P) w t t o.type e i ht hi av n cv (qz hown) xv (by rw [hsize];exact Vy ht hnews h1);refine Qe ?_
 revert hrun
 exact zq.1):aA:=h ⟨q⟩
def Vy(C:P.underlying T=some (.slice E))(h:w.ownsRow base E size v n xs)(h1:∀u∈xs,u.oneCell'=true):Src P size T v n xs w:=by
 rcases h with ⟨h0,⟨rfl,h2⟩|⟨g,cap,J,rfl,Q,D,R,V,hs,I⟩⟩
 ·subst h2;have:xs=[]:=jP (by simpa using h0);subst this;exact Src.ofNil w C 0
 refine Src.ofSlice w C _ _ _ _ h0 ?_ h1;intro j u A;have U:=(br.1 A).1;rw [<-I,List.getElem?_take] at A
 split at A
 ·rw [Addr.add_lit];simp [World.cell?,D] at A ⊢;exact A
 simp at A
def qz{a}(h:w.ownsRow base E size (.slice a m c) n xs):n<=c:=by
 rcases h with ⟨_,⟨e,h2⟩|⟨g,cap,A,e,_,_,C,_⟩⟩
 ·omega
 simp only [aI] at e;omega
def gP{R:Array Oper}{o:Oper}{a:Act}{Q:Exit->Act->af->Prop}(D:o.guard=none)(s x:Operand)(t:TypeId)
  (ho:o.op=.call {callee:=.builtin .append,args:=#[s,x],argTypes:=#[t,t]})
  (base:Nat) (e:TypeId) (i:TypeInfo) (z:ag) (size bytes:Nat) (ht:P.underlying t=some (.slice e)) (hi:P.info? e=some i) (ak:i.zero=some z)
  (hsize:i.size=size) (ad:i.bytes=bytes) (al:z.cells.size=size) (aj:0<size)
  (v:ag) (n:Nat) (C:List ag) (hs:a.eval s=v) (hown:w.ownsRow base e size v n C)
  (xv:ag) (m:Nat) (A:List ag) (hx:a.eval x=xv) (U:Nat) (hnews:w.ownsRow U e size xv m A) (h1:∀u∈A,u.oneCell'=true)
  (Z:n+m<=maxLen) (ae:(n+m)*bytes<=140737488355328) (ac:base<=w.heap.size)
  (h:∀av cv w',w'.ownsRow base e size (.slice av (n+m) cv) (n+m) (C++A)->w.grownBy w' v.ownBlock->(∀g,(Value.slice av (n+m) cv).ownBlock=some g->v.ownBlock=some g\/g=w.heap.size)->wpList P R Q rest (a.put o.dst (.slice av (n+m) cv)) w'):wpList P R Q (o::rest) a w:=by
 by_cases I:0<m
 ·obtain ⟨g,c,rfl,hl,hn⟩:=og hnews I;refine bI w D s x t ho base e i z size bytes ht hi ak hsize ad al aj v n C hs hown ⟨g,0,none⟩ m c A hx hl hn h1 I Z ae ac _ rfl ?_;intro g5 cap w' h2 V Y am;refine h _ cap w' h2 V (fun q J=> ?_);simp only [Value.ownBlock,aL] at J;subst J;exact Y
 ·obtain rfl:m=0:=by omega
  have ai:A=[]:=jP (by simpa using hnews.1);subst ai;obtain ⟨av,cv,rfl⟩:=ax hown;refine wpList_plain D fun K ab=> ?_
  refine Qf ?_;intro hrun;exact ab _ _ (h av cv w (by simpa using hown) ⟨rfl,rfl,rfl,bY _,fun _ _ _=>rfl⟩ (fun g ah=> .inl ah))
def rW{J:Array Oper}{o:Oper}{a:Act}{K:Act->af->Prop}{Q:Exit->Act->af->Prop}{R:Prop}(D:o.guard=none)(s x:Operand)(t:TypeId)
  (ho:o.op=.call {callee:=.builtin .append,args:=#[s,x],argTypes:=#[t,t]})
  (base:Nat) (e:TypeId) (i:TypeInfo) (z:ag) (size bytes:Nat) (ht:P.underlying t=some (.slice e)) (hi:P.info? e=some i) (ai:i.zero=some z)
  (hsize:i.size=size) (ab:i.bytes=bytes) (aj:z.cells.size=size) (ae:0<size)
  (v:ag) (n:Nat) (C:List ag) (hs:a.eval s=v) (hown:w.ownsRow base e size v n C)
  (xv:ag) (m:Nat) (A:List ag) (hx:a.eval x=xv) (U:Nat) (hnews:w.ownsRow U e size xv m A) (h1:∀u∈A,u.oneCell'=true)
  (Y:n+m<=maxLen) (ac:(n+m)*bytes<=140737488355328) (Z:base<=w.heap.size)
  (h:∀av cv w',w'.ownsRow base e size (.slice av (n+m) cv) (n+m) (C++A)->w.grownBy w' v.ownBlock->K (a.put o.dst (.slice av (n+m) cv)) w'):
  if Region.wanted o (yielded J a.tmps)=true then Oper.wp P o a w K Q else R:=by
 by_cases I:0<m
 ·obtain ⟨g,c,rfl,hl,hn⟩:=og hnews I;exact jY w D s x t ho base e i z size bytes ht hi ai hsize ab aj ae v n C hs hown ⟨g,0,none⟩ m c A hx hl hn h1 I Y ac Z _ rfl (fun g5 cap w' h2 V ak al=>h _ cap w' h2 V)
 ·obtain rfl:m=0:=by omega
  have ad:A=[]:=jP (by simpa using hnews.1);subst ad;obtain ⟨av,cv,rfl⟩:=ax hown;have ah:Region.wanted o (yielded J a.tmps)=true:=by simp [Region.wanted,D]
  rw [if_pos ah];refine Qf ?_;intro hrun;exact h av cv w (by simpa using hown) ⟨rfl,rfl,rfl,bY _,fun _ _ _=>rfl⟩
def rY{s1 E1 xs1}(h:W.ownsRow b1 E1 s1 v1 n1 xs1)(k:W.ownsRow base E size v n xs)(C:W.grownBy w5 v.ownBlock)(D:E1≠E):w5.ownsRow b1 E1 s1 v1 n1 xs1:=ay h (fun g cs f _ A=>C.block g (lt_of_some A) (dH k A D))
def fM(h:an w W)(k:W.ownsRow w.heap.size E size v n xs)(A:W.grownBy w5 v.ownBlock):an w w5:=ct h A h.size (fun j C=>(k.lt j C).1)
def via2{h:Prop}{P:Option Addr->Nat->af->Prop}{A:Option Addr->Nat->af->Act}{C:Option Addr->Nat->af->af}{K:Act->af->Prop}(main:(∀g c w,P g c w->K (A g c w) (C g c w))->h)(key:∀g c w,P g c w->K (A g c w) (C g c w)):h:=main key
def cG.mem{R}:∀(ns:List Nat)(xs:List Ex),cG R ns xs->∀n∈ns,∃x∈xs,R n x
 | [],[],_,n,hn=>by simp at hn
 |m::ns,x::xs,h,n,hn=>by
  rcases bi.1 hn with rfl|hn
  ·exact ⟨x,ar,h.1⟩
  obtain ⟨y,C,A⟩:=cG.mem ns xs h.2 n hn;exact ⟨y,by simp [C],A⟩
 | [],_::_,h,_,_=>h.elim
 |_::_,[],h,_,_=>h.elim
def s8{α β:Type}(f:α->List β):∀(l:List α),(∀m∈l,0<(f m).length)->l.length<=(l.flatMap f).length
 | [],_=>ar
 |a::l,h=>by
  have h1:=h a ar;have h2:=s8 f l (fun m hm=>h m Jj);exact AP
def s9(f:α->List β)(l:List α)(a:α)(h:a∈l):(f a).length<=(l.flatMap f).length:=by
 obtain ⟨p,q,rfl⟩:=List.append_of_mem h;exact Qd
def mx(pl):∀(f n:Nat)(x:Ex),Tr pl f n x->0<(aF pl f n).length
 |0,_,_,h=>h.elim
 |f+1,n,x,⟨p,hp,h⟩=>by
  rw [aF,hp]
  rcases h with ⟨h1,hn,h2⟩|⟨h1,h0,hn,h2⟩|⟨h1,h0,hn,h2⟩|⟨h1,h0,R,ns,U,rs,A,C,D,I,J,Q⟩|⟨h1,h0,V,R,ns,U,rs,A,C,D,I,J,Q⟩
  ·simp [h1]
  ·simp [h1]
  ·simp [h1]
  ·have:=mx pl f _ _ C;simp only [h1,true_or,if_true,A,cq,aZ];omega
  have:=mx pl f _ _ C;simp only [h1,or_true,if_true,A,cq,aZ];omega
def gZ(pl):∀(f n:Nat)(x:Ex),Tr pl f n x->(aF pl f n).length<=1000->gF pl n (aF pl f n)
 |0,_,_,h,_=>h.elim
 |f+1,n,x,⟨p,hp,h⟩,hl=>by
  have ih:=gZ pl f;rw [aF,hp] at hl ⊢
  rcases h with ⟨h1,hn,h2⟩|⟨h1,h0,hn,h2⟩|⟨h1,h0,hn,h2⟩|⟨h1,h0,Q,ns,x0,rs,h3,h4,h5,D,I,J⟩|⟨h1,h0,R,Q,ns,x0,rs,h3,h4,h5,D,I,J⟩
  ·exact Gi
  ·exact Gi
  ·exact Gi
  ·simp only [h1,true_or,if_true] at hl ⊢;have key:∀m∈p.ps,∃y,Tr pl f m y:=fun m hm=>by
    exact AO
   refine AM pl n p hp h1 (aF pl f) (fun m hm=> ?_) hl ?_
   ·exact Qc
   exact Qb
  simp only [h1,or_true,if_true] at hl ⊢;have key:∀m∈p.ps,∃y,Tr pl f m y:=fun m hm=>by
   exact AO
  refine AN pl n p hp h1 (aF pl f) (fun m hm=> ?_) hl ?_
  ·exact Qc
  exact Qb
def jv(pl:List PV)(m:Nat):List Gr:=match pl[m]? with
 |some p=>p.gs
 |none=>[]
def YS(gs:List Gr):∀u∈gs.flatMap cf,u.oneCell'=true:=by
 intro u A;obtain ⟨g,_,h⟩:=bS.1 A;simp only [cf,bi,dK,dP] at h
 rcases h with rfl|rfl|rfl|rfl<;>rfl
def Dq(b:Nat)(kv rv pv kl rl pl l)(r:Nat)(x lv G w)(h:DM w b kv rv pv kl rl pl l)(ap:rl[r]? =some x)(aV:gF pl x.ex lv)(a3:∀m∈lv,m<pl.length)(aQ:lv.flatMap (jv pl)=G)(bg:G.length<=1000000)(bi:lv.length<=1000):
  Calls prog 196 #[.pointer (some ⟨b,5,none⟩),.int .i64 r] w fun e w'=>∃sv,e=.returned sv/\an w w'/\w'.ownsRow w.heap.size 257 4 sv G.length (G.flatMap cf):=by
 obtain ⟨a8,a1,a5,a6,a7⟩:=bK Tryz.infoGr;have aJ:=ai a1;have aK:=ai a5;have aL:=ai a6;have aM:=ai a7;obtain ⟨g,c,rfl,k0,k1,bl,k3⟩:=h.rat r x ap;have c6:=h.c6;have ah:=(br.1 ap).1;have bk:(r:Int)<(rl.length:Int):=aj;have aC:=ai h;have ad:=ai aQ;have aE:=ai a3;have C:=ai (aV b kv _ pv kl rl l w h);go_enter func196,ntmps196;go_wp2_with fail;refine C.u.mono ?_;rintro e w1 ⟨sv,rfl,aW,am⟩;obtain ⟨a9,ba,rfl⟩:=ax am;have av:=ai aW;have aG:=ai am;simp only [List.length_map] at*;go_wp2_with fail
 go_loopw [5,7] (fun bb ab wr=>∃(k:Nat)(fv:List Gr)(D:Option Addr)(I:Nat),k<=lv.length/\ab=.int .i64 k/\bb=.slice D fv.length I/\an w wr/\wr.ownsRow w.heap.size 3 1 (.slice a9 lv.length ba) lv.length (lv.map fun n:Nat=> .int .i64 n)/\wr.ownsRow w.heap.size 257 4 (.slice D fv.length I) fv.length (fv.flatMap cf)/\Hid (fv=(lv.take k).flatMap (jv pl))) (fun _ ab _=>lv.length-(intOf ab).toNat)
 case atStart=>exact ⟨0,[],none,0,aj,rfl,rfl,av.u,aG.u,bL,ai ar⟩
 case round=>
  obtain ⟨k,fv,D,I,bh,rfl,rfl,Y,al,aY,R⟩:=hrel;have ac:=ai Y;have aF:=ai al;have J:=ai aY;have a4:=Y.size
  by_cases hlt:k<lv.length
  ·have ag:=aE.u _ (bn hlt);obtain ⟨q,be,e1,bo⟩:=aS al k (.int .i64 (lv[k]:Nat)) vE;simp only [aI,true_and] at e1;obtain ⟨rfl,rfl⟩:=e1;have ae:=aC.u.below Y;have U:=ai (jN (jv pl) lv k _ (aH hlt));have af:=om (jv pl) lv (k+1);rw [ak U,<-ak R,aZ,ad.u] at af;have a2:(k:Int)<(lv.length:Int):=aj;generalize lv[k]=m at*;obtain ⟨bf,bc,ga,gc,pa,pc,sa,sc,rfl,ah,bp,bq,bs,bt,bu,bv,bw,bx⟩:=ae.pat m pl[m] (aH ag);have a0:jv pl m=pl[m].gs:=by unfold jv;rw [aH ag]
   rw [a0] at U af;have c7:=ae.c7;have bj:(m:Int)<(pl.length:Int):=aj;have aP:=ai ah.g;generalize pl[m]=p at*;go_wp2_with fail;have az:=ai (by unfold maxLen;omega:fv.length+p.gs.length<=maxLen);have aB:=ai (by omega:(fv.length+p.gs.length)*48<=140737488355328);rename_i K aR;apply via2 (K:=K) (P:=fun A cv w5=>wr.drew.grownBy w5 (Value.slice D fv.length I).ownBlock/\w5.ownsRow w.heap.size 257 4 (.slice A (fv.length+p.gs.length) cv) (fv.length+p.gs.length) (fv.flatMap cf++p.gs.flatMap cf))
   case main=>
    intro key;have aN:=ai key
    go_region_law (refine rW rfl (.tmp 24) (.tmp 35) 253 rfl w.heap.size 257 a8 _ 4 48 underlying253 aJ.u aK.u aL.u aM.u rfl au (.slice D fv.length I) fv.length (fv.flatMap cf) gW (bO J.u) (.slice ga p.gs.length gc) p.gs.length (p.gs.flatMap cf) gW 0 (bO aP.u) (YS _) az.u aB.u a4 ?_;intro A cv w5 Z Q;have ay:=ai Q;have V:=ai Z)
    all_goals exact aN.u A cv w5 ⟨ay.u,V.u⟩
   case key=>
    rintro A cv w5 ⟨Q,Z⟩;have aw:=ai (fM ac.u.drew (bO J.u) Q);have aO:=ai (rY (bO aF.u) (bO J.u) Q au);have V:=ai Z;refine aR _ _ ?_;go_wp2;go_roundw
    case rel=>exact ⟨k+1,fv++p.gs,A,cv,aj,by go_num,ar,aw.u,aO.u,by simpa using V.u,ai (by rw [ak R,ak U])⟩
    case measure=>simp [intOf];omega
  have a2:¬((k:Int)<(lv.length:Int)):=aj;have aX:fv=G:=by rw [ak R,dy aj,ad.u]
  have aD:=ai aX;go_wp2;go_ret;rw [<-aD.u];exact ⟨_,rfl,ac.u,J.u⟩
def Qk (h:aA:=by
 go_wp2;go_roundw
 case rel=>exact ⟨k+1,fv,fa,fc,aj,by go_num,rfl,B2.u,G2.u,R2.u,ai MU.u.symm⟩
 case measure=>simp [intOf];omega):aA:=h
def Gm(q:aU) (h:bF aU->aA:=by
 intro zq;refine C.u.mono ?_;rintro e w2 ⟨rfl,hb2⟩;have B2:=ai (HB.u.trans (hb2.mono hwr))
 revert w2 hb2 B2
 exact zq.1):aA:=h ⟨q⟩
def AU(a):eqs a em=(a.toList== []):=by rw [aK,show em.toList=[] from by rw [aO];rfl]
def GrC(rl:List RV)(pl:List PV)(r:Nat)(G:List Gr):Prop:=∀(b:Nat) (kv rv pv:ag) (kl:List (ae×Nat)) (l:List PX) (w:af),DM w b kv rv pv kl rl pl l->
 Calls prog 196 #[.pointer (some ⟨b,5,none⟩),.int .i64 r] w fun e w'=>∃sv,e=.returned sv/\an w w'/\w'.ownsRow w.heap.size 257 4 sv G.length (G.flatMap cf)
def cP(k n):∀(l:List RV)(i:Nat),aY k n l i= -1\/∃j:Nat,aY k n l i=j/\i<=j/\j<i+l.length
 | [],i=> .inl rfl
 |x::l,i=>by
  rw [aY]
  split
  ·exact .inr ⟨i,rfl,aj,ar⟩
  rcases cP k n l (i+1) with h|⟨j,h1,h2,A⟩
  ·exact .inl h
  exact .inr ⟨j,h1,aj,aM⟩
def g8(rl:List RV)(rel:ae)(g:Gr):List Nat:=if eqs (b8 g) em&&decide (0<=aY g.ty rel rl 0) then [(aY g.ty rel rl 0).toNat] else []
def fj(rl:List RV)(rel:ae)(G:List Gr):List Nat:=G.flatMap (g8 rl rel)
def Ql(rl rel g):(g8 rl rel g).length<=1:=by unfold g8;split<;>simp
def AV(rl rel):∀(G:List Gr),(fj rl rel G).length<=G.length
 | []=>by simp [fj]
 |g::G=>by
  have h1:=Ql rl rel g;have h2:=AV rl rel G;unfold fj at*;exact AP
def yR(b kv rv pv kl rl pl l r D y w)(h:DM w b kv rv pv kl rl pl l)(ay:GrC rl pl r D)(a0:D.length<=1000000):
  Calls prog 230 #[.pointer (some ⟨b,5,none⟩),.int .i64 r,.string y] w fun e w'=>∃sv,e=.returned sv/\an w w'/\w'.ownsRow w.heap.size 3 1 sv (fj rl y D).length ((fj rl y D).map fun n:Nat=> .int .i64 n):=by
 obtain ⟨a5,aD,aG,aJ,aK⟩:=bK Tryz.infoInt;have aS:=ai aD;have aV:=ai aG;have aW:=ai aJ;have aX:=ai aK;clear aD aG aJ aK;have aO:=ai h;have C:=ai (ay b kv rv pv kl l w h);generalize Z:fj rl y D=T;have av:=ai (show D.flatMap (g8 rl y)=T from Z);have be:T.length<=1000000:=by rw [<-Z];exact aP (AV rl y D) a0
 clear h ay Z;go_enter func230,ntmps230;go_wp2_with fail;refine C.u.mono ?_;rintro e w1 ⟨sv,rfl,az,af⟩;obtain ⟨a6,a7,rfl⟩:=ax af;have al:=ai az;have ap:=ai af;clear az af C;go_wp2_with fail
 go_loopw [7,9] (fun a9 ah wr=>∃(k:Nat)(fv:List Nat)(fa:Option Addr)(fc:Nat),k<=D.length/\ah=.int .i64 k/\a9=.slice fa fv.length fc/\an w wr/\wr.ownsRow w.heap.size 257 4 (.slice a6 D.length a7) D.length (D.flatMap cf)/\wr.ownsRow w.heap.size 3 1 (.slice fa fv.length fc) fv.length (fv.map fun n:Nat=> .int .i64 n)/\Hid (fv=(D.take k).flatMap (g8 rl y))) (fun _ ah _=>D.length-(intOf ah).toNat)
 case atStart=>exact ⟨0,[],none,0,aj,rfl,rfl,al.u,ap.u,bL,ai ar⟩
 case round=>
  clear al ap;obtain ⟨k,fv,fa,fc,bk,rfl,rfl,R,V,ae,Q⟩:=hrel;have HB:=ai R;have Y:=ai ae;have am:=ai V;have hwr:=R.size
  by_cases ad:k<D.length
  ·obtain ⟨aw,ba,e1,hc⟩:=bf cf 4 (fun _=>rfl) V k D[k] (aH ad);simp only [aI,true_and] at e1;obtain ⟨rfl,rfl⟩:=e1;have U:=ai (jN (g8 rl y) D k _ (aH ad));have ac:=om (g8 rl y) D (k+1);rw [U.u,<-ak Q,aZ,av.u] at ac;have a3:(k:Int)<(D.length:Int):=aj;have aR:=ai (aH ad);generalize D[k]=x at*;have k0:wr.cell? ⟨aw,k*4,none⟩=some (.string x.ty):=hc 0 _ aj rfl;have C:=ai (dV b kv rv pv kl rl pl l x.ty y wr (aO.u.below R));clear R V ae hc;go_wp2_with fail;refine Gm ?_;intro w2 hb2 B2;have G2:=ai (aB am.u hb2);have R2:=ai (aB Y.u hb2);obtain ⟨bc,bb,e1,hc⟩:=bf cf 4 (fun _=>rfl) G2.u k x aR.u;simp only [aI,true_and,aL,ce,and_true] at e1;obtain ⟨rfl,rfl⟩:=e1;have k1:w2.cell? ⟨aw,k*4+1,none⟩=some (.string (b8 x)):=hc 1 _ aj rfl;have a8:=B2.u.size;clear hb2 C HB am Y hc k0
   cases I:eqs (b8 x) em
   ·have a4:((b8 x).toList== [])=false:=by rw [<-I,AU]
    have MU:=ai (show (D.take (k+1)).flatMap (g8 rl y)=fv from by rw [U.u,<-ak Q];simp [g8,I]);clear I;exact Qk
   have a4:((b8 x).toList== [])=true:=by rw [<-I,AU]
   rcases cP x.ty y rl 0 with J|⟨j,J,bh,bj⟩
   ·have MU:=ai (show (D.take (k+1)).flatMap (g8 rl y)=fv from by rw [U.u,<-ak Q];simp [g8,J]);clear I;rw [J];exact Qk
   have ag:g8 rl y x=[j]:=by simp [g8,I,J]
   have MU:=ai (show (D.take (k+1)).flatMap (g8 rl y)=fv++[j] from by rw [U.u,<-ak Q,ag]);rw [ag] at ac;simp only [List.length_cons,List.length_nil] at ac;clear I ag;rw [J];have bg:(0:Int)<=(j:Int):=aj;clear J;go_wp2_with (at_builtin;go_must (refine bI _ rfl _ _ 29 rfl w.heap.size 3 a5 _ 1 8 underlying29 aS.u aV.u aW.u aX.u rfl au (.slice fa fv.length fc) fv.length (fv.map fun n:Nat=> .int .i64 n) rfl (R2.u.alloc _) ⟨w2.heap.size,0,none⟩ 1 1 [.int .i64 j] rfl rfl ?hnews ?hone au ?h63 ?hbytes ?hbase (w2.heap.size+1) ?hH ?hrest))
   case hnews=>exact bu (B:=w2.heap.size) (cs:=#[.int .i64 j]) (t:=3) (fr:=(0,0)) (aE.new' _ _ _ _ rfl)
   case hone=>
    exact pD
   case h63=>unfold maxLen;omega
   case hbytes=>omega
   case hbase=>simp;omega
   case hH=>simp
   intro g5 aT w5 aF ab a1 a2;have aM:=ai (fM (B2.u.alloc a8 _) (R2.u.alloc _) ab);have aN:=ai (rY (G2.u.alloc _) (R2.u.alloc _) ab au);have aY:=ai aF;clear aF ab a1 a2 B2 G2 R2 k1;go_wp2;go_roundw
   case rel=>exact ⟨k+1,fv++[j],some ⟨g5,0,none⟩,aT,aj,by go_num,ar,aM.u,aN.u,by simpa using aY.u,ai MU.u.symm⟩
   case measure=>simp [intOf];omega
  have a3:¬((k:Int)<(D.length:Int)):=aj;have aC:fv=T:=by rw [ak Q,dy aj,av.u]
  have aQ:=ai aC;clear R V ae aC;go_wp2;go_ret;rw [<-aQ.u];exact ⟨_,rfl,HB.u,Y.u⟩
abbrev AW(a0:ae)(a1:ae)(a2:Int)(a3:Int):Array ag:=#[.string a0,.string a1,.int .i64 a2,.int .i64 a3]
def Gn (h:aA:=by
 go_wp2;go_roundw
 case rel=>exact ⟨k+1,aj,by go_num,B4.u,PB4.u,sZ⟩
 case measure=>simp [intOf];omega):aA:=h
def Qm (h:aA:=by
 have A:=ai (by rw [<-Jk.u,hfi];simp:some p.pa=R);rw [hfi];clear hfi;go_wp2;go_ret;exact ⟨by rw [<-A.u];rfl,B4.u⟩):aA:=h
def Gp (h:aA:=by
 go_wp2;go_ret;exact ⟨by rw [<-KV.u];rfl,B4.u⟩):aA:=h
def Gq (h:aA:=by
 go_wp2;go_ret;exact ⟨by rw [<-KV.u];rfl,B5.u⟩):aA:=h
def Qn(q:aU) (h:bF aU->aA:=by
 intro zq;have e2:((p.kind:Int)==2)=false:=b6.2 aj;have e3:((p.kind:Int)==3)=false:=b6.2 aj
 revert e2 e3
 exact zq.1):aA:=h ⟨q⟩
def oG(kl:List (ae×Nat))(rl:List RV)(g:Gr):Option Nat:=
 if (kl.any fun k=>eqs k.1 g.ty)=false then some g.tp
 else if eqs (b8 g) em=false/\eqs (b8 g) (sg 42)=false/\aY g.ty (b8 g) rl 0<0 then some g.rp else none
def Gs(kl:List (ae×Nat))(rl:List RV)(h:Nat->List Gr)(kd:ae)(p:PV):Option Nat:=match p.gs.findSome? (oG kl rl) with
 |some a=>some a
 |none=>if p.kind=2 then (if aY kd p.nr rl 0<0 then some p.pa else none)
  else if p.kind=3 then (if aY kd p.nb rl 0<0 then some p.pa else if fj rl p.nr (h (aY kd p.nb rl 0).toNat)=[] then some p.pr else none)
  else none
def k8:Option Nat->Int
 |some a=>a
 |none=> -1
def Ds(b kv rv pv kl rl pl l dE kd p ga gc pa pc sa sc w)(h:DM w b kv rv pv kl rl pl l)(ba:∀r,r<rl.length->GrC rl pl r (dE r)/\(dE r).length<=1000000)(bi:nw w (p,.slice ga p.gs.length gc,.slice pa p.ps.length pc,.slice sa p.sg.length sc))(bw:p.gs.length<=1000000):
  Calls prog 192 #[.pointer (some ⟨b,5,none⟩),.string kd,.agg #[.int .i64 p.kind,.slice ga p.gs.length gc,.string p.nb,.string p.nr,.int .i64 p.pa,.int .i64 p.pr,.slice pa p.ps.length pc,.slice sa p.sg.length sc]] w fun e w'=>e=.returned (.int .i64 (k8 (Gs kl rl dE kd p)))/\an w w':=by
 have ah:=ai h;have bl:=ai ba;have bp:=ai bi.g;generalize aG:Gs kl rl dE kd p=R;have bn:=ai aG;have b1:=(az _ w).alloc aD (dq p.kind ga p.gs.length gc p.nb p.nr p.pa p.pr pa p.ps.length pc sa p.sg.length sc);have aN:=ai b1;have aR:=ai (aE.new w (jZ p.kind ga p.gs.length gc p.nb p.nr p.pa p.pr pa p.ps.length pc sa p.sg.length sc) 255);have aQ:=ai (show (match (p.gs.drop 0).findSome? (oG kl rl) with
  |some a=>some a
  |none=>if p.kind=2 then (if aY kd p.nr rl 0<0 then some p.pa else none)
   else if p.kind=3 then (if aY kd p.nb rl 0<0 then some p.pa else if fj rl p.nr (dE (aY kd p.nb rl 0).toNat)=[] then some p.pr else none)
   else none)=R from aG)
 clear h ba bi aG b1;go_enter func192,ntmps192;go_wp2_with fail
 go_loopw [7] (fun aL wr=>∃(k:Nat),k<=p.gs.length/\aL=.int .i64 k/\an w wr/\aE wr w.heap.size (jZ p.kind ga p.gs.length gc p.nb p.nr p.pa p.pr pa p.ps.length pc sa p.sg.length sc) 255/\Hid ((match (p.gs.drop k).findSome? (oG kl rl) with
  |some a=>some a
  |none=>if p.kind=2 then (if aY kd p.nr rl 0<0 then some p.pa else none)
   else if p.kind=3 then (if aY kd p.nb rl 0<0 then some p.pa else if fj rl p.nr (dE (aY kd p.nb rl 0).toNat)=[] then some p.pr else none)
   else none)=R)) (fun aL _=>p.gs.length-(intOf aL).toNat)
 case atStart=>exact ⟨0,aj,rfl,aN.u,aR.u,aQ⟩
 case round=>
  clear aN aR aQ bn;obtain ⟨k,bx,rfl,al,aw,ap⟩:=hrel;have HB:=ai al;have aC:=ai aw;have hwr:=al.size;obtain ⟨V,p1,p2,Y,Z,ab,ac,ad⟩:=aw.eight
  by_cases bh:k<p.gs.length
  ·obtain ⟨ar,bv,e1,hc⟩:=bf cf 4 (fun _=>rfl) (aB bp.u al) k p.gs[k] (aH bh);simp only [aI,true_and] at e1;obtain ⟨rfl,rfl⟩:=e1;have D:=ak ap;rw [dI bh,gm] at D;generalize p.gs[k]=x at*;have k0:wr.cell? ⟨ar,k*4,none⟩=some (.string x.ty):=hc 0 _ aj rfl;have k1:wr.cell? ⟨ar,k*4+1,none⟩=some (.string (b8 x)):=hc 1 _ aj rfl;have bu:wr.cell? ⟨ar,k*4+2,none⟩=some (.int .i64 x.tp):=hc 2 _ aj rfl;have k3:wr.cell? ⟨ar,k*4+3,none⟩=some (.int .i64 x.rp):=hc 3 _ aj rfl;have bs:(k:Int)<(p.gs.length:Int):=aj;have aF:=(az _ wr).alloc aD (.cells #[.string x.ty,.string (b8 x),.int .i64 x.tp,.int .i64 x.rp] 257);have B2:=ai (HB.u.trans (aF.mono hwr));have aS:=ai (aC.u.below aF);have aP:=ai (aE.new wr (AW x.ty (b8 x) x.tp x.rp) 257);have C:=ai (CA b kv rv pv kl rl pl l x.ty _ (ah.u.below B2.u));have Jk:=ai D;clear al aw hc ap D aF;go_wp2_with fail;refine C.u.mono ?_;rintro e bA ⟨rfl,au⟩;have am:=ai (B2.u.trans (au.mono B2.u.size));have aV:=ai (aS.u.below au);have ay:=ai (aP.u.below au);obtain ⟨g0,aW,aX,aZ⟩:=ay.u.four;have ag:=ai (dV b kv rv pv kl rl pl l x.ty (b8 x) _ (ah.u.below am.u));clear au C B2 aS aP k0 k1 bu k3 V p1 p2 Y Z ab ac ad;go_wp2_with fail;refine ag.u.mono ?_;rintro e aM ⟨rfl,J⟩;have B4:=ai (am.u.trans (J.mono am.u.size));have PB4:=ai (aV.u.below J);have bk:=ai (ay.u.below J);clear g0 aW aX aZ;obtain ⟨g0,aW,aX,aZ⟩:=bk.u.four;clear J ag am aV ay
   cases Q:(kl.any fun k=>eqs k.1 x.ty)
   ·have I:oG kl rl x=some x.tp:=by unfold oG;rw [Q];simp
    have KV:=ai (by rw [<-Jk.u,I]:some x.tp=R);clear Q I;exact Gp
   cases h1:eqs (b8 x) em
   ·have bq:((b8 x).toList== [])=false:=by rw [<-h1,AU]
    cases h2:eqs (b8 x) (sg 42)
    ·have br:((b8 x).toList== [42])=false:=by rw [<-h2,aK];rw [show (sg 42).toList=[42] from by rw [aO];rfl]
     rcases cP x.ty (b8 x) rl 0 with hfi|⟨j,hfi,be,bg⟩
     ·have I:oG kl rl x=some x.rp:=by unfold oG;rw [Q];simp [h1,h2,hfi]
      have KV:=ai (by rw [<-Jk.u,I]:some x.rp=R);rw [hfi];clear Q I h1 h2 hfi;exact Gp
     have I:oG kl rl x=none:=by
      unfold oG;rw [Q];have:¬((j:Int)<0):=aj;simp [h1,h2,hfi,this]
     have sZ:=ai Jk.u;rw [I] at sZ;rw [hfi];have av:¬((j:Int)<0):=aj;clear Q I h1 h2 hfi;exact Gn
    have br:((b8 x).toList== [42])=true:=by rw [<-h2,aK];rw [show (sg 42).toList=[42] from by rw [aO];rfl]
    have I:oG kl rl x=none:=by unfold oG;rw [Q];simp [h1,h2]
    have sZ:=ai Jk.u;rw [I] at sZ;clear Q I h1 h2;exact Gn
   have bq:((b8 x).toList== [])=true:=by rw [<-h1,AU]
   have I:oG kl rl x=none:=by unfold oG;rw [Q];simp [h1]
   have sZ:=ai Jk.u;rw [I] at sZ;clear Q I h1;exact Gn
  have bs:¬((k:Int)<(p.gs.length:Int)):=aj;have D:=ak ap;rw [ei aj,List.findSome?_nil] at D;simp only at D;clear al aw ap
  by_cases U:p.kind=2
  ·have e2:((p.kind:Int)==2)=true:=by rw [U];rfl
   have e3:((p.kind:Int)==3)=false:=by rw [U];rfl
   rw [if_pos U] at D;have Jk:=ai D;have C:=ai (dV b kv rv pv kl rl pl l kd p.nr wr (ah.u.below HB.u));clear U D;go_wp2_with fail;refine Gm ?_;intro aM J B4;have PB4:=ai (aC.u.below J);clear V p1 p2 Y Z ab ac ad;obtain ⟨V,p1,p2,Y,Z,ab,ac,ad⟩:=PB4.u.eight;clear J C
   rcases cP kd p.nr rl 0 with hfi|⟨j,hfi,be,bg⟩
   ·exact Qm
   have av:¬((j:Int)<0):=aj;have KV:=ai (by rw [<-Jk.u,hfi];simp [av]:none=R);rw [hfi];clear hfi;exact Gp
  by_cases ae:p.kind=3
  ·have e2:((p.kind:Int)==2)=false:=by rw [ae];rfl
   have e3:((p.kind:Int)==3)=true:=by rw [ae];rfl
   rw [if_neg U,if_pos ae] at D;have Jk:=ai D;have C:=ai (dV b kv rv pv kl rl pl l kd p.nb wr (ah.u.below HB.u));clear U ae D;go_wp2_with fail;refine Gm ?_;intro aM J B4;have PB4:=ai (aC.u.below J);clear V p1 p2 Y Z ab ac ad;obtain ⟨V,p1,p2,Y,Z,ab,ac,ad⟩:=PB4.u.eight;clear J C
   rcases cP kd p.nb rl 0 with hfi|⟨j,hfi,be,bg⟩
   ·exact Qm
   have av:¬((j:Int)<0):=aj;have D:=Jk.u;rw [hfi,if_neg av,Int.toNat_natCast] at D;have sZ:=ai D;obtain ⟨bb,bc⟩:=bl.u j aj;have ag:=ai (yR b kv rv pv kl rl pl l j (dE j) p.nr aM (ah.u.below B4.u) bb bc);rw [hfi];clear hfi D Jk bb bc;go_wp2_with fail;refine ag.u.mono ?_;rintro e w5 ⟨sv,rfl,aJ,bj⟩;obtain ⟨ta,tc,rfl⟩:=ax bj;have B5:=ai (B4.u.trans (aJ.mono B4.u.size));have bo:=ai (PB4.u.below aJ);clear V p1 p2 Y Z ab ac ad;obtain ⟨V,p1,p2,Y,Z,ab,ac,ad⟩:=bo.u.eight;clear aJ bj ag
   by_cases af:fj rl p.nr (dE j)=[]
   ·have KV:=ai (by rw [<-ak sZ,af];simp:some p.pr=R);rw [af];clear af;simp only [List.length_nil];exact Gq
   have KV:=ai (by rw [<-ak sZ,if_neg af]:none=R);have hl:0<(fj rl p.nr (dE j)).length:=mX.2 af;have bt:¬(((fj rl p.nr (dE j)).length:Int)=0):=aj;have bz:(((fj rl p.nr (dE j)).length:Int)==0)=false:=b6.2 bt;clear af;generalize (fj rl p.nr (dE j)).length=tn at*;exact Gq
  refine Qn ?_;intro e2 e3;rw [if_neg U,if_neg ae] at D;have KV:=ai D;clear U ae D;exact Uza
def AZ(q:aU) (h:bF aU->aA:=by
 intro zq;obtain ⟨gp,cp,ga,gc,pa,pc,sa,sc,hpv,hr,q0,q1,q2,q3,q4,q5,q6,q7⟩:=hd.pat m p hp;have hm:=(br.1 hp).1;have hm':(m:Int)<(pl.length:Int):=aj
 revert gp cp ga gc pa pc sa sc hpv hr q0 q1 q2 q3 q4 q5 q6 q7 hm hm'
 exact zq.1):aA:=h ⟨q⟩
def YV(rl:List RV)(pl:List PV)(h:Nat->List Nat):Prop:=∀x∈rl,gF pl x.ex (h x.ex)/\(h x.ex).length<=1000/\∀n∈h x.ex,∃p,pl[n]? =some p/\p.gs.length<=1000
def nO(rl:List RV)(pl:List PV)(h:Nat->List Gr):Prop:=∀r,r<rl.length->GrC rl pl r (h r)/\(h r).length<=1000000
def qB(kl:List (ae×Nat))(rl:List RV)(pl:List PV)(h:Nat->List Gr)(kd:ae)(n:Nat):Option Nat:=match pl[n]? with
 |some p=>Gs kl rl h kd p
 |none=>none
def kg(kl:List (ae×Nat))(rl:List RV)(pl:List PV)(h:Nat->List Gr)(A:Nat->List Nat):Option Nat:=rl.findSome? fun x=>(A x.ex).findSome? (qB kl rl pl h x.kd)
def Gv(b kv rv pv kl rl pl l dE fk w)(h:DM w b kv rv pv kl rl pl l)(aF:nO rl pl dE)(aG:YV rl pl fk):
  Calls prog 129 #[.pointer (some ⟨b,5,none⟩)] w fun e w'=>e=.returned (.int .i64 (k8 (kg kl rl pl dE fk)))/\an w w':=by
 obtain ⟨bo,rc,rfl⟩:=ax h.rt;have V:=ai h;have aZ:=ai aF;have a0:=ai aG;have bi:=h.rn;generalize aK:kg kl rl pl dE fk=ag;have aD:=ai (show ((rl.drop 0).findSome? fun x=>(fk x.ex).findSome? (qB kl rl pl dE x.kd))=ag from aK);clear h aF aG aK;go_enter func129,ntmps129;go_wp2_with fail
 go_loopw [3] (fun ap wr=>∃(i:Nat),i<=rl.length/\ap=.int .i64 i/\an w wr/\Hid (((rl.drop i).findSome? fun x=>(fk x.ex).findSome? (qB kl rl pl dE x.kd))=ag)) (fun ap _=>rl.length-(intOf ap).toNat)
 case atStart=>exact ⟨0,aj,rfl,az _ _,aD⟩
 case round=>
  clear aD;obtain ⟨i,hi,rfl,I,Z⟩:=hrel;have c6:=(V.u.below I).c6;have HB:=ai I;have a9:=I.size
  by_cases ab:i<rl.length
  ·have a6:(i:Int)<(rl.length:Int):=by omega
   obtain ⟨gr,cr,e1,ad,aV,aW,aX⟩:=(V.u.below I).rat i rl[i] (aH ab);simp only [aI,true_and] at e1;obtain ⟨rfl,rfl⟩:=e1;have D:=ak Z;rw [dI ab,gm] at D;obtain ⟨aN,bg,aO⟩:=a0.u _ (bn ab);have a4:=ai (aH ab);generalize rl[i]=x at*;have C:=ai (aN b kv _ pv kl rl l wr (V.u.below I));generalize a8:fk x.ex=lv at*;clear a8;have a1:=ai aO;generalize aJ:lv.findSome? (qB kl rl pl dE x.kd)=aE at D;have aw:=ai (show (lv.drop 0).findSome? (qB kl rl pl dE x.kd)=aE from aJ);have ay:=ai D;clear I Z D aN aO aJ;go_wp2_with fail;refine C.u.mono ?_;rintro e w1 ⟨sv,rfl,aM,al⟩;obtain ⟨bk,bl,rfl⟩:=ax al;have au:=ai (HB.u.trans (aM.mono a9));have a3:=ai al;clear aM al C ad aV aW aX c6;go_wp2_with fail
   go_loopw [5] (fun ar ba=>∃(k:Nat),k<=lv.length/\ar=.int .i64 k/\an w1 ba/\Hid ((lv.drop k).findSome? (qB kl rl pl dE x.kd)=aE)) (fun ar _=>lv.length-(intOf ar).toNat)
   case atStart=>exact ⟨0,aj,rfl,az _ _,aw⟩
   case round=>
    clear aw;obtain ⟨k,bf,rfl,I,Y⟩:=hrel;have Q:=au.u.trans (I.mono au.u.size);have U:=ai I;have ae:=ai Q;have aQ:=Q.size
    by_cases ah:k<lv.length
    ·have a7:(k:Int)<(lv.length:Int):=by omega
     have hd:=V.u.below Q;have c6:=hd.c6;have c7:=hd.c7;obtain ⟨be,bc,e1,ad,aV,aW,aX⟩:=hd.rat i x a4.u;simp only [aI,true_and,aL,ce,and_true] at e1;obtain ⟨rfl,rfl⟩:=e1;obtain ⟨q,bb,e1,aR⟩:=aS (aB a3.u I) k (.int .i64 (lv[k]:Nat)) (by simp [aH ah]);simp only [aI,true_and] at e1;obtain ⟨rfl,rfl⟩:=e1;have D:=ak Y;rw [dI ah,gm] at D;obtain ⟨p,hp,bh⟩:=a1.u _ (bn ah);generalize lv[k]=m at*;refine AZ ?_;intro gp cp ga gc pa pc sa sc hpv hr q0 q1 q2 q3 q4 q5 q6 q7 hm hm';have aP:qB kl rl pl dE x.kd m=Gs kl rl dE x.kd p:=by unfold qB;rw [hp]
     rw [aP] at D;have aC:=ai D;have af:=ai hr;have aY:=ai hd;rw [hpv] at c7;clear I Q hd hr Y D hp aP hpv;have J:=ai (Ds b kv _ pv kl rl pl l dE x.kd p ga gc pa pc sa sc wr.drew (aY.u.below bj.drew) aZ.u ⟨bO af.u.g,bO af.u.p,bO af.u.s⟩ aj);generalize Gs kl rl dE x.kd p=a5 at*;go_wp2_with fail
     cases a5 with
     |some at_=>
      unfold k8 at J;simp only at J
      go_region_held3 (fun w'=>w'.cell? ⟨b,6,none⟩=some (.slice (some ⟨gr,0,none⟩) rl.length rc)/\w'.cell? ⟨gr,i*4,none⟩=some (.string x.kd)/\w'.cell? ⟨b,7,none⟩=some (.slice (some ⟨gp,0,none⟩) pl.length cp)/\w'.cell? ⟨q,k,none⟩=some (.int .i64 m)/\w'.cell? ⟨gp,m*8,none⟩=some (.int .i64 p.kind)/\w'.cell? ⟨gp,m*8+1,none⟩=some (.slice ga p.gs.length gc)/\w'.cell? ⟨gp,m*8+2,none⟩=some (.string p.nb)/\w'.cell? ⟨gp,m*8+3,none⟩=some (.string p.nr)/\w'.cell? ⟨gp,m*8+4,none⟩=some (.int .i64 p.pa)/\w'.cell? ⟨gp,m*8+5,none⟩=some (.int .i64 p.pr)/\w'.cell? ⟨gp,m*8+6,none⟩=some (.slice pa p.ps.length pc)/\w'.cell? ⟨gp,m*8+7,none⟩=some (.slice sa p.sg.length sc)) (go_keep)
       ((go_at_call 192;refine (ak J).mono ?_;rintro e w5 ⟨rfl,R⟩;have A:an wr w5:=(az _ wr).drew.trans R;have d0:=am c6 A;have d1:=am ad A;have d2:=am c7 A;have d3:=am aR A;have d4:=am q0 A;have d5:=am q1 A;have d6:=am q2 A;have d7:=am q3 A;have d8:=am q4 A;have d9:=am q5 A;have d10:=am q6 A;have d11:=am q7 A;have B5:=ai (ae.u.trans (A.mono aQ));have av:=ai (U.u.trans (A.mono U.u.size));clear R A))
      have KV:=ai (show some at_=ag from by
       have h2:=ay.u;rw [<-aC.u] at h2;exact h2)
      have h0:(0:Int)<=(at_:Int):=aj;exact Gq
     |none=>
      unfold k8 at J;simp only at J
      go_region_held3 (fun w'=>w'.cell? ⟨b,6,none⟩=some (.slice (some ⟨gr,0,none⟩) rl.length rc)/\w'.cell? ⟨gr,i*4,none⟩=some (.string x.kd)/\w'.cell? ⟨b,7,none⟩=some (.slice (some ⟨gp,0,none⟩) pl.length cp)/\w'.cell? ⟨q,k,none⟩=some (.int .i64 m)/\w'.cell? ⟨gp,m*8,none⟩=some (.int .i64 p.kind)/\w'.cell? ⟨gp,m*8+1,none⟩=some (.slice ga p.gs.length gc)/\w'.cell? ⟨gp,m*8+2,none⟩=some (.string p.nb)/\w'.cell? ⟨gp,m*8+3,none⟩=some (.string p.nr)/\w'.cell? ⟨gp,m*8+4,none⟩=some (.int .i64 p.pa)/\w'.cell? ⟨gp,m*8+5,none⟩=some (.int .i64 p.pr)/\w'.cell? ⟨gp,m*8+6,none⟩=some (.slice pa p.ps.length pc)/\w'.cell? ⟨gp,m*8+7,none⟩=some (.slice sa p.sg.length sc)) (go_keep)
       ((go_at_call 192;refine (ak J).mono ?_;rintro e w5 ⟨rfl,R⟩;have A:an wr w5:=(az _ wr).drew.trans R;have d0:=am c6 A;have d1:=am ad A;have d2:=am c7 A;have d3:=am aR A;have d4:=am q0 A;have d5:=am q1 A;have d6:=am q2 A;have d7:=am q3 A;have d8:=am q4 A;have d9:=am q5 A;have d10:=am q6 A;have d11:=am q7 A;have B5:=ai (ae.u.trans (A.mono aQ));have av:=ai (U.u.trans (A.mono U.u.size));clear R A))
      go_wp2;go_roundw
      case rel=>exact ⟨k+1,aj,by go_num,av.u,ai aC.u⟩
      case measure=>simp [intOf];omega
    have a7:¬((k:Int)<(lv.length:Int)):=aj;have D:=ak Y;rw [ei aj,List.findSome?_nil] at D;have ac:=ay.u;rw [<-D] at ac;simp only at ac;have a2:=ai ac;clear I Q Y D ac;go_wp2;go_roundw
    case rel=>exact ⟨i+1,aj,by go_num,ae.u,a2⟩
    case measure=>simp [intOf];omega
  have a6:¬((i:Int)<(rl.length:Int)):=aj;have D:=ak Z;rw [ei aj,List.findSome?_nil] at D;have KV:=ai D;clear I Z D;exact Uza
def XE (h:aA:=by
 clear p0 p1 p2 p3 p4 p5 p6 p7 k0 k1 d0 d1 d2 C;refine Qt ?_;intro B6 Gw Jl G6 R6;have sz6:=B6.u.size;have Lu:=Gw.u.size;clear HB Lv YW HGR Jm;go_wp2_with (at_builtin;go_must (refine bI _ rfl _ _ 29 rfl w1.heap.size 3 iI _ 1 8 underlying29 II.u Vv.u Vw.u Vx.u rfl au (.slice fa f2.length fc) f2.length (f2.map fun n:Nat=> .int .i64 n) rfl (R6.u.alloc _) ⟨w5.heap.size,0,none⟩ 1 1 [.int .i64 j] rfl rfl ?l8 ?nj au ?nk ?ew ?l9 (w5.heap.size+1) ?UL ?jm))
 case l8=>exact bu (B:=w5.heap.size) (cs:=#[.int .i64 j]) (t:=3) (fr:=(0,0)) (aE.new' _ _ _ _ rfl)
 case nj=>
  exact Ov
 case nk=>unfold maxLen;omega
 case ew=>omega
 case l9=>simp;omega
 case UL=>simp
 intro g5 aT V D bE R U;refine Qu ?_;intro B7 BW7;have Q:=ai (sd (Jl.u.alloc _) (R6.u.alloc _) bE au);have I:=ai (rY (G6.u.alloc _) (R6.u.alloc _) bE au);have J:=ai D;clear D bE R U B6 Gw Jl G6 R6;go_wp2;go_roundw
 case rel=>exact ⟨k+1,f2++[j],some ⟨g5,0,none⟩,aT,aj,by go_num,ar,B7.u,BW7.u,Q.u,I.u,by simpa using J.u,Lw⟩
 case measure=>simp [intOf];omega):aA:=h
def XF (h:aA:=by
 clear p0 p1 p2 p3 p4 p5 p6 p7 k0 k1 d0 d1 d2 C;refine Qt ?_;intro B6 Gw Jl G6 R6;clear HB Lv YW HGR Jm;go_wp2;go_roundw
 case rel=>exact ⟨k+1,f2,fa,fc,aj,by go_num,rfl,B6.u,Gw.u,Jl.u,G6.u,R6.u,Lw⟩
 case measure=>simp [intOf];omega):aA:=h
def XG (h:aA:=by
 have I:¬((i:Int)<(lv.length:Int)):=aj;have A:fv=T:=by rw [ak HF,dy aj,HT.u]
 have C:=ai A;have D:=B1.u.size;clear hb mm hrow A;go_wp2;go_ret;rw [<-C.u];exact ⟨_,rfl,HB.u,bg Jm.u D⟩):aA:=h
def Qv (h:aA:=by
 go_wp2;go_roundw
 case rel=>exact ⟨i+1,f2,fa,fc,aj,by go_num,rfl,HB.u,Lv.u,Jm.u,HF6⟩
 case measure=>simp [intOf];omega):aA:=h
def Gx (h:aA:=by
 intro u A;obtain ⟨n,_,rfl⟩:=aN.1 A
 rfl):aA:=h
def Gy(q:aU) (h:bF aU->aA:=by
 intro zq;have b2:an wr ((wr.alloc (dq p.kind ga p.gs.length gc p.nb p.nr p.pa p.pr pa p.ps.length pc sa p.sg.length sc)).drew):=((az _ wr).alloc aD _).drew;have MV:=ai (aE.new wr (jZ p.kind ga p.gs.length gc p.nb p.nr p.pa p.pr pa p.ps.length pc sa p.sg.length sc) 255).drew
 revert b2 MV
 exact zq.1):aA:=h ⟨q⟩
def Qw(q:aU) (h:bF aU->aA:=by
 intro zq;have k0:wr.cell? ⟨gg,k*4,none⟩=some (.string x.ty):=hc 0 _ aj rfl;have k1:wr.cell? ⟨gg,k*4+1,none⟩=some (.string (b8 x)):=hc 1 _ aj rfl;have C:=ai (dV b kv rv pv kl rl pl l x.ty (b8 x) wr.drew (HD.u.below (HB.u.trans (bj.drew.mono hwi))));have tH:f2.length+(ed rl x).length<=1000000000:=by have:=HHL.u;omega
 revert k0 k1 C tH
 exact zq.1):aA:=h ⟨q⟩
def Qx(q:aU) (h:bF aU->aA:=by
 intro zq;refine (ak C).mono ?_;rintro e w5 ⟨rfl,oP⟩;have B6:=ai (HB.u.trans (oP.mono hwi));have Gw:=ai (Lv.u.trans (oP.mono YX));have Jl:=ai (YW.u.below oP);have R6:=ai (aB Jm.u oP);have sz6:=B6.u.size;have Lu:=Gw.u.size
 revert w5 oP B6 Gw Jl R6 sz6 Lu
 exact zq.1):aA:=h ⟨q⟩
def Qy(q:aU) (h:bF aU->aA:=by
 intro zq;have Qz:¬((k:Int)<(p.gs.length:Int)):=aj;have hf2:f2=fv++p.gs.flatMap (ed rl):=by rw [ak MU,dy aj]
 have Lw:=ai hf2;have Gz:=congrArg List.length hf2
 revert Qz hf2 Lw Gz
 exact zq.1):aA:=h ⟨q⟩
def Qt(q:aU) (h:bF aU->aA:=by
 intro zq;have B6:=ai (HB.u.trans (BB.u.mono hwi));have Gw:=ai (Lv.u.trans (BB.u.mono YX));have Jl:=ai (YW.u.below BB.u);have G6:=ai (aB HGR.u BB.u);have R6:=ai (aB Jm.u BB.u)
 revert B6 Gw Jl G6 R6
 exact zq.1):aA:=h ⟨q⟩
def QA(q:aU) (h:bF aU->aA:=by
 intro zq;have VA:=ai (jN (ed rl) p.gs k _ (aH hkt));have GA:=om (ed rl) p.gs (k+1);have hf2:=congrArg List.length (ak MU)
 revert VA GA hf2
 exact zq.1):aA:=h ⟨q⟩
def QB(q:aU) (h:bF aU->aA:=by
 intro zq;have B2:=ai (HB.u.trans (b2.mono hwr));have BP:=ai (Lv.u.trans (b2.mono VB));have R2:=ai (aB Jm.u b2);have YY:=ai (aB HRG.u b2)
 revert B2 BP R2 YY
 exact zq.1):aA:=h ⟨q⟩
def Qu(q:aU) (h:bF aU->aA:=by
 intro zq;have B7:=ai (qC (B6.u.alloc sz6 _) Xk (R6.u.alloc _) bE);have BW7:=ai (fM (Gw.u.alloc Lu _) (R6.u.alloc _) bE)
 revert B7 BW7
 exact zq.1):aA:=h ⟨q⟩
def ed(rl:List RV)(g:Gr):List Nat:=if 0<=aY g.ty (b8 g) rl 0 then [(aY g.ty (b8 g) rl 0).toNat] else []
def fZ(rl:List RV)(h:Nat->List Gr)(kd:ae)(p:PV):List Nat:=p.gs.flatMap (ed rl)++(if p.kind=2 then [(aY kd p.nr rl 0).toNat] else if p.kind=3 then fj rl p.nr (h (aY kd p.nb rl 0).toNat) else [])
def se(F:PV->List Nat)(pl:List PV)(m:Nat):List Nat:=match pl[m]? with
 |some p=>F p
 |none=>[]
def QC(rl g):(ed rl g).length<=1:=by unfold ed;split<;>simp
def qC(h:an w W)(A:w.heap.size<=B)(k:W.ownsRow B E size v n xs)(C:W.grownBy w5 v.ownBlock):an w w5:=ct h C h.size (fun j D=>aP A (k.lt j D).1)
def sd(h:aE W g cs T)(k:W.ownsRow base E size v n xs)(A:W.grownBy w5 v.ownBlock)(C:T≠E):aE w5 g cs T:=(A.block g h.lt (own_ne k h C)).trans h
def vL(b kv rv pv kl rl pl l dE kd n lv T w)(h:DM w b kv rv pv kl rl pl l)(aV:nO rl pl dE)(aW:gF pl n lv)(b9:lv.length<=1000)(bo:∀m∈lv,∃p,pl[m]? =some p/\p.gs.length<=1000/\(p.kind=2->0<=aY kd p.nr rl 0)/\(p.kind=3->0<=aY kd p.nb rl 0))(aX:lv.flatMap (se (fZ rl dE kd) pl)=T)(b3:T.length<=1000000000):
  Calls prog 232 #[.pointer (some ⟨b,5,none⟩),.string kd,.int .i64 n] w fun e w'=>∃sv,e=.returned sv/\an w w'/\w'.ownsRow w.heap.size 3 1 sv T.length (T.map fun n:Nat=> .int .i64 n):=by
 obtain ⟨iI,aF,bv,bw,bx⟩:=bK Tryz.infoInt;have II:=ai aF;have Vv:=ai bv;have Vw:=ai bw;have Vx:=ai bx;clear aF bv bw bx;have HD:=ai h;have bC:=ai aV;have bG:=ai bo;have HT:=ai aX;have C:=ai (aW b kv rv pv kl rl l w h);clear h aV aW bo aX;go_enter func232,ntmps232;go_wp2_with fail;refine (ak C).mono ?_;rintro e w1 ⟨sv,rfl,ay,aG⟩;obtain ⟨cd,ce,rfl⟩:=ax aG;have B1:=ai ay;have Xk:=ay.size;have bM:=ai aG;clear ay aG C;go_wp2_with fail
 go_loopw [7,9] (fun aM aO wr=>∃(i:Nat)(fv:List Nat)(fa:Option Addr)(fc:Nat),i<=lv.length/\aO=.int .i64 i/\aM=.slice fa fv.length fc/\an w wr/\an w1 wr/\wr.ownsRow w1.heap.size 3 1 (.slice fa fv.length fc) fv.length (fv.map fun n:Nat=> .int .i64 n)/\Hid (fv=(lv.take i).flatMap (se (fZ rl dE kd) pl))) (fun _ aO _=>lv.length-(intOf aO).toNat)
 case atStart=>exact ⟨0,[],none,0,aj,rfl,rfl,B1.u,az _ _,bL,ai ar⟩
 case round=>
  obtain ⟨i,fv,fa,fc,aF,rfl,rfl,hb,mm,hrow,HF⟩:=hrel;have HB:=ai hb;have Lv:=ai mm;have Jm:=ai hrow;have hwr:=hb.size;have VB:=mm.size
  by_cases hlt:i<lv.length
  ·obtain ⟨q,b0,e1,bz⟩:=aS (aB bM.u mm) i (.int .i64 (lv[i]:Nat)) vE;simp only [aI,true_and] at e1;obtain ⟨rfl,rfl⟩:=e1;obtain ⟨p,hp,cb,bs,bt⟩:=bG.u _ (bn hlt);have ad:=ai (jN (se (fZ rl dE kd) pl) lv i _ (aH hlt));have bl:=om (se (fZ rl dE kd) pl) lv (i+1);rw [ak ad,<-ak HF,aZ,HT.u] at bl;have b7:(i:Int)<(lv.length:Int):=aj;generalize lv[i]=m at*;have hd:=HD.u.below hb;refine AZ ?_;intro gp cp ga gc pa pc sa sc hpv hr q0 q1 q2 q3 q4 q5 q6 q7 hm hm';have bb:se (fZ rl dE kd) pl m=fZ rl dE kd p:=by unfold se;rw [hp]
   rw [bb] at ad bl;have c7:=hd.c7;rw [hpv] at c7;have HRG:=ai hr.g;have bH:=ai bs;have bJ:=ai bt;have bV:=cm wr _ c7;have mk:=cm wr _ bz;have bW:=cm wr _ q0;clear hb mm hrow hd hr hp hpv bb bs bt;go_wp2_with fail
   go_region_held3 (fun w'=>w'.cell? ⟨b,7,none⟩=some (.slice (some ⟨gp,0,none⟩) pl.length cp)/\w'.cell? ⟨q,i,none⟩=some (.int .i64 m)/\w'.cell? ⟨gp,m*8,none⟩=some (.int .i64 p.kind)/\w'.cell? ⟨gp,m*8+1,none⟩=some (.slice ga p.gs.length gc)/\w'.cell? ⟨gp,m*8+2,none⟩=some (.string p.nb)/\w'.cell? ⟨gp,m*8+3,none⟩=some (.string p.nr)/\w'.cell? ⟨gp,m*8+4,none⟩=some (.int .i64 p.pa)/\w'.cell? ⟨gp,m*8+5,none⟩=some (.int .i64 p.pr)/\w'.cell? ⟨gp,m*8+6,none⟩=some (.slice pa p.ps.length pc)/\w'.cell? ⟨gp,m*8+7,none⟩=some (.slice sa p.sg.length sc)) (go_keep) (fail)
   rename_i bU;clear bU q0 q1 q2 q3 q4 q5 q6 q7 c7 bz bV mk bW;refine Gy ?_;intro b2 MV;refine QB ?_;intro B2 BP R2 YY;clear b2 HB Lv Jm HRG;go_wp2_with fail;generalize (wr.alloc (dq p.kind ga p.gs.length gc p.nb p.nr p.pa p.pr pa p.ps.length pc sa p.sg.length sc)).drew=bY at*;generalize wr.heap.size=aK at*;have be:(fZ rl dE kd p).length=(p.gs.flatMap (ed rl)).length+(if p.kind=2 then [(aY kd p.nr rl 0).toNat] else if p.kind=3 then fj rl p.nr (dE (aY kd p.nb rl 0).toNat) else []).length:=by unfold fZ;rw [aZ]
   have HHL:=ai be;clear be
   go_loopw [7,11] (fun aM aL ae=>∃(k:Nat)(f2:List Nat)(fa:Option Addr)(fc:Nat),k<=p.gs.length/\aL=.int .i64 k/\aM=.slice fa f2.length fc/\an w ae/\an w1 ae/\aE ae aK (jZ p.kind ga p.gs.length gc p.nb p.nr p.pa p.pr pa p.ps.length pc sa p.sg.length sc) 255/\ae.ownsRow 0 257 4 (.slice ga p.gs.length gc) p.gs.length (p.gs.flatMap cf)/\ae.ownsRow w1.heap.size 3 1 (.slice fa f2.length fc) f2.length (f2.map fun n:Nat=> .int .i64 n)/\Hid (f2=fv++(p.gs.take k).flatMap (ed rl))) (fun _ aL _=>p.gs.length-(intOf aL).toNat)
   case atStart=>exact ⟨0,fv,fa,fc,aj,rfl,rfl,B2.u,BP.u,MV.u,YY.u,R2.u,ai ar⟩
   case round=>
    clear B2 BP MV YY R2 hwr VB;obtain ⟨k,f2,fa,fc,b5,rfl,rfl,hb,mm,ap,al,hrow,MU⟩:=hrel;have HB:=ai hb;have Lv:=ai mm;have YW:=ai ap;have HGR:=ai al;have Jm:=ai hrow;have hwi:=hb.size;have YX:=mm.size;obtain ⟨p0,p1,p2,p3,p4,p5,p6,p7⟩:=ap.eight
    by_cases hkt:k<p.gs.length
    ·obtain ⟨gg,bZ,e1,hc⟩:=bf cf 4 (fun _=>rfl) al k p.gs[k] (aH hkt);simp only [aI,true_and] at e1;obtain ⟨rfl,rfl⟩:=e1;refine QA ?_;intro VA GA hf2;rw [VA.u,aZ] at GA;rw [aZ] at hf2;have Qz:(k:Int)<(p.gs.length:Int):=aj;generalize p.gs[k]=x at*;refine Qw ?_;intro k0 k1 C tH;clear hb mm ap al hrow hc hf2 GA
     rcases cP x.ty (b8 x) rl 0 with Y|⟨j,Y,bh,bk⟩
     ·rw [Y] at C;have ac:ed rl x=[]:=by unfold ed;rw [Y];simp
      have Lw:=ai (by rw [VA.u,ac,eh];exact ak MU:f2=fv++(p.gs.take (k+1)).flatMap (ed rl));clear ac Y;go_wp2_with fail
      go_region_held3 (fun w'=>w'.cell? ⟨aK,1,none⟩=some (.slice (some ⟨gg,0,none⟩) p.gs.length gc)/\w'.cell? ⟨gg,k*4,none⟩=some (.string x.ty)/\w'.cell? ⟨gg,k*4+1,none⟩=some (.string (b8 x))) (go_keep)
       ((go_at_call 132;refine (ak C).mono ?_;rintro e w5 ⟨rfl,oP⟩;have BB:=ai ((az _ wr).drew.trans oP:an wr w5);have d0:=am p1 BB.u;have d1:=am k0 BB.u;have d2:=am k1 BB.u;clear oP))
      exact XF
     rw [Y] at C;have ac:ed rl x=[j]:=by unfold ed;rw [Y];simp
     rw [ac] at tH;simp only [List.length_cons,List.length_nil] at tH;have Lw:=ai (by rw [VA.u,ac,<-dc,<-ak MU]:f2++[j]=fv++(p.gs.take (k+1)).flatMap (ed rl));have b4:(0:Int)<=(j:Int):=aj;clear ac Y;go_wp2_with fail
     go_region_held3 (fun w'=>w'.cell? ⟨aK,1,none⟩=some (.slice (some ⟨gg,0,none⟩) p.gs.length gc)/\w'.cell? ⟨gg,k*4,none⟩=some (.string x.ty)/\w'.cell? ⟨gg,k*4+1,none⟩=some (.string (b8 x))) (go_keep)
      ((go_at_call 132;refine (ak C).mono ?_;rintro e w5 ⟨rfl,oP⟩;have BB:=ai ((az _ wr).drew.trans oP:an wr w5);have d0:=am p1 BB.u;have d1:=am k0 BB.u;have d2:=am k1 BB.u;clear oP))
     exact XE
    refine Qy ?_;intro Qz hf2 Lw Gz;rw [aZ] at Gz;have tH:f2.length+(if p.kind=2 then [(aY kd p.nr rl 0).toNat] else if p.kind=3 then fj rl p.nr (dE (aY kd p.nb rl 0).toNat) else []).length<=1000000000:=by have:=HHL.u;omega
    clear hb mm ap al hrow hf2 Gz
    by_cases Z:p.kind=2
    ·have e2:((p.kind:Int)==2)=true:=by rw [Z];rfl
     have e3:((p.kind:Int)==3)=false:=by rw [Z];rfl
     have h0:=bH.u Z;obtain ⟨j,Y,bh,bk⟩:∃j:Nat,aY kd p.nr rl 0=j/\0<=j/\j<0+rl.length:=by
      rcases cP kd p.nr rl 0 with Y|h
      ·omega
      exact h
     rw [if_pos Z] at tH;simp only [List.length_cons,List.length_nil] at tH;have HF6:=ai (by rw [ak ad,<-ak HF,Lw.u];unfold fZ;simp [Z,Y]:f2++[j]=(lv.take (i+1)).flatMap (se (fZ rl dE kd) pl));have C:=ai (dV b kv rv pv kl rl pl l kd p.nr wr (HD.u.below HB.u));rw [Y] at C;clear Z h0 Y;go_wp2_with fail;refine Qx ?_;intro w5 oP B6 Gw Jl R6 sz6 Lu;clear oP C HB Lv YW HGR Jm p0 p1 p2 p3 p4 p5 p6 p7;go_wp2_with (at_builtin;go_must (refine bI _ rfl _ _ 29 rfl w1.heap.size 3 iI _ 1 8 underlying29 II.u Vv.u Vw.u Vx.u rfl au (.slice fa f2.length fc) f2.length (f2.map fun n:Nat=> .int .i64 n) rfl (R6.u.alloc _) ⟨w5.heap.size,0,none⟩ 1 1 [.int .i64 j] rfl rfl ?gK ?jX au ?pi ?eZ ?gL (w5.heap.size+1) ?Fo ?jn))
     case gK=>exact bu (B:=w5.heap.size) (cs:=#[.int .i64 j]) (t:=3) (fr:=(0,0)) (aE.new' _ _ _ _ rfl)
     case jX=>
      exact pD
     case pi=>unfold maxLen;omega
     case eZ=>omega
     case gL=>simp;omega
     case Fo=>simp
     intro g5 aT cg bp bE bQ bT;refine Qu ?_;intro B7 BW7;have aQ:=sd (Jl.u.alloc _) (R6.u.alloc _) bE au;obtain ⟨p0,p1,p2,p3,p4,p5,p6,p7⟩:=aQ.eight;have bN:=ai bp;clear bp bE bQ bT B6 Gw Jl R6 aQ;go_wp2;go_roundw
     case rel=>exact ⟨i+1,f2++[j],some ⟨g5,0,none⟩,aT,aj,by go_num,ar,B7.u,BW7.u,by simpa using bN.u,HF6⟩
     case measure=>simp [intOf];omega
    by_cases ab:p.kind=3
    ·have e2:((p.kind:Int)==2)=false:=by rw [ab];rfl
     have e3:((p.kind:Int)==3)=true:=by rw [ab];rfl
     have h0:=bJ.u ab;obtain ⟨j,Y,bh,bk⟩:∃j:Nat,aY kd p.nb rl 0=j/\0<=j/\j<0+rl.length:=by
      rcases cP kd p.nb rl 0 with Y|h
      ·omega
      exact h
     rw [if_neg Z,if_pos ab,Y,Int.toNat_natCast] at tH;have HF6:=ai (by rw [ak ad,<-ak HF,Lw.u];unfold fZ;simp [ab,Y]:f2++fj rl p.nr (dE j)=(lv.take (i+1)).flatMap (se (fZ rl dE kd) pl));have C:=ai (dV b kv rv pv kl rl pl l kd p.nb wr (HD.u.below HB.u));rw [Y] at C;obtain ⟨bc,bS⟩:=bC.u j aj;have bD:=ai bc;clear Z ab h0 Y bc;generalize ba:fj rl p.nr (dE j)=ag at*;go_wp2_with fail;refine Qx ?_;intro w5 oP B6 Gw Jl R6 sz6 Lu;clear oP C HB Lv YW HGR Jm p0 p1 p2 p3 p4 p5 p6 p7;obtain ⟨p0,p1,p2,p3,p4,p5,p6,p7⟩:=Jl.u.eight;have aw:=ai (yR b kv rv pv kl rl pl l j (dE j) p.nr w5 (HD.u.below B6.u) bD.u bS);rw [ba] at aw;clear ba;go_wp2_with fail;refine (ak aw).mono ?_;rintro e ch ⟨sv,rfl,ah,aJ⟩;obtain ⟨ta,tc,rfl⟩:=ax aJ;have aP:=ai (B6.u.trans (ah.mono sz6));have av:=ai (Gw.u.trans (ah.mono Lu));have af:=ai (aB R6.u ah);have aR:=ai aJ;have bX:=av.u.size;clear ah aJ aw B6 Gw Jl R6 p0 p1 p2 p3 p4 p5 p6 p7;go_wp2_with (at_builtin;go_must (refine gP rfl _ _ 29 rfl w1.heap.size 3 iI _ 1 8 underlying29 II.u Vv.u Vw.u Vx.u rfl au (.slice fa f2.length fc) f2.length (f2.map fun n:Nat=> .int .i64 n) rfl af.u (.slice ta ag.length tc) ag.length (ag.map fun n:Nat=> .int .i64 n) rfl _ aR.u ?uK ?rD ?fT bX ?kT))
     case uK=>
      exact Gx
     case rD=>unfold maxLen;omega
     case fT=>omega
     intro bP cv ci bq aC bR;have bA:=ai (qC aP.u Xk af.u aC);have bB:=ai (fM av.u af.u aC);have bO:=ai bq;clear bq aC bR aP av af aR;go_wp2;go_roundw
     case rel=>exact ⟨i+1,f2++ag,bP,cv,aj,by go_num,ar,bA.u,bB.u,by simpa using bO.u,HF6⟩
     case measure=>simp [intOf];omega
    refine Qn ?_;intro e2 e3;have HF6:=ai (by rw [ak ad,<-ak HF,Lw.u];unfold fZ;simp [Z,ab]:f2=(lv.take (i+1)).flatMap (se (fZ rl dE kd) pl));clear Z ab tH;exact Qv
  exact XG
