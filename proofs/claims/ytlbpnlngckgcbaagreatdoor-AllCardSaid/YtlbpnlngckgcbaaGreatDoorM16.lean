import Derived.Test.YtlbpnlngckgcbaaGreatDoorM14
import Derived.Test.YtlbpnlngckgcbaaGreatDoorM13
import Derived.Deep.Upon
set_option linter.all false
set_option maxHeartbeats 4000000
set_option maxRecDepth 100000
namespace Go.Proofs.YtlbpnlngckgcbaaGreatDoor
open Go.RowKit Go.PlainAid Go.Proofs.Tryz
variable {aD bq:Prop} {pl:List PV} {f m base size n i' d' e' a' g5 be g c b1 n1:Nat} {ps:List Nat} {T e T' E:TypeId} {w w' W w5:af} {v pv pv' v1:ag} {xs:List ag} {cs:Array ag} {α β:Type} {P:Program} {rest:List Oper}
abbrev Bk:=@List.length_eq_one_iff
def Bl(q:bq) (h:cj bq->aD:=by
 intro zq;have h1':¬((ps.length:Int)=1):=ai;have h1b:((ps.length:Int)==1)=false:=bR.2 h1'
 revert h1' h1b
 exact zq.1):aD:=h ⟨q⟩
def J0{a c}(h:eqs a c=true):a=c:=by
 unfold eqs at h;rw [dS] at h;rw [<-cW a,<-cW c,h]
def J2(b:Nat)(s:ae)(tv:ag)(i d e0 a:Nat)(kv rv pv:ag)(x:ae)(w:af)(h:RS w b s tv i d e0 a kv rv pv)(y:Bool)(A:(e0≠0/\y=false)\/(e0=0/\eqs (TT s i) x=y)):
  Calls prog 187 #[bu b,an x] w fun e w'=>e=bi (.bool y)/\am w w':=by
 rcases A with ⟨h0,rfl⟩|⟨rfl,A⟩
 ·exact mx b s tv i d e0 a kv rv pv x w h h0
 ·exact ec b s tv i d a kv rv pv x w h y A
def ChC(T:Nat->ae)(P:Nat->Nat)(signs:List ae)(part:Nat->eL Ex)(i a ex n:Nat)(R:eL Ex)(k:Nat)(more:Bool)(j e aa:Nat)(fN:List PV)(ps:List Nat)(fL:List Tk)(st:ae)(A:Nat):Prop:=
 (more=true/\e=0/\a=aa/\fN.length+i<=n+j/\((i=j/\ps=[]/\fL=[]/\st=em/\A=0/\mW T P signs part k none j=R)\/(i<j/\fN.length+i+1<=n+j/\(st=sg 38\/st=sg 45)/\∃x,lG fN ps fL x/\mW T P signs part k (some (x,st,A)) j=R)))\/
 (more=false/\e=0/\a=aa/\fN.length+i<=n+j/\i<j/\(ps.length≠1->fN.length+i+1<=n+j)/\∃x,lG fN ps fL x/\R=.ok (x,j))\/
 (more=false/\e≠0/\fN.length+i<=n+j+ex/\i<=j/\ps≠ []/\∃h,P h=aa/\R=.error (e,h))
structure ChJ(base b:Nat)(s:ae)(tv:ag)(d:Nat)(kv rv pv:ag)(i:Nat)(pl:List PV)(l:List PX)(w:af)(wr:af)(k7:ag)(j e aa:Nat)(fN:List PV)(lr:List PX)(ps:List Nat)(pa:Option Addr)(pc:Nat)(fL:List Tk)(sa:Option Addr)(sc:Nat)(st:ae)(sp:Nat):Prop where
 ch:uG base b s tv d kv rv pv i pl l w 4 wr k7 j e aa fN lr ps pa pc fL sa sc
 sb:aL wr (w.heap.size+1) #[an st,au sp,.bool false] 259
 ns:(Value.slice sa fL.length sc).ownBlock≠some (w.heap.size+1)
 lp:e=0->ps.length<=j
 ls:fL.length=ps.length
 da:∀x∈lr,yF (some (w.heap.size+1)) x
def Tryz.infoInt:(Tryz.prog.info? 3).map (fun i=>(i.zero,i.size,i.bytes))=some (some (au 0),1,8):=by kernel_rfl
def GS(base b s tv i d a kv rv pv pl l w)(h:RS w b s tv i d 0 a kv rv pv)(cr:PT base w pv pl l)(ac:base<=b)(V:base<=w.heap.size)(dz:pl.length<=i)(room inner ex)(hex:ex<=900)(c4:room=true->d<4/\qK s inner (d+1) ex)(cX:room=false->d=4):
  Calls prog 251 #[bu b] w (qJ base b s tv i d a kv rv pv pl l w (ex+2) (h7 (TT s) (PP s) room inner i)):=by
 generalize bn:h7 (TT s) (PP s) room inner i=R;unfold h7 at bn;rw [vO] at bn;have bg:=aj bn;have bC:=aj h;have bE:=aj cr;obtain ⟨g,c,e0,hi,t0,t1,t2⟩:=h.at;obtain ⟨bb,bY,cw,r3,cx,di,dj,dk⟩:=h.blk.eight;have bv:=h.blk.fz;have cZ:=h.lt;have dt:=aj e0;rw [e0] at bb;have dv:=en t0;have c7:=cd w _ bb;have c8:=cd w _ bY;have c9:=cd w _ t1;clear h cr e0 bn;go_enter func251,ntmps251;go_wp2_with fail
 go_region_held3 (fun w'=>w'.cell? (aP b)=some (aA (some (aP g)) (jC s).length c)/\w'.cell? (aC b 1)=some (au i)/\w'.cell? (aC g (i*3+1))=some (au (PP s i))) (go_keep) (fail)
 rename_i bX;clear bX bb bY cw r3 cx di dj dk t0 t1 t2 c7 c8 c9 bv;have b1:am w (((w.alloc (.cells #[au 4,aA none 0 0,an ⟨#[]⟩,an ⟨#[]⟩,au (PP s i),au 0,aA none 0 0,aA none 0 0] 255)).alloc nC).drew):=(((az _ w).alloc aH _).alloc ar _).drew;have bi:=aj (show ChJ base b s tv d kv rv pv i pl l w (((w.alloc (.cells #[au 4,aA none 0 0,an ⟨#[]⟩,an ⟨#[]⟩,au (PP s i),au 0,aA none 0 0,aA none 0 0] 255)).alloc nC).drew) pv i 0 a pl l [] none 0 [] none 0 em 0 from
  ⟨⟨Fr.of_below b1 V,bC.u.below b1,bE.u.but (But.of_below (b:=b) b1) bC.u.blk ac V,((aL.new w _ _).alloc _).drew,fun e=>by
    have:=(bE.u.row.lt _ e).2;omega,bP,bP,fun x I g J e=>(by cases e),fun x I g J e=>(by cases e),⟨[],ar⟩,⟨[],ar⟩,cZ,fun g J=>(bC.u.tok.lt g J).2⟩,
   (aL.new' (w.alloc _) _ _ _ ar).drew,fun e=>(by cases e),fun _=>ar,rfl,fun x I g J e=>by
    have:=(bE.u.rep x I).lt g J;simp only [aR] at e;omega⟩)
 clear b1;go_wp2_with fail
 go_loopg [5] 512 (fun k dp wr=>∃(more:Bool)(k7:ag)(j e aa:Nat)(fN:List PV)(lr:List PX)(ps:List Nat)(pa:Option Addr)(pc:Nat)(fL:List Tk)(sa:Option Addr)(sc:Nat)(st:ae)(Q:Nat),dp=.bool more/\ChJ base b s tv d kv rv pv i pl l w wr k7 j e aa fN lr ps pa pc fL sa sc st Q/\(more=true->512<=k+j)/\Hid (ChC (TT s) (PP s) [sg 38,sg 45] (eR (TT s) (PP s) room inner) i a (ex+1) pl.length R k more j e aa fN ps fL st Q))
 ·exact ⟨true,pv,i,0,a,pl,l,[],none,0,[],none,0,em,0,rfl,bi.u,(fun _=>ai),aj (.inl ⟨rfl,rfl,rfl,ai,.inl ⟨rfl,rfl,rfl,rfl,rfl,bg.u⟩⟩)⟩
 ·obtain ⟨more,k7,j,e,aa,fN,lr,ps,pa,pc,fL,sa,sc,st,Q,rfl,U,bs,af⟩:=hrel;have dA:=U.ch.rs.gd.le;have dC:=U.ch.rs.sz;have br:base<=wr.heap.size:=aV V U.ch.fr.below.size
  rcases af.u with ⟨rfl,rfl,rfl,hn,hs⟩|⟨rfl,rfl,rfl,hn,a1,a8,x,ci,Z⟩|⟨rfl,a0,hn,a1,cq,al,rfl,Z⟩
  ·have bs:=bs rfl;obtain ⟨aU,rfl⟩:∃f,gk=f+1:=⟨gk-1,ai⟩;have bh:=aj hs;have C:=aj (LW base b s tv j d a kv rv k7 fN lr wr U.ch.rs U.ch.pt ac br ai room inner ex c4 cX);have ah:=aj U;have lp:=U.lp rfl;have a1:i<=j:=by rcases hs with ⟨h,_⟩|⟨h,_⟩<;>omega
   have b5:=aj U.ls;have ls:=Nat.le_of_eq U.ls;clear U af hs bg bi;go_wp2_with fail;refine C.u.mono ?_;rintro e' w1 ⟨m,rfl,aO,pl1,l1,t,tl,fr,pt,rfl,rfl,bU,Z⟩;have bL:=aj (fr.blk ah.u.sb ai (gP ah.u.ch.pt.row ah.u.sb ax));have b6:=aj ah.u.ns;have a3:=aj (show ∀x∈lr++tl,yF (some (w.heap.size+1)) x from fun x I=>by
    rw [aW] at I
    rcases I with I|I
    ·exact ah.u.da x I
    intro g J e;have:=bU x I g J;have:=ah.u.sb.lt;simp only [aR] at e;omega)
   have cU:base<=w1.heap.size:=aV br fr.below.size;obtain ⟨e1,Y,A,rs,cm,b4⟩:∃e1 Y A,RS w1 b s tv A d e1 Y kv rv aO/\(e1=0->j<A)/\((e1≠0/\j<=A/\(fN++t).length+j<=fN.length+A+(ex+1)/\∃al,Y=PP s al/\eR (TT s) (PP s) room inner j=.error (e1,al))\/(e1=0/\a=Y/\j<A/\(fN++t).length+j<=fN.length+A/\∃y f,Tr (fN++t) f m y/\eR (TT s) (PP s) room inner j=.ok (y,A))):=by
    cases aE:eR (TT s) (PP s) room inner j with
    |error er=>
     obtain ⟨c0,al⟩:=er;rw [aE] at Z;obtain ⟨cl,A,ay,rs,a7⟩:=Z;exact ⟨c0,_,A,rs,fun e=>absurd e cl,.inl ⟨cl,ay,a7,al,rfl,rfl⟩⟩
    |ok yy=>
     obtain ⟨y,A⟩:=yy;rw [aE] at Z;obtain ⟨rs,ay,a7,f1,bt⟩:=Z;exact ⟨0,a,A,rs,fun _=>ay,.inr ⟨rfl,rfl,ay,a7,y,f1,bt,rfl⟩⟩
   have ap:=aj (ah.u.ch.call fr pt rs bU (pl1:=[]) (l1:=[]));obtain ⟨av,aw,cJ,cK,hc⟩:∃av aw:Bool,((e1≠0/\av=false)\/(e1=0/\eqs (TT s A) (sg 38)=av))/\((e1≠0/\aw=false)\/(e1=0/\eqs (TT s A) (sg 45)=aw))/\((av=false/\aw=false/\ChC (TT s) (PP s) [sg 38,sg 45] (eR (TT s) (PP s) room inner) i a (ex+1) pl.length R aU false A e1 Y (fN++t) (ps++[m]) (fL++[⟨bB st,Q,false⟩]) st Q)\/((av=true/\aw=false\/av=false/\aw=true)/\e1=0/\a=Y/\(TT s A=sg 38\/TT s A=sg 45)/\ChC (TT s) (PP s) [sg 38,sg 45] (eR (TT s) (PP s) room inner) i a (ex+1) pl.length R aU true (A+1) 0 a (fN++t) (ps++[m]) (fL++[⟨bB st,Q,false⟩]) (TT s A) (PP s A))):=by
    rcases b4 with ⟨a0,ay,a7,al,rfl,aE⟩|⟨rfl,rfl,ay,a7,y,f,bt,aE⟩
    ·refine ⟨false,false,.inl ⟨a0,rfl⟩,.inl ⟨a0,rfl⟩,.inl ⟨rfl,rfl,.inr (.inr ⟨rfl,a0,ai,ai,ar,al,rfl,?_⟩)⟩⟩
     rcases bh.u with ⟨_,_,_,_,_,h⟩|⟨_,_,_,x,_,h⟩<;>(rw [<-h];exact vP aE)
    have cM:∃x,lG (fN++t) (ps++[m]) (fL++[⟨bB st,Q,false⟩]) x/\joinL (TT s) (PP s) [sg 38,sg 45] (eR (TT s) (PP s) room inner) (aU+1) x A=R:=by
     rcases bh.u with ⟨_,rfl,rfl,rfl,rfl,h⟩|⟨_,_,c5,x,I,h⟩
     ·rw [uH aE] at h;exact ⟨_,lG.one bt,h⟩
     rw [uH aE] at h;exact ⟨_,I.snoc bt st Q c5,h⟩
    have bD:(ps++[m]).length≠1->(fN++t).length+i+1<=pl.length+A:=fun c2=>by
     rcases bh.u with ⟨_,rfl,_⟩|⟨_,a8,_⟩
     ·exact absurd rfl c2
     omega
    obtain ⟨x,I,a2⟩:=cM
    cases bO:eqs (TT s A) (sg 38)
    ·cases bQ:eqs (TT s A) (sg 45)
     ·refine ⟨false,false,.inr ⟨rfl,rfl⟩,.inr ⟨rfl,rfl⟩,.inl ⟨rfl,rfl,.inr (.inl ⟨rfl,rfl,rfl,ai,ai,bD,x,I,?_⟩)⟩⟩;rw [DH (by simp [gN,bO,bQ])] at a2;exact a2.symm
     have z:=J0 bQ;refine ⟨false,true,.inr ⟨rfl,rfl⟩,.inr ⟨rfl,rfl⟩,.inr ⟨.inr ⟨rfl,rfl⟩,rfl,rfl,.inr z,.inl ⟨rfl,rfl,rfl,ai,.inr ⟨ai,ai,.inr z,x,I,?_⟩⟩⟩⟩;rw [sl (by simp [gN,bQ])] at a2;exact a2
    have z:=J0 bO;refine ⟨true,false,.inr ⟨rfl,rfl⟩,.inr ⟨rfl,by rw [z];decide⟩,.inr ⟨.inl ⟨rfl,rfl⟩,rfl,rfl,.inl z,.inl ⟨rfl,rfl,rfl,ai,.inr ⟨ai,ai,.inl z,x,I,?_⟩⟩⟩⟩;rw [sl (by simp [gN,bO])] at a2;exact a2
   have ce:=aj cJ;have cf:=aj cK;have af:=aj hc;clear fr pt rs bU C ah b4 Z cJ cK hc bh;have dD:=ap.u.rs.sz;have dB:=ap.u.rs.gd.le;obtain ⟨aF,p1,p2,aG,aI,aJ,aM,aN⟩:=ap.u.box.eight;obtain ⟨cy,cz,cA⟩:=bL.u.three;have ds:=ap.u.box.fz;have dI:=ap.u.box.lt;have dJ:=bL.u.lt;have b7:=aj ap.u.prow;go_wp2_with (at_builtin;go_must (refine eB rfl underlying29 Tryz.infoInt w.heap.size (b7.u.alloc _) w1.heap.size 1 [au m] (w1.heap.size+1) ?_));intro g5 be w5 co bV cg dw;obtain ⟨bj,bZ⟩:=ap.u.grownP cU ac V bV co cg;have bw:=aj bZ;have ak:=bL.u.alloc (.cells #[au m] 3);have bM:=aj (show aL w5 (w.heap.size+1) _ 259 from (bV.block _ ak.lt (own_ne (b7.u.alloc _) ak ax)).trans ak);clear ak;obtain ⟨dl,dm,dn⟩:=bM.u.three;have cu:¬(w.heap.size+1=w.heap.size):=ai;have dN:¬(w.heap.size=w.heap.size+1):=ai;have dL:=bM.u.lt;obtain ⟨db,Y,dc,dd,de,df,dg,dh⟩:=bj.eight;have zq:=bj.fz;have dK:=bj.lt;clear co bV cg bj bZ aF p1 p2 aG aI aJ aM aN cy cz cA ds;have cV:base<=(w5.setCell (aC w.heap.size 6) (aA (some (aP g5)) (ps.length+1) be)).heap.size:=aV V bw.u.fr.below.size;go_wp2_with (at_builtin;go_must (refine eB rfl underlying249 Tryz.infoTk w.heap.size ((bw.u.srow).alloc _) w5.heap.size 1 (fI ⟨bB st,Q,false⟩) (w5.heap.size+1) ?_));intro aZ aT cI cp bW bS dx;obtain ⟨bk,b0⟩:=bw.u.grownS cV ac V bW cp (by simpa using bS);have bf:=aj b0;have ak:=(show aL (w5.setCell (aC w.heap.size 6) (aA (some (aP g5)) (ps.length+1) be)) (w.heap.size+1) #[an st,au Q,.bool false] 259 from bM.u.other cu _).alloc (.cells #[an st,au Q,.bool false] 259);have b9:=aj (show aL cI (w.heap.size+1) _ 259 from (bW.block _ ak.lt (fun e=>b6.u e.symm)).trans ak);obtain ⟨cB,v1,cC,cD,cE,cF,cG,cH⟩:=bk.eight;have cL:=bk.fz;have dM:=bk.lt;have a5:=aj (show (Value.slice (some (aP aZ)) (fL.length+1) aT).ownBlock≠some (w.heap.size+1) from fun e=>by
    simp only [Value.ownBlock,aR] at e;subst e
    rcases bS with e|e
    ·exact b6.u e
    omega)
   clear cp bW bS bk b0 ak db Y dc dd de df dg dh zq dl dm dn;have ck:base<=(cI.setCell (aC w.heap.size 7) (aA (some (aP aZ)) (fL.length+1) aT)).heap.size:=aV V bf.u.fr.below.size;go_wp2_with fail;refine (J2 b s tv A d e1 Y kv rv aO (sg 38) _ bf.u.rs av ce.u).mono ?_;rintro e' dq ⟨rfl,bp⟩;have bx:=aj (bf.u.below bp ck ac);have cb:=aj ((b9.u.other cu _).below bp);have cW:base<=dq.heap.size:=aV ck bp.size;clear bp bf b9;go_wp2_with fail;refine (J2 b s tv A d e1 Y kv rv aO (sg 45) _ bx.u.rs aw cf.u).mono ?_;rintro e' dr ⟨rfl,bT⟩;have ab:=aj (bx.u.below bT cW ac);have aQ:=aj (cb.u.below bT);clear bT bx cb ce cf
   rcases af.u with ⟨rfl,rfl,a9⟩|⟨⟨rfl,rfl⟩|⟨rfl,rfl⟩,rfl,rfl,bv,a9⟩
   ·have bF:=aj (show ChJ base b s tv d kv rv pv i pl l w dr aO A e1 Y (fN++t) (lr++tl) (ps++[m]) (some (aP g5)) be (fL++[⟨bB st,Q,false⟩]) (some (aP aZ)) aT st Q from ⟨ab.u,aQ.u,a5.u,fun e=>by have:=cm e;simp;omega,by have:=b5.u;simp [this],a3.u⟩);have bH:=aj a9;clear cB v1 cC cD cE cF cG cH cL a9 af;go_wp2
    go_roundg aU
    case measure=>omega
    case rel=>exact ⟨false,aO,A,e1,Y,fN++t,lr++tl,ps++[m],some (aP g5),be,fL++[⟨bB st,Q,false⟩],some (aP aZ),aT,st,Q,rfl,bF.u,(fun h=>by cases h),bH⟩
   all_goals
    have bH:=aj a9;have ay:=cm rfl;have cO:=aj (ab.u.rs.gd.succ (by rcases bv with e|e<;>rw [e]<;>decide));clear a9 af;clear cB v1 cC cD cE cF cG cH cL;obtain ⟨ad,cQ,bl,dy,t0,t1,t2⟩:=ab.u.rs.at;obtain ⟨bb,bY,cw,r3,cx,_⟩:=ab.u.rs.blk.eight;have dO:=ab.u.rs.blk.fz;obtain ⟨cy,cz,cA⟩:=aQ.u.three;have zs:=aQ.u.fz;have dH:=aQ.u.lt;have tvl:=ab.u.tvl ad (by rw [bl];rfl);rw [bl] at bb;have cN:=aj bl;clear bl;have k1:¬(w.heap.size+1=b):=ai;have dE:¬(b=w.heap.size+1):=ai;have k3:¬(w.heap.size+1=ad):=ai;have dF:¬(ad=w.heap.size+1):=ai;have c6:¬(b=ad):=fun e=>by
     have:=own_ne ab.u.rs.tok ab.u.rs.blk ax;rw [cN.u,e] at this;exact this rfl
    have dG:¬(ad=b):=fun e=>c6 e.symm
    go_wp2_with fail
    go_region_held3 (fun w'=>w'.cell? (aP b)=some (aA (some (aP ad)) (jC s).length cQ)/\w'.cell? (aC b 1)=some (au A)/\w'.cell? (aC ad (A*3))=some (an (TT s A))/\w'.cell? (aC ad (A*3+1))=some (au (PP s A))/\w'.cell? (aC ad (A*3+2))=some (.bool (ef (TT s A)))) (go_keep) (fail)
    rename_i bX;clear bX;have WF:ef (TT s A)=false:=by rcases bv with e|e<;>rw [e]<;>decide
    have e0:=aV V ab.u.fr.below.size;have c1:=ab.u.sign V aQ.u (by simpa using a5.u) a3.u 0 (an (TT s A));have bJ:=aQ.u.set 0 (an (TT s A));have bK:=bJ.set 1 (au (PP s A));have c3:=(c1.sign V bJ (by simpa using a5.u) a3.u 1 (au (PP s A))).sign V bK (by simpa using a5.u) a3.u 2 (.bool (ef (TT s A)));have b8:=bK.set 2 (.bool (ef (TT s A)));have bN:=c3.but ((But.refl b _).setCell 1 (au ((A:Int)+1))) (aV V c3.fr.below.size) ac (c3.rs.setI (A+1) cO.u);have bF:=aj (show ChJ base b s tv d kv rv pv i pl l w _ aO (A+1) 0 a (fN++t) (lr++tl) (ps++[m]) (some (aP g5)) be (fL++[⟨bB st,Q,false⟩]) (some (aP aZ)) aT (TT s A) (PP s A) from ⟨(bN.below (bo.drew) (aV V bN.fr.below.size) ac),by rw [<-WF];exact ((aL.other b8 (a:=⟨b,1,none⟩) k1 (au ((A:Int)+1))).drew),a5.u,fun _=>aS,by have:=b5.u;simp [this],a3.u⟩);have cY:512<=aU+(A+1):=ai;clear c1 c3 bN bJ bK b8 WF;go_wp2
    go_roundg aU
    case measure=>omega
    case rel=>exact ⟨true,aO,A+1,0,a,fN++t,lr++tl,ps++[m],some (aP g5),be,fL++[⟨bB st,Q,false⟩],some (aP aZ),aT,TT s A,PP s A,rfl,bF.u,(fun _=>cY),bH⟩
  ·have b3:=aj ci;have a4:=aj Z;have bD:=aj a8;have D:=aj U.ch;have cP:=aj U.ls;clear U af bg bi ci Z a8 bs
   by_cases h1:ps.length=1
   ·obtain ⟨m,rfl⟩:=Bk.1 h1;obtain ⟨aF,p1,p2,aG,aI,aJ,aM,aN⟩:=D.u.box.eight;obtain ⟨cT,cS,a6,cR⟩:=aY D.u.prow 0 (au m) rfl;simp only [aK] at a6;obtain ⟨rfl,_,rfl⟩:=a6;clear h1;go_wp2;go_ret;rw [a4.u];obtain ⟨t,rfl⟩:=D.u.sfx;obtain ⟨tl,rfl,aB⟩:=D.u.new;exact ⟨m,rfl,k7,_,_,t,tl,D.u.fr,D.u.pt,rfl,rfl,aB,D.u.rs,a1,hn,b3.u.alone⟩
   skip
   have b2:=aj h1;refine Bl ?_;intro h1' h1b;have a8:=bD.u h1;clear h1;obtain ⟨aF,p1,p2,aG,aI,aJ,aM,aN⟩:=D.u.box.eight;have bA:=aj (show jS w.heap.size (⟨4,[],em,em,PP s i,0,ps,fL⟩,aA none 0 0,aA pa ps.length pc,aA sa fL.length sc) from fun g J=>by
    rcases J with J|J|J
    ·cases J
    ·exact (D.u.prow.lt g J).1
    exact (D.u.srow.lt g J).1)
   go_wp2_with fail;refine (ki base b s tv j d 0 (a) kv rv k7 fN lr ⟨4,[],em,em,PP s i,0,ps,fL⟩ none 0 pa pc sa sc wr D.u.rs D.u.pt (show mw wr (⟨4,[],em,em,PP s i,0,ps,fL⟩,aA none 0 0,aA pa ps.length pc,aA sa fL.length sc) from ⟨bP,fx D.u.prow,fx D.u.srow⟩) ai br ac).mono ?_;rintro e' wf ⟨pv',rfl,fr,bc,ba⟩;have bz:=aj (D.u.fr.trans fr);have bI:=aj bc;have bG:=aj ba;clear fr bc ba aF p1 p2 aG aI aJ aM aN;go_wp2;go_ret;rw [a4.u];obtain ⟨t,rfl⟩:=D.u.sfx;obtain ⟨tl,rfl,aB⟩:=D.u.new;exact ⟨_,rfl,pv',_,_,t++[_],tl++[_],bz.u,bG.u,by rw [ct],by rw [ct],fun x I=>by
    rw [aW,aX] at I
    rcases I with I|rfl
    ·exact aB x I
    exact bA.u,bI.u,a1,by simp at a8 ⊢;omega,b3.u.chain (by simpa using b2.u) _⟩
  have a4:=aj Z;have du:=aj cq;have D:=aj U.ch;have cP:=aj U.ls;clear U af bg bi Z cq bs
  by_cases h1:ps.length=1
  ·obtain ⟨m,rfl⟩:=Bk.1 h1;obtain ⟨aF,p1,p2,aG,aI,aJ,aM,aN⟩:=D.u.box.eight;obtain ⟨cT,cS,a6,cR⟩:=aY D.u.prow 0 (au m) rfl;simp only [aK] at a6;obtain ⟨rfl,_,rfl⟩:=a6;clear h1;go_wp2;go_ret;rw [a4.u];obtain ⟨t,rfl⟩:=D.u.sfx;obtain ⟨tl,rfl,aB⟩:=D.u.new;exact ⟨m,rfl,k7,_,_,t,tl,D.u.fr,D.u.pt,rfl,rfl,aB,a0,j,a1,D.u.rs,ai⟩
  skip
  have b2:=aj h1;refine Bl ?_;intro h1' h1b;clear h1;obtain ⟨aF,p1,p2,aG,aI,aJ,aM,aN⟩:=D.u.box.eight;have bA:=aj (show jS w.heap.size (⟨4,[],em,em,PP s i,0,ps,fL⟩,aA none 0 0,aA pa ps.length pc,aA sa fL.length sc) from fun g J=>by
   rcases J with J|J|J
   ·cases J
   ·exact (D.u.prow.lt g J).1
   exact (D.u.srow.lt g J).1)
  go_wp2_with fail;refine (ki base b s tv j d e (PP s al) kv rv k7 fN lr ⟨4,[],em,em,PP s i,0,ps,fL⟩ none 0 pa pc sa sc wr D.u.rs D.u.pt (show mw wr (⟨4,[],em,em,PP s i,0,ps,fL⟩,aA none 0 0,aA pa ps.length pc,aA sa fL.length sc) from ⟨bP,fx D.u.prow,fx D.u.srow⟩) ai br ac).mono ?_;rintro e' wf ⟨pv',rfl,fr,bc,ba⟩;have bz:=aj (D.u.fr.trans fr);have bI:=aj bc;have bG:=aj ba;clear fr bc ba aF p1 p2 aG aI aJ aM aN;go_wp2;go_ret;rw [a4.u];obtain ⟨t,rfl⟩:=D.u.sfx;obtain ⟨tl,rfl,aB⟩:=D.u.new;exact ⟨_,rfl,pv',_,_,t++[_],tl++[_],bz.u,bG.u,by rw [ct],by rw [ct],fun x I=>by
   rw [aW,aX] at I
   rcases I with I|rfl
   ·exact aB x I
   exact bA.u,a0,j,a1,bI.u,by simp at hn ⊢;omega⟩
def Pm(q:bq) (h:cj bq->aD:=by
 intro zq;intro g5 be w5 nE dk DD Bi;obtain ⟨bx5,sm⟩:=NW.grownP hbw1 hbb YL dk nE DD;obtain ⟨q0,q1,q2,q3,q4,q5,q6,q7⟩:=bx5.eight;have zq:=bx5.fz;clear nE dk DD bx5;have GU:base<=(w5.setCell (aC w.heap.size 6) (aA (some (aP g5)) (ps.length+1) be)).heap.size:=aV YL sm.fr.below.size
 revert g5 be w5 Bi sm q0 q1 q2 q3 q4 q5 q6 q7 zq GU
 exact zq.1):aD:=h ⟨q⟩
def YM{a c}(h:eqs a c=true):a=c:=by
 unfold eqs at h;rw [dS] at h;rw [<-cW a,<-cW c,h]
def iS(pl:List PV)(ps:List Nat)(x:Ex):Prop:=
 ∃h ns A rs f,ps=h::ns/\Tr pl f h A/\cu (Tr pl f) ns (rs.map fun r=>r.2.2)/\(∀r∈rs,r.1=sg 124)/\x=cb A rs
def iS.one{y}(h:Tr pl f m y):iS pl [m] y:=⟨m,[],y,[],f,rfl,h,trivial,by simp,rfl⟩
def iS.snoc{t x}(h:iS pl ps x){y}(k:Tr (pl++t) f m y)(p):iS (pl++t) (ps++[m]) (dF (sg 124) p x y):=by
 obtain ⟨I,ns,J,rs,g,rfl,h1,h2,D,rfl⟩:=h;refine ⟨I,ns++[m],J,rs++[(sg 124,p,y)],g+f,rfl,Tr.le _ ai (Tr.more pl t g _ _ h1),?_,?_,?_⟩
 ·exact Pl
 ·intro r C;rw [aW,aX] at C
  rcases C with C|rfl
  ·exact D r C
  rfl
 rw [pY]
def iS.some{x}(h:iS pl ps x)(C:ps.length≠1)(p):∃f,Tr (pl++[⟨5,[],em,em,p,0,ps,[]⟩]) f pl.length x:=by
 obtain ⟨D,ns,I,rs,g,rfl,h1,h2,A,rfl⟩:=h;refine ⟨g+1,_,vK,.inr (.inr (.inr (.inr ⟨rfl,rfl,rfl,D,ns,I,rs,rfl,Tr.more pl _ g _ _ h1,cu.mono (Tr.more pl _ g) _ _ h2,A,?_,rfl⟩)))⟩;rintro rfl
 cases ns with
 |nil=>exact C rfl
 |cons n ns=>exact h2.elim
def iS.alone{x:Ex}(h:iS pl [m] x):∃f,Tr pl f m x:=by
 obtain ⟨C,ns,D,rs,g,e,h1,h2,A,rfl⟩:=h;simp only [kX] at e;obtain ⟨rfl,rfl⟩:=e
 cases rs with
 |nil=>exact ⟨g,h1⟩
 |cons r rs=>exact h2.elim
def ExC(T:Nat->ae)(P:Nat->Nat)(part:Nat->eL Ex)(i a ex n:Nat)(R:eL Ex)(k:Nat)(more:Bool)(j e aa:Nat)(fN:List PV)(ps:List Nat):Prop:=
 (more=true/\e=0/\a=aa/\fN.length+i<=n+j/\((i=j/\ps=[]/\mW T P [sg 124] part k none j=R)\/(i<j/\fN.length+i+1<=n+j/\∃x p,iS fN ps x/\mW T P [sg 124] part k (some (x,sg 124,p)) j=R)))\/
 (more=false/\e=0/\a=aa/\fN.length+i<=n+j/\i<j/\(ps.length≠1->fN.length+i+1<=n+j)/\∃x,iS fN ps x/\R=.ok (x,j))\/
 (more=false/\e≠0/\fN.length+i<=n+j+ex/\i<=j/\ps≠ []/\∃h,P h=aa/\R=.error (e,h))
def zj(base b s tv i d a kv rv pv pl l w)(h:RS w b s tv i d 0 a kv rv pv)(bb:PT base w pv pl l)(hbb:base<=b)(YL:base<=w.heap.size)(bJ:pl.length<=i)(room inner ex)(hex:ex<=800)(bz:room=true->d<4/\qK s inner (d+1) ex)(bn:room=false->d=4):
  Calls prog 229 #[bu b] w (qJ base b s tv i d a kv rv pv pl l w (ex+3) (eU (TT s) (PP s) [sg 124] (h7 (TT s) (PP s) room inner) i)):=by
 generalize aB:eU (TT s) (PP s) [sg 124] (h7 (TT s) (PP s) room inner) i=R;rw [vO] at aB;obtain ⟨g,c,e0,hi,t0,t1,t2⟩:=h.at;obtain ⟨aQ,a3,bc,r3,bf,bF,bG,bH⟩:=h.blk.eight;have bA:=h.blk.fz;have bt:=h.lt;rw [e0] at aQ;have bC:=cd w _ aQ;have bD:=cd w _ a3;have bE:=cd w _ t1;go_enter func229,ntmps229;go_wp2_with fail
 go_region_held3 (fun w'=>w'.cell? (aP b)=some (aA (some (aP g)) (jC s).length c)/\w'.cell? (aC b 1)=some (au i)/\w'.cell? (aC g (i*3+1))=some (au (PP s i))) (go_keep) (fail)
 rename_i bo;clear bo aQ a3 bc r3 bf bF bG bH t0 t1 t2 bC bD bE bA;have b1:am w ((w.alloc (.cells #[au 5,aA none 0 0,an ⟨#[]⟩,an ⟨#[]⟩,au (PP s i),au 0,aA none 0 0,aA none 0 0] 255)).drew):=((az _ w).alloc aH _).drew;have aI:=(show uG base b s tv d kv rv pv i pl l w 5 ((w.alloc (.cells #[au 5,aA none 0 0,an ⟨#[]⟩,an ⟨#[]⟩,au (PP s i),au 0,aA none 0 0,aA none 0 0] 255)).drew) pv i 0 a pl l [] none 0 [] none 0 from
  ⟨Fr.of_below b1 YL,h.below b1,bb.but (But.of_below (b:=b) b1) h.blk hbb YL,(aL.new w _ _).drew,fun e=>by
    have:=(bb.row.lt _ e).2;omega,bP,bP,fun x I g C e=>(by cases e),fun x I g C e=>(by cases e),⟨[],ar⟩,⟨[],ar⟩,bt,fun g C=>(h.tok.lt g C).2⟩)
 clear b1;go_wp2_with fail
 go_loopg [4] 512 (fun k bI wr=>∃(more:Bool)(k7:ag)(j e aa:Nat)(fN:List PV)(lr:List PX)(ps:List Nat)(pa:Option Addr)(pc:Nat),bI=.bool more/\uG base b s tv d kv rv pv i pl l w 5 wr k7 j e aa fN lr ps pa pc [] none 0/\(e=0->ps.length<=j)/\(more=true->512<=k+j)/\(ExC (TT s) (PP s) (h7 (TT s) (PP s) room inner) i a (ex+2) pl.length R k more j e aa fN ps))
 ·exact ⟨true,pv,i,0,a,pl,l,[],none,0,rfl,aI,(fun _=>ar),(fun _=>ai),(.inl ⟨rfl,rfl,rfl,ai,.inl ⟨rfl,rfl,aB⟩⟩)⟩
 ·obtain ⟨more,k7,j,e,aa,fN,lr,ps,pa,pc,rfl,A,aO,aN,aG⟩:=hrel;have bK:=A.rs.gd.le;have bL:=A.rs.sz;have aJ:base<=wr.heap.size:=aV YL A.fr.below.size
  rcases aE aG with ⟨rfl,rfl,rfl,hn,hs⟩|⟨rfl,rfl,rfl,hn,al,aF,x,a9,J⟩|⟨rfl,ba,hn,al,bx,ak,rfl,J⟩
  ·have aN:=aN rfl;obtain ⟨ae,rfl⟩:∃f,gk=f+1:=⟨gk-1,ai⟩;have lp:=aO rfl;have al:i<=j:=by rcases hs with ⟨h,_⟩|⟨h,_⟩<;>omega
   clear aG aB aI aO;go_wp2_with fail;refine (GS base b s tv j d a kv rv k7 fN lr wr A.rs A.pt hbb aJ ai room inner ex ai bz bn).mono ?_;rintro e' w1 ⟨m,rfl,av,pl1,l1,t,tl,fr,pt,rfl,rfl,aM,J⟩;have hbw1:base<=w1.heap.size:=aV aJ fr.below.size
   cases ah:h7 (TT s) (PP s) room inner j with
   |error er=>
    obtain ⟨c0,ak⟩:=er;rw [ah] at J;obtain ⟨a0,D,bp,rs,bv⟩:=J;have NW:=A.call fr pt rs aM (pl1:=[]) (l1:=[]);have bh:=(show R=.error (c0,ak) from by
     rcases aE hs with ⟨_,_,h⟩|⟨_,_,x,p,_,h⟩
     ·rw [<-h];exact vP ah
     rw [<-h];exact vP ah)
    clear fr pt rs aM A ah;have bs:=NW.rs.gd.le;obtain ⟨V,p1,p2,Y,Z,ab,ac,ad⟩:=NW.box.eight;have a5:=NW.box.fz;have bB:=NW.box.lt;go_wp2_with (at_builtin;go_must (refine eB rfl underlying29 Tryz.infoInt w.heap.size (NW.prow.alloc _) w1.heap.size 1 [au m] (w1.heap.size+1) ?sd));refine Pm ?_;intro g5 be w5 Bi sm q0 q1 q2 q3 q4 q5 q6 q7 zq GU;clear V p1 p2 Y Z ab ac ad a5;go_wp2_with fail;refine (mx b s tv D d c0 (PP s ak) kv rv av (sg 124) _ sm.rs a0).mono ?_;rintro e' aR ⟨rfl,U⟩;have Q:=sm.below U GU hbb;clear U sm;have aw:=show ExC (TT s) (PP s) (h7 (TT s) (PP s) room inner) i a (ex+2) pl.length R ae false D c0 (PP s ak) (fN++t) (ps++[m]) from .inr (.inr ⟨rfl,a0,ai,ai,ar,ak,rfl,bh⟩)
    go_wp2
    go_roundg ae
    case measure=>omega
    case rel=>exact ⟨false,av,D,c0,PP s ak,fN++t,lr++tl,ps++[m],some (aP g5),be,rfl,Q,(fun e=>absurd e a0),(fun h=>by cases h),aw⟩
   |ok yy=>
    obtain ⟨y,D⟩:=yy;rw [ah] at J;obtain ⟨rs,bp,bv,f1,a1⟩:=J;have NW:=A.call fr pt rs aM (pl1:=[]) (l1:=[]);have a6:=(show ∃x,iS (fN++t) (ps++[m]) x/\joinL (TT s) (PP s) [sg 124] (h7 (TT s) (PP s) room inner) (ae+1) x D=R from by
     rcases aE hs with ⟨_,rfl,h⟩|⟨_,_,x,p,I,h⟩
     ·rw [uH ah] at h;exact ⟨_,iS.one a1,h⟩
     rw [uH ah] at h;exact ⟨_,I.snoc a1 p,h⟩)
    have aZ:=(show (ps++[m]).length≠1->(fN++t).length+i+1<=pl.length+D from fun bw=>by
     rcases aE hs with ⟨_,rfl,_⟩|⟨_,aF,_⟩
     ·exact absurd rfl bw
     omega)
    clear fr pt rs aM A ah a1;have bs:=NW.rs.gd.le;obtain ⟨V,p1,p2,Y,Z,ab,ac,ad⟩:=NW.box.eight;have a5:=NW.box.fz;have bB:=NW.box.lt;go_wp2_with (at_builtin;go_must (refine eB rfl underlying29 Tryz.infoInt w.heap.size (NW.prow.alloc _) w1.heap.size 1 [au m] (w1.heap.size+1) ?GJ));refine Pm ?_;intro g5 be w5 Bi sm q0 q1 q2 q3 q4 q5 q6 q7 zq GU;clear V p1 p2 Y Z ab ac ad a5
    cases af:eqs (TT s D) (sg 124)
    ·go_wp2_with fail;refine (ec b s tv D d a kv rv av (sg 124) _ sm.rs false af).mono ?_;rintro e' aR ⟨rfl,U⟩;have Q:=sm.below U GU hbb;clear U sm;have aw:=(show ExC (TT s) (PP s) (h7 (TT s) (PP s) room inner) i a (ex+2) pl.length R ae false D 0 a (fN++t) (ps++[m]) from .inr (.inl ⟨rfl,rfl,rfl,ai,ai,aZ,by
      obtain ⟨x,I,ap⟩:=aE a6;rw [DH (by simp [gN,af])] at ap;exact ⟨x,I,ap.symm⟩⟩))
     clear af;go_wp2
     go_roundg ae
     case measure=>omega
     case rel=>exact ⟨false,av,D,0,a,fN++t,lr++tl,ps++[m],some (aP g5),be,rfl,Q,(fun _=>aS),(fun h=>by cases h),aw⟩
    go_wp2_with fail;refine (ec b s tv D d a kv rv av (sg 124) _ sm.rs true af).mono ?_;rintro e' aR ⟨rfl,U⟩;have Q:=sm.below U GU hbb;have bl:base<=aR.heap.size:=aV GU U.size;clear U sm;have bg:=Q.rs.gd.succ (dR af ax);obtain ⟨aQ,a3,bc,r3,bf,_⟩:=Q.rs.blk.eight;have bM:=Q.rs.blk.fz;have aw:=(show ExC (TT s) (PP s) (h7 (TT s) (PP s) room inner) i a (ex+2) pl.length R ae true (D+1) 0 a (fN++t) (ps++[m]) from .inl ⟨rfl,rfl,rfl,ai,.inr ⟨ai,ai,by
     obtain ⟨x,I,ap⟩:=aE a6;rw [sl (by simp [gN,af])] at ap;have e:TT s D=sg 124:=YM af;rw [e] at ap;exact ⟨x,PP s D,I,ap⟩⟩⟩)
    have br:512<=ae+(D+1):=ai;clear af;go_wp2
    go_roundg ae
    case measure=>omega
    case rel=>exact ⟨true,av,D+1,0,a,fN++t,lr++tl,ps++[m],some (aP g5),be,rfl,(Q.but ((But.refl b aR).setCell 1 (au ((D:Int)+1))) bl hbb (Q.rs.setI (D+1) bg)),(fun _=>aS),(fun _=>br),aw⟩
  ·have a7:=a9;have aZ:=aF;clear aG aB aI a9 aF aN aO
   by_cases h1:ps.length=1
   ·obtain ⟨m,rfl⟩:=Bk.1 h1;obtain ⟨V,p1,p2,Y,Z,ab,ac,ad⟩:=A.box.eight;obtain ⟨bk,bj,ay,bi⟩:=aY A.prow 0 (au m) rfl;simp only [aK] at ay;obtain ⟨rfl,_,rfl⟩:=ay;clear h1;go_wp2;go_ret;rw [J];obtain ⟨t,rfl⟩:=A.sfx;obtain ⟨tl,rfl,aj⟩:=A.new;exact ⟨m,rfl,k7,_,_,t,tl,A.fr,A.pt,rfl,rfl,aj,A.rs,al,hn,a7.alone⟩
   skip
   refine Bl ?_;intro h1' h1b;have aF:=aZ h1;obtain ⟨V,p1,p2,Y,Z,ab,ac,ad⟩:=A.box.eight;have aU:=(show jS w.heap.size (⟨5,[],em,em,PP s i,0,ps,[]⟩,aA none 0 0,aA pa ps.length pc,aA none 0 0) from fun g C=>by
    rcases C with C|C|C
    ·cases C
    ·exact (A.prow.lt g C).1
    cases C)
   go_wp2_with fail;refine (ki base b s tv j d 0 (a) kv rv k7 fN lr ⟨5,[],em,em,PP s i,0,ps,[]⟩ none 0 pa pc none 0 wr A.rs A.pt (show mw wr (⟨5,[],em,em,PP s i,0,ps,[]⟩,aA none 0 0,aA pa ps.length pc,aA none 0 0) from ⟨bP,fx A.prow,bP⟩) ai aJ hbb).mono ?_;rintro e' wf ⟨pv',rfl,fr,a4,a2⟩;have aT:=A.fr.trans fr;clear fr V p1 p2 Y Z ab ac ad;go_wp2;go_ret;rw [J];obtain ⟨t,rfl⟩:=A.sfx;obtain ⟨tl,rfl,aj⟩:=A.new;exact ⟨_,rfl,pv',_,_,t++[_],tl++[_],aT,a2,by rw [ct],by rw [ct],fun x I=>by
    rw [aW,aX] at I
    rcases I with I|rfl
    ·exact aj x I
    exact aU,a4,al,by simp at aF ⊢;omega,a7.some (by simpa using h1) _⟩
  have a8:=J;clear aG aB aI J bx aN aO
  by_cases h1:ps.length=1
  ·obtain ⟨m,rfl⟩:=Bk.1 h1;obtain ⟨V,p1,p2,Y,Z,ab,ac,ad⟩:=A.box.eight;obtain ⟨bk,bj,ay,bi⟩:=aY A.prow 0 (au m) rfl;simp only [aK] at ay;obtain ⟨rfl,_,rfl⟩:=ay;clear h1;go_wp2;go_ret;rw [a8];obtain ⟨t,rfl⟩:=A.sfx;obtain ⟨tl,rfl,aj⟩:=A.new;exact ⟨m,rfl,k7,_,_,t,tl,A.fr,A.pt,rfl,rfl,aj,ba,j,al,A.rs,ai⟩
  skip
  refine Bl ?_;intro h1' h1b;clear h1;obtain ⟨V,p1,p2,Y,Z,ab,ac,ad⟩:=A.box.eight;have aU:=(show jS w.heap.size (⟨5,[],em,em,PP s i,0,ps,[]⟩,aA none 0 0,aA pa ps.length pc,aA none 0 0) from fun g C=>by
   rcases C with C|C|C
   ·cases C
   ·exact (A.prow.lt g C).1
   cases C)
  go_wp2_with fail;refine (ki base b s tv j d e (PP s ak) kv rv k7 fN lr ⟨5,[],em,em,PP s i,0,ps,[]⟩ none 0 pa pc none 0 wr A.rs A.pt (show mw wr (⟨5,[],em,em,PP s i,0,ps,[]⟩,aA none 0 0,aA pa ps.length pc,aA none 0 0) from ⟨bP,fx A.prow,bP⟩) ai aJ hbb).mono ?_;rintro e' wf ⟨pv',rfl,fr,a4,a2⟩;have aT:=A.fr.trans fr;clear fr V p1 p2 Y Z ab ac ad;go_wp2;go_ret;rw [a8];obtain ⟨t,rfl⟩:=A.sfx;obtain ⟨tl,rfl,aj⟩:=A.new;exact ⟨_,rfl,pv',_,_,t++[_],tl++[_],aT,a2,by rw [ct],by rw [ct],fun x I=>by
   rw [aW,aX] at I
   rcases I with I|rfl
   ·exact aj x I
   exact aU,ba,j,al,a4,by simp at hn ⊢;omega⟩
def tN(s):∀(n d:Nat),d+n=4->qK s (fp (TT s) (PP s) n) d (3*(n+1))
 |0,d,h=>fun base b tv i a kv rv pv pl l w h1 h2 A C D=>
  zj base b s tv i d a kv rv pv pl l w h1 h2 A C D false (fun _=> .error (0,0)) 0 ai (fun e=>by cases e) (fun _=>ai)
 |n+1,d,h=>fun base b tv i a kv rv pv pl l w h1 h2 A C D=>by
  have:=zj base b s tv i d a kv rv pv pl l w h1 h2 A C D true (fp (TT s) (PP s) n) (3*(n+1)) ai (fun _=>⟨ai,tN s n (d+1) ai⟩) (fun e=>by cases e);rw [show 3*(n+1+1)=3*(n+1)+3 by omega];exact this
def nmS(s:ae)(h:Bool)(i a:Nat):Nat×Nat×Nat:=if dC (TT s i) then (if (TT s i).size<=8/\h=true then (i+1,0,a) else (i,3,PP s i)) else (i,2,PP s i)
def J3(s x:ae)(i e a:Nat):Nat×Nat×Nat:=if e=0 then (if eqs (TT s i) x then (i+1,0,a) else (i,2,PP s i)) else (i,e,a)
def zm(b s tv i d a kv rv pv rm w)(h:RS w b s tv i d 0 a kv rv pv):
  Calls prog 228 #[bu b,.bool rm] w fun e w'=>e=bi (De s i)/\But b w w'/\∃i' e' a',(i',e',a')=nmS s rm i a/\RS w' b s tv i' d e' a' kv rv pv:=by
 unfold nmS
 cases hn:dC (TT s i)
 ·exact (mr b s tv i d a kv rv pv rm w h hn).mono (fun e w' ⟨h1,h2,A⟩=>⟨h1,h2,_,_,_,rfl,A⟩)
 ·by_cases hl:(TT s i).size<=8
  ·cases C:rm
   ·exact (lF b s tv i d a kv rv pv false w h hn (.inr rfl)).mono (fun e w' ⟨h1,h2,A⟩=>⟨h1,h2,_,_,_,ar,A⟩)
   exact (nD b s tv i d a kv rv pv w h hn hl).mono (fun e w' ⟨h1,h2,A⟩=>⟨h1,h2,_,_,_,by simp [hl],A⟩)
  exact (lF b s tv i d a kv rv pv rm w h hn (.inl ai)).mono (fun e w' ⟨h1,h2,A⟩=>⟨h1,h2,_,_,_,by simp [hl],A⟩)
def lH(b s tv i d e0 a kv rv pv x w)(h:RS w b s tv i d e0 a kv rv pv)(C:0<(bB x).length):
  Calls prog 188 #[bu b,an x] w fun e w'=>e=bi (.tuple #[])/\But b w w'/\∃i' e' a',(i',e',a')=J3 s x i e0 a/\RS w' b s tv i' d e' a' kv rv pv:=by
 unfold J3
 by_cases h0:e0=0
 ·subst h0
  cases hn:eqs (TT s i) x
  ·exact (Bb b s tv i d a kv rv pv x w h hn).mono (fun e w' ⟨h1,h2,A⟩=>⟨h1,h2,_,_,_,ar,A⟩)
  exact (vB b s tv i d a kv rv pv x w h hn C).mono (fun e w' ⟨h1,h2,A⟩=>⟨h1,h2,_,_,_,ar,A⟩)
 ·exact (vC b s tv i d e0 a kv rv pv x w h h0).mono (fun e w' ⟨h1,h2⟩=>⟨h1,But.of_below h2,_,_,_,by simp [h0],h.below h2⟩)
structure RV where
 kd:ae
 nm:ae
 pl:Nat
 ex:Nat
def kC(k:ae×Nat):List ag:=[an k.1,au k.2]
def rC(r:RV):List ag:=[an r.kd,an r.nm,au r.pl,au r.ex]
structure RM(base:Nat)(w:af)(b:Nat)(s:ae)(tv:ag)(i d e a:Nat)(kv rv pv:ag)(kl:List (ae×Nat))(rl:List RV)(pl:List PV)(l:List PX):Prop where
 rs:RS w b s tv i d e a kv rv pv
 pt:PT base w pv pl l
 kt:w.ownsRow base 170 2 kv kl.length (kl.flatMap kC)
 rt:w.ownsRow base 172 4 rv rl.length (rl.flatMap rC)
 fh:∀x∈l,jS base x
def NX(T:TypeId)(w w':af):Prop:=∀(g:Nat)(cs:Array ag)(T':TypeId)(f:Nat×Nat),w.heap[g]? =some (Obj.cells cs T' f)->T'≠T->T'≠252->w'.heap[g]? =w.heap[g]?
def NX.row(k:NX T w w')(h:w.ownsRow base e size v n xs)(h1:e≠T)(h2:e≠252):w'.ownsRow base e size v n xs:=ay h (fun g cs f _ A=>k g cs _ f A h1 h2)
def NX.pt(k:NX T w w'){l:List PX}(h:PT base w pv pl l)(h1:255≠T)(h2:257≠T)(C:3≠T)(D:259≠T):PT base w' pv pl l:=
 ⟨h.fst,k.row h.row h1 ax,fun x A=>⟨k.row (h.rep x A).g h2 ax,k.row (h.rep x A).p C ax,k.row (h.rep x A).s D ax⟩⟩
def NX.grown(h:w.ownsRow base T size v n xs)(k:am w W)(D:W.grownBy w5 v.ownBlock)(b)(C:aL w b cs 252)(o u):NX T w (w5.setCell (aC b o) u):=by
 intro g I T' f A h1 h2;refine (ea _ _ _ _ ?_).trans ((D.block g (cM (lt_of_some A) k.size) (fun e=>dV h A h1 e)).trans (k.block g (lt_of_some A)));intro e;subst e;unfold aL at C;rw [C] at A;simp only [aR,vD] at A;exact h2 A.2.1.symm
section
variable {base b:Nat}{w w':af}{s:ae}{tv:ag}{i d e a:Nat}{kv rv pv:ag}{kl:List (ae×Nat)}{rl:List RV}{pl:List PV}{l:List PX}
def RM.below(h:RM base w b s tv i d e a kv rv pv kl rl pl l)(k:am w w')(C:base<=b)(D:base<=w.heap.size):RM base w' b s tv i d e a kv rv pv kl rl pl l:=
 ⟨h.rs.below k,h.pt.but (But.of_below (b:=b) k) h.rs.blk C D,ay h.kt (fun g cs f _ A=>k.block g (lt_of_some A)),ay h.rt (fun g cs f _ A=>k.block g (lt_of_some A)),h.fh⟩
def But.row{bs}(k:But b w w')(C:aL w b cs 252)(h:w.ownsRow bs T size v n xs)(h1:T≠252):w'.ownsRow bs T size v n xs:=
 ay h (fun g cs f _ A=>k.block g (lt_of_some A) (fun e=>by
  subst e;unfold aL at C;rw [C] at A;simp only [aR,vD] at A;exact h1 A.2.1.symm))
def RM.but(h:RM base w b s tv i d e a kv rv pv kl rl pl l)(k:But b w w')(A:base<=b)(C:base<=w.heap.size)(r:RS w' b s tv i' d' e' a' kv rv pv):RM base w' b s tv i' d' e' a' kv rv pv kl rl pl l:=
 ⟨r,h.pt.but k h.rs.blk A C,k.row h.rs.blk h.kt ax,k.row h.rs.blk h.rt ax,h.fh⟩
def RM.fr(h:RM base w b s tv i d e a kv rv pv kl rl pl l)(k:Fr base b w w' pv pv'){kQ l'}(p:PT base w' pv' kQ l')(r:RS w' b s tv i' d' e' a' kv rv pv')(A:∀x∈l',jS base x):RM base w' b s tv i' d' e' a' kv rv pv' kl rl kQ l':=
 ⟨r,p,k.row h.kt h.rs.blk h.pt.row ax ax,k.row h.rt h.rs.blk h.pt.row ax ax,A⟩
def RM.kinds(h:RM base w b s tv i d e a kv rv pv kl rl pl l)(R:base<=b)(J:base<=w.heap.size){x:ae×Nat}(A:am w W)(D:W.grownBy w5 kv.ownBlock)(Q:w5.ownsRow base 170 2 (aA (some (aP g5)) (kl.length+1) be) (kl.length+1) (kl.flatMap kC++kC x)):
  RM base (w5.setCell (aC b 5) (aA (some (aP g5)) (kl.length+1) be)) b s tv i d e a (aA (some (aP g5)) (kl.length+1) be) rv pv (kl++[x]) rl pl l/\Below base w (w5.setCell (aC b 5) (aA (some (aP g5)) (kl.length+1) be))/\NX 170 w (w5.setCell (aC b 5) (aA (some (aP g5)) (kl.length+1) be)):=by
 have C:=NX.grown h.kt A D b h.rs.blk 5 (aA (some (aP g5)) (kl.length+1) be);have I:aL w5 b _ 252:=(D.block b (cM h.rs.lt A.size) (fun e=>dV h.kt h.rs.blk ax e)).trans ((A.block b h.rs.lt).trans h.rs.blk);refine ⟨⟨⟨I.set 5 _,C.row h.rs.tok ax ax,h.rs.gd,⟨⟨_,_,_,rfl⟩,h.rs.fm.2⟩,h.rs.sz⟩,C.pt h.pt ax ax ax ax,?_,C.row h.rt ax ax,h.fh⟩,?_,C⟩
 ·have:=bU Q I ax 5 (aA (some (aP g5)) (kl.length+1) be);exact GO
 ·exact (cA (A.mono J) D (aV J A.size) (fun k U=>(h.kt.lt k U).1)).setCell R _
def RM.rels(h:RM base w b s tv i d e a kv rv pv kl rl pl l)(R:base<=b)(J:base<=w.heap.size){x}(A:am w W)(D:W.grownBy w5 rv.ownBlock)(Q:w5.ownsRow base 172 4 (aA (some (aP g5)) (rl.length+1) be) (rl.length+1) (rl.flatMap rC++rC x)):
  RM base (w5.setCell (aC b 6) (aA (some (aP g5)) (rl.length+1) be)) b s tv i d e a kv (aA (some (aP g5)) (rl.length+1) be) pv kl (rl++[x]) pl l/\Below base w (w5.setCell (aC b 6) (aA (some (aP g5)) (rl.length+1) be))/\NX 172 w (w5.setCell (aC b 6) (aA (some (aP g5)) (rl.length+1) be)):=by
 have C:=NX.grown h.rt A D b h.rs.blk 6 (aA (some (aP g5)) (rl.length+1) be);have I:aL w5 b _ 252:=(D.block b (cM h.rs.lt A.size) (fun e=>dV h.rt h.rs.blk ax e)).trans ((A.block b h.rs.lt).trans h.rs.blk);refine ⟨⟨⟨I.set 6 _,C.row h.rs.tok ax ax,h.rs.gd,⟨h.rs.fm.1,⟨_,_,_,rfl⟩,h.rs.fm.2.2⟩,h.rs.sz⟩,C.pt h.pt ax ax ax ax,C.row h.kt ax ax,?_,h.fh⟩,?_,C⟩
 ·have:=bU Q I ax 6 (aA (some (aP g5)) (rl.length+1) be);exact GO
 ·exact (cA (A.mono J) D (aV J A.size) (fun k U=>(h.rt.lt k U).1)).setCell R _
end
def NX.blk(k:NX T w w')(h:aL w g cs T')(h1:T'≠T)(h2:T'≠252):aL w' g cs T':=(k g cs T' (0,0) h h1 h2).trans h
def Tryz.infoKd:(Tryz.prog.info? 170).map (fun i=>(i.zero,i.size,i.bytes))=some (some (.agg #[an ⟨#[]⟩,au 0]),2,24):=by kernel_rfl
def Tryz.infoRl:(Tryz.prog.info? 172).map (fun i=>(i.zero,i.size,i.bytes))=some (some (.agg #[an ⟨#[]⟩,an ⟨#[]⟩,au 0,au 0]),4,48):=by kernel_rfl
abbrev pZ:=@Nat.zero_add
abbrev vQ:=@List.getElem?_cons_succ
abbrev nG:=@List.getElem?_append_right
abbrev kj:=@List.any_cons
abbrev so:=@Bool.true_or
def Pn (h:aD:=by
 rw [aQ] at he;exact Po):aD:=h
def Pp (h:aD:=by
 rw [eC ai,List.any_nil] at HQ;go_wp2;go_ret;exact ⟨by rw [<-HQ];rfl,hb⟩):aD:=h
def Pq (h:aD:=by
 exact Po):aD:=h
def Bm (h:aD:=by
 go_wp2;go_ret;exact ⟨by rw [<-HQ];rfl,hb⟩):aD:=h
def vR (h:aD:=by
 exact ⟨0,ai,rfl,az _ _,HR⟩):aD:=h
def Po (h:aD:=by
 go_wp2;go_roundw
 ·exact ⟨k+1,ai,by go_num,hb,HQ⟩
 simp [intOf];omega):aD:=h
structure DM(w:af)(b:Nat)(kv rv pv:ag)(kl:List (ae×Nat))(rl:List RV)(pl:List PV)(l:List PX):Prop where
 c5:w.cell? (aC b 5)=some kv
 c6:w.cell? (aC b 6)=some rv
 c7:w.cell? (aC b 7)=some pv
 kt:w.ownsRow 0 170 2 kv kl.length (kl.flatMap kC)
 rt:w.ownsRow 0 172 4 rv rl.length (rl.flatMap rC)
 pt:PT 0 w pv pl l
 kn:kl.length<=5
 rn:rl.length<=500
 pn:pl.length<=500
def aB(h:w.ownsRow base e size v n xs)(k:am w w'):w'.ownsRow base e size v n xs:=ay h (fun g cs f _ A=>k.block g (lt_of_some A))
def ak{a}(h:w.cell? a=some v)(k:am w w'):w'.cell? a=some v:=(jA (k.block a.block (World.block_lt_of_cell? w a h))).trans h
def PT.below{l:List PX}(h:PT base w pv pl l)(k:am w w'):PT base w' pv pl l:=
 ⟨h.fst,aB h.row k,fun x A=>⟨aB (h.rep x A).g k,aB (h.rep x A).p k,aB (h.rep x A).s k⟩⟩
section
variable {w w':af}{b:Nat}{kv rv pv:ag}{kl:List (ae×Nat)}{rl:List RV}{pl:List PV}{l:List PX}
def DM.below(h:DM w b kv rv pv kl rl pl l)(k:am w w'):DM w' b kv rv pv kl rl pl l:=
 ⟨ak h.c5 k,ak h.c6 k,ak h.c7 k,aB h.kt k,aB h.rt k,h.pt.below k,h.kn,h.rn,h.pn⟩
def DI{α:Type}(f:α->List ag)(k)(A:∀a,(f a).length=k)(a:α)(j)(C:j<k):∀(l:List α)(i:Nat),l[i]? =some a->(l.flatMap f)[i*k+j]? =(f a)[j]?
 | [],i,h=>by simp at h
 |x::l,0,h=>by
  simp only [List.getElem?_cons_zero,aR] at h;subst h;rw [bM,Nat.zero_mul,pZ,nF (by rw [A];exact C)]
 |x::l,i+1,h=>by
  rw [vQ] at h;rw [bM,nG (by rw [A,Nat.add_mul];omega),A,show (i+1)*k+j-k=i*k+j by rw [Nat.add_mul];omega];exact DI f k A a j C l i h
def bn(f:α->List ag)(k)(A:∀a,(f a).length=k){l:List α}(h:w.ownsRow base T k v l.length (l.flatMap f))(i)(a:α)(hi:l[i]? =some a):
  ∃g c,v=aA (some (aP g)) l.length c/\∀j u,j<k->(f a)[j]? =some u->w.cell? (aC g (i*k+j))=some u:=by
 obtain ⟨g,c,e,_⟩:=h.form (n:=l.length) (by have:=(bD.1 hi).1;omega);refine ⟨g,c,e,fun j u C D=> ?_⟩;obtain ⟨g',I,e',hc⟩:=aY h (i*k+j) u (by rw [DI f k A a j C l i hi];exact D);rw [e] at e';simp only [aK,aR,cg] at e';rw [e'.1.1];exact hc
def DM.kat(h:DM w b kv rv pv kl rl pl l)(i)(x:ae×Nat)(hi:kl[i]? =some x):∃g c,kv=aA (some (aP g)) kl.length c/\w.cell? (aC g (i*2))=some (an x.1)/\w.cell? (aC g (i*2+1))=some (au x.2):=by
 obtain ⟨g,c,e,hc⟩:=bn kC 2 (fun _=>rfl) h.kt i x hi;exact ⟨g,c,e,hc 0 _ ai rfl,hc 1 _ ai rfl⟩
def DM.rat(h:DM w b kv rv pv kl rl pl l)(i x)(hi:rl[i]? =some x):∃g c,rv=aA (some (aP g)) rl.length c/\w.cell? (aC g (i*4))=some (an x.kd)/\w.cell? (aC g (i*4+1))=some (an x.nm)/\w.cell? (aC g (i*4+2))=some (au x.pl)/\w.cell? (aC g (i*4+3))=some (au x.ex):=by
 obtain ⟨g,c,e,hc⟩:=bn rC 4 (fun _=>rfl) h.rt i x hi;exact ⟨g,c,e,hc 0 _ ai rfl,hc 1 _ ai rfl,hc 2 _ ai rfl,hc 3 _ ai rfl⟩
end
def aQ(a c):eqs a c=(a.toList==c.toList):=by unfold eqs;rw [aT,aT]
def tO(b kv rv pv kl rl pl l x w)(h:DM w b kv rv pv kl rl pl l):
  Calls prog 137 #[.pointer (some (aC b 5)),an x] w fun e w'=>e=bi (.bool (kl.any fun k=>eqs k.1 x))/\am w w':=by
 obtain ⟨Q,U,rfl⟩:=aw h.kt;have J:=h.kn;generalize A:(kl.any fun k=>eqs k.1 x)=R;have HR:=(A:((kl.drop 0).any fun k=>eqs k.1 x)=R);clear A;go_enter func137,ntmps137;go_wp2_with fail
 go_loopw [5] (fun u wr=>∃k:Nat,k<=kl.length/\u=au k/\am w wr/\Hid (((kl.drop k).any fun q=>eqs q.1 x)=R)) (fun u _=>kl.length-(intOf u).toNat)
 ·exact vR
 ·obtain ⟨k,I,rfl,hb,HQ⟩:=hrel;have c5:=(h.below hb).c5
  by_cases C:k<kl.length
  ·obtain ⟨g,c,e1,k0,k1⟩:=(h.below hb).kat k kl[k] (aI C);simp only [aK,true_and] at e1;obtain ⟨rfl,rfl⟩:=e1;rw [c8 C,kj] at HQ;generalize kl[k]=q at*;have D:(k:Int)<(kl.length:Int):=ai
   cases he:eqs q.1 x
   ·rw [he,Bool.false_or] at HQ;exact Pn
   rw [he,so] at HQ;rw [aQ] at he;exact Bm
  have D:¬((k:Int)<(kl.length:Int)):=ai;exact Pp
def bh(k n:ae):List RV->Nat->Int
 | [],_=> -1
 |x::xs,i=>if eqs x.kd k&&eqs x.nm n then i else bh k n xs (i+1)
def eh(b kv rv pv kl rl pl l x y w)(h:DM w b kv rv pv kl rl pl l):
  Calls prog 132 #[.pointer (some (aC b 5)),an x,an y] w fun e w'=>e=bi (au (bh x y rl 0))/\am w w':=by
 obtain ⟨V,rc,rfl⟩:=aw h.rt;have Q:=h.rn;generalize C:bh x y rl 0=R;have HR:=(C:bh x y (rl.drop 0) 0=R);clear C;go_enter func132,ntmps132;go_wp2_with fail
 go_loopw [7] (fun u wr=>∃k:Nat,k<=rl.length/\u=au k/\am w wr/\Hid (bh x y (rl.drop k) k=R)) (fun u _=>rl.length-(intOf u).toNat)
 ·exact vR
 ·obtain ⟨k,J,rfl,hb,HQ⟩:=hrel;have c6:=(h.below hb).c6
  by_cases D:k<rl.length
  ·obtain ⟨g,c,e1,k0,k1,U,k3⟩:=(h.below hb).rat k rl[k] (aI D);simp only [aK,true_and] at e1;obtain ⟨rfl,rfl⟩:=e1;rw [c8 D,bh] at HQ;generalize rl[k]=q at*;have I:(k:Int)<(rl.length:Int):=ai
   cases he:eqs q.kd x
   ·rw [he,eM] at HQ;simp only [bJ,aZ] at HQ;exact Pn
   rw [he,Bool.true_and] at HQ;rw [aQ] at he
   cases A:eqs q.nm y
   ·rw [A] at HQ;simp only [bJ,aZ] at HQ;rw [aQ] at A;exact Pq
   rw [A] at HQ;simp only [if_true] at HQ;rw [aQ] at A;exact Bm
  have I:¬((k:Int)<(rl.length:Int)):=ai;rw [eC ai,bh] at HQ;exact Bm
def qX (h:aD:=by
 simp [aI hlt]):aD:=h
def XW (h:aD:=by
 clear B0 NZ;obtain ⟨k,fv,al,am,aJ,rfl,rfl,hb,V,hrow,R⟩:=hrel;obtain ⟨aN,p1,p2,aO,aQ,aR,aS,aT⟩:=V.eight;have aG:=hb.size
 by_cases hlt:k<p.ps.length
 ·have ab:=br hlt;obtain ⟨q,aH,e1,aM⟩:=aY (aB RP hb) k (au (p.ps[k]:Nat)) qX;simp only [aK,true_and] at e1;obtain ⟨rfl,rfl⟩:=e1;obtain ⟨Z,ac⟩:=aE hc _ ab;have C:=Z b kv rv _ kl rl l wr (h.below hb);have Y:=aj (j4 lf p.ps k _ (aI hlt));have az:=oG lf p.ps (k+1);rw [Y.u,<-aE R,bf,HG.u] at az;have ay:(k:Int)<(p.ps.length:Int):=ai;generalize p.ps[k]=m at*;clear Z ab;go_wp2_with fail;refine C.mono ?_;rintro e w1 ⟨sv,rfl,J,ad⟩;obtain ⟨an,c1,rfl,ae,af⟩:=Dx ad ac;have Q:=hb.trans (J.mono aG);have D:=V.below J;have I:=aB hrow J;have ag:=Q.size;clear J ad C hb V hrow;go_wp2_with (at_builtin;go_must (refine l9 _ rfl _ _ 29 rfl w.heap.size 3 iI _ 1 8 underlying29 hi1 hy0 hy1 hy2 rfl ax (aA al fv.length am) fv.length (fv.map fun n:Nat=>au n) rfl I ⟨an,0,none⟩ (lf m).length c1 ((lf m).map fun n:Nat=>au n) rfl ae af ?hone ac ?h63 ?hbytes ag w1.heap.size rfl ?hrest))
  case hone=>
   intro u aF;obtain ⟨n,_,rfl⟩:=aU.1 aF
   rfl
  case h63=>unfold maxLen;omega
  case hbytes=>omega
  intro g5 be w5 aC U ap av;have ah:=cA Q U ag (fun k aw=>(I.lt k aw).1);have ak:=((U.block _ D.lt (own_ne I D ax)).trans D:aL w5 w.heap.size _ 255);clear U ap av Q D I ae af;go_wp2;go_roundw
  ·exact ⟨k+1,fv++lf m,some (aP g5),be,ai,by go_num,ar,ah,ak,by simpa using aC,aj (by rw [aE R,Y.u])⟩
  simp [intOf];omega
 have ay:¬((k:Int)<(p.ps.length:Int)):=ai;have hfv:fv=G:=by rw [aE R,cX ai,HG.u]
 exact QG):aD:=h
def QH (h:aD:=by
 exact cu.app (wG (ei pl f) _ _ h5) _ _ (ei pl f _ _ h4)):aD:=h
def QG (h:aD:=by
 have A:=aj hfv;clear hfv;go_wp2;go_ret;rw [<-A.u];exact ⟨_,rfl,hb,hrow⟩):aD:=h
def qe(q:bq) (h:cj bq->aD:=by
 intro zq;have NZ:=aL.new w (gL p.kind ga p.gs.length gc p.nb p.nr p.pa p.pr pa p.ps.length pc sa p.sg.length sc) 255
 revert NZ
 exact zq.1):aD:=h ⟨q⟩
def wH(q:bq) (h:cj bq->aD:=by
 intro zq;have c7:=h.c7;have hn:=(bD.1 hp).1;have hn':(n:Int)<(pl.length:Int):=ai
 revert c7 hn hn'
 exact zq.1):aD:=h ⟨q⟩
def QI(q:bq) (h:cj bq->aD:=by
 intro zq;have hkq:((p.kind:Int) != 4&&(p.kind:Int) != 5)=false:=by rw [hk];rfl
 have RP:=hr.p;have B0:=((az _ w).alloc aH _:am w (w.alloc (dX p.kind ga p.gs.length gc p.nb p.nr p.pa p.pr pa p.ps.length pc sa p.sg.length sc)))
 revert hkq RP B0
 exact zq.1):aD:=h ⟨q⟩
def aJ(pl:List PV):Nat->Nat->List Nat
 |0,_=>[]
 |f+1,n=>match pl[n]? with
  |none=>[]
  |some p=>if p.kind=4\/p.kind=5 then p.ps.flatMap (aJ pl f) else [n]
def aN:Ex->List Ex
 |⟨_,some x,some y⟩=>aN x++aN y
 |⟨n,none,r⟩=>[⟨n,none,r⟩]
 |⟨_,some _,none⟩=>[]
def cu.app{R c cs}(k:cu R c cs):∀(ns:List Nat)(xs:List Ex),cu R ns xs->cu R (ns++c) (xs++cs)
 | [],[],_=>k
 |n::ns,x::xs,h=>⟨h.1,cu.app k ns xs h.2⟩
 | [],_::_,h=>h.elim
 |_::_,[],h=>h.elim
def cu.len{R}:∀(ns:List Nat)(xs:List Ex),cu R ns xs->ns.length=xs.length
 | [],[],_=>rfl
 |n::ns,x::xs,h=>by simp [cu.len ns xs h.2]
 | [],_::_,h=>h.elim
 |_::_,[],h=>h.elim
def dH:∀(rs:List (ae×Nat×Ex)) (x:Ex),aN (cb x rs)=aN x++(rs.map fun r=>r.2.2).flatMap aN
 | [],x=>by simp [cb]
 |(t,p,y)::rs,x=>by
  rw [cb,dH rs];simp [dF,aN]
def wG{pl:List PV}{f:Nat}(A:∀n x,Tr pl f n x->cu (Tr pl 1) (aJ pl f n) (aN x)):∀(ns:List Nat)(xs:List Ex),cu (Tr pl f) ns xs->cu (Tr pl 1) (ns.flatMap (aJ pl f)) (xs.flatMap aN)
 | [],[],_=>trivial
 |n::ns,x::xs,h=>by
  simp only [bM];exact cu.app (wG A ns xs h.2) _ _ (A n x h.1)
 | [],_::_,h=>h.elim
 |_::_,[],h=>h.elim
def ei(pl):∀(f n:Nat)(x:Ex),Tr pl f n x->cu (Tr pl 1) (aJ pl f n) (aN x)
 |0,_,_,h=>h.elim
 |f+1,n,x,⟨p,hp,h⟩=>by
  rw [aJ,hp]
  rcases h with ⟨h1,hn,h2⟩|⟨h1,h0,hn,h2⟩|⟨h1,h0,hn,h2⟩|⟨h1,h0,J,ns,Q,rs,A,h4,h5,D,I,C⟩|⟨h1,h0,R,J,ns,Q,rs,A,h4,h5,D,I,C⟩
  ·simp only [h1,Nat.reduceEqDiff,or_self,aZ,h2,aN];exact ⟨⟨p,hp,.inl ⟨h1,hn,rfl⟩⟩,trivial⟩
  ·simp only [h1,Nat.reduceEqDiff,or_self,aZ,h2,aN];exact ⟨⟨p,hp,.inr (.inl ⟨h1,h0,hn,rfl⟩)⟩,trivial⟩
  ·simp only [h1,Nat.reduceEqDiff,or_self,aZ,h2,aN];exact ⟨⟨p,hp,.inr (.inr (.inl ⟨h1,h0,hn,rfl⟩))⟩,trivial⟩
  ·simp only [h1,true_or,if_true,C,A,dH,bM];exact QH
  simp only [h1,or_true,if_true,C,A,dH,bM];exact QH
section
variable {w w':af}{b:Nat}{kv rv pv:ag}{kl:List (ae×Nat)}{rl:List RV}{pl:List PV}{l:List PX}
def DM.pat(h:DM w b kv rv pv kl rl pl l)(i p)(hi:pl[i]? =some p):∃g c ga gc pa pc sa sc,pv=aA (some (aP g)) pl.length c/\mw w (p,aA ga p.gs.length gc,aA pa p.ps.length pc,aA sa p.sg.length sc)/\
  w.cell? (aC g (i*8))=some (au p.kind)/\w.cell? (aC g (i*8+1))=some (aA ga p.gs.length gc)/\w.cell? (aC g (i*8+2))=some (an p.nb)/\w.cell? (aC g (i*8+3))=some (an p.nr)/\w.cell? (aC g (i*8+4))=some (au p.pa)/\w.cell? (aC g (i*8+5))=some (au p.pr)/\w.cell? (aC g (i*8+6))=some (aA pa p.ps.length pc)/\w.cell? (aC g (i*8+7))=some (aA sa p.sg.length sc):=by
 have hl:pl.length=l.length:=by rw [<-h.pt.fst,List.length_map]
 rw [<-h.pt.fst,List.getElem?_map] at hi;obtain ⟨x,J,rfl⟩:=Option.map_eq_some_iff.1 hi;have I:=h.pt.row;rw [hl] at I;obtain ⟨g,c,e,hc⟩:=bn pW 8 (fun _=>rfl) I i x J;have A:=h.pt.rep x (bF J);obtain ⟨p,gv,Q,sv⟩:=x;obtain ⟨ga,gc,e1⟩:=aw A.g;obtain ⟨pa,pc,C⟩:=aw A.p;obtain ⟨sa,sc,D⟩:=aw A.s;simp only at e1 C D;subst e1 C D;exact ⟨g,c,ga,gc,pa,pc,sa,sc,by rw [e,hl],A,hc 0 _ ai rfl,hc 1 _ ai rfl,hc 2 _ ai rfl,hc 3 _ ai rfl,hc 4 _ ai rfl,hc 5 _ ai rfl,hc 6 _ ai rfl,hc 7 _ ai rfl⟩
end
def gR(pl:List PV)(n:Nat)(lv:List Nat):Prop:=∀(b:Nat) (kv rv pv:ag) (kl:List (ae×Nat)) (rl:List RV) (l:List PX) (w:af),DM w b kv rv pv kl rl pl l->
 Calls prog 191 #[.pointer (some (aC b 5)),au n] w fun e w'=>∃sv,e=bi sv/\am w w'/\w'.ownsRow w.heap.size 3 1 sv lv.length (lv.map fun n:Nat=>au n)
def Eu(pl n p)(hp:pl[n]? =some p)(D:p.kind≠4)(J:p.kind≠5):gR pl n [n]:=by
 intro b kv rv pv kl rl l w h;obtain ⟨g,c,ga,gc,pa,pc,sa,sc,rfl,R,k0,k1,U,k3,V,Y,Z,ab⟩:=h.pat n p hp;refine wH ?_;intro c7 hn hn';have A:¬((p.kind:Int)=4):=ai;have C:¬((p.kind:Int)=5):=ai;have I:((p.kind:Int) != 4)=true:=gX.2 A;have Q:((p.kind:Int) != 5)=true:=gX.2 C;go_enter func191,ntmps191;go_wp2;go_ret;refine ⟨_,rfl,((az _ w).alloc aH _).alloc ar _,rfl,.inr ⟨w.heap.size+1,1,#[au n],rfl,ai,?_,ai,by unfold maxLen;omega,rfl,rfl⟩⟩;exact aL.new' (w.alloc _) _ _ _ ar
def j4(f:α->List β)(l:List α)(k)(a:α)(h:l[k]? =some a):(l.take (k+1)).flatMap f=(l.take k).flatMap f++f a:=by
 obtain ⟨A,rfl⟩:=bD.1 h;rw [cD A,cN];simp
def oG(f:α->List β)(l:List α)(k):((l.take k).flatMap f).length<=(l.flatMap f).length:=by
 have:l.flatMap f=(l.take k).flatMap f++(l.drop k).flatMap f:=by rw [<-cN,pL]
 rw [this,bf];omega
def BR(pl n p)(hp:pl[n]? =some p)(hk:p.kind=4)(lf)(hc:∀m∈p.ps,gR pl m (lf m)/\0<(lf m).length)(bl:(p.ps.flatMap lf).length<=1000)(bn:p.ps.length<=1000):gR pl n (p.ps.flatMap lf):=by
 generalize aZ:p.ps.flatMap lf=G at*;have HG:=aj aZ;clear aZ;intro b kv rv pv kl rl l w h;obtain ⟨iI,hi1,hy0,hy1,hy2⟩:=eN Tryz.infoInt;obtain ⟨g,c,ga,gc,pa,pc,sa,sc,rfl,hr,k0,k1,bc,k3,bg,bh,bi,bj⟩:=h.pat n p hp;refine wH ?_;intro c7 hn hn';have bb:((p.kind:Int) != 4)=false:=by rw [hk];rfl
 have ba:((p.kind:Int) != 4)=false:=by rw [hk];rfl
 refine QI ?_;intro hkq RP B0;clear hk;refine qe ?_;intro NZ;clear hr hp;go_enter func191,ntmps191;go_wp2_with fail;clear k0 k1 bc k3 bg bh bi bj c7 bb hkq ba
 go_loopw [6,7] (fun bk aV wr=>∃(k:Nat)(fv:List Nat)(aW:Option Addr)(aX:Nat),k<=p.ps.length/\aV=au k/\bk=aA aW fv.length aX/\am w wr/\aL wr w.heap.size (gL p.kind ga p.gs.length gc p.nb p.nr p.pa p.pr pa p.ps.length pc sa p.sg.length sc) 255/\wr.ownsRow w.heap.size 3 1 (aA aW fv.length aX) fv.length (fv.map fun n:Nat=>au n)/\Hid (fv=(p.ps.take k).flatMap lf)) (fun _ aV _=>p.ps.length-(intOf aV).toNat)
 ·exact ⟨0,[],none,0,ai,rfl,rfl,B0,NZ,bP,aj ar⟩
 exact XW
def BS(pl n p)(hp:pl[n]? =some p)(hk:p.kind=5)(lf)(hc:∀m∈p.ps,gR pl m (lf m)/\0<(lf m).length)(bl:(p.ps.flatMap lf).length<=1000)(bn:p.ps.length<=1000):gR pl n (p.ps.flatMap lf):=by
 generalize aZ:p.ps.flatMap lf=G at*;have HG:=aj aZ;clear aZ;intro b kv rv pv kl rl l w h;obtain ⟨iI,hi1,hy0,hy1,hy2⟩:=eN Tryz.infoInt;obtain ⟨g,c,ga,gc,pa,pc,sa,sc,rfl,hr,k0,k1,bc,k3,bg,bh,bi,bj⟩:=h.pat n p hp;refine wH ?_;intro c7 hn hn';have bb:((p.kind:Int) != 5)=false:=by rw [hk];rfl
 have ba:((p.kind:Int) != 4)=true:=by rw [hk];rfl
 refine QI ?_;intro hkq RP B0;clear hk;refine qe ?_;intro NZ;clear hr hp;go_enter func191,ntmps191;go_wp2_with fail;clear k0 k1 bc k3 bg bh bi bj c7 bb hkq ba
 go_loopw [6,7] (fun bk aV wr=>∃(k:Nat)(fv:List Nat)(aW:Option Addr)(aX:Nat),k<=p.ps.length/\aV=au k/\bk=aA aW fv.length aX/\am w wr/\aL wr w.heap.size (gL p.kind ga p.gs.length gc p.nb p.nr p.pa p.pr pa p.ps.length pc sa p.sg.length sc) 255/\wr.ownsRow w.heap.size 3 1 (aA aW fv.length aX) fv.length (fv.map fun n:Nat=>au n)/\Hid (fv=(p.ps.take k).flatMap lf)) (fun _ aV _=>p.ps.length-(intOf aV).toNat)
 ·exact ⟨0,[],none,0,ai,rfl,rfl,B0,NZ,bP,aj ar⟩
 exact XW
def Ks (h:aD:=by
 simp [hm]):aD:=h
def BT (h:aD:=by
 rw [h3] at hm
 rcases List.mem_cons.1 hm with rfl|hm
 ·exact ⟨x0,h4⟩
 obtain ⟨y,_,A⟩:=cu.mem _ _ h5 m hm;exact ⟨y,A⟩):aD:=h
def QJ (h:aD:=by
 exact aV (tS (aJ pl f) _ (fun m A=>by obtain ⟨y,C⟩:=key m A;exact mD pl f m y C)) hl):aD:=h
def QK (h:aD:=by
 obtain ⟨y,A⟩:=key m hm;exact ⟨ih m y A (aV (tT _ _ _ hm) hl),mD pl f m y A⟩):aD:=h
def H0 (h:aD:=by
 simp only [h1,Nat.reduceEqDiff,or_self,aZ];exact Eu pl n p hp ai ai):aD:=h
def BU (h:aD:=by
 simp only [bM,bf,List.length_cons];omega):aD:=h
def QL (h:aD:=by
 simp only [cN,bM,bf];omega):aD:=h
def QM(q:bq) (h:cj bq->aD:=by
 intro zq;unfold Oper.wp execOp;simp only [ho,resolve,invoke,builtin,Sem.run_bind,Sem.run_pure,Result.andThen_ok,List.map_toArray,List.map_cons,List.map_nil,hs,hx,hrun];exact zq.1):aD:=h ⟨q⟩
def QO(q:bq) (h:cj bq->aD:=by
 intro zq;have hrun:=run_append_nothing (P:=P) w t t o.type e i ht hi av n cv (uK hown) xv (by rw [hsize];exact VS ht hnews h1);refine QM ?_
 revert hrun
 exact zq.1):aD:=h ⟨q⟩
def VS(C:P.underlying T=some (.slice E))(h:w.ownsRow base E size v n xs)(h1:∀u∈xs,u.oneCell'=true):Src P size T v n xs w:=by
 rcases h with ⟨h0,⟨rfl,h2⟩|⟨g,cap,J,rfl,Q,D,R,U,hs,I⟩⟩
 ·subst h2;have:xs=[]:=iL (by simpa using h0);subst this;exact Src.ofNil w C 0
 refine Src.ofSlice w C _ _ _ _ h0 ?_ h1;intro j u A;rw [<-I,List.getElem?_take] at A
 split at A
 ·rw [Addr.add_lit];simp [World.cell?,D] at A ⊢;exact A
 simp at A
def uK{a}(h:w.ownsRow base E size (aA a m c) n xs):n<=c:=by
 rcases h with ⟨_,⟨e,h2⟩|⟨g,cap,A,e,_,_,C,_⟩⟩
 ·omega
 simp only [aK] at e;omega
def g8{R:Array Oper}{o:Oper}{a:Act}{Q:Exit->Act->af->Prop}(D:o.guard=none)(s x:Operand)(t:TypeId)
  (ho:o.op=.call {callee:=.builtin .append,args:=#[s,x],argTypes:=#[t,t]})
  (base:Nat) (e:TypeId) (i:TypeInfo) (z:ag) (size bytes:Nat) (ht:P.underlying t=some (.slice e)) (hi:P.info? e=some i) (aj:i.zero=some z)
  (hsize:i.size=size) (ac:i.bytes=bytes) (ak:z.cells.size=size) (ai:0<size)
  (v:ag) (n:Nat) (C:List ag) (hs:a.eval s=v) (hown:w.ownsRow base e size v n C)
  (xv:ag) (m:Nat) (A:List ag) (hx:a.eval x=xv) (U:Nat) (hnews:w.ownsRow U e size xv m A) (h1:∀u∈A,u.oneCell'=true)
  (Z:n+m<=maxLen) (ad:(n+m)*bytes<=140737488355328) (hbase:base<=w.heap.size)
  (h:∀av cv w',w'.ownsRow base e size (.slice av (n+m) cv) (n+m) (C++A)->w.grownBy w' v.ownBlock->(∀g,(Value.slice av (n+m) cv).ownBlock=some g->v.ownBlock=some g\/g=w.heap.size)->wpList P R Q rest (a.put o.dst (.slice av (n+m) cv)) w'):wpList P R Q (o::rest) a w:=by
 by_cases I:0<m
 ·obtain ⟨g,c,rfl,hl,hn⟩:=oB hnews I;refine l9 w D s x t ho base e i z size bytes ht hi aj hsize ac ak ai v n C hs hown ⟨g,0,none⟩ m c A hx hl hn h1 I Z ad hbase _ rfl ?_;intro g5 cap w' h2 V Y al;refine h _ cap w' h2 V (fun q J=> ?_);simp only [Value.ownBlock,aR] at J;subst J;exact Y
 ·obtain rfl:m=0:=by omega
  have ah:A=[]:=iL (by simpa using hnews.1);subst ah;obtain ⟨av,cv,rfl⟩:=aw hown;refine wpList_plain D fun K ab=> ?_
  refine QO ?_;intro hrun;exact ab _ _ (h av cv w (by simpa using hown) ⟨rfl,rfl,rfl,bV _,fun _ _ _=>rfl⟩ (fun g ae=> .inl ae))
def sN{J:Array Oper}{o:Oper}{a:Act}{K:Act->af->Prop}{Q:Exit->Act->af->Prop}{R:Prop}(D:o.guard=none)(s x:Operand)(t:TypeId)
  (ho:o.op=.call {callee:=.builtin .append,args:=#[s,x],argTypes:=#[t,t]})
  (base:Nat) (e:TypeId) (i:TypeInfo) (z:ag) (size bytes:Nat) (ht:P.underlying t=some (.slice e)) (hi:P.info? e=some i) (ah:i.zero=some z)
  (hsize:i.size=size) (Z:i.bytes=bytes) (ai:z.cells.size=size) (ad:0<size)
  (v:ag) (n:Nat) (C:List ag) (hs:a.eval s=v) (hown:w.ownsRow base e size v n C)
  (xv:ag) (m:Nat) (A:List ag) (hx:a.eval x=xv) (U:Nat) (hnews:w.ownsRow U e size xv m A) (h1:∀u∈A,u.oneCell'=true)
  (Y:n+m<=maxLen) (ab:(n+m)*bytes<=140737488355328) (hbase:base<=w.heap.size)
  (h:∀av cv w',w'.ownsRow base e size (.slice av (n+m) cv) (n+m) (C++A)->w.grownBy w' v.ownBlock->K (a.put o.dst (.slice av (n+m) cv)) w'):
  if Region.wanted o (yielded J a.tmps)=true then Oper.wp P o a w K Q else R:=by
 by_cases I:0<m
 ·obtain ⟨g,c,rfl,hl,hn⟩:=oB hnews I;exact step_append_lies w D s x t ho base e i z size bytes ht hi ah hsize Z ai ad v n C hs hown ⟨g,0,none⟩ m c A hx hl hn h1 I Y ab hbase _ rfl (fun g5 cap w' h2 V aj ak=>h _ cap w' h2 V)
 ·obtain rfl:m=0:=by omega
  have ac:A=[]:=iL (by simpa using hnews.1);subst ac;obtain ⟨av,cv,rfl⟩:=aw hown;have ae:Region.wanted o (yielded J a.tmps)=true:=by simp [Region.wanted,D]
  rw [if_pos ae];refine QO ?_;intro hrun;exact h av cv w (by simpa using hown) ⟨rfl,rfl,rfl,bV _,fun _ _ _=>rfl⟩
def oH{s1 E1 xs1}(h:W.ownsRow b1 E1 s1 v1 n1 xs1)(k:W.ownsRow base E size v n xs)(C:W.grownBy w5 v.ownBlock)(D:E1≠E):w5.ownsRow b1 E1 s1 v1 n1 xs1:=ay h (fun g cs f _ A=>C.block g (lt_of_some A) (dV k A D))
def ff(h:am w W)(k:W.ownsRow w.heap.size E size v n xs)(A:W.grownBy w5 v.ownBlock):am w w5:=cA h A h.size (fun j C=>(k.lt j C).1)
def via2{h:Prop}{P:Option Addr->Nat->af->Prop}{A:Option Addr->Nat->af->Act}{C:Option Addr->Nat->af->af}{K:Act->af->Prop}(main:(∀g c w,P g c w->K (A g c w) (C g c w))->h)(key:∀g c w,P g c w->K (A g c w) (C g c w)):h:=main key
def cu.mem{R}:∀(ns:List Nat)(xs:List Ex),cu R ns xs->∀n∈ns,∃x∈xs,R n x
 | [],[],_,n,hn=>by simp at hn
 |m::ns,x::xs,h,n,hn=>by
  rcases List.mem_cons.1 hn with rfl|hn
  ·exact ⟨x,ar,h.1⟩
  obtain ⟨y,C,A⟩:=cu.mem ns xs h.2 n hn;exact ⟨y,by simp [C],A⟩
 | [],_::_,h,_,_=>h.elim
 |_::_,[],h,_,_=>h.elim
def tS{α β:Type}(f:α->List β):∀(l:List α),(∀m∈l,0<(f m).length)->l.length<=(l.flatMap f).length
 | [],_=>ar
 |a::l,h=>by
  have h1:=h a ar;have h2:=tS f l (fun m hm=>h m Ks);exact BU
def tT(f:α->List β)(l:List α)(a:α)(h:a∈l):(f a).length<=(l.flatMap f).length:=by
 obtain ⟨p,q,rfl⟩:=List.append_of_mem h;exact QL
def mD(pl):∀(f n:Nat)(x:Ex),Tr pl f n x->0<(aJ pl f n).length
 |0,_,_,h=>h.elim
 |f+1,n,x,⟨p,hp,h⟩=>by
  rw [aJ,hp]
  rcases h with ⟨h1,hn,h2⟩|⟨h1,h0,hn,h2⟩|⟨h1,h0,hn,h2⟩|⟨h1,h0,R,ns,U,rs,A,C,D,I,J,Q⟩|⟨h1,h0,V,R,ns,U,rs,A,C,D,I,J,Q⟩
  ·simp [h1]
  ·simp [h1]
  ·simp [h1]
  ·have:=mD pl f _ _ C;simp only [h1,true_or,if_true,A,bM,bf];omega
  have:=mD pl f _ _ C;simp only [h1,or_true,if_true,A,bM,bf];omega
def hT(pl):∀(f n:Nat)(x:Ex),Tr pl f n x->(aJ pl f n).length<=1000->gR pl n (aJ pl f n)
 |0,_,_,h,_=>h.elim
 |f+1,n,x,⟨p,hp,h⟩,hl=>by
  have ih:=hT pl f;rw [aJ,hp] at hl ⊢
  rcases h with ⟨h1,hn,h2⟩|⟨h1,h0,hn,h2⟩|⟨h1,h0,hn,h2⟩|⟨h1,h0,Q,ns,x0,rs,h3,h4,h5,D,I,J⟩|⟨h1,h0,R,Q,ns,x0,rs,h3,h4,h5,D,I,J⟩
  ·exact H0
  ·exact H0
  ·exact H0
  ·simp only [h1,true_or,if_true] at hl ⊢;have key:∀m∈p.ps,∃y,Tr pl f m y:=fun m hm=>by
    exact BT
   refine BR pl n p hp h1 (aJ pl f) (fun m hm=> ?_) hl ?_
   ·exact QK
   exact QJ
  simp only [h1,or_true,if_true] at hl ⊢;have key:∀m∈p.ps,∃y,Tr pl f m y:=fun m hm=>by
   exact BT
  refine BS pl n p hp h1 (aJ pl f) (fun m hm=> ?_) hl ?_
  ·exact QK
  exact QJ
def jN(pl:List PV)(m:Nat):List Gr:=match pl[m]? with
 |some p=>p.gs
 |none=>[]
def Y6(gs:List Gr):∀u∈gs.flatMap cO,u.oneCell'=true:=by
 intro u A;obtain ⟨g,_,h⟩:=bZ.1 A;simp only [cO,List.mem_cons,List.not_mem_nil,or_false] at h
 rcases h with rfl|rfl|rfl|rfl<;>rfl
def Ev(b:Nat)(kv rv pv kl rl pl l)(r:Nat)(x lv G w)(h:DM w b kv rv pv kl rl pl l)(ak:rl[r]? =some x)(aJ:gR pl x.ex lv)(aQ:∀m∈lv,m<pl.length)(aG:lv.flatMap (jN pl)=G)(a3:G.length<=1000000)(a5:lv.length<=1000):
  Calls prog 196 #[.pointer (some (aC b 5)),au r] w fun e w'=>∃sv,e=bi sv/\am w w'/\w'.ownsRow w.heap.size 257 4 sv G.length (G.flatMap cO):=by
 obtain ⟨aV,aO,aS,aT,aU⟩:=eN Tryz.infoGr;obtain ⟨g,c,rfl,k0,k1,a8,k3⟩:=h.rat r x ak;have c6:=h.c6;have af:=(bD.1 ak).1;have a7:(r:Int)<(rl.length:Int):=ai;have ab:=aj aG;have C:=aJ b kv _ pv kl rl l w h;go_enter func196,ntmps196;go_wp2_with fail;refine C.mono ?_;rintro e w1 ⟨sv,rfl,aL,ah⟩;obtain ⟨aW,aX,rfl⟩:=aw ah;simp only [List.length_map] at*;go_wp2_with fail
 go_loopw [5,7] (fun aZ Z wr=>∃(k:Nat)(fv:List Gr)(D:Option Addr)(I:Nat),k<=lv.length/\Z=au k/\aZ=aA D fv.length I/\am w wr/\wr.ownsRow w.heap.size 3 1 (aA aW lv.length aX) lv.length (lv.map fun n:Nat=>au n)/\wr.ownsRow w.heap.size 257 4 (aA D fv.length I) fv.length (fv.flatMap cO)/\Hid (fv=(lv.take k).flatMap (jN pl))) (fun _ Z _=>lv.length-(intOf Z).toNat)
 ·exact ⟨0,[],none,0,ai,rfl,rfl,aL,ah,bP,aj ar⟩
 ·obtain ⟨k,fv,D,I,a4,rfl,rfl,J,ag,Q,U⟩:=hrel;have aR:=J.size
  by_cases hlt:k<lv.length
  ·have ae:=aQ _ (br hlt);obtain ⟨q,a1,e1,a9⟩:=aY ag k (au (lv[k]:Nat)) qX;simp only [aK,true_and] at e1;obtain ⟨rfl,rfl⟩:=e1;have ac:=h.below J;have V:=aj (j4 (jN pl) lv k _ (aI hlt));have ad:=oG (jN pl) lv (k+1);rw [aE V,<-aE U,bf,ab.u] at ad;have aP:(k:Int)<(lv.length:Int):=ai;generalize lv[k]=m at*;obtain ⟨a2,a0,ga,gc,pa,pc,sa,sc,rfl,af,ba,bb,bc,bg,bh,bj,bk,bl⟩:=ac.pat m pl[m] (aI ae);have aN:jN pl m=pl[m].gs:=by unfold jN;rw [aI ae]
   rw [aN] at V ad;have c7:=ac.c7;have a6:(m:Int)<(pl.length:Int):=ai;have aF:=af.g;generalize pl[m]=p at*;go_wp2_with fail;have ap:=(by unfold maxLen;omega:fv.length+p.gs.length<=maxLen);have av:=(by omega:(fv.length+p.gs.length)*48<=140737488355328);rename_i K aH;apply via2 (K:=K) (P:=fun A cv w5=>wr.drew.grownBy w5 (Value.slice D fv.length I).ownBlock/\w5.ownsRow w.heap.size 257 4 (aA A (fv.length+p.gs.length) cv) (fv.length+p.gs.length) (fv.flatMap cO++p.gs.flatMap cO))
   case main=>
    intro key
    go_region_law (refine sN rfl (.tmp 24) (.tmp 35) 253 rfl w.heap.size 257 aV _ 4 48 underlying253 aO aS aT aU rfl ax (aA D fv.length I) fv.length (fv.flatMap cO) (by simp [Act.eval]) (cP Q) (aA ga p.gs.length gc) p.gs.length (p.gs.flatMap cO) (by simp [Act.eval]) 0 (cP aF) (Y6 _) ap av aR ?_;intro A cv w5 Y R;have an:=R;have az:=Y)
    all_goals exact key A cv w5 ⟨an,az⟩
   case key=>
    rintro A cv w5 ⟨R,Y⟩;have al:=ff J.drew (cP Q) R;have aB:=oH (cP ag) (cP Q) R ax;refine aH _ _ ?_;go_wp2;go_roundw
    ·exact ⟨k+1,fv++p.gs,A,cv,ai,by go_num,ar,al,aB,by simpa using Y,aj (by rw [aE U,aE V])⟩
    simp [intOf];omega
  have aP:¬((k:Int)<(lv.length:Int)):=ai;have aM:fv=G:=by rw [aE U,cX ai,ab.u]
  have ay:=aj aM;go_wp2;go_ret;rw [<-ay.u];exact ⟨_,rfl,J,Q⟩
def QP (h:aD:=by
 have A:=aj hq;clear hb HI hq;go_wp2;go_roundw
 ·exact ⟨i+1,c',ai,by go_num,rfl,HBI,aj (by rw [A];exact Kt)⟩
 simp [intOf];omega):aD:=h
def mE (h:aD:=by
 go_wp2;go_roundw
 ·exact ⟨k+1,_,ai,by go_num,rfl,below_drewN HBI _,BV⟩
 simp [intOf];omega):aD:=h
def Ew(base:Nat)(v:ag)(l:List Nat)(n:Nat)(w:af)(h:w.ownsRow base 3 1 v l.length (l.map fun n:Nat=>au n))(U:l.length<=1000000000):
  Calls prog 194 #[v,au n] w fun e w'=>e=bi (.bool (l.any fun k=>k==n))/\am w w':=by
 obtain ⟨Y,Z,rfl⟩:=aw h;generalize C:(l.any fun k=>k==n)=R;have HR:=(C:((l.drop 0).any fun k=>k==n)=R);clear C;go_enter func194,ntmps194;go_wp2_with fail
 go_loopw [5] (fun u wr=>∃k:Nat,k<=l.length/\u=au k/\am w wr/\Hid (((l.drop k).any fun k=>k==n)=R)) (fun u _=>l.length-(intOf u).toNat)
 ·exact vR
 ·obtain ⟨k,Q,rfl,hb,HQ⟩:=hrel
  by_cases hlt:k<l.length
  ·obtain ⟨q,J,e1,V⟩:=aY (aB h hb) k (au (l[k]:Nat)) qX;simp only [aK,true_and] at e1;obtain ⟨rfl,rfl⟩:=e1;rw [c8 hlt,kj] at HQ;generalize l[k]=m at*;have I:(k:Int)<(l.length:Int):=ai
   by_cases A:m=n
   ·have D:((m:Int)==(n:Int))=true:=by rw [dS];omega
    rw [dS.2 A,so] at HQ;clear A;exact Bm
   have D:((m:Int)==(n:Int))=false:=by rw [bR];omega
   rw [bR.2 A,Bool.false_or] at HQ;clear A;exact Pq
  have I:¬((k:Int)<(l.length:Int)):=ai;exact Pp
def eI(best:Int)(p:Nat):Int:=if best<0\/(p:Int)<best then p else best
def tU(x:ae×Nat):List (ae×Nat)->Int->Int
 | [],c=>c
 |y::ys,c=>tU x ys (if eqs y.1 x.1 then eI c x.2 else c)
def nX:List (ae×Nat)->List (ae×Nat)->Int->Int
 |_,[],c=>c
 |acc,x::xs,c=>nX (acc++[x]) xs (tU x acc c)
def tV(x:RV):List RV->Int->Int
 | [],c=>c
 |y::ys,c=>tV x ys (if eqs y.kd x.kd&&eqs y.nm x.nm then eI c x.pl else c)
def qf:List RV->List RV->Int->Int
 |_,[],c=>c
 |acc,x::xs,c=>qf (acc++[x]) xs (tV x acc c)
def wI(kl:List (ae×Nat))(rl:List RV):Int:=qf [] rl (nX [] kl (-1))
def H3(b kv rv pv kl rl pl l w)(h:DM w b kv rv pv kl rl pl l):
  Calls prog 128 #[.pointer (some (aC b 5))] w fun e w'=>e=bi (au (wI kl rl))/\am w w':=by
 obtain ⟨aJ,aL,rfl⟩:=aw h.kt;obtain ⟨aM,rc,rfl⟩:=aw h.rt;have H:=aj h;have aG:=h.kn;have aH:=h.rn;clear h;go_enter func128,ntmps128;go_wp2_with fail
 go_loopw [3,4] (fun J ab wr=>∃(i:Nat)(c:Int),i<=kl.length/\ab=au i/\J=au c/\am w wr/\Hid (nX (kl.take i) (kl.drop i) c=nX [] kl (-1))) (fun _ ab _=>kl.length-(intOf ab).toNat)
 ·exact ⟨0,-1,ai,rfl,rfl,az _ _,aj ar⟩
 ·obtain ⟨i,c,hi,rfl,rfl,hb,C⟩:=hrel;have c5:=(H.below hb).c5;have Q:=aj hb
  by_cases I:i<kl.length
  ·have Z:(i:Int)<(kl.length:Int):=by omega
   have hq:=aE C;rw [c8 I,nX,<-cD I] at hq;have Kt:=aj hq;obtain ⟨al,gc,e1,ag,ah⟩:=(H.below hb).kat i kl[i] (aI I);simp only [aK,true_and] at e1;obtain ⟨rfl,rfl⟩:=e1;have U:=aj (aI I);generalize kl[i]=x at*;clear hb C hq;go_wp2_with fail
   go_loopw [3,5] (fun J ac af=>∃(k:Nat)(c':Int),k<=i/\ac=au k/\J=au c'/\am w af/\Hid (tU x ((kl.take i).drop k) c'=tU x (kl.take i) c)) (fun _ ac _=>i-(intOf ac).toNat)
   ·exact ⟨0,c,ai,rfl,rfl,Q,aj ar⟩
   clear ag ah c5;obtain ⟨k,c',ax,rfl,rfl,hb,HI⟩:=hrel;have c5:=(H.below hb).c5;obtain ⟨al,gc,e1,ag,ah⟩:=(H.below hb).kat i x U;simp only [aK,true_and,aR,cg,and_true] at e1;obtain ⟨rfl,rfl⟩:=e1;have HBI:=aj hb
   by_cases aA:k<i
   ·have V:(k:Int)<(i:Int):=by omega
    have Y:k<kl.length:=ai;have ay:(k:Int)<(kl.length:Int):=ai;obtain ⟨av,ap,e1,aB,aF⟩:=(H.below hb).kat k kl[k] (aI Y);simp only [aK,true_and,aR,cg,and_true] at e1;obtain ⟨rfl,rfl⟩:=e1;have hq:=aE HI;rw [c8 mV,List.getElem_take,tU] at hq;generalize kl[k]=y at*
    cases D:eqs y.1 x.1
    ·rw [D] at hq;simp only [bJ,aZ] at hq;rw [aQ] at D;have BV:=aj hq;clear hb HI hq;go_wp2
     go_quiet (fail)
     exact mE
    rw [D] at hq;simp only [if_true] at hq;rw [aQ] at D
    by_cases h0:c'<0
    ·rw [show eI c' x.2=x.2 from by simp [eI,h0]] at hq;have BV:=aj hq;clear hb HI hq;go_wp2
     go_quiet (fail)
     exact mE
    by_cases h1:(x.2:Int)<c'
    ·rw [show eI c' x.2=x.2 from by simp [eI,h1]] at hq;have BV:=aj hq;clear hb HI hq;go_wp2
     go_quiet (fail)
     exact mE
    rw [show eI c' x.2=c' from by simp [eI,h0,h1]] at hq;have BV:=aj hq;clear hb HI hq;go_wp2
    go_quiet (fail)
    exact mE
   have V:¬((k:Int)<(i:Int)):=ai;have hq:=aE HI;rw [eC mV,tU] at hq;exact QP
  have Z:¬((i:Int)<(kl.length:Int)):=ai;have hq:=aE C;rw [eC ai,nX] at hq;have ak:=aj hq;clear hb C hq;go_wp2_with fail;clear c5
  go_loopw [3,6] (fun J ad wr=>∃(i:Nat)(c:Int),i<=rl.length/\ad=au i/\J=au c/\am w wr/\Hid (qf (rl.take i) (rl.drop i) c=wI kl rl)) (fun _ ad _=>rl.length-(intOf ad).toNat)
  ·exact ⟨0,c,ai,rfl,rfl,Q,aj (by rw [ak];rfl)⟩
  clear Q ak;obtain ⟨i,c,hi,rfl,rfl,hb,C⟩:=hrel;have c6:=(H.below hb).c6;have Q:=aj hb
  by_cases I:i<rl.length
  ·have Z:(i:Int)<(rl.length:Int):=by omega
   have hq:=aE C;rw [c8 I,qf,<-cD I] at hq;have Kt:=aj hq;have U:=aj (aI I);generalize rl[i]=x at*;clear hb C hq;go_wp2_with fail
   go_loopw [3,7] (fun J ae af=>∃(k:Nat)(c':Int),k<=i/\ae=au k/\J=au c'/\am w af/\Hid (tV x ((rl.take i).drop k) c'=tV x (rl.take i) c)) (fun _ ae _=>i-(intOf ae).toNat)
   ·exact ⟨0,c,ai,rfl,rfl,Q,aj ar⟩
   clear c6;obtain ⟨k,c',ax,rfl,rfl,hb,HI⟩:=hrel;have c6:=(H.below hb).c6;have HBI:=aj hb
   by_cases aA:k<i
   ·have V:(k:Int)<(i:Int):=by omega
    obtain ⟨al,gc,e1,ag,ah,aN,aO⟩:=(H.below hb).rat i x U;simp only [aK,true_and] at e1;obtain ⟨rfl,rfl⟩:=e1;have Y:k<rl.length:=ai;have ay:(k:Int)<(rl.length:Int):=ai;obtain ⟨av,ap,e1,aB,aF,aP,aS⟩:=(H.below hb).rat k rl[k] (aI Y);simp only [aK,true_and,aR,cg,and_true] at e1;obtain ⟨rfl,rfl⟩:=e1;have hq:=aE HI;rw [c8 mV,List.getElem_take,tV] at hq;generalize rl[k]=y at*
    cases D:eqs y.kd x.kd
    ·rw [D,eM] at hq;simp only [bJ,aZ] at hq;rw [aQ] at D;have BV:=aj hq;clear hb HI hq;go_wp2
     go_quiet (fail)
     exact mE
    rw [D,Bool.true_and] at hq;rw [aQ] at D
    cases R:eqs y.nm x.nm
    ·rw [R] at hq;simp only [bJ,aZ] at hq;rw [aQ] at R;have BV:=aj hq;clear hb HI hq;go_wp2
     go_quiet (fail)
     exact mE
    rw [R] at hq;simp only [if_true] at hq;rw [aQ] at R
    by_cases h0:c'<0
    ·rw [show eI c' x.pl=x.pl from by simp [eI,h0]] at hq;have BV:=aj hq;clear hb HI hq;go_wp2
     go_quiet (fail)
     exact mE
    by_cases h1:(x.pl:Int)<c'
    ·rw [show eI c' x.pl=x.pl from by simp [eI,h1]] at hq;have BV:=aj hq;clear hb HI hq;go_wp2
     go_quiet (fail)
     exact mE
    rw [show eI c' x.pl=c' from by simp [eI,h0,h1]] at hq;have BV:=aj hq;clear hb HI hq;go_wp2
    go_quiet (fail)
    exact mE
   have V:¬((k:Int)<(i:Int)):=ai;have hq:=aE HI;rw [eC mV,tV] at hq;exact QP
  have Z:¬((i:Int)<(rl.length:Int)):=ai;have hq:=aE C;rw [eC ai,qf] at hq;have an:=aj hq;clear hb C hq;go_wp2;go_ret;exact ⟨by rw [<-an];rfl,Q⟩
def QT (h:aD:=by
 go_wp2;go_roundw
 ·exact ⟨k+1,fv,fa,fc,ai,by go_num,rfl,B2,G2,R2,aj N0.u.symm⟩
 simp [intOf];omega):aD:=h
def sO(a):eqs a em=(a.toList== []):=by rw [aQ,show em.toList=[] from by rw [aT];rfl]
def GrC(rl:List RV)(pl:List PV)(r:Nat)(G:List Gr):Prop:=∀(b:Nat) (kv rv pv:ag) (kl:List (ae×Nat)) (l:List PX) (w:af),DM w b kv rv pv kl rl pl l->
 Calls prog 196 #[.pointer (some (aC b 5)),au r] w fun e w'=>∃sv,e=bi sv/\am w w'/\w'.ownsRow w.heap.size 257 4 sv G.length (G.flatMap cO)
def dc(k n):∀(l:List RV)(i:Nat),bh k n l i= -1\/∃j:Nat,bh k n l i=j/\i<=j/\j<i+l.length
 | [],i=> .inl rfl
 |x::l,i=>by
  rw [bh]
  split
  ·exact .inr ⟨i,rfl,ai,ar⟩
  rcases dc k n l (i+1) with h|⟨j,h1,h2,A⟩
  ·exact .inl h
  exact .inr ⟨j,h1,ai,aS⟩
def hU(rl:List RV)(rel:ae)(g:Gr):List Nat:=if eqs (bH g) em&&decide (0<=bh g.ty rel rl 0) then [(bh g.ty rel rl 0).toNat] else []
def fy(rl:List RV)(rel:ae)(G:List Gr):List Nat:=G.flatMap (hU rl rel)
def QU(rl rel g):(hU rl rel g).length<=1:=by unfold hU;split<;>simp
def BX(rl rel):∀(G:List Gr),(fy rl rel G).length<=G.length
 | []=>by simp [fy]
 |g::G=>by
  have h1:=QU rl rel g;have h2:=BX rl rel G;unfold fy at*;exact BU
def zV(b kv rv pv kl rl pl l r D y w)(h:DM w b kv rv pv kl rl pl l)(al:GrC rl pl r D)(aF:D.length<=1000000):
  Calls prog 230 #[.pointer (some (aC b 5)),au r,an y] w fun e w'=>∃sv,e=bi sv/\am w w'/\w'.ownsRow w.heap.size 3 1 sv (fy rl y D).length ((fy rl y D).map fun n:Nat=>au n):=by
 have C:=al b kv rv pv kl l w h;generalize V:fy rl y D=T;have ah:=aj (show D.flatMap (hU rl y)=T from V);have aY:T.length<=1000000:=by rw [<-V];exact aV (BX rl y D) aF
 clear al V;go_enter func230,ntmps230;go_wp2_with fail;refine C.mono ?_;rintro e w1 ⟨sv,rfl,ap,ad⟩;obtain ⟨aO,aQ,rfl⟩:=aw ad;clear C;go_wp2_with fail
 go_loopw [7,9] (fun aT af wr=>∃(k:Nat)(fv:List Nat)(fa:Option Addr)(fc:Nat),k<=D.length/\af=au k/\aT=aA fa fv.length fc/\am w wr/\wr.ownsRow w.heap.size 257 4 (aA aO D.length aQ) D.length (D.flatMap cO)/\wr.ownsRow w.heap.size 3 1 (aA fa fv.length fc) fv.length (fv.map fun n:Nat=>au n)/\Hid (fv=(D.take k).flatMap (hU rl y))) (fun _ af _=>D.length-(intOf af).toNat)
 ·exact ⟨0,[],none,0,ai,rfl,rfl,ap,ad,bP,aj ar⟩
 ·clear ap ad;obtain ⟨k,fv,fa,fc,a2,rfl,rfl,hb,Y,hrow,Q⟩:=hrel;have aN:=hb.size
  by_cases ac:k<D.length
  ·obtain ⟨ak,aU,e1,hc⟩:=bn cO 4 (fun _=>rfl) Y k D[k] (aI ac);simp only [aK,true_and] at e1;obtain ⟨rfl,rfl⟩:=e1;have R:=aj (j4 (hU rl y) D k _ (aI ac));have ab:=oG (hU rl y) D (k+1);rw [R.u,<-aE Q,bf,ah.u] at ab;have aJ:(k:Int)<(D.length:Int):=ai;have az:=aI ac;generalize D[k]=x at*;have k0:wr.cell? (aC ak (k*4))=some (an x.ty):=hc 0 _ ai rfl;have C:=eh b kv rv pv kl rl pl l x.ty y wr (h.below hb);clear hc;go_wp2_with fail;refine C.mono ?_;rintro e ag ⟨rfl,U⟩;have B2:=hb.trans (U.mono aN);have G2:=aB Y U;have R2:=aB hrow U;obtain ⟨aX,aW,e1,hc⟩:=bn cO 4 (fun _=>rfl) G2 k x az;simp only [aK,true_and,aR,cg,and_true] at e1;obtain ⟨rfl,rfl⟩:=e1;have k1:ag.cell? (aC ak (k*4+1))=some (an (bH x)):=hc 1 _ ai rfl;have aS:=B2.size;clear U C hb Y hrow hc k0
   cases I:eqs (bH x) em
   ·have aM:((bH x).toList== [])=false:=by rw [<-I,sO]
    have N0:=aj (show (D.take (k+1)).flatMap (hU rl y)=fv from by rw [R.u,<-aE Q];simp [hU,I]);clear I;exact QT
   have aM:((bH x).toList== [])=true:=by rw [<-I,sO]
   rcases dc x.ty y rl 0 with J|⟨j,J,a0,a1⟩
   ·have N0:=aj (show (D.take (k+1)).flatMap (hU rl y)=fv from by rw [R.u,<-aE Q];simp [hU,J]);clear I;rw [J];exact QT
   have ae:hU rl y x=[j]:=by simp [hU,I,J]
   have N0:=aj (show (D.take (k+1)).flatMap (hU rl y)=fv++[j] from by rw [R.u,<-aE Q,ae]);rw [ae] at ab;simp only [List.length_cons,List.length_nil] at ab;clear I ae;rw [J];have aZ:(0:Int)<=(j:Int):=ai;clear J;go_wp2_with (at_builtin;go_must (refine eB rfl underlying29 Tryz.infoInt w.heap.size (R2.alloc _) ag.heap.size 1 [au j] (ag.heap.size+1) ?hrest));intro g5 be w5 aL Z aG aH;have av:=ff (B2.alloc aS _) (R2.alloc _) Z;have ay:=oH (G2.alloc _) (R2.alloc _) Z ax;clear Z aG aH B2 G2 R2 k1;go_wp2;go_roundw
   ·exact ⟨k+1,fv++[j],some (aP g5),be,ai,by go_num,ar,av,ay,by simpa using aL,aj N0.u.symm⟩
   simp [intOf];omega
  have aJ:¬((k:Int)<(D.length:Int)):=ai;have hfv:fv=T:=by rw [aE Q,cX ai,ah.u]
  exact QG
