import Derived.Test.YtlbpnlngckgcbaaGreatDoorM14
import Derived.Test.YtlbpnlngckgcbaaGreatDoorM13
import Derived.Deep.Upon
set_option linter.all false
set_option maxHeartbeats 4000000
set_option maxRecDepth 100000
namespace Go.Proofs.YtlbpnlngckgcbaaGreatDoor
open Go.RowKit Go.PlainAid Go.Proofs.Tryz
variable {aD br:Prop} {pl:List PV} {f m base size n i' d' e' a' g5 bf g c b1 n1:Nat} {ps:List Nat} {T e T' E:TypeId} {w w' W w5:af} {v pv pv' v1:ag} {xs:List ag} {cs:Array ag} {α β:Type} {P:Program} {rest:List Oper}
abbrev AK:=@List.length_eq_one_iff
abbrev AL(a0:ag)(a1:ag)(a2:ag)(a3:ag)(a4:ag):Obj:=.cells #[a0,a1,a2,a2,a3,a4,a1,a1] 255
abbrev iO(a0:ag):Obj:=.cells #[a0] 3
def AM(q:br) (h:cj br->aD:=by
 intro zq;have h1':¬((ps.length:Int)=1):=ai;have h1b:((ps.length:Int)==1)=false:=bW.2 h1'
 revert h1' h1b
 exact zq.1):aD:=h ⟨q⟩
def Jw{a c}(h:eqs a c=true):a=c:=by
 unfold eqs at h;rw [dQ] at h;rw [<-cX a,<-cX c,h]
def Jx(b:Nat)(s:ae)(tv:ag)(i d e0 a:Nat)(kv rv pv:ag)(x:ae)(w:af)(h:RS w b s tv i d e0 a kv rv pv)(y:Bool)(A:(e0≠0/\y=false)\/(e0=0/\eqs (TT s i) x=y)):
  Calls prog 187 #[bc b,aj x] w fun e w'=>e=bj (.bool y)/\an w w':=by
 rcases A with ⟨h0,rfl⟩|⟨rfl,A⟩
 ·exact mi b s tv i d e0 a kv rv pv x w h h0
 ·exact ea b s tv i d a kv rv pv x w h y A
def ChC(T:Nat->ae)(P:Nat->Nat)(signs:List ae)(part:Nat->eJ Ex)(i a ex n:Nat)(R:eJ Ex)(k:Nat)(more:Bool)(j e aa:Nat)(fM:List PV)(ps:List Nat)(fK:List Tk)(st:ae)(A:Nat):Prop:=
 (more=true/\e=0/\a=aa/\fM.length+i<=n+j/\((i=j/\ps=[]/\fK=[]/\st=em/\A=0/\mN T P signs part k none j=R)\/(i<j/\fM.length+i+1<=n+j/\(st=sg 38\/st=sg 45)/\∃x,ly fM ps fK x/\mN T P signs part k (some (x,st,A)) j=R)))\/
 (more=false/\e=0/\a=aa/\fM.length+i<=n+j/\i<j/\(ps.length≠1->fM.length+i+1<=n+j)/\∃x,ly fM ps fK x/\R=.ok (x,j))\/
 (more=false/\e≠0/\fM.length+i<=n+j+ex/\i<=j/\ps≠ []/\∃h,P h=aa/\R=.error (e,h))
structure ChJ(base b:Nat)(s:ae)(tv:ag)(d:Nat)(kv rv pv:ag)(i:Nat)(pl:List PV)(l:List PX)(w:af)(wr:af)(kW:ag)(j e aa:Nat)(fM:List PV)(lr:List PX)(ps:List Nat)(pa:Option Addr)(pc:Nat)(fK:List Tk)(sa:Option Addr)(sc:Nat)(st:ae)(sp:Nat):Prop where
 ch:tZ base b s tv d kv rv pv i pl l w 4 wr kW j e aa fM lr ps pa pc fK sa sc
 sb:aL wr (w.heap.size+1) #[aj st,ar sp,.bool false] 259
 ns:(Value.slice sa fK.length sc).ownBlock≠some (w.heap.size+1)
 lp:e=0->ps.length<=j
 ls:fK.length=ps.length
 da:∀x∈lr,xS (some (w.heap.size+1)) x
def Tryz.infoInt:(Tryz.prog.info? 3).map (fun i=>(i.zero,i.size,i.bytes))=some (some (ar 0),1,8):=by kernel_rfl
def Gh(base b s tv i d a kv rv pv pl l w)(h:RS w b s tv i d 0 a kv rv pv)(cz:PT base w pv pl l)(ac:base<=b)(V:base<=w.heap.size)(dE:pl.length<=i)(room inner ex)(hex:ex<=900)(c9:room=true->d<4/\qn s inner (d+1) ex)(c5:room=false->d=4):
  Calls prog 251 #[bc b] w (qm base b s tv i d a kv rv pv pl l w (ex+2) (hZ (TT s) (PP s) room inner i)):=by
 generalize bv:hZ (TT s) (PP s) room inner i=R;unfold hZ at bv;rw [vk] at bv;have bn:=ak bv;have bH:=ak h;have bJ:=ak cz;obtain ⟨g,c,e0,hi,t0,t1,t2⟩:=h.at;obtain ⟨bj,b4,cB,r3,cC,dn,dp,dq⟩:=h.blk.eight;have bC:=h.blk.fz;have c7:=h.lt;have dy:=ak e0;rw [e0] at bj;have dA:=ei t0;have dd:=ce w _ bj;have de:=ce w _ b4;have df:=ce w _ t1;clear h cz e0 bv;go_enter func251,ntmps251;go_wp2_with fail
 go_region_held3 (fun w'=>w'.cell? (aN b)=some (aw (some (aN g)) (jz s).length c)/\w'.cell? (aC b 1)=some (ar i)/\w'.cell? (aC g (i*3+1))=some (ar (PP s i))) (go_keep) (fail)
 rename_i b3;clear b3 bj b4 cB r3 cC dn dp dq t0 t1 t2 dd de df bC;have b1:an w (((w.alloc (AL ar 4 aw none 0 0 aj ⟨#[]⟩ ar (PP s i) ar 0)).alloc (iJ aj ⟨#[]⟩ ar 0)).drew):=(((aA _ w).alloc aH _).alloc au _).drew;have bq:=ak (show ChJ base b s tv d kv rv pv i pl l w (((w.alloc (AL ar 4 aw none 0 0 aj ⟨#[]⟩ ar (PP s i) ar 0)).alloc (iJ aj ⟨#[]⟩ ar 0)).drew) pv i 0 a pl l [] none 0 [] none 0 em 0 from
  ⟨⟨Fr.of_below b1 V,bH.u.below b1,bJ.u.but (But.of_below (b:=b) b1) bH.u.blk ac V,((aL.new w _ _).alloc _).drew,fun e=>by
    have:=(bJ.u.row.lt _ e).2;omega,bQ,bQ,fun x I g J e=>(by cases e),fun x I g J e=>(by cases e),⟨[],au⟩,⟨[],au⟩,c7,fun g J=>(bH.u.tok.lt g J).2⟩,
   (aL.new' (w.alloc _) _ _ _ au).drew,fun e=>(by cases e),fun _=>au,rfl,fun x I g J e=>by
    have:=(bJ.u.rep x I).lt g J;simp only [aR] at e;omega⟩)
 clear b1;go_wp2_with fail
 go_loopg [5] 512 (fun k du wr=>∃(more:Bool)(kW:ag)(j e aa:Nat)(fM:List PV)(lr:List PX)(ps:List Nat)(pa:Option Addr)(pc:Nat)(fK:List Tk)(sa:Option Addr)(sc:Nat)(st:ae)(Q:Nat),du=.bool more/\ChJ base b s tv d kv rv pv i pl l w wr kW j e aa fM lr ps pa pc fK sa sc st Q/\(more=true->512<=k+j)/\Hid (ChC (TT s) (PP s) [sg 38,sg 45] (eQ (TT s) (PP s) room inner) i a (ex+1) pl.length R k more j e aa fM ps fK st Q))
 ·exact ⟨true,pv,i,0,a,pl,l,[],none,0,[],none,0,em,0,rfl,bq.u,(fun _=>ai),ak (.inl ⟨rfl,rfl,rfl,ai,.inl ⟨rfl,rfl,rfl,rfl,rfl,bn.u⟩⟩)⟩
 ·obtain ⟨more,kW,j,e,aa,fM,lr,ps,pa,pc,fK,sa,sc,st,Q,rfl,U,bz,af⟩:=hrel;have dF:=U.ch.rs.gd.le;have dH:=U.ch.rs.sz;have bx:base<=wr.heap.size:=aV V U.ch.fr.below.size
  rcases af.u with ⟨rfl,rfl,rfl,hn,hs⟩|⟨rfl,rfl,rfl,hn,a6,bg,x,cp,Z⟩|⟨rfl,a5,hn,a6,cy,am,rfl,Z⟩
  ·have bz:=bz rfl;obtain ⟨aU,rfl⟩:∃f,gk=f+1:=⟨gk-1,ai⟩;have bo:=ak hs;have C:=ak (Lq base b s tv j d a kv rv kW fM lr wr U.ch.rs U.ch.pt ac bx ai room inner ex c9 c5);have ah:=ak U;have lp:=U.lp rfl;have a6:i<=j:=by rcases hs with ⟨h,_⟩|⟨h,_⟩<;>omega
   have cb:=ak U.ls;have ls:=Nat.le_of_eq U.ls;clear U af hs bn bq;go_wp2_with fail;refine C.u.mono ?_;rintro e' w1 ⟨m,rfl,aP,ZW,l1,t,tl,fr,pt,rfl,rfl,bZ,Z⟩;have bR:=ak (fr.blk ah.u.sb ai (gN ah.u.ch.pt.row ah.u.sb ay));have cd:=ak ah.u.ns;have a8:=ak (show ∀x∈lr++tl,xS (some (w.heap.size+1)) x from fun x I=>by
    rw [aW] at I
    rcases I with I|I
    ·exact ah.u.da x I
    intro g J e;have:=bZ x I g J;have:=ah.u.sb.lt;simp only [aR] at e;omega)
   have cZ:base<=w1.heap.size:=aV bx fr.below.size;obtain ⟨e1,Y,A,rs,cu,b9⟩:∃e1 Y A,RS w1 b s tv A d e1 Y kv rv aP/\(e1=0->j<A)/\((e1≠0/\j<=A/\(fM++t).length+j<=fM.length+A+(ex+1)/\∃am,Y=PP s am/\eQ (TT s) (PP s) room inner j=.error (e1,am))\/(e1=0/\a=Y/\j<A/\(fM++t).length+j<=fM.length+A/\∃y f,Tr (fM++t) f m y/\eQ (TT s) (PP s) room inner j=.ok (y,A))):=by
    cases aE:eQ (TT s) (PP s) room inner j with
    |error er=>
     obtain ⟨c0,am⟩:=er;rw [aE] at Z;obtain ⟨cr,A,az,rs,be⟩:=Z;exact ⟨c0,_,A,rs,fun e=>absurd e cr,.inl ⟨cr,az,be,am,rfl,rfl⟩⟩
    |ok yy=>
     obtain ⟨y,A⟩:=yy;rw [aE] at Z;obtain ⟨rs,az,be,f1,bA⟩:=Z;exact ⟨0,a,A,rs,fun _=>az,.inr ⟨rfl,rfl,az,be,y,f1,bA,rfl⟩⟩
   have ap:=ak (ah.u.ch.call fr pt rs bZ (ZW:=[]) (l1:=[]));obtain ⟨av,ax,cO,cP,hc⟩:∃av ax:Bool,((e1≠0/\av=false)\/(e1=0/\eqs (TT s A) (sg 38)=av))/\((e1≠0/\ax=false)\/(e1=0/\eqs (TT s A) (sg 45)=ax))/\((av=false/\ax=false/\ChC (TT s) (PP s) [sg 38,sg 45] (eQ (TT s) (PP s) room inner) i a (ex+1) pl.length R aU false A e1 Y (fM++t) (ps++[m]) (fK++[⟨bB st,Q,false⟩]) st Q)\/((av=true/\ax=false\/av=false/\ax=true)/\e1=0/\a=Y/\(TT s A=sg 38\/TT s A=sg 45)/\ChC (TT s) (PP s) [sg 38,sg 45] (eQ (TT s) (PP s) room inner) i a (ex+1) pl.length R aU true (A+1) 0 a (fM++t) (ps++[m]) (fK++[⟨bB st,Q,false⟩]) (TT s A) (PP s A))):=by
    rcases b9 with ⟨a5,az,be,am,rfl,aE⟩|⟨rfl,rfl,az,be,y,f,bA,aE⟩
    ·refine ⟨false,false,.inl ⟨a5,rfl⟩,.inl ⟨a5,rfl⟩,.inl ⟨rfl,rfl,.inr (.inr ⟨rfl,a5,ai,ai,au,am,rfl,?_⟩)⟩⟩
     rcases bo.u with ⟨_,_,_,_,_,h⟩|⟨_,_,_,x,_,h⟩<;>(rw [<-h];exact vm aE)
    have cR:∃x,ly (fM++t) (ps++[m]) (fK++[⟨bB st,Q,false⟩]) x/\joinL (TT s) (PP s) [sg 38,sg 45] (eQ (TT s) (PP s) room inner) (aU+1) x A=R:=by
     rcases bo.u with ⟨_,rfl,rfl,rfl,rfl,h⟩|⟨_,_,db,x,I,h⟩
     ·rw [ub aE] at h;exact ⟨_,ly.one bA,h⟩
     rw [ub aE] at h;exact ⟨_,I.snoc bA st Q db,h⟩
    have bI:(ps++[m]).length≠1->(fM++t).length+i+1<=pl.length+A:=fun c8=>by
     rcases bo.u with ⟨_,rfl,_⟩|⟨_,bg,_⟩
     ·exact absurd rfl c8
     omega
    obtain ⟨x,I,a7⟩:=cR
    cases bU:eqs (TT s A) (sg 38)
    ·cases bV:eqs (TT s A) (sg 45)
     ·refine ⟨false,false,.inr ⟨rfl,rfl⟩,.inr ⟨rfl,rfl⟩,.inl ⟨rfl,rfl,.inr (.inl ⟨rfl,rfl,rfl,ai,ai,bI,x,I,?_⟩)⟩⟩;rw [Dd (by simp [gL,bU,bV])] at a7;exact a7.symm
     have z:=Jw bV;refine ⟨false,true,.inr ⟨rfl,rfl⟩,.inr ⟨rfl,rfl⟩,.inr ⟨.inr ⟨rfl,rfl⟩,rfl,rfl,.inr z,.inl ⟨rfl,rfl,rfl,ai,.inr ⟨ai,ai,.inr z,x,I,?_⟩⟩⟩⟩;rw [rM (by simp [gL,bV])] at a7;exact a7
    have z:=Jw bU;refine ⟨true,false,.inr ⟨rfl,rfl⟩,.inr ⟨rfl,by rw [z];decide⟩,.inr ⟨.inl ⟨rfl,rfl⟩,rfl,rfl,.inl z,.inl ⟨rfl,rfl,rfl,ai,.inr ⟨ai,ai,.inl z,x,I,?_⟩⟩⟩⟩;rw [rM (by simp [gL,bU])] at a7;exact a7
   have cl:=ak cO;have cm:=ak cP;have af:=ak hc;clear fr pt rs bZ C ah b9 Z cO cP hc bo;have dI:=ap.u.rs.sz;have dG:=ap.u.rs.gd.le;obtain ⟨aF,p1,p2,aG,aI,aJ,aM,aO⟩:=ap.u.box.eight;obtain ⟨cD,cE,cF⟩:=bR.u.three;have dx:=ap.u.box.fz;have dN:=ap.u.box.lt;have dO:=bR.u.lt;have cf:=ak ap.u.prow;go_wp2_with (at_builtin;go_must (refine ez rfl underlying29 Tryz.infoInt w.heap.size (cf.u.alloc _) w1.heap.size 1 [ar m] (w1.heap.size+1) ?_));intro g5 bf w5 cw b0 co dB;obtain ⟨bs,b5⟩:=ap.u.grownP cZ ac V b0 cw co;have bD:=ak b5;have al:=bR.u.alloc (iO ar m);have bS:=ak (show aL w5 (w.heap.size+1) _ 259 from (b0.block _ al.lt (own_ne (cf.u.alloc _) al ay)).trans al);clear al;obtain ⟨dr,ds,dt⟩:=bS.u.three;have cA:¬(w.heap.size+1=w.heap.size):=ai;have dS:¬(w.heap.size=w.heap.size+1):=ai;have dQ:=bS.u.lt;obtain ⟨dg,Y,dh,di,dj,dk,dl,dm⟩:=bs.eight;have zq:=bs.fz;have dP:=bs.lt;clear cw b0 co bs b5 aF p1 p2 aG aI aJ aM aO cD cE cF dx;have c2:base<=(w5.setCell (aC w.heap.size 6) (aw (some (aN g5)) (ps.length+1) bf)).heap.size:=aV V bD.u.fr.below.size;go_wp2_with (at_builtin;go_must (refine ez rfl underlying249 Tryz.infoTk w.heap.size ((bD.u.srow).alloc _) w5.heap.size 1 (fH ⟨bB st,Q,false⟩) (w5.heap.size+1) ?_));intro aY aT cN cx b2 bX dC;obtain ⟨bt,b6⟩:=bD.u.grownS c2 ac V b2 cx (by simpa using bX);have bl:=ak b6;have al:=(show aL (w5.setCell (aC w.heap.size 6) (aw (some (aN g5)) (ps.length+1) bf)) (w.heap.size+1) #[aj st,ar Q,.bool false] 259 from bS.u.other cA _).alloc (iJ aj st ar Q);have ci:=ak (show aL cN (w.heap.size+1) _ 259 from (b2.block _ al.lt (fun e=>cd.u e.symm)).trans al);obtain ⟨cG,v1,cH,cI,cJ,cK,cL,cM⟩:=bt.eight;have cQ:=bt.fz;have dR:=bt.lt;have ba:=ak (show (Value.slice (some (aN aY)) (fK.length+1) aT).ownBlock≠some (w.heap.size+1) from fun e=>by
    simp only [Value.ownBlock,aR] at e;subst e
    rcases bX with e|e
    ·exact cd.u e
    omega)
   clear cx b2 bX bt b6 al dg Y dh di dj dk dl dm zq dr ds dt;have cq:base<=(cN.setCell (aC w.heap.size 7) (aw (some (aN aY)) (fK.length+1) aT)).heap.size:=aV V bl.u.fr.below.size;go_wp2_with fail;refine (Jx b s tv A d e1 Y kv rv aP (sg 38) _ bl.u.rs av cl.u).mono ?_;rintro e' dv ⟨rfl,bw⟩;have bE:=ak (bl.u.below bw cq ac);have ck:=ak ((ci.u.other cA _).below bw);have c4:base<=dv.heap.size:=aV cq bw.size;clear bw bl ci;go_wp2_with fail;refine (Jx b s tv A d e1 Y kv rv aP (sg 45) _ bE.u.rs ax cm.u).mono ?_;rintro e' dw ⟨rfl,bY⟩;have ab:=ak (bE.u.below bY c4 ac);have aQ:=ak (ck.u.below bY);clear bY bE ck cl cm
   rcases af.u with ⟨rfl,rfl,bh⟩|⟨⟨rfl,rfl⟩|⟨rfl,rfl⟩,rfl,rfl,bC,bh⟩
   ·have bK:=ak (show ChJ base b s tv d kv rv pv i pl l w dw aP A e1 Y (fM++t) (lr++tl) (ps++[m]) (some (aN g5)) bf (fK++[⟨bB st,Q,false⟩]) (some (aN aY)) aT st Q from ⟨ab.u,aQ.u,ba.u,fun e=>by have:=cu e;simp;omega,by have:=cb.u;simp [this],a8.u⟩);have bM:=ak bh;clear cG v1 cH cI cJ cK cL cM cQ bh af;go_wp2
    go_roundg aU
    case measure=>omega
    case rel=>exact ⟨false,aP,A,e1,Y,fM++t,lr++tl,ps++[m],some (aN g5),bf,fK++[⟨bB st,Q,false⟩],some (aN aY),aT,st,Q,rfl,bK.u,(fun h=>by cases h),bM⟩
   all_goals
    have bM:=ak bh;have az:=cu rfl;have cT:=ak (ab.u.rs.gd.succ (by rcases bC with e|e<;>rw [e]<;>decide));clear bh af;clear cG v1 cH cI cJ cK cL cM cQ;obtain ⟨ad,cV,bu,dD,t0,t1,t2⟩:=ab.u.rs.at;obtain ⟨bj,b4,cB,r3,cC,_⟩:=ab.u.rs.blk.eight;have dT:=ab.u.rs.blk.fz;obtain ⟨cD,cE,cF⟩:=aQ.u.three;have zs:=aQ.u.fz;have dM:=aQ.u.lt;have tvl:=ab.u.tvl ad (by rw [bu];rfl);rw [bu] at bj;have cS:=ak bu;clear bu;have k1:¬(w.heap.size+1=b):=ai;have dJ:¬(b=w.heap.size+1):=ai;have k3:¬(w.heap.size+1=ad):=ai;have dK:¬(ad=w.heap.size+1):=ai;have dc:¬(b=ad):=fun e=>by
     have:=own_ne ab.u.rs.tok ab.u.rs.blk ay;rw [cS.u,e] at this;exact this rfl
    have dL:¬(ad=b):=fun e=>dc e.symm
    go_wp2_with fail
    go_region_held3 (fun w'=>w'.cell? (aN b)=some (aw (some (aN ad)) (jz s).length cV)/\w'.cell? (aC b 1)=some (ar A)/\w'.cell? (aC ad (A*3))=some (aj (TT s A))/\w'.cell? (aC ad (A*3+1))=some (ar (PP s A))/\w'.cell? (aC ad (A*3+2))=some (.bool (ec (TT s A)))) (go_keep) (fail)
    rename_i b3;clear b3;have WF:ec (TT s A)=false:=by rcases bC with e|e<;>rw [e]<;>decide
    have e0:=aV V ab.u.fr.below.size;have c1:=ab.u.sign V aQ.u (by simpa using ba.u) a8.u 0 (aj (TT s A));have bO:=aQ.u.set 0 (aj (TT s A));have bP:=bO.set 1 (ar (PP s A));have c3:=(c1.sign V bO (by simpa using ba.u) a8.u 1 (ar (PP s A))).sign V bP (by simpa using ba.u) a8.u 2 (.bool (ec (TT s A)));have cg:=bP.set 2 (.bool (ec (TT s A)));have bT:=c3.but ((But.refl b _).setCell 1 (ar ((A:Int)+1))) (aV V c3.fr.below.size) ac (c3.rs.setI (A+1) cT.u);have bK:=ak (show ChJ base b s tv d kv rv pv i pl l w _ aP (A+1) 0 a (fM++t) (lr++tl) (ps++[m]) (some (aN g5)) bf (fK++[⟨bB st,Q,false⟩]) (some (aN aY)) aT (TT s A) (PP s A) from ⟨(bT.below (bp.drew) (aV V bT.fr.below.size) ac),by rw [<-WF];exact ((aL.other cg (a:=⟨b,1,none⟩) k1 (ar ((A:Int)+1))).drew),ba.u,fun _=>aS,by have:=cb.u;simp [this],a8.u⟩);have c6:512<=aU+(A+1):=ai;clear c1 c3 bT bO bP cg WF;go_wp2
    go_roundg aU
    case measure=>omega
    case rel=>exact ⟨true,aP,A+1,0,a,fM++t,lr++tl,ps++[m],some (aN g5),bf,fK++[⟨bB st,Q,false⟩],some (aN aY),aT,TT s A,PP s A,rfl,bK.u,(fun _=>c6),bM⟩
  ·have b8:=ak cp;have a9:=ak Z;have bI:=ak bg;have D:=ak U.ch;have cU:=ak U.ls;clear U af bn bq cp Z bg bz
   by_cases h1:ps.length=1
   ·obtain ⟨m,rfl⟩:=AK.1 h1;obtain ⟨aF,p1,p2,aG,aI,aJ,aM,aO⟩:=D.u.box.eight;obtain ⟨cY,cX,bb,cW⟩:=aZ D.u.prow 0 (ar m) rfl;simp only [aK] at bb;obtain ⟨rfl,_,rfl⟩:=bb;clear h1;go_wp2;go_ret;rw [a9.u];obtain ⟨t,rfl⟩:=D.u.sfx;obtain ⟨tl,rfl,aB⟩:=D.u.new;exact ⟨m,rfl,kW,_,_,t,tl,D.u.fr,D.u.pt,rfl,rfl,aB,D.u.rs,a6,hn,b8.u.alone⟩
   skip
   have b7:=ak h1;refine AM ?_;intro h1' h1b;have bg:=bI.u h1;clear h1;obtain ⟨aF,p1,p2,aG,aI,aJ,aM,aO⟩:=D.u.box.eight;have bG:=ak (show jP w.heap.size (⟨4,[],em,em,PP s i,0,ps,fK⟩,aw none 0 0,aw pa ps.length pc,aw sa fK.length sc) from fun g J=>by
    rcases J with J|J|J
    ·cases J
    ·exact (D.u.prow.lt g J).1
    exact (D.u.srow.lt g J).1)
   go_wp2_with fail;refine (kf base b s tv j d 0 (a) kv rv kW fM lr ⟨4,[],em,em,PP s i,0,ps,fK⟩ none 0 pa pc sa sc wr D.u.rs D.u.pt (show mh wr (⟨4,[],em,em,PP s i,0,ps,fK⟩,aw none 0 0,aw pa ps.length pc,aw sa fK.length sc) from ⟨bQ,fy D.u.prow,fy D.u.srow⟩) ai bx ac).mono ?_;rintro e' wf ⟨pv',rfl,fr,bk,bi⟩;have bF:=ak (D.u.fr.trans fr);have bN:=ak bk;have bL:=ak bi;clear fr bk bi aF p1 p2 aG aI aJ aM aO;go_wp2;go_ret;rw [a9.u];obtain ⟨t,rfl⟩:=D.u.sfx;obtain ⟨tl,rfl,aB⟩:=D.u.new;exact ⟨_,rfl,pv',_,_,t++[_],tl++[_],bF.u,bL.u,by rw [ct],by rw [ct],fun x I=>by
    rw [aW,aX] at I
    rcases I with I|rfl
    ·exact aB x I
    exact bG.u,bN.u,a6,by simp at bg ⊢;omega,b8.u.chain (by simpa using b7.u) _⟩
  have a9:=ak Z;have dz:=ak cy;have D:=ak U.ch;have cU:=ak U.ls;clear U af bn bq Z cy bz
  by_cases h1:ps.length=1
  ·obtain ⟨m,rfl⟩:=AK.1 h1;obtain ⟨aF,p1,p2,aG,aI,aJ,aM,aO⟩:=D.u.box.eight;obtain ⟨cY,cX,bb,cW⟩:=aZ D.u.prow 0 (ar m) rfl;simp only [aK] at bb;obtain ⟨rfl,_,rfl⟩:=bb;clear h1;go_wp2;go_ret;rw [a9.u];obtain ⟨t,rfl⟩:=D.u.sfx;obtain ⟨tl,rfl,aB⟩:=D.u.new;exact ⟨m,rfl,kW,_,_,t,tl,D.u.fr,D.u.pt,rfl,rfl,aB,a5,j,a6,D.u.rs,ai⟩
  skip
  have b7:=ak h1;refine AM ?_;intro h1' h1b;clear h1;obtain ⟨aF,p1,p2,aG,aI,aJ,aM,aO⟩:=D.u.box.eight;have bG:=ak (show jP w.heap.size (⟨4,[],em,em,PP s i,0,ps,fK⟩,aw none 0 0,aw pa ps.length pc,aw sa fK.length sc) from fun g J=>by
   rcases J with J|J|J
   ·cases J
   ·exact (D.u.prow.lt g J).1
   exact (D.u.srow.lt g J).1)
  go_wp2_with fail;refine (kf base b s tv j d e (PP s am) kv rv kW fM lr ⟨4,[],em,em,PP s i,0,ps,fK⟩ none 0 pa pc sa sc wr D.u.rs D.u.pt (show mh wr (⟨4,[],em,em,PP s i,0,ps,fK⟩,aw none 0 0,aw pa ps.length pc,aw sa fK.length sc) from ⟨bQ,fy D.u.prow,fy D.u.srow⟩) ai bx ac).mono ?_;rintro e' wf ⟨pv',rfl,fr,bk,bi⟩;have bF:=ak (D.u.fr.trans fr);have bN:=ak bk;have bL:=ak bi;clear fr bk bi aF p1 p2 aG aI aJ aM aO;go_wp2;go_ret;rw [a9.u];obtain ⟨t,rfl⟩:=D.u.sfx;obtain ⟨tl,rfl,aB⟩:=D.u.new;exact ⟨_,rfl,pv',_,_,t++[_],tl++[_],bF.u,bL.u,by rw [ct],by rw [ct],fun x I=>by
   rw [aW,aX] at I
   rcases I with I|rfl
   ·exact aB x I
   exact bG.u,a5,j,a6,bN.u,by simp at hn ⊢;omega⟩
def OO(q:br) (h:cj br->aD:=by
 intro zq;intro g5 bf w5 nt dl C8 AH;obtain ⟨ZX,rN⟩:=Nq.grownP hbw1 hbb Yj dl nt C8;obtain ⟨q0,q1,q2,q3,q4,q5,q6,q7⟩:=ZX.eight;have zq:=ZX.fz;clear nt dl C8 ZX;have Gi:base<=(w5.setCell (aC w.heap.size 6) (aw (some (aN g5)) (ps.length+1) bf)).heap.size:=aV Yj rN.fr.below.size
 revert g5 bf w5 AH rN q0 q1 q2 q3 q4 q5 q6 q7 zq Gi
 exact zq.1):aD:=h ⟨q⟩
def Yk{a c}(h:eqs a c=true):a=c:=by
 unfold eqs at h;rw [dQ] at h;rw [<-cX a,<-cX c,h]
def iP(pl:List PV)(ps:List Nat)(x:Ex):Prop:=
 ∃h ns A rs f,ps=h::ns/\Tr pl f h A/\cu (Tr pl f) ns (rs.map fun r=>r.2.2)/\(∀r∈rs,r.1=sg 124)/\x=cd A rs
def iP.one{y}(h:Tr pl f m y):iP pl [m] y:=⟨m,[],y,[],f,rfl,h,trivial,by simp,rfl⟩
def iP.snoc{t x}(h:iP pl ps x){y}(k:Tr (pl++t) f m y)(p):iP (pl++t) (ps++[m]) (dE (sg 124) p x y):=by
 obtain ⟨I,ns,J,rs,g,rfl,h1,h2,D,rfl⟩:=h;refine ⟨I,ns++[m],J,rs++[(sg 124,p,y)],g+f,rfl,Tr.le _ ai (Tr.more pl t g _ _ h1),?_,?_,?_⟩
 ·exact ON
 ·intro r C;rw [aW,aX] at C
  rcases C with C|rfl
  ·exact D r C
  rfl
 rw [pG]
def iP.some{x}(h:iP pl ps x)(C:ps.length≠1)(p):∃f,Tr (pl++[⟨5,[],em,em,p,0,ps,[]⟩]) f pl.length x:=by
 obtain ⟨D,ns,I,rs,g,rfl,h1,h2,A,rfl⟩:=h;refine ⟨g+1,_,vh,.inr (.inr (.inr (.inr ⟨rfl,rfl,rfl,D,ns,I,rs,rfl,Tr.more pl _ g _ _ h1,cu.mono (Tr.more pl _ g) _ _ h2,A,?_,rfl⟩)))⟩;rintro rfl
 cases ns with
 |nil=>exact C rfl
 |cons n ns=>exact h2.elim
def iP.alone{x:Ex}(h:iP pl [m] x):∃f,Tr pl f m x:=by
 obtain ⟨C,ns,D,rs,g,e,h1,h2,A,rfl⟩:=h;simp only [kT] at e;obtain ⟨rfl,rfl⟩:=e
 cases rs with
 |nil=>exact ⟨g,h1⟩
 |cons r rs=>exact h2.elim
def ExC(T:Nat->ae)(P:Nat->Nat)(part:Nat->eJ Ex)(i a ex n:Nat)(R:eJ Ex)(k:Nat)(more:Bool)(j e aa:Nat)(fM:List PV)(ps:List Nat):Prop:=
 (more=true/\e=0/\a=aa/\fM.length+i<=n+j/\((i=j/\ps=[]/\mN T P [sg 124] part k none j=R)\/(i<j/\fM.length+i+1<=n+j/\∃x p,iP fM ps x/\mN T P [sg 124] part k (some (x,sg 124,p)) j=R)))\/
 (more=false/\e=0/\a=aa/\fM.length+i<=n+j/\i<j/\(ps.length≠1->fM.length+i+1<=n+j)/\∃x,iP fM ps x/\R=.ok (x,j))\/
 (more=false/\e≠0/\fM.length+i<=n+j+ex/\i<=j/\ps≠ []/\∃h,P h=aa/\R=.error (e,h))
def yJ(base b s tv i d a kv rv pv pl l w)(h:RS w b s tv i d 0 a kv rv pv)(bj:PT base w pv pl l)(hbb:base<=b)(Yj:base<=w.heap.size)(bO:pl.length<=i)(room inner ex)(hex:ex<=800)(bE:room=true->d<4/\qn s inner (d+1) ex)(bu:room=false->d=4):
  Calls prog 229 #[bc b] w (qm base b s tv i d a kv rv pv pl l w (ex+3) (eT (TT s) (PP s) [sg 124] (hZ (TT s) (PP s) room inner) i)):=by
 generalize aB:eT (TT s) (PP s) [sg 124] (hZ (TT s) (PP s) room inner) i=R;rw [vk] at aB;obtain ⟨g,c,e0,hi,t0,t1,t2⟩:=h.at;obtain ⟨aQ,a8,bk,r3,bl,bK,bL,bM⟩:=h.blk.eight;have bF:=h.blk.fz;have bA:=h.lt;rw [e0] at aQ;have bH:=ce w _ aQ;have bI:=ce w _ a8;have bJ:=ce w _ t1;go_enter func229,ntmps229;go_wp2_with fail
 go_region_held3 (fun w'=>w'.cell? (aN b)=some (aw (some (aN g)) (jz s).length c)/\w'.cell? (aC b 1)=some (ar i)/\w'.cell? (aC g (i*3+1))=some (ar (PP s i))) (go_keep) (fail)
 rename_i bv;clear bv aQ a8 bk r3 bl bK bL bM t0 t1 t2 bH bI bJ bF;have b1:an w ((w.alloc (AL ar 5 aw none 0 0 aj ⟨#[]⟩ ar (PP s i) ar 0)).drew):=((aA _ w).alloc aH _).drew;have aI:=(show tZ base b s tv d kv rv pv i pl l w 5 ((w.alloc (AL ar 5 aw none 0 0 aj ⟨#[]⟩ ar (PP s i) ar 0)).drew) pv i 0 a pl l [] none 0 [] none 0 from
  ⟨Fr.of_below b1 Yj,h.below b1,bj.but (But.of_below (b:=b) b1) h.blk hbb Yj,(aL.new w _ _).drew,fun e=>by
    have:=(bj.row.lt _ e).2;omega,bQ,bQ,fun x I g C e=>(by cases e),fun x I g C e=>(by cases e),⟨[],au⟩,⟨[],au⟩,bA,fun g C=>(h.tok.lt g C).2⟩)
 clear b1;go_wp2_with fail
 go_loopg [4] 512 (fun k bN wr=>∃(more:Bool)(kW:ag)(j e aa:Nat)(fM:List PV)(lr:List PX)(ps:List Nat)(pa:Option Addr)(pc:Nat),bN=.bool more/\tZ base b s tv d kv rv pv i pl l w 5 wr kW j e aa fM lr ps pa pc [] none 0/\(e=0->ps.length<=j)/\(more=true->512<=k+j)/\(ExC (TT s) (PP s) (hZ (TT s) (PP s) room inner) i a (ex+2) pl.length R k more j e aa fM ps))
 ·exact ⟨true,pv,i,0,a,pl,l,[],none,0,rfl,aI,(fun _=>au),(fun _=>ai),(.inl ⟨rfl,rfl,rfl,ai,.inl ⟨rfl,rfl,aB⟩⟩)⟩
 ·obtain ⟨more,kW,j,e,aa,fM,lr,ps,pa,pc,rfl,A,aP,aO,aG⟩:=hrel;have bP:=A.rs.gd.le;have bR:=A.rs.sz;have aJ:base<=wr.heap.size:=aV Yj A.fr.below.size
  rcases aE aG with ⟨rfl,rfl,rfl,hn,hs⟩|⟨rfl,rfl,rfl,hn,am,aF,x,bh,J⟩|⟨rfl,bi,hn,am,bD,al,rfl,J⟩
  ·have aO:=aO rfl;obtain ⟨ae,rfl⟩:∃f,gk=f+1:=⟨gk-1,ai⟩;have lp:=aP rfl;have am:i<=j:=by rcases hs with ⟨h,_⟩|⟨h,_⟩<;>omega
   clear aG aB aI aP;go_wp2_with fail;refine (Gh base b s tv j d a kv rv kW fM lr wr A.rs A.pt hbb aJ ai room inner ex ai bE bu).mono ?_;rintro e' w1 ⟨m,rfl,av,ZW,l1,t,tl,fr,pt,rfl,rfl,aM,J⟩;have hbw1:base<=w1.heap.size:=aV aJ fr.below.size
   cases ah:hZ (TT s) (PP s) room inner j with
   |error er=>
    obtain ⟨c0,al⟩:=er;rw [ah] at J;obtain ⟨a5,D,bw,rs,bB⟩:=J;have Nq:=A.call fr pt rs aM (ZW:=[]) (l1:=[]);have bo:=(show R=.error (c0,al) from by
     rcases aE hs with ⟨_,_,h⟩|⟨_,_,x,p,_,h⟩
     ·rw [<-h];exact vm ah
     rw [<-h];exact vm ah)
    clear fr pt rs aM A ah;have bz:=Nq.rs.gd.le;obtain ⟨V,p1,p2,Y,Z,ab,ac,ad⟩:=Nq.box.eight;have ba:=Nq.box.fz;have bG:=Nq.box.lt;go_wp2_with (at_builtin;go_must (refine ez rfl underlying29 Tryz.infoInt w.heap.size (Nq.prow.alloc _) w1.heap.size 1 [ar m] (w1.heap.size+1) ?rH));refine OO ?_;intro g5 bf w5 AH rN q0 q1 q2 q3 q4 q5 q6 q7 zq Gi;clear V p1 p2 Y Z ab ac ad ba;go_wp2_with fail;refine (mi b s tv D d c0 (PP s al) kv rv av (sg 124) _ rN.rs a5).mono ?_;rintro e' aR ⟨rfl,U⟩;have Q:=rN.below U Gi hbb;clear U rN;have ax:=show ExC (TT s) (PP s) (hZ (TT s) (PP s) room inner) i a (ex+2) pl.length R ae false D c0 (PP s al) (fM++t) (ps++[m]) from .inr (.inr ⟨rfl,a5,ai,ai,au,al,rfl,bo⟩)
    go_wp2
    go_roundg ae
    case measure=>omega
    case rel=>exact ⟨false,av,D,c0,PP s al,fM++t,lr++tl,ps++[m],some (aN g5),bf,rfl,Q,(fun e=>absurd e a5),(fun h=>by cases h),ax⟩
   |ok yy=>
    obtain ⟨y,D⟩:=yy;rw [ah] at J;obtain ⟨rs,bw,bB,f1,a6⟩:=J;have Nq:=A.call fr pt rs aM (ZW:=[]) (l1:=[]);have bb:=(show ∃x,iP (fM++t) (ps++[m]) x/\joinL (TT s) (PP s) [sg 124] (hZ (TT s) (PP s) room inner) (ae+1) x D=R from by
     rcases aE hs with ⟨_,rfl,h⟩|⟨_,_,x,p,I,h⟩
     ·rw [ub ah] at h;exact ⟨_,iP.one a6,h⟩
     rw [ub ah] at h;exact ⟨_,I.snoc a6 p,h⟩)
    have aY:=(show (ps++[m]).length≠1->(fM++t).length+i+1<=pl.length+D from fun bC=>by
     rcases aE hs with ⟨_,rfl,_⟩|⟨_,aF,_⟩
     ·exact absurd rfl bC
     omega)
    clear fr pt rs aM A ah a6;have bz:=Nq.rs.gd.le;obtain ⟨V,p1,p2,Y,Z,ab,ac,ad⟩:=Nq.box.eight;have ba:=Nq.box.fz;have bG:=Nq.box.lt;go_wp2_with (at_builtin;go_must (refine ez rfl underlying29 Tryz.infoInt w.heap.size (Nq.prow.alloc _) w1.heap.size 1 [ar m] (w1.heap.size+1) ?Ga));refine OO ?_;intro g5 bf w5 AH rN q0 q1 q2 q3 q4 q5 q6 q7 zq Gi;clear V p1 p2 Y Z ab ac ad ba
    cases af:eqs (TT s D) (sg 124)
    ·go_wp2_with fail;refine (ea b s tv D d a kv rv av (sg 124) _ rN.rs false af).mono ?_;rintro e' aR ⟨rfl,U⟩;have Q:=rN.below U Gi hbb;clear U rN;have ax:=(show ExC (TT s) (PP s) (hZ (TT s) (PP s) room inner) i a (ex+2) pl.length R ae false D 0 a (fM++t) (ps++[m]) from .inr (.inl ⟨rfl,rfl,rfl,ai,ai,aY,by
      obtain ⟨x,I,ap⟩:=aE bb;rw [Dd (by simp [gL,af])] at ap;exact ⟨x,I,ap.symm⟩⟩))
     clear af;go_wp2
     go_roundg ae
     case measure=>omega
     case rel=>exact ⟨false,av,D,0,a,fM++t,lr++tl,ps++[m],some (aN g5),bf,rfl,Q,(fun _=>aS),(fun h=>by cases h),ax⟩
    go_wp2_with fail;refine (ea b s tv D d a kv rv av (sg 124) _ rN.rs true af).mono ?_;rintro e' aR ⟨rfl,U⟩;have Q:=rN.below U Gi hbb;have bt:base<=aR.heap.size:=aV Gi U.size;clear U rN;have bn:=Q.rs.gd.succ (dP af ay);obtain ⟨aQ,a8,bk,r3,bl,_⟩:=Q.rs.blk.eight;have bS:=Q.rs.blk.fz;have ax:=(show ExC (TT s) (PP s) (hZ (TT s) (PP s) room inner) i a (ex+2) pl.length R ae true (D+1) 0 a (fM++t) (ps++[m]) from .inl ⟨rfl,rfl,rfl,ai,.inr ⟨ai,ai,by
     obtain ⟨x,I,ap⟩:=aE bb;rw [rM (by simp [gL,af])] at ap;have e:TT s D=sg 124:=Yk af;rw [e] at ap;exact ⟨x,PP s D,I,ap⟩⟩⟩)
    have bx:512<=ae+(D+1):=ai;clear af;go_wp2
    go_roundg ae
    case measure=>omega
    case rel=>exact ⟨true,av,D+1,0,a,fM++t,lr++tl,ps++[m],some (aN g5),bf,rfl,(Q.but ((But.refl b aR).setCell 1 (ar ((D:Int)+1))) bt hbb (Q.rs.setI (D+1) bn)),(fun _=>aS),(fun _=>bx),ax⟩
  ·have be:=bh;have aY:=aF;clear aG aB aI bh aF aO aP
   by_cases h1:ps.length=1
   ·obtain ⟨m,rfl⟩:=AK.1 h1;obtain ⟨V,p1,p2,Y,Z,ab,ac,ad⟩:=A.box.eight;obtain ⟨bs,bq,az,bp⟩:=aZ A.prow 0 (ar m) rfl;simp only [aK] at az;obtain ⟨rfl,_,rfl⟩:=az;clear h1;go_wp2;go_ret;rw [J];obtain ⟨t,rfl⟩:=A.sfx;obtain ⟨tl,rfl,ak⟩:=A.new;exact ⟨m,rfl,kW,_,_,t,tl,A.fr,A.pt,rfl,rfl,ak,A.rs,am,hn,be.alone⟩
   skip
   refine AM ?_;intro h1' h1b;have aF:=aY h1;obtain ⟨V,p1,p2,Y,Z,ab,ac,ad⟩:=A.box.eight;have aU:=(show jP w.heap.size (⟨5,[],em,em,PP s i,0,ps,[]⟩,aw none 0 0,aw pa ps.length pc,aw none 0 0) from fun g C=>by
    rcases C with C|C|C
    ·cases C
    ·exact (A.prow.lt g C).1
    cases C)
   go_wp2_with fail;refine (kf base b s tv j d 0 (a) kv rv kW fM lr ⟨5,[],em,em,PP s i,0,ps,[]⟩ none 0 pa pc none 0 wr A.rs A.pt (show mh wr (⟨5,[],em,em,PP s i,0,ps,[]⟩,aw none 0 0,aw pa ps.length pc,aw none 0 0) from ⟨bQ,fy A.prow,bQ⟩) ai aJ hbb).mono ?_;rintro e' wf ⟨pv',rfl,fr,a9,a7⟩;have aT:=A.fr.trans fr;clear fr V p1 p2 Y Z ab ac ad;go_wp2;go_ret;rw [J];obtain ⟨t,rfl⟩:=A.sfx;obtain ⟨tl,rfl,ak⟩:=A.new;exact ⟨_,rfl,pv',_,_,t++[_],tl++[_],aT,a7,by rw [ct],by rw [ct],fun x I=>by
    rw [aW,aX] at I
    rcases I with I|rfl
    ·exact ak x I
    exact aU,a9,am,by simp at aF ⊢;omega,be.some (by simpa using h1) _⟩
  have bg:=J;clear aG aB aI J bD aO aP
  by_cases h1:ps.length=1
  ·obtain ⟨m,rfl⟩:=AK.1 h1;obtain ⟨V,p1,p2,Y,Z,ab,ac,ad⟩:=A.box.eight;obtain ⟨bs,bq,az,bp⟩:=aZ A.prow 0 (ar m) rfl;simp only [aK] at az;obtain ⟨rfl,_,rfl⟩:=az;clear h1;go_wp2;go_ret;rw [bg];obtain ⟨t,rfl⟩:=A.sfx;obtain ⟨tl,rfl,ak⟩:=A.new;exact ⟨m,rfl,kW,_,_,t,tl,A.fr,A.pt,rfl,rfl,ak,bi,j,am,A.rs,ai⟩
  skip
  refine AM ?_;intro h1' h1b;clear h1;obtain ⟨V,p1,p2,Y,Z,ab,ac,ad⟩:=A.box.eight;have aU:=(show jP w.heap.size (⟨5,[],em,em,PP s i,0,ps,[]⟩,aw none 0 0,aw pa ps.length pc,aw none 0 0) from fun g C=>by
   rcases C with C|C|C
   ·cases C
   ·exact (A.prow.lt g C).1
   cases C)
  go_wp2_with fail;refine (kf base b s tv j d e (PP s al) kv rv kW fM lr ⟨5,[],em,em,PP s i,0,ps,[]⟩ none 0 pa pc none 0 wr A.rs A.pt (show mh wr (⟨5,[],em,em,PP s i,0,ps,[]⟩,aw none 0 0,aw pa ps.length pc,aw none 0 0) from ⟨bQ,fy A.prow,bQ⟩) ai aJ hbb).mono ?_;rintro e' wf ⟨pv',rfl,fr,a9,a7⟩;have aT:=A.fr.trans fr;clear fr V p1 p2 Y Z ab ac ad;go_wp2;go_ret;rw [bg];obtain ⟨t,rfl⟩:=A.sfx;obtain ⟨tl,rfl,ak⟩:=A.new;exact ⟨_,rfl,pv',_,_,t++[_],tl++[_],aT,a7,by rw [ct],by rw [ct],fun x I=>by
   rw [aW,aX] at I
   rcases I with I|rfl
   ·exact ak x I
   exact aU,bi,j,am,a9,by simp at hn ⊢;omega⟩
def s8(s):∀(n d:Nat),d+n=4->qn s (fq (TT s) (PP s) n) d (3*(n+1))
 |0,d,h=>fun base b tv i a kv rv pv pl l w h1 h2 A C D=>
  yJ base b s tv i d a kv rv pv pl l w h1 h2 A C D false (fun _=> .error (0,0)) 0 ai (fun e=>by cases e) (fun _=>ai)
 |n+1,d,h=>fun base b tv i a kv rv pv pl l w h1 h2 A C D=>by
  have:=yJ base b s tv i d a kv rv pv pl l w h1 h2 A C D true (fq (TT s) (PP s) n) (3*(n+1)) ai (fun _=>⟨ai,s8 s n (d+1) ai⟩) (fun e=>by cases e);rw [show 3*(n+1+1)=3*(n+1)+3 by omega];exact this
def ZY(s:ae)(h:Bool)(i a:Nat):Nat×Nat×Nat:=if dC (TT s i) then (if (TT s i).size<=8/\h=true then (i+1,0,a) else (i,3,PP s i)) else (i,2,PP s i)
def Jy(s x:ae)(i e a:Nat):Nat×Nat×Nat:=if e=0 then (if eqs (TT s i) x then (i+1,0,a) else (i,2,PP s i)) else (i,e,a)
def yK(b s tv i d a kv rv pv rm w)(h:RS w b s tv i d 0 a kv rv pv):
  Calls prog 228 #[bc b,.bool rm] w fun e w'=>e=bj (CA s i)/\But b w w'/\∃i' e' a',(i',e',a')=ZY s rm i a/\RS w' b s tv i' d e' a' kv rv pv:=by
 unfold ZY
 cases hn:dC (TT s i)
 ·exact (mg b s tv i d a kv rv pv rm w h hn).mono (fun e w' ⟨h1,h2,A⟩=>⟨h1,h2,_,_,_,rfl,A⟩)
 ·by_cases hl:(TT s i).size<=8
  ·cases C:rm
   ·exact (lw b s tv i d a kv rv pv false w h hn (.inr rfl)).mono (fun e w' ⟨h1,h2,A⟩=>⟨h1,h2,_,_,_,au,A⟩)
   exact (np b s tv i d a kv rv pv w h hn hl).mono (fun e w' ⟨h1,h2,A⟩=>⟨h1,h2,_,_,_,by simp [hl],A⟩)
  exact (lw b s tv i d a kv rv pv rm w h hn (.inl ai)).mono (fun e w' ⟨h1,h2,A⟩=>⟨h1,h2,_,_,_,by simp [hl],A⟩)
def lz(b s tv i d e0 a kv rv pv x w)(h:RS w b s tv i d e0 a kv rv pv)(C:0<(bB x).length):
  Calls prog 188 #[bc b,aj x] w fun e w'=>e=bj (.tuple #[])/\But b w w'/\∃i' e' a',(i',e',a')=Jy s x i e0 a/\RS w' b s tv i' d e' a' kv rv pv:=by
 unfold Jy
 by_cases h0:e0=0
 ·subst h0
  cases hn:eqs (TT s i) x
  ·exact (AB b s tv i d a kv rv pv x w h hn).mono (fun e w' ⟨h1,h2,A⟩=>⟨h1,h2,_,_,_,au,A⟩)
  exact (uV b s tv i d a kv rv pv x w h hn C).mono (fun e w' ⟨h1,h2,A⟩=>⟨h1,h2,_,_,_,au,A⟩)
 ·exact (uW b s tv i d e0 a kv rv pv x w h h0).mono (fun e w' ⟨h1,h2⟩=>⟨h1,But.of_below h2,_,_,_,by simp [h0],h.below h2⟩)
structure RV where
 kd:ae
 nm:ae
 pl:Nat
 ex:Nat
def kC(k:ae×Nat):List ag:=[aj k.1,ar k.2]
def rC(r:RV):List ag:=[aj r.kd,aj r.nm,ar r.pl,ar r.ex]
structure RM(base:Nat)(w:af)(b:Nat)(s:ae)(tv:ag)(i d e a:Nat)(kv rv pv:ag)(kl:List (ae×Nat))(rl:List RV)(pl:List PV)(l:List PX):Prop where
 rs:RS w b s tv i d e a kv rv pv
 pt:PT base w pv pl l
 kt:w.ownsRow base 170 2 kv kl.length (kl.flatMap kC)
 rt:w.ownsRow base 172 4 rv rl.length (rl.flatMap rC)
 fh:∀x∈l,jP base x
def NX(T:TypeId)(w w':af):Prop:=∀(g:Nat)(cs:Array ag)(T':TypeId)(f:Nat×Nat),w.heap[g]? =some (Obj.cells cs T' f)->T'≠T->T'≠252->w'.heap[g]? =w.heap[g]?
def NX.row(k:NX T w w')(h:w.ownsRow base e size v n xs)(h1:e≠T)(h2:e≠252):w'.ownsRow base e size v n xs:=az h (fun g cs f _ A=>k g cs _ f A h1 h2)
def NX.pt(k:NX T w w'){l:List PX}(h:PT base w pv pl l)(h1:255≠T)(h2:257≠T)(C:3≠T)(D:259≠T):PT base w' pv pl l:=
 ⟨h.fst,k.row h.row h1 ay,fun x A=>⟨k.row (h.rep x A).g h2 ay,k.row (h.rep x A).p C ay,k.row (h.rep x A).s D ay⟩⟩
def NX.grown(h:w.ownsRow base T size v n xs)(k:an w W)(D:W.grownBy w5 v.ownBlock)(b)(C:aL w b cs 252)(o u):NX T w (w5.setCell (aC b o) u):=by
 intro g I T' f A h1 h2;refine (dY _ _ _ _ ?_).trans ((D.block g (cM (lt_of_some A) k.size) (fun e=>dT h A h1 e)).trans (k.block g (lt_of_some A)));intro e;subst e;unfold aL at C;rw [C] at A;simp only [aR,uX] at A;exact h2 A.2.1.symm
section
variable {base b:Nat}{w w':af}{s:ae}{tv:ag}{i d e a:Nat}{kv rv pv:ag}{kl:List (ae×Nat)}{rl:List RV}{pl:List PV}{l:List PX}
def RM.below(h:RM base w b s tv i d e a kv rv pv kl rl pl l)(k:an w w')(C:base<=b)(D:base<=w.heap.size):RM base w' b s tv i d e a kv rv pv kl rl pl l:=
 ⟨h.rs.below k,h.pt.but (But.of_below (b:=b) k) h.rs.blk C D,az h.kt (fun g cs f _ A=>k.block g (lt_of_some A)),az h.rt (fun g cs f _ A=>k.block g (lt_of_some A)),h.fh⟩
def But.row{bs}(k:But b w w')(C:aL w b cs 252)(h:w.ownsRow bs T size v n xs)(h1:T≠252):w'.ownsRow bs T size v n xs:=
 az h (fun g cs f _ A=>k.block g (lt_of_some A) (fun e=>by
  subst e;unfold aL at C;rw [C] at A;simp only [aR,uX] at A;exact h1 A.2.1.symm))
def RM.but(h:RM base w b s tv i d e a kv rv pv kl rl pl l)(k:But b w w')(A:base<=b)(C:base<=w.heap.size)(r:RS w' b s tv i' d' e' a' kv rv pv):RM base w' b s tv i' d' e' a' kv rv pv kl rl pl l:=
 ⟨r,h.pt.but k h.rs.blk A C,k.row h.rs.blk h.kt ay,k.row h.rs.blk h.rt ay,h.fh⟩
def RM.fr(h:RM base w b s tv i d e a kv rv pv kl rl pl l)(k:Fr base b w w' pv pv'){kM l'}(p:PT base w' pv' kM l')(r:RS w' b s tv i' d' e' a' kv rv pv')(A:∀x∈l',jP base x):RM base w' b s tv i' d' e' a' kv rv pv' kl rl kM l':=
 ⟨r,p,k.row h.kt h.rs.blk h.pt.row ay ay,k.row h.rt h.rs.blk h.pt.row ay ay,A⟩
def RM.kinds(h:RM base w b s tv i d e a kv rv pv kl rl pl l)(R:base<=b)(J:base<=w.heap.size){x:ae×Nat}(A:an w W)(D:W.grownBy w5 kv.ownBlock)(Q:w5.ownsRow base 170 2 (aw (some (aN g5)) (kl.length+1) bf) (kl.length+1) (kl.flatMap kC++kC x)):
  RM base (w5.setCell (aC b 5) (aw (some (aN g5)) (kl.length+1) bf)) b s tv i d e a (aw (some (aN g5)) (kl.length+1) bf) rv pv (kl++[x]) rl pl l/\Below base w (w5.setCell (aC b 5) (aw (some (aN g5)) (kl.length+1) bf))/\NX 170 w (w5.setCell (aC b 5) (aw (some (aN g5)) (kl.length+1) bf)):=by
 have C:=NX.grown h.kt A D b h.rs.blk 5 (aw (some (aN g5)) (kl.length+1) bf);have I:aL w5 b _ 252:=(D.block b (cM h.rs.lt A.size) (fun e=>dT h.kt h.rs.blk ay e)).trans ((A.block b h.rs.lt).trans h.rs.blk);refine ⟨⟨⟨I.set 5 _,C.row h.rs.tok ay ay,h.rs.gd,⟨⟨_,_,_,rfl⟩,h.rs.fm.2⟩,h.rs.sz⟩,C.pt h.pt ay ay ay ay,?_,C.row h.rt ay ay,h.fh⟩,?_,C⟩
 ·have:=bU Q I ay 5 (aw (some (aN g5)) (kl.length+1) bf);exact Gf
 ·exact (cA (A.mono J) D (aV J A.size) (fun k U=>(h.kt.lt k U).1)).setCell R _
def RM.rels(h:RM base w b s tv i d e a kv rv pv kl rl pl l)(R:base<=b)(J:base<=w.heap.size){x}(A:an w W)(D:W.grownBy w5 rv.ownBlock)(Q:w5.ownsRow base 172 4 (aw (some (aN g5)) (rl.length+1) bf) (rl.length+1) (rl.flatMap rC++rC x)):
  RM base (w5.setCell (aC b 6) (aw (some (aN g5)) (rl.length+1) bf)) b s tv i d e a kv (aw (some (aN g5)) (rl.length+1) bf) pv kl (rl++[x]) pl l/\Below base w (w5.setCell (aC b 6) (aw (some (aN g5)) (rl.length+1) bf))/\NX 172 w (w5.setCell (aC b 6) (aw (some (aN g5)) (rl.length+1) bf)):=by
 have C:=NX.grown h.rt A D b h.rs.blk 6 (aw (some (aN g5)) (rl.length+1) bf);have I:aL w5 b _ 252:=(D.block b (cM h.rs.lt A.size) (fun e=>dT h.rt h.rs.blk ay e)).trans ((A.block b h.rs.lt).trans h.rs.blk);refine ⟨⟨⟨I.set 6 _,C.row h.rs.tok ay ay,h.rs.gd,⟨h.rs.fm.1,⟨_,_,_,rfl⟩,h.rs.fm.2.2⟩,h.rs.sz⟩,C.pt h.pt ay ay ay ay,C.row h.kt ay ay,?_,h.fh⟩,?_,C⟩
 ·have:=bU Q I ay 6 (aw (some (aN g5)) (rl.length+1) bf);exact Gf
 ·exact (cA (A.mono J) D (aV J A.size) (fun k U=>(h.rt.lt k U).1)).setCell R _
end
def NX.blk(k:NX T w w')(h:aL w g cs T')(h1:T'≠T)(h2:T'≠252):aL w' g cs T':=(k g cs T' (0,0) h h1 h2).trans h
def Tryz.infoKd:(Tryz.prog.info? 170).map (fun i=>(i.zero,i.size,i.bytes))=some (some (.agg #[aj ⟨#[]⟩,ar 0]),2,24):=by kernel_rfl
def Tryz.infoRl:(Tryz.prog.info? 172).map (fun i=>(i.zero,i.size,i.bytes))=some (some (.agg #[aj ⟨#[]⟩,aj ⟨#[]⟩,ar 0,ar 0]),4,48):=by kernel_rfl
abbrev pH:=@Nat.zero_add
abbrev vo:=@List.getElem?_cons_succ
abbrev nv:=@List.getElem?_append_right
abbrev kg:=@List.any_cons
abbrev rO:=@Bool.true_or
def OP (h:aD:=by
 rw [aQ] at he;exact OQ):aD:=h
def OR (h:aD:=by
 rw [eA ai,List.any_nil] at HQ;go_wp2;go_ret;exact ⟨by rw [<-HQ];rfl,hb⟩):aD:=h
def OT (h:aD:=by
 exact OQ):aD:=h
def AN (h:aD:=by
 go_wp2;go_ret;exact ⟨by rw [<-HQ];rfl,hb⟩):aD:=h
def vp (h:aD:=by
 exact ⟨0,ai,rfl,aA _ _,HR⟩):aD:=h
def OQ (h:aD:=by
 go_wp2;go_roundw
 ·exact ⟨k+1,ai,by go_num,hb,HQ⟩
 simp [intOf];omega):aD:=h
structure DM(w:af)(b:Nat)(kv rv pv:ag)(kl:List (ae×Nat))(rl:List RV)(pl:List PV)(l:List PX):Prop where
 c5:w.cell? (aC b 5)=some kv
 c6:w.cell? (aC b 6)=some rv
 c7:w.cell? (aC b 7)=some pv
 kt:w.ownsRow 0 170 2 kv kl.length (kl.flatMap kC)
 rt:w.ownsRow 0 172 4 rv rl.length (rl.flatMap rC)
 pt:PT 0 w pv pl l
 kn:kl.length<=5
 rn:rl.length<=500
 pn:pl.length<=500
def aB(h:w.ownsRow base e size v n xs)(k:an w w'):w'.ownsRow base e size v n xs:=az h (fun g cs f _ A=>k.block g (lt_of_some A))
def am{a}(h:w.cell? a=some v)(k:an w w'):w'.cell? a=some v:=(jw (k.block a.block (World.block_lt_of_cell? w a h))).trans h
def PT.below{l:List PX}(h:PT base w pv pl l)(k:an w w'):PT base w' pv pl l:=
 ⟨h.fst,aB h.row k,fun x A=>⟨aB (h.rep x A).g k,aB (h.rep x A).p k,aB (h.rep x A).s k⟩⟩
section
variable {w w':af}{b:Nat}{kv rv pv:ag}{kl:List (ae×Nat)}{rl:List RV}{pl:List PV}{l:List PX}
def DM.below(h:DM w b kv rv pv kl rl pl l)(k:an w w'):DM w' b kv rv pv kl rl pl l:=
 ⟨am h.c5 k,am h.c6 k,am h.c7 k,aB h.kt k,aB h.rt k,h.pt.below k,h.kn,h.rn,h.pn⟩
def De{α:Type}(f:α->List ag)(k)(A:∀a,(f a).length=k)(a:α)(j)(C:j<k):∀(l:List α)(i:Nat),l[i]? =some a->(l.flatMap f)[i*k+j]? =(f a)[j]?
 | [],i,h=>by simp at h
 |x::l,0,h=>by
  simp only [List.getElem?_cons_zero,aR] at h;subst h;rw [bN,Nat.zero_mul,pH,nu (by rw [A];exact C)]
 |x::l,i+1,h=>by
  rw [vo] at h;rw [bN,nv (by rw [A,Nat.add_mul];omega),A,show (i+1)*k+j-k=i*k+j by rw [Nat.add_mul];omega];exact De f k A a j C l i h
def bo(f:α->List ag)(k)(A:∀a,(f a).length=k){l:List α}(h:w.ownsRow base T k v l.length (l.flatMap f))(i)(a:α)(hi:l[i]? =some a):
  ∃g c,v=aw (some (aN g)) l.length c/\∀j u,j<k->(f a)[j]? =some u->w.cell? (aC g (i*k+j))=some u:=by
 obtain ⟨g,c,e,_⟩:=h.form (n:=l.length) (by have:=(bD.1 hi).1;omega);refine ⟨g,c,e,fun j u C D=> ?_⟩;obtain ⟨g',I,e',hc⟩:=aZ h (i*k+j) u (by rw [De f k A a j C l i hi];exact D);rw [e] at e';simp only [aK,aR,cg] at e';rw [e'.1.1];exact hc
def DM.kat(h:DM w b kv rv pv kl rl pl l)(i)(x:ae×Nat)(hi:kl[i]? =some x):∃g c,kv=aw (some (aN g)) kl.length c/\w.cell? (aC g (i*2))=some (aj x.1)/\w.cell? (aC g (i*2+1))=some (ar x.2):=by
 obtain ⟨g,c,e,hc⟩:=bo kC 2 (fun _=>rfl) h.kt i x hi;exact ⟨g,c,e,hc 0 _ ai rfl,hc 1 _ ai rfl⟩
def DM.rat(h:DM w b kv rv pv kl rl pl l)(i x)(hi:rl[i]? =some x):∃g c,rv=aw (some (aN g)) rl.length c/\w.cell? (aC g (i*4))=some (aj x.kd)/\w.cell? (aC g (i*4+1))=some (aj x.nm)/\w.cell? (aC g (i*4+2))=some (ar x.pl)/\w.cell? (aC g (i*4+3))=some (ar x.ex):=by
 obtain ⟨g,c,e,hc⟩:=bo rC 4 (fun _=>rfl) h.rt i x hi;exact ⟨g,c,e,hc 0 _ ai rfl,hc 1 _ ai rfl,hc 2 _ ai rfl,hc 3 _ ai rfl⟩
end
def aQ(a c):eqs a c=(a.toList==c.toList):=by unfold eqs;rw [aT,aT]
def s9(b kv rv pv kl rl pl l x w)(h:DM w b kv rv pv kl rl pl l):
  Calls prog 137 #[.pointer (some (aC b 5)),aj x] w fun e w'=>e=bj (.bool (kl.any fun k=>eqs k.1 x))/\an w w':=by
 obtain ⟨Q,U,rfl⟩:=ax h.kt;have J:=h.kn;generalize A:(kl.any fun k=>eqs k.1 x)=R;have HR:=(A:((kl.drop 0).any fun k=>eqs k.1 x)=R);clear A;go_enter func137,ntmps137;go_wp2_with fail
 go_loopw [5] (fun u wr=>∃k:Nat,k<=kl.length/\u=ar k/\an w wr/\Hid (((kl.drop k).any fun q=>eqs q.1 x)=R)) (fun u _=>kl.length-(intOf u).toNat)
 ·exact vp
 ·obtain ⟨k,I,rfl,hb,HQ⟩:=hrel;have c5:=(h.below hb).c5
  by_cases C:k<kl.length
  ·obtain ⟨g,c,e1,k0,k1⟩:=(h.below hb).kat k kl[k] (aI C);simp only [aK,true_and] at e1;obtain ⟨rfl,rfl⟩:=e1;rw [c9 C,kg] at HQ;generalize kl[k]=q at*;have D:(k:Int)<(kl.length:Int):=ai
   cases he:eqs q.1 x
   ·rw [he,Bool.false_or] at HQ;exact OP
   rw [he,rO] at HQ;rw [aQ] at he;exact AN
  have D:¬((k:Int)<(kl.length:Int)):=ai;exact OR
def bi(k n:ae):List RV->Nat->Int
 | [],_=> -1
 |x::xs,i=>if eqs x.kd k&&eqs x.nm n then i else bi k n xs (i+1)
def ef(b kv rv pv kl rl pl l x y w)(h:DM w b kv rv pv kl rl pl l):
  Calls prog 132 #[.pointer (some (aC b 5)),aj x,aj y] w fun e w'=>e=bj (ar (bi x y rl 0))/\an w w':=by
 obtain ⟨V,rc,rfl⟩:=ax h.rt;have Q:=h.rn;generalize C:bi x y rl 0=R;have HR:=(C:bi x y (rl.drop 0) 0=R);clear C;go_enter func132,ntmps132;go_wp2_with fail
 go_loopw [7] (fun u wr=>∃k:Nat,k<=rl.length/\u=ar k/\an w wr/\Hid (bi x y (rl.drop k) k=R)) (fun u _=>rl.length-(intOf u).toNat)
 ·exact vp
 ·obtain ⟨k,J,rfl,hb,HQ⟩:=hrel;have c6:=(h.below hb).c6
  by_cases D:k<rl.length
  ·obtain ⟨g,c,e1,k0,k1,U,k3⟩:=(h.below hb).rat k rl[k] (aI D);simp only [aK,true_and] at e1;obtain ⟨rfl,rfl⟩:=e1;rw [c9 D,bi] at HQ;generalize rl[k]=q at*;have I:(k:Int)<(rl.length:Int):=ai
   cases he:eqs q.kd x
   ·rw [he,eK] at HQ;simp only [bJ,a8] at HQ;exact OP
   rw [he,Bool.true_and] at HQ;rw [aQ] at he
   cases A:eqs q.nm y
   ·rw [A] at HQ;simp only [bJ,a8] at HQ;rw [aQ] at A;exact OT
   rw [A] at HQ;simp only [if_true] at HQ;rw [aQ] at A;exact AN
  have I:¬((k:Int)<(rl.length:Int)):=ai;rw [eA ai,bi] at HQ;exact AN
def qC (h:aD:=by
 simp [aI hlt]):aD:=h
def Xr (h:aD:=by
 clear B0 Ns;obtain ⟨k,fv,al,am,aJ,rfl,rfl,hb,V,hrow,R⟩:=hrel;obtain ⟨aO,p1,p2,aP,aQ,aR,aS,aT⟩:=V.eight;have aG:=hb.size
 by_cases hlt:k<p.ps.length
 ·have ab:=bu hlt;obtain ⟨q,aH,e1,aM⟩:=aZ (aB RP hb) k (ar (p.ps[k]:Nat)) qC;simp only [aK,true_and] at e1;obtain ⟨rfl,rfl⟩:=e1;obtain ⟨Z,ac⟩:=aE hc _ ab;have C:=Z b kv rv _ kl rl l wr (h.below hb);have Y:=ak (j0 lf p.ps k _ (aI hlt));have aA:=oq lf p.ps (k+1);rw [Y.u,<-aE R,bg,HG.u] at aA;have az:(k:Int)<(p.ps.length:Int):=ai;generalize p.ps[k]=m at*;clear Z ab;go_wp2_with fail;refine C.mono ?_;rintro e w1 ⟨sv,rfl,J,ad⟩;obtain ⟨an,c1,rfl,ae,af⟩:=CX ad ac;have Q:=hb.trans (J.mono aG);have D:=V.below J;have I:=aB hrow J;have ag:=Q.size;clear J ad C hb V hrow;go_wp2_with (at_builtin;go_must (refine lX _ rfl _ _ 29 rfl w.heap.size 3 iI _ 1 8 underlying29 hi1 hy0 hy1 hy2 rfl ay (aw al fv.length am) fv.length (fv.map fun n:Nat=>ar n) rfl I ⟨an,0,none⟩ (lf m).length c1 ((lf m).map fun n:Nat=>ar n) rfl ae af ?hone ac ?h63 ?hbytes ag w1.heap.size rfl ?hrest))
  case hone=>
   intro u aF;obtain ⟨n,_,rfl⟩:=aU.1 aF
   rfl
  case h63=>unfold maxLen;omega
  case hbytes=>omega
  intro g5 bf w5 aC U ap av;have ah:=cA Q U ag (fun k ax=>(I.lt k ax).1);have aj:=((U.block _ D.lt (own_ne I D ay)).trans D:aL w5 w.heap.size _ 255);clear U ap av Q D I ae af;go_wp2;go_roundw
  ·exact ⟨k+1,fv++lf m,some (aN g5),bf,ai,by go_num,au,ah,aj,by simpa using aC,ak (by rw [aE R,Y.u])⟩
  simp [intOf];omega
 have az:¬((k:Int)<(p.ps.length:Int)):=ai;have hfv:fv=G:=by rw [aE R,cY ai,HG.u]
 exact Qd):aD:=h
def Qe (h:aD:=by
 exact cu.app (vY (eg pl f) _ _ h5) _ _ (eg pl f _ _ h4)):aD:=h
def Qd (h:aD:=by
 have A:=ak hfv;clear hfv;go_wp2;go_ret;rw [<-A.u];exact ⟨_,rfl,hb,hrow⟩):aD:=h
def pN(q:br) (h:cj br->aD:=by
 intro zq;have Ns:=aL.new w #[ar p.kind,aw ga p.gs.length gc,aj p.nb,aj p.nr,ar p.pa,ar p.pr,aw pa p.ps.length pc,aw sa p.sg.length sc] 255
 revert Ns
 exact zq.1):aD:=h ⟨q⟩
def vZ(q:br) (h:cj br->aD:=by
 intro zq;have c7:=h.c7;have hn:=(bD.1 hp).1;have hn':(n:Int)<(pl.length:Int):=ai
 revert c7 hn hn'
 exact zq.1):aD:=h ⟨q⟩
def Qf(q:br) (h:cj br->aD:=by
 intro zq;have hkq:((p.kind:Int) != 4&&(p.kind:Int) != 5)=false:=by rw [hk];rfl
 have RP:=hr.p;have B0:=((aA _ w).alloc aH _:an w (w.alloc (dV ar p.kind aw ga p.gs.length gc aj p.nb aj p.nr ar p.pa ar p.pr aw pa p.ps.length pc aw sa p.sg.length sc)))
 revert hkq RP B0
 exact zq.1):aD:=h ⟨q⟩
def aJ(pl:List PV):Nat->Nat->List Nat
 |0,_=>[]
 |f+1,n=>match pl[n]? with
  |none=>[]
  |some p=>if p.kind=4\/p.kind=5 then p.ps.flatMap (aJ pl f) else [n]
def aO:Ex->List Ex
 |⟨_,some x,some y⟩=>aO x++aO y
 |⟨n,none,r⟩=>[⟨n,none,r⟩]
 |⟨_,some _,none⟩=>[]
def cu.app{R c cs}(k:cu R c cs):∀(ns:List Nat)(xs:List Ex),cu R ns xs->cu R (ns++c) (xs++cs)
 | [],[],_=>k
 |n::ns,x::xs,h=>⟨h.1,cu.app k ns xs h.2⟩
 | [],_::_,h=>h.elim
 |_::_,[],h=>h.elim
def cu.len{R}:∀(ns:List Nat)(xs:List Ex),cu R ns xs->ns.length=xs.length
 | [],[],_=>rfl
 |n::ns,x::xs,h=>by simp [cu.len ns xs h.2]
 | [],_::_,h=>h.elim
 |_::_,[],h=>h.elim
def dG:∀(rs:List (ae×Nat×Ex)) (x:Ex),aO (cd x rs)=aO x++(rs.map fun r=>r.2.2).flatMap aO
 | [],x=>by simp [cd]
 |(t,p,y)::rs,x=>by
  rw [cd,dG rs];simp [dE,aO]
def vY{pl:List PV}{f:Nat}(A:∀n x,Tr pl f n x->cu (Tr pl 1) (aJ pl f n) (aO x)):∀(ns:List Nat)(xs:List Ex),cu (Tr pl f) ns xs->cu (Tr pl 1) (ns.flatMap (aJ pl f)) (xs.flatMap aO)
 | [],[],_=>trivial
 |n::ns,x::xs,h=>by
  simp only [bN];exact cu.app (vY A ns xs h.2) _ _ (A n x h.1)
 | [],_::_,h=>h.elim
 |_::_,[],h=>h.elim
def eg(pl):∀(f n:Nat)(x:Ex),Tr pl f n x->cu (Tr pl 1) (aJ pl f n) (aO x)
 |0,_,_,h=>h.elim
 |f+1,n,x,⟨p,hp,h⟩=>by
  rw [aJ,hp]
  rcases h with ⟨h1,hn,h2⟩|⟨h1,h0,hn,h2⟩|⟨h1,h0,hn,h2⟩|⟨h1,h0,J,ns,Q,rs,A,h4,h5,D,I,C⟩|⟨h1,h0,R,J,ns,Q,rs,A,h4,h5,D,I,C⟩
  ·simp only [h1,Nat.reduceEqDiff,or_self,a8,h2,aO];exact ⟨⟨p,hp,.inl ⟨h1,hn,rfl⟩⟩,trivial⟩
  ·simp only [h1,Nat.reduceEqDiff,or_self,a8,h2,aO];exact ⟨⟨p,hp,.inr (.inl ⟨h1,h0,hn,rfl⟩)⟩,trivial⟩
  ·simp only [h1,Nat.reduceEqDiff,or_self,a8,h2,aO];exact ⟨⟨p,hp,.inr (.inr (.inl ⟨h1,h0,hn,rfl⟩))⟩,trivial⟩
  ·simp only [h1,true_or,if_true,C,A,dG,bN];exact Qe
  simp only [h1,or_true,if_true,C,A,dG,bN];exact Qe
section
variable {w w':af}{b:Nat}{kv rv pv:ag}{kl:List (ae×Nat)}{rl:List RV}{pl:List PV}{l:List PX}
def DM.pat(h:DM w b kv rv pv kl rl pl l)(i p)(hi:pl[i]? =some p):∃g c ga gc pa pc sa sc,pv=aw (some (aN g)) pl.length c/\mh w (p,aw ga p.gs.length gc,aw pa p.ps.length pc,aw sa p.sg.length sc)/\
  w.cell? (aC g (i*8))=some (ar p.kind)/\w.cell? (aC g (i*8+1))=some (aw ga p.gs.length gc)/\w.cell? (aC g (i*8+2))=some (aj p.nb)/\w.cell? (aC g (i*8+3))=some (aj p.nr)/\w.cell? (aC g (i*8+4))=some (ar p.pa)/\w.cell? (aC g (i*8+5))=some (ar p.pr)/\w.cell? (aC g (i*8+6))=some (aw pa p.ps.length pc)/\w.cell? (aC g (i*8+7))=some (aw sa p.sg.length sc):=by
 have hl:pl.length=l.length:=by rw [<-h.pt.fst,List.length_map]
 rw [<-h.pt.fst,List.getElem?_map] at hi;obtain ⟨x,J,rfl⟩:=Option.map_eq_some_iff.1 hi;have I:=h.pt.row;rw [hl] at I;obtain ⟨g,c,e,hc⟩:=bo pF 8 (fun _=>rfl) I i x J;have A:=h.pt.rep x (bG J);obtain ⟨p,gv,Q,sv⟩:=x;obtain ⟨ga,gc,e1⟩:=ax A.g;obtain ⟨pa,pc,C⟩:=ax A.p;obtain ⟨sa,sc,D⟩:=ax A.s;simp only at e1 C D;subst e1 C D;exact ⟨g,c,ga,gc,pa,pc,sa,sc,by rw [e,hl],A,hc 0 _ ai rfl,hc 1 _ ai rfl,hc 2 _ ai rfl,hc 3 _ ai rfl,hc 4 _ ai rfl,hc 5 _ ai rfl,hc 6 _ ai rfl,hc 7 _ ai rfl⟩
end
def gP(pl:List PV)(n:Nat)(lv:List Nat):Prop:=∀(b:Nat) (kv rv pv:ag) (kl:List (ae×Nat)) (rl:List RV) (l:List PX) (w:af),DM w b kv rv pv kl rl pl l->
 Calls prog 191 #[.pointer (some (aC b 5)),ar n] w fun e w'=>∃sv,e=bj sv/\an w w'/\w'.ownsRow w.heap.size 3 1 sv lv.length (lv.map fun n:Nat=>ar n)
def DZ(pl n p)(hp:pl[n]? =some p)(D:p.kind≠4)(J:p.kind≠5):gP pl n [n]:=by
 intro b kv rv pv kl rl l w h;obtain ⟨g,c,ga,gc,pa,pc,sa,sc,rfl,R,k0,k1,U,k3,V,Y,Z,ab⟩:=h.pat n p hp;refine vZ ?_;intro c7 hn hn';have A:¬((p.kind:Int)=4):=ai;have C:¬((p.kind:Int)=5):=ai;have I:((p.kind:Int) != 4)=true:=gV.2 A;have Q:((p.kind:Int) != 5)=true:=gV.2 C;go_enter func191,ntmps191;go_wp2;go_ret;refine ⟨_,rfl,((aA _ w).alloc aH _).alloc au _,rfl,.inr ⟨w.heap.size+1,1,#[ar n],rfl,ai,?_,ai,by unfold maxLen;omega,rfl,rfl⟩⟩;exact aL.new' (w.alloc _) _ _ _ au
def j0(f:α->List β)(l:List α)(k)(a:α)(h:l[k]? =some a):(l.take (k+1)).flatMap f=(l.take k).flatMap f++f a:=by
 obtain ⟨A,rfl⟩:=bD.1 h;rw [cD A,cN];simp
def oq(f:α->List β)(l:List α)(k):((l.take k).flatMap f).length<=(l.flatMap f).length:=by
 have:l.flatMap f=(l.take k).flatMap f++(l.drop k).flatMap f:=by rw [<-cN,po]
 rw [this,bg];omega
def Bj(pl n p)(hp:pl[n]? =some p)(hk:p.kind=4)(lf)(hc:∀m∈p.ps,gP pl m (lf m)/\0<(lf m).length)(bj:(p.ps.flatMap lf).length<=1000)(bk:p.ps.length<=1000):gP pl n (p.ps.flatMap lf):=by
 generalize aY:p.ps.flatMap lf=G at*;have HG:=ak aY;clear aY;intro b kv rv pv kl rl l w h;obtain ⟨iI,hi1,hy0,hy1,hy2⟩:=eL Tryz.infoInt;obtain ⟨g,c,ga,gc,pa,pc,sa,sc,rfl,hr,k0,k1,ba,k3,bb,bc,be,bh⟩:=h.pat n p hp;refine vZ ?_;intro c7 hn hn';have a9:((p.kind:Int) != 4)=false:=by rw [hk];rfl
 have a8:((p.kind:Int) != 4)=false:=by rw [hk];rfl
 refine Qf ?_;intro hkq RP B0;clear hk;refine pN ?_;intro Ns;clear hr hp;go_enter func191,ntmps191;go_wp2_with fail;clear k0 k1 ba k3 bb bc be bh c7 a9 hkq a8
 go_loopw [6,7] (fun bi aV wr=>∃(k:Nat)(fv:List Nat)(aW:Option Addr)(aX:Nat),k<=p.ps.length/\aV=ar k/\bi=aw aW fv.length aX/\an w wr/\aL wr w.heap.size #[ar p.kind,aw ga p.gs.length gc,aj p.nb,aj p.nr,ar p.pa,ar p.pr,aw pa p.ps.length pc,aw sa p.sg.length sc] 255/\wr.ownsRow w.heap.size 3 1 (aw aW fv.length aX) fv.length (fv.map fun n:Nat=>ar n)/\Hid (fv=(p.ps.take k).flatMap lf)) (fun _ aV _=>p.ps.length-(intOf aV).toNat)
 ·exact ⟨0,[],none,0,ai,rfl,rfl,B0,Ns,bQ,ak au⟩
 exact Xr
def Bk(pl n p)(hp:pl[n]? =some p)(hk:p.kind=5)(lf)(hc:∀m∈p.ps,gP pl m (lf m)/\0<(lf m).length)(bj:(p.ps.flatMap lf).length<=1000)(bk:p.ps.length<=1000):gP pl n (p.ps.flatMap lf):=by
 generalize aY:p.ps.flatMap lf=G at*;have HG:=ak aY;clear aY;intro b kv rv pv kl rl l w h;obtain ⟨iI,hi1,hy0,hy1,hy2⟩:=eL Tryz.infoInt;obtain ⟨g,c,ga,gc,pa,pc,sa,sc,rfl,hr,k0,k1,ba,k3,bb,bc,be,bh⟩:=h.pat n p hp;refine vZ ?_;intro c7 hn hn';have a9:((p.kind:Int) != 5)=false:=by rw [hk];rfl
 have a8:((p.kind:Int) != 4)=true:=by rw [hk];rfl
 refine Qf ?_;intro hkq RP B0;clear hk;refine pN ?_;intro Ns;clear hr hp;go_enter func191,ntmps191;go_wp2_with fail;clear k0 k1 ba k3 bb bc be bh c7 a9 hkq a8
 go_loopw [6,7] (fun bi aV wr=>∃(k:Nat)(fv:List Nat)(aW:Option Addr)(aX:Nat),k<=p.ps.length/\aV=ar k/\bi=aw aW fv.length aX/\an w wr/\aL wr w.heap.size #[ar p.kind,aw ga p.gs.length gc,aj p.nb,aj p.nr,ar p.pa,ar p.pr,aw pa p.ps.length pc,aw sa p.sg.length sc] 255/\wr.ownsRow w.heap.size 3 1 (aw aW fv.length aX) fv.length (fv.map fun n:Nat=>ar n)/\Hid (fv=(p.ps.take k).flatMap lf)) (fun _ aV _=>p.ps.length-(intOf aV).toNat)
 ·exact ⟨0,[],none,0,ai,rfl,rfl,B0,Ns,bQ,ak au⟩
 exact Xr
def JU (h:aD:=by
 simp [hm]):aD:=h
def Bl (h:aD:=by
 rw [h3] at hm
 rcases List.mem_cons.1 hm with rfl|hm
 ·exact ⟨x0,h4⟩
 obtain ⟨y,_,A⟩:=cu.mem _ _ h5 m hm;exact ⟨y,A⟩):aD:=h
def Qg (h:aD:=by
 exact aV (ti (aJ pl f) _ (fun m A=>by obtain ⟨y,C⟩:=key m A;exact mr pl f m y C)) hl):aD:=h
def Qh (h:aD:=by
 obtain ⟨y,A⟩:=key m hm;exact ⟨ih m y A (aV (tj _ _ _ hm) hl),mr pl f m y A⟩):aD:=h
def Hf (h:aD:=by
 simp only [h1,Nat.reduceEqDiff,or_self,a8];exact DZ pl n p hp ai ai):aD:=h
def Bm (h:aD:=by
 simp only [bN,bg,List.length_cons];omega):aD:=h
def Qi (h:aD:=by
 simp only [cN,bN,bg];omega):aD:=h
def Qj(q:br) (h:cj br->aD:=by
 intro zq;unfold Oper.wp execOp;simp only [ho,resolve,invoke,builtin,Sem.run_bind,Sem.run_pure,Result.andThen_ok,List.map_toArray,List.map_cons,List.map_nil,hs,hx,hrun];exact zq.1):aD:=h ⟨q⟩
def Qk(q:br) (h:cj br->aD:=by
 intro zq;have hrun:=run_append_nothing (P:=P) w t t o.type e i ht hi av n cv (ug hown) xv (by rw [hsize];exact Vq ht hnews h1);refine Qj ?_
 revert hrun
 exact zq.1):aD:=h ⟨q⟩
def Vq(C:P.underlying T=some (.slice E))(h:w.ownsRow base E size v n xs)(h1:∀u∈xs,u.oneCell'=true):Src P size T v n xs w:=by
 rcases h with ⟨h0,⟨rfl,h2⟩|⟨g,cap,J,rfl,Q,D,R,U,hs,I⟩⟩
 ·subst h2;have:xs=[]:=iF (by simpa using h0);subst this;exact Src.ofNil w C 0
 refine Src.ofSlice w C _ _ _ _ h0 ?_ h1;intro j u A;rw [<-I,List.getElem?_take] at A
 split at A
 ·rw [Addr.add_lit];simp [World.cell?,D] at A ⊢;exact A
 simp at A
def ug{a}(h:w.ownsRow base E size (aw a m c) n xs):n<=c:=by
 rcases h with ⟨_,⟨e,h2⟩|⟨g,cap,A,e,_,_,C,_⟩⟩
 ·omega
 simp only [aK] at e;omega
def g4{R:Array Oper}{o:Oper}{a:Act}{Q:Exit->Act->af->Prop}(D:o.guard=none)(s x:Operand)(t:TypeId)
  (ho:o.op=.call {callee:=.builtin .append,args:=#[s,x],argTypes:=#[t,t]})
  (base:Nat) (e:TypeId) (i:TypeInfo) (z:ag) (size bytes:Nat) (ht:P.underlying t=some (.slice e)) (hi:P.info? e=some i) (aj:i.zero=some z)
  (hsize:i.size=size) (ac:i.bytes=bytes) (ak:z.cells.size=size) (ai:0<size)
  (v:ag) (n:Nat) (C:List ag) (hs:a.eval s=v) (hown:w.ownsRow base e size v n C)
  (xv:ag) (m:Nat) (A:List ag) (hx:a.eval x=xv) (U:Nat) (hnews:w.ownsRow U e size xv m A) (h1:∀u∈A,u.oneCell'=true)
  (Z:n+m<=maxLen) (ad:(n+m)*bytes<=140737488355328) (hbase:base<=w.heap.size)
  (h:∀av cv w',w'.ownsRow base e size (aw av (n+m) cv) (n+m) (C++A)->w.grownBy w' v.ownBlock->(∀g,(Value.slice av (n+m) cv).ownBlock=some g->v.ownBlock=some g\/g=w.heap.size)->wpList P R Q rest (a.put o.dst (aw av (n+m) cv)) w'):wpList P R Q (o::rest) a w:=by
 by_cases I:0<m
 ·obtain ⟨g,c,rfl,hl,hn⟩:=oi hnews I;refine lX w D s x t ho base e i z size bytes ht hi aj hsize ac ak ai v n C hs hown ⟨g,0,none⟩ m c A hx hl hn h1 I Z ad hbase _ rfl ?_;intro g5 cap w' h2 V Y al;refine h _ cap w' h2 V (fun q J=> ?_);simp only [Value.ownBlock,aR] at J;subst J;exact Y
 ·obtain rfl:m=0:=by omega
  have ah:A=[]:=iF (by simpa using hnews.1);subst ah;obtain ⟨av,cv,rfl⟩:=ax hown;refine wpList_plain D fun K ab=> ?_
  refine Qk ?_;intro hrun;exact ab _ _ (h av cv w (by simpa using hown) ⟨rfl,rfl,rfl,bV _,fun _ _ _=>rfl⟩ (fun g ae=> .inl ae))
def sf{J:Array Oper}{o:Oper}{a:Act}{K:Act->af->Prop}{Q:Exit->Act->af->Prop}{R:Prop}(D:o.guard=none)(s x:Operand)(t:TypeId)
  (ho:o.op=.call {callee:=.builtin .append,args:=#[s,x],argTypes:=#[t,t]})
  (base:Nat) (e:TypeId) (i:TypeInfo) (z:ag) (size bytes:Nat) (ht:P.underlying t=some (.slice e)) (hi:P.info? e=some i) (ah:i.zero=some z)
  (hsize:i.size=size) (Z:i.bytes=bytes) (ai:z.cells.size=size) (ad:0<size)
  (v:ag) (n:Nat) (C:List ag) (hs:a.eval s=v) (hown:w.ownsRow base e size v n C)
  (xv:ag) (m:Nat) (A:List ag) (hx:a.eval x=xv) (U:Nat) (hnews:w.ownsRow U e size xv m A) (h1:∀u∈A,u.oneCell'=true)
  (Y:n+m<=maxLen) (ab:(n+m)*bytes<=140737488355328) (hbase:base<=w.heap.size)
  (h:∀av cv w',w'.ownsRow base e size (aw av (n+m) cv) (n+m) (C++A)->w.grownBy w' v.ownBlock->K (a.put o.dst (aw av (n+m) cv)) w'):
  if Region.wanted o (yielded J a.tmps)=true then Oper.wp P o a w K Q else R:=by
 by_cases I:0<m
 ·obtain ⟨g,c,rfl,hl,hn⟩:=oi hnews I;exact step_append_lies w D s x t ho base e i z size bytes ht hi ah hsize Z ai ad v n C hs hown ⟨g,0,none⟩ m c A hx hl hn h1 I Y ab hbase _ rfl (fun g5 cap w' h2 V aj ak=>h _ cap w' h2 V)
 ·obtain rfl:m=0:=by omega
  have ac:A=[]:=iF (by simpa using hnews.1);subst ac;obtain ⟨av,cv,rfl⟩:=ax hown;have ae:Region.wanted o (yielded J a.tmps)=true:=by simp [Region.wanted,D]
  rw [if_pos ae];refine Qk ?_;intro hrun;exact h av cv w (by simpa using hown) ⟨rfl,rfl,rfl,bV _,fun _ _ _=>rfl⟩
def ot{s1 E1 xs1}(h:W.ownsRow b1 E1 s1 v1 n1 xs1)(k:W.ownsRow base E size v n xs)(C:W.grownBy w5 v.ownBlock)(D:E1≠E):w5.ownsRow b1 E1 s1 v1 n1 xs1:=az h (fun g cs f _ A=>C.block g (lt_of_some A) (dT k A D))
def fg(h:an w W)(k:W.ownsRow w.heap.size E size v n xs)(A:W.grownBy w5 v.ownBlock):an w w5:=cA h A h.size (fun j C=>(k.lt j C).1)
def via2{h:Prop}{P:Option Addr->Nat->af->Prop}{A:Option Addr->Nat->af->Act}{C:Option Addr->Nat->af->af}{K:Act->af->Prop}(main:(∀g c w,P g c w->K (A g c w) (C g c w))->h)(key:∀g c w,P g c w->K (A g c w) (C g c w)):h:=main key
def cu.mem{R}:∀(ns:List Nat)(xs:List Ex),cu R ns xs->∀n∈ns,∃x∈xs,R n x
 | [],[],_,n,hn=>by simp at hn
 |m::ns,x::xs,h,n,hn=>by
  rcases List.mem_cons.1 hn with rfl|hn
  ·exact ⟨x,au,h.1⟩
  obtain ⟨y,C,A⟩:=cu.mem ns xs h.2 n hn;exact ⟨y,by simp [C],A⟩
 | [],_::_,h,_,_=>h.elim
 |_::_,[],h,_,_=>h.elim
def ti{α β:Type}(f:α->List β):∀(l:List α),(∀m∈l,0<(f m).length)->l.length<=(l.flatMap f).length
 | [],_=>au
 |a::l,h=>by
  have h1:=h a au;have h2:=ti f l (fun m hm=>h m JU);exact Bm
def tj(f:α->List β)(l:List α)(a:α)(h:a∈l):(f a).length<=(l.flatMap f).length:=by
 obtain ⟨p,q,rfl⟩:=List.append_of_mem h;exact Qi
def mr(pl):∀(f n:Nat)(x:Ex),Tr pl f n x->0<(aJ pl f n).length
 |0,_,_,h=>h.elim
 |f+1,n,x,⟨p,hp,h⟩=>by
  rw [aJ,hp]
  rcases h with ⟨h1,hn,h2⟩|⟨h1,h0,hn,h2⟩|⟨h1,h0,hn,h2⟩|⟨h1,h0,R,ns,U,rs,A,C,D,I,J,Q⟩|⟨h1,h0,V,R,ns,U,rs,A,C,D,I,J,Q⟩
  ·simp [h1]
  ·simp [h1]
  ·simp [h1]
  ·have:=mr pl f _ _ C;simp only [h1,true_or,if_true,A,bN,bg];omega
  have:=mr pl f _ _ C;simp only [h1,or_true,if_true,A,bN,bg];omega
def hP(pl):∀(f n:Nat)(x:Ex),Tr pl f n x->(aJ pl f n).length<=1000->gP pl n (aJ pl f n)
 |0,_,_,h,_=>h.elim
 |f+1,n,x,⟨p,hp,h⟩,hl=>by
  have ih:=hP pl f;rw [aJ,hp] at hl ⊢
  rcases h with ⟨h1,hn,h2⟩|⟨h1,h0,hn,h2⟩|⟨h1,h0,hn,h2⟩|⟨h1,h0,Q,ns,x0,rs,h3,h4,h5,D,I,J⟩|⟨h1,h0,R,Q,ns,x0,rs,h3,h4,h5,D,I,J⟩
  ·exact Hf
  ·exact Hf
  ·exact Hf
  ·simp only [h1,true_or,if_true] at hl ⊢;have key:∀m∈p.ps,∃y,Tr pl f m y:=fun m hm=>by
    exact Bl
   refine Bj pl n p hp h1 (aJ pl f) (fun m hm=> ?_) hl ?_
   ·exact Qh
   exact Qg
  simp only [h1,or_true,if_true] at hl ⊢;have key:∀m∈p.ps,∃y,Tr pl f m y:=fun m hm=>by
   exact Bl
  refine Bk pl n p hp h1 (aJ pl f) (fun m hm=> ?_) hl ?_
  ·exact Qh
  exact Qg
def jK(pl:List PV)(m:Nat):List Gr:=match pl[m]? with
 |some p=>p.gs
 |none=>[]
def YE(gs:List Gr):∀u∈gs.flatMap cO,u.oneCell'=true:=by
 intro u A;obtain ⟨g,_,h⟩:=b6.1 A;simp only [cO,List.mem_cons,List.not_mem_nil,or_false] at h
 rcases h with rfl|rfl|rfl|rfl<;>rfl
def D0(b:Nat)(kv rv pv kl rl pl l)(r:Nat)(x lv G w)(h:DM w b kv rv pv kl rl pl l)(aj:rl[r]? =some x)(aJ:gP pl x.ex lv)(aQ:∀m∈lv,m<pl.length)(aG:lv.flatMap (jK pl)=G)(a3:G.length<=1000000)(a5:lv.length<=1000):
  Calls prog 196 #[.pointer (some (aC b 5)),ar r] w fun e w'=>∃sv,e=bj sv/\an w w'/\w'.ownsRow w.heap.size 257 4 sv G.length (G.flatMap cO):=by
 obtain ⟨aV,aO,aS,aT,aU⟩:=eL Tryz.infoGr;obtain ⟨g,c,rfl,k0,k1,a8,k3⟩:=h.rat r x aj;have c6:=h.c6;have af:=(bD.1 aj).1;have a7:(r:Int)<(rl.length:Int):=ai;have ab:=ak aG;have C:=aJ b kv _ pv kl rl l w h;go_enter func196,ntmps196;go_wp2_with fail;refine C.mono ?_;rintro e w1 ⟨sv,rfl,aL,ah⟩;obtain ⟨aW,aX,rfl⟩:=ax ah;simp only [List.length_map] at*;go_wp2_with fail
 go_loopw [5,7] (fun aY Z wr=>∃(k:Nat)(fv:List Gr)(D:Option Addr)(I:Nat),k<=lv.length/\Z=ar k/\aY=aw D fv.length I/\an w wr/\wr.ownsRow w.heap.size 3 1 (aw aW lv.length aX) lv.length (lv.map fun n:Nat=>ar n)/\wr.ownsRow w.heap.size 257 4 (aw D fv.length I) fv.length (fv.flatMap cO)/\Hid (fv=(lv.take k).flatMap (jK pl))) (fun _ Z _=>lv.length-(intOf Z).toNat)
 ·exact ⟨0,[],none,0,ai,rfl,rfl,aL,ah,bQ,ak au⟩
 ·obtain ⟨k,fv,D,I,a4,rfl,rfl,J,ag,Q,U⟩:=hrel;have aR:=J.size
  by_cases hlt:k<lv.length
  ·have ae:=aQ _ (bu hlt);obtain ⟨q,a1,e1,a9⟩:=aZ ag k (ar (lv[k]:Nat)) qC;simp only [aK,true_and] at e1;obtain ⟨rfl,rfl⟩:=e1;have ac:=h.below J;have V:=ak (j0 (jK pl) lv k _ (aI hlt));have ad:=oq (jK pl) lv (k+1);rw [aE V,<-aE U,bg,ab.u] at ad;have aP:(k:Int)<(lv.length:Int):=ai;generalize lv[k]=m at*;obtain ⟨a2,a0,ga,gc,pa,pc,sa,sc,rfl,af,ba,bb,bc,be,bh,bi,bk,bl⟩:=ac.pat m pl[m] (aI ae);have aN:jK pl m=pl[m].gs:=by unfold jK;rw [aI ae]
   rw [aN] at V ad;have c7:=ac.c7;have a6:(m:Int)<(pl.length:Int):=ai;have aF:=af.g;generalize pl[m]=p at*;go_wp2_with fail;have ap:=(by unfold maxLen;omega:fv.length+p.gs.length<=maxLen);have av:=(by omega:(fv.length+p.gs.length)*48<=140737488355328);rename_i K aH;apply via2 (K:=K) (P:=fun A cv w5=>wr.drew.grownBy w5 (Value.slice D fv.length I).ownBlock/\w5.ownsRow w.heap.size 257 4 (aw A (fv.length+p.gs.length) cv) (fv.length+p.gs.length) (fv.flatMap cO++p.gs.flatMap cO))
   case main=>
    intro key
    go_region_law (refine sf rfl (.tmp 24) (.tmp 35) 253 rfl w.heap.size 257 aV _ 4 48 underlying253 aO aS aT aU rfl ay (aw D fv.length I) fv.length (fv.flatMap cO) (by simp [Act.eval]) (cQ Q) (aw ga p.gs.length gc) p.gs.length (p.gs.flatMap cO) (by simp [Act.eval]) 0 (cQ aF) (YE _) ap av aR ?_;intro A cv w5 Y R;have am:=R;have aA:=Y)
    all_goals exact key A cv w5 ⟨am,aA⟩
   case key=>
    rintro A cv w5 ⟨R,Y⟩;have al:=fg J.drew (cQ Q) R;have aB:=ot (cQ ag) (cQ Q) R ay;refine aH _ _ ?_;go_wp2;go_roundw
    ·exact ⟨k+1,fv++p.gs,A,cv,ai,by go_num,au,al,aB,by simpa using Y,ak (by rw [aE U,aE V])⟩
    simp [intOf];omega
  have aP:¬((k:Int)<(lv.length:Int)):=ai;have aM:fv=G:=by rw [aE U,cY ai,ab.u]
  have az:=ak aM;go_wp2;go_ret;rw [<-az.u];exact ⟨_,rfl,J,Q⟩
def Ql (h:aD:=by
 have A:=ak hq;clear hb HI hq;go_wp2;go_roundw
 ·exact ⟨i+1,c',ai,by go_num,rfl,HBI,ak (by rw [A];exact JV)⟩
 simp [intOf];omega):aD:=h
def mw (h:aD:=by
 go_wp2;go_roundw
 ·exact ⟨k+1,_,ai,by go_num,rfl,below_drewN HBI _,Bo⟩
 simp [intOf];omega):aD:=h
def D1(base:Nat)(v:ag)(l:List Nat)(n:Nat)(w:af)(h:w.ownsRow base 3 1 v l.length (l.map fun n:Nat=>ar n))(U:l.length<=1000000000):
  Calls prog 194 #[v,ar n] w fun e w'=>e=bj (.bool (l.any fun k=>k==n))/\an w w':=by
 obtain ⟨Y,Z,rfl⟩:=ax h;generalize C:(l.any fun k=>k==n)=R;have HR:=(C:((l.drop 0).any fun k=>k==n)=R);clear C;go_enter func194,ntmps194;go_wp2_with fail
 go_loopw [5] (fun u wr=>∃k:Nat,k<=l.length/\u=ar k/\an w wr/\Hid (((l.drop k).any fun k=>k==n)=R)) (fun u _=>l.length-(intOf u).toNat)
 ·exact vp
 ·obtain ⟨k,Q,rfl,hb,HQ⟩:=hrel
  by_cases hlt:k<l.length
  ·obtain ⟨q,J,e1,V⟩:=aZ (aB h hb) k (ar (l[k]:Nat)) qC;simp only [aK,true_and] at e1;obtain ⟨rfl,rfl⟩:=e1;rw [c9 hlt,kg] at HQ;generalize l[k]=m at*;have I:(k:Int)<(l.length:Int):=ai
   by_cases A:m=n
   ·have D:((m:Int)==(n:Int))=true:=by rw [dQ];omega
    rw [dQ.2 A,rO] at HQ;clear A;exact AN
   have D:((m:Int)==(n:Int))=false:=by rw [bW];omega
   rw [bW.2 A,Bool.false_or] at HQ;clear A;exact OT
  have I:¬((k:Int)<(l.length:Int)):=ai;exact OR
def eG(best:Int)(p:Nat):Int:=if best<0\/(p:Int)<best then p else best
def tm(x:ae×Nat):List (ae×Nat)->Int->Int
 | [],c=>c
 |y::ys,c=>tm x ys (if eqs y.1 x.1 then eG c x.2 else c)
def nK:List (ae×Nat)->List (ae×Nat)->Int->Int
 |_,[],c=>c
 |acc,x::xs,c=>nK (acc++[x]) xs (tm x acc c)
def tq(x:RV):List RV->Int->Int
 | [],c=>c
 |y::ys,c=>tq x ys (if eqs y.kd x.kd&&eqs y.nm x.nm then eG c x.pl else c)
def pO:List RV->List RV->Int->Int
 |_,[],c=>c
 |acc,x::xs,c=>pO (acc++[x]) xs (tq x acc c)
def v6(kl:List (ae×Nat))(rl:List RV):Int:=pO [] rl (nK [] kl (-1))
def Hg(b kv rv pv kl rl pl l w)(h:DM w b kv rv pv kl rl pl l):
  Calls prog 128 #[.pointer (some (aC b 5))] w fun e w'=>e=bj (ar (v6 kl rl))/\an w w':=by
 obtain ⟨aJ,aL,rfl⟩:=ax h.kt;obtain ⟨aM,rc,rfl⟩:=ax h.rt;have H:=ak h;have aG:=h.kn;have aH:=h.rn;clear h;go_enter func128,ntmps128;go_wp2_with fail
 go_loopw [3,4] (fun J ab wr=>∃(i:Nat)(c:Int),i<=kl.length/\ab=ar i/\J=ar c/\an w wr/\Hid (nK (kl.take i) (kl.drop i) c=nK [] kl (-1))) (fun _ ab _=>kl.length-(intOf ab).toNat)
 ·exact ⟨0,-1,ai,rfl,rfl,aA _ _,ak au⟩
 ·obtain ⟨i,c,hi,rfl,rfl,hb,C⟩:=hrel;have c5:=(H.below hb).c5;have Q:=ak hb
  by_cases I:i<kl.length
  ·have Z:(i:Int)<(kl.length:Int):=by omega
   have hq:=aE C;rw [c9 I,nK,<-cD I] at hq;have JV:=ak hq;obtain ⟨al,gc,e1,ag,ah⟩:=(H.below hb).kat i kl[i] (aI I);simp only [aK,true_and] at e1;obtain ⟨rfl,rfl⟩:=e1;have U:=ak (aI I);generalize kl[i]=x at*;clear hb C hq;go_wp2_with fail
   go_loopw [3,5] (fun J ac af=>∃(k:Nat)(c':Int),k<=i/\ac=ar k/\J=ar c'/\an w af/\Hid (tm x ((kl.take i).drop k) c'=tm x (kl.take i) c)) (fun _ ac _=>i-(intOf ac).toNat)
   ·exact ⟨0,c,ai,rfl,rfl,Q,ak au⟩
   clear ag ah c5;obtain ⟨k,c',aw,rfl,rfl,hb,HI⟩:=hrel;have c5:=(H.below hb).c5;obtain ⟨al,gc,e1,ag,ah⟩:=(H.below hb).kat i x U;simp only [aK,true_and,aR,cg,and_true] at e1;obtain ⟨rfl,rfl⟩:=e1;have HBI:=ak hb
   by_cases az:k<i
   ·have V:(k:Int)<(i:Int):=by omega
    have Y:k<kl.length:=ai;have ay:(k:Int)<(kl.length:Int):=ai;obtain ⟨av,ap,e1,aB,aF⟩:=(H.below hb).kat k kl[k] (aI Y);simp only [aK,true_and,aR,cg,and_true] at e1;obtain ⟨rfl,rfl⟩:=e1;have hq:=aE HI;rw [c9 mM,List.getElem_take,tm] at hq;generalize kl[k]=y at*
    cases D:eqs y.1 x.1
    ·rw [D] at hq;simp only [bJ,a8] at hq;rw [aQ] at D;have Bo:=ak hq;clear hb HI hq;go_wp2
     go_quiet (fail)
     exact mw
    rw [D] at hq;simp only [if_true] at hq;rw [aQ] at D
    by_cases h0:c'<0
    ·rw [show eG c' x.2=x.2 from by simp [eG,h0]] at hq;have Bo:=ak hq;clear hb HI hq;go_wp2
     go_quiet (fail)
     exact mw
    by_cases h1:(x.2:Int)<c'
    ·rw [show eG c' x.2=x.2 from by simp [eG,h1]] at hq;have Bo:=ak hq;clear hb HI hq;go_wp2
     go_quiet (fail)
     exact mw
    rw [show eG c' x.2=c' from by simp [eG,h0,h1]] at hq;have Bo:=ak hq;clear hb HI hq;go_wp2
    go_quiet (fail)
    exact mw
   have V:¬((k:Int)<(i:Int)):=ai;have hq:=aE HI;rw [eA mM,tm] at hq;exact Ql
  have Z:¬((i:Int)<(kl.length:Int)):=ai;have hq:=aE C;rw [eA ai,nK] at hq;have aj:=ak hq;clear hb C hq;go_wp2_with fail;clear c5
  go_loopw [3,6] (fun J ad wr=>∃(i:Nat)(c:Int),i<=rl.length/\ad=ar i/\J=ar c/\an w wr/\Hid (pO (rl.take i) (rl.drop i) c=v6 kl rl)) (fun _ ad _=>rl.length-(intOf ad).toNat)
  ·exact ⟨0,c,ai,rfl,rfl,Q,ak (by rw [aj];rfl)⟩
  clear Q aj;obtain ⟨i,c,hi,rfl,rfl,hb,C⟩:=hrel;have c6:=(H.below hb).c6;have Q:=ak hb
  by_cases I:i<rl.length
  ·have Z:(i:Int)<(rl.length:Int):=by omega
   have hq:=aE C;rw [c9 I,pO,<-cD I] at hq;have JV:=ak hq;have U:=ak (aI I);generalize rl[i]=x at*;clear hb C hq;go_wp2_with fail
   go_loopw [3,7] (fun J ae af=>∃(k:Nat)(c':Int),k<=i/\ae=ar k/\J=ar c'/\an w af/\Hid (tq x ((rl.take i).drop k) c'=tq x (rl.take i) c)) (fun _ ae _=>i-(intOf ae).toNat)
   ·exact ⟨0,c,ai,rfl,rfl,Q,ak au⟩
   clear c6;obtain ⟨k,c',aw,rfl,rfl,hb,HI⟩:=hrel;have c6:=(H.below hb).c6;have HBI:=ak hb
   by_cases az:k<i
   ·have V:(k:Int)<(i:Int):=by omega
    obtain ⟨al,gc,e1,ag,ah,aN,aO⟩:=(H.below hb).rat i x U;simp only [aK,true_and] at e1;obtain ⟨rfl,rfl⟩:=e1;have Y:k<rl.length:=ai;have ay:(k:Int)<(rl.length:Int):=ai;obtain ⟨av,ap,e1,aB,aF,aP,aS⟩:=(H.below hb).rat k rl[k] (aI Y);simp only [aK,true_and,aR,cg,and_true] at e1;obtain ⟨rfl,rfl⟩:=e1;have hq:=aE HI;rw [c9 mM,List.getElem_take,tq] at hq;generalize rl[k]=y at*
    cases D:eqs y.kd x.kd
    ·rw [D,eK] at hq;simp only [bJ,a8] at hq;rw [aQ] at D;have Bo:=ak hq;clear hb HI hq;go_wp2
     go_quiet (fail)
     exact mw
    rw [D,Bool.true_and] at hq;rw [aQ] at D
    cases R:eqs y.nm x.nm
    ·rw [R] at hq;simp only [bJ,a8] at hq;rw [aQ] at R;have Bo:=ak hq;clear hb HI hq;go_wp2
     go_quiet (fail)
     exact mw
    rw [R] at hq;simp only [if_true] at hq;rw [aQ] at R
    by_cases h0:c'<0
    ·rw [show eG c' x.pl=x.pl from by simp [eG,h0]] at hq;have Bo:=ak hq;clear hb HI hq;go_wp2
     go_quiet (fail)
     exact mw
    by_cases h1:(x.pl:Int)<c'
    ·rw [show eG c' x.pl=x.pl from by simp [eG,h1]] at hq;have Bo:=ak hq;clear hb HI hq;go_wp2
     go_quiet (fail)
     exact mw
    rw [show eG c' x.pl=c' from by simp [eG,h0,h1]] at hq;have Bo:=ak hq;clear hb HI hq;go_wp2
    go_quiet (fail)
    exact mw
   have V:¬((k:Int)<(i:Int)):=ai;have hq:=aE HI;rw [eA mM,tq] at hq;exact Ql
  have Z:¬((i:Int)<(rl.length:Int)):=ai;have hq:=aE C;rw [eA ai,pO] at hq;have am:=ak hq;clear hb C hq;go_wp2;go_ret;exact ⟨by rw [<-am];rfl,Q⟩
def Qo (h:aD:=by
 go_wp2;go_roundw
 ·exact ⟨k+1,fv,fa,fc,ai,by go_num,rfl,B2,G2,R2,ak Nt.u.symm⟩
 simp [intOf];omega):aD:=h
def si(a):eqs a em=(a.toList== []):=by rw [aQ,show em.toList=[] from by rw [aT];rfl]
def GrC(rl:List RV)(pl:List PV)(r:Nat)(G:List Gr):Prop:=∀(b:Nat) (kv rv pv:ag) (kl:List (ae×Nat)) (l:List PX) (w:af),DM w b kv rv pv kl rl pl l->
 Calls prog 196 #[.pointer (some (aC b 5)),ar r] w fun e w'=>∃sv,e=bj sv/\an w w'/\w'.ownsRow w.heap.size 257 4 sv G.length (G.flatMap cO)
def dd(k n):∀(l:List RV)(i:Nat),bi k n l i= -1\/∃j:Nat,bi k n l i=j/\i<=j/\j<i+l.length
 | [],i=> .inl rfl
 |x::l,i=>by
  rw [bi]
  split
  ·exact .inr ⟨i,rfl,ai,au⟩
  rcases dd k n l (i+1) with h|⟨j,h1,h2,A⟩
  ·exact .inl h
  exact .inr ⟨j,h1,ai,aS⟩
def hQ(rl:List RV)(rel:ae)(g:Gr):List Nat:=if eqs (bH g) em&&decide (0<=bi g.ty rel rl 0) then [(bi g.ty rel rl 0).toNat] else []
def fA(rl:List RV)(rel:ae)(G:List Gr):List Nat:=G.flatMap (hQ rl rel)
def Qp(rl rel g):(hQ rl rel g).length<=1:=by unfold hQ;split<;>simp
def Bq(rl rel):∀(G:List Gr),(fA rl rel G).length<=G.length
 | []=>by simp [fA]
 |g::G=>by
  have h1:=Qp rl rel g;have h2:=Bq rl rel G;unfold fA at*;exact Bm
def zm(b kv rv pv kl rl pl l r D y w)(h:DM w b kv rv pv kl rl pl l)(am:GrC rl pl r D)(aF:D.length<=1000000):
  Calls prog 230 #[.pointer (some (aC b 5)),ar r,aj y] w fun e w'=>∃sv,e=bj sv/\an w w'/\w'.ownsRow w.heap.size 3 1 sv (fA rl y D).length ((fA rl y D).map fun n:Nat=>ar n):=by
 have C:=am b kv rv pv kl l w h;generalize V:fA rl y D=T;have ah:=ak (show D.flatMap (hQ rl y)=T from V);have aY:T.length<=1000000:=by rw [<-V];exact aV (Bq rl y D) aF
 clear am V;go_enter func230,ntmps230;go_wp2_with fail;refine C.mono ?_;rintro e w1 ⟨sv,rfl,ap,ad⟩;obtain ⟨aP,aQ,rfl⟩:=ax ad;clear C;go_wp2_with fail
 go_loopw [7,9] (fun aT af wr=>∃(k:Nat)(fv:List Nat)(fa:Option Addr)(fc:Nat),k<=D.length/\af=ar k/\aT=aw fa fv.length fc/\an w wr/\wr.ownsRow w.heap.size 257 4 (aw aP D.length aQ) D.length (D.flatMap cO)/\wr.ownsRow w.heap.size 3 1 (aw fa fv.length fc) fv.length (fv.map fun n:Nat=>ar n)/\Hid (fv=(D.take k).flatMap (hQ rl y))) (fun _ af _=>D.length-(intOf af).toNat)
 ·exact ⟨0,[],none,0,ai,rfl,rfl,ap,ad,bQ,ak au⟩
 ·clear ap ad;obtain ⟨k,fv,fa,fc,a2,rfl,rfl,hb,Y,hrow,Q⟩:=hrel;have aO:=hb.size
  by_cases ac:k<D.length
  ·obtain ⟨al,aU,e1,hc⟩:=bo cO 4 (fun _=>rfl) Y k D[k] (aI ac);simp only [aK,true_and] at e1;obtain ⟨rfl,rfl⟩:=e1;have R:=ak (j0 (hQ rl y) D k _ (aI ac));have ab:=oq (hQ rl y) D (k+1);rw [R.u,<-aE Q,bg,ah.u] at ab;have aJ:(k:Int)<(D.length:Int):=ai;have aA:=aI ac;generalize D[k]=x at*;have k0:wr.cell? (aC al (k*4))=some (aj x.ty):=hc 0 _ ai rfl;have C:=ef b kv rv pv kl rl pl l x.ty y wr (h.below hb);clear hc;go_wp2_with fail;refine C.mono ?_;rintro e ag ⟨rfl,U⟩;have B2:=hb.trans (U.mono aO);have G2:=aB Y U;have R2:=aB hrow U;obtain ⟨aX,aW,e1,hc⟩:=bo cO 4 (fun _=>rfl) G2 k x aA;simp only [aK,true_and,aR,cg,and_true] at e1;obtain ⟨rfl,rfl⟩:=e1;have k1:ag.cell? (aC al (k*4+1))=some (aj (bH x)):=hc 1 _ ai rfl;have aS:=B2.size;clear U C hb Y hrow hc k0
   cases I:eqs (bH x) em
   ·have aM:((bH x).toList== [])=false:=by rw [<-I,si]
    have Nt:=ak (show (D.take (k+1)).flatMap (hQ rl y)=fv from by rw [R.u,<-aE Q];simp [hQ,I]);clear I;exact Qo
   have aM:((bH x).toList== [])=true:=by rw [<-I,si]
   rcases dd x.ty y rl 0 with J|⟨j,J,a0,a1⟩
   ·have Nt:=ak (show (D.take (k+1)).flatMap (hQ rl y)=fv from by rw [R.u,<-aE Q];simp [hQ,J]);clear I;rw [J];exact Qo
   have ae:hQ rl y x=[j]:=by simp [hQ,I,J]
   have Nt:=ak (show (D.take (k+1)).flatMap (hQ rl y)=fv++[j] from by rw [R.u,<-aE Q,ae]);rw [ae] at ab;simp only [List.length_cons,List.length_nil] at ab;clear I ae;rw [J];have aZ:(0:Int)<=(j:Int):=ai;clear J;go_wp2_with (at_builtin;go_must (refine ez rfl underlying29 Tryz.infoInt w.heap.size (R2.alloc _) ag.heap.size 1 [ar j] (ag.heap.size+1) ?hrest));intro g5 bf w5 aL Z aG aH;have av:=fg (B2.alloc aS _) (R2.alloc _) Z;have az:=ot (G2.alloc _) (R2.alloc _) Z ay;clear Z aG aH B2 G2 R2 k1;go_wp2;go_roundw
   ·exact ⟨k+1,fv++[j],some (aN g5),bf,ai,by go_num,au,av,az,by simpa using aL,ak Nt.u.symm⟩
   simp [intOf];omega
  have aJ:¬((k:Int)<(D.length:Int)):=ai;have hfv:fv=T:=by rw [aE Q,cY ai,ah.u]
  exact Qd
