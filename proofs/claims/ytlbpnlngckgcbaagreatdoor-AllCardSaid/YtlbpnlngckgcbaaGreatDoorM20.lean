import Derived.Test.YtlbpnlngckgcbaaGreatDoorM16
import Derived.Test.YtlbpnlngckgcbaaGreatDoorM18
import Derived.Test.YtlbpnlngckgcbaaGreatDoorM06
set_option linter.all false
set_option maxHeartbeats 4000000
set_option maxRecDepth 100000
namespace Go.Proofs.YtlbpnlngckgcbaaGreatDoor
open Go.RowKit Go.PlainAid Go.Proofs.Tryz
variable {aD bq:Prop} {w W w5 w':af} {B size n g base m b1 n1:Nat} {E T e:TypeId} {v v1:ag} {xs:List ag} {cs:Array ag} {rl:List RV} {pl:List PV} {kd s:ae}
def QV (h:aD:=by
 have A:=aj (by rw [<-Kt,hfi];simp:some p.pa=R);rw [hfi];clear hfi;go_wp2;go_ret;exact ⟨by rw [<-A];rfl,B4⟩):aD:=h
def H6 (h:aD:=by
 go_wp2;go_roundw
 ·exact ⟨k+1,ai,by go_num,B4,PB4,BV⟩
 simp [intOf];omega):aD:=h
def H7 (h:aD:=by
 go_wp2;go_ret;exact ⟨by rw [<-VU];rfl,B4⟩):aD:=h
def H8 (h:aD:=by
 go_wp2;go_ret;exact ⟨by rw [<-VU];rfl,B5⟩):aD:=h
def BZ(q:bq) (h:cj bq->aD:=by
 intro zq;have k0:wr.cell? (aC gg (k*4))=some (an x.ty):=hc 0 _ ai rfl;have k1:wr.cell? (aC gg (k*4+1))=some (an (bH x)):=hc 1 _ ai rfl
 revert k0 k1
 exact zq.1):aD:=h ⟨q⟩
def QW(q:bq) (h:cj bq->aD:=by
 intro zq;have k2:wr.cell? (aC gg (k*4+2))=some (au x.tp):=hc 2 _ ai rfl;have k3:wr.cell? (aC gg (k*4+3))=some (au x.rp):=hc 3 _ ai rfl;have hkn:(k:Int)<(p.gs.length:Int):=ai
 revert k2 k3 hkn
 exact zq.1):aD:=h ⟨q⟩
def QX(q:bq) (h:cj bq->aD:=by
 intro zq;have h2':((bH x).toList== [42])=false:=by rw [<-h2,aQ];rw [show (sg 42).toList=[42] from by rw [aT];rfl]
 revert h2'
 exact zq.1):aD:=h ⟨q⟩
def QY(q:bq) (h:cj bq->aD:=by
 intro zq;have h2':((bH x).toList== [42])=true:=by rw [<-h2,aQ];rw [show (sg 42).toList=[42] from by rw [aT];rfl]
 revert h2'
 exact zq.1):aD:=h ⟨q⟩
def QZ(q:bq) (h:cj bq->aD:=by
 intro zq;have e2:((p.kind:Int)==2)=false:=bR.2 ai;have e3:((p.kind:Int)==3)=false:=bR.2 ai
 revert e2 e3
 exact zq.1):aD:=h ⟨q⟩
def o0(kl:List (ae×Nat))(rl:List RV)(g:Gr):Option Nat:=
 if (kl.any fun k=>eqs k.1 g.ty)=false then some g.tp
 else if eqs (bH g) em=false/\eqs (bH g) (sg 42)=false/\bh g.ty (bH g) rl 0<0 then some g.rp else none
def H9(kl:List (ae×Nat))(rl:List RV)(h:Nat->List Gr)(kd:ae)(p:PV):Option Nat:=match p.gs.findSome? (o0 kl rl) with
 |some a=>some a
 |none=>if p.kind=2 then (if bh kd p.nr rl 0<0 then some p.pa else none)
  else if p.kind=3 then (if bh kd p.nb rl 0<0 then some p.pa else if fy rl p.nr (h (bh kd p.nb rl 0).toNat)=[] then some p.pr else none)
  else none
def li:Option Nat->Int
 |some a=>a
 |none=> -1
def Ey(b kv rv pv kl rl pl l dP kd p ga gc pa pc sa sc w)(h:DM w b kv rv pv kl rl pl l)(bb:∀r,r<rl.length->GrC rl pl r (dP r)/\(dP r).length<=1000000)(bl:mw w (p,aA ga p.gs.length gc,aA pa p.ps.length pc,aA sa p.sg.length sc))(bw:p.gs.length<=1000000):
  Calls prog 192 #[.pointer (some (aC b 5)),an kd,.agg #[au p.kind,aA ga p.gs.length gc,an p.nb,an p.nr,au p.pa,au p.pr,aA pa p.ps.length pc,aA sa p.sg.length sc]] w fun e w'=>e=bi (au (li (H9 kl rl dP kd p)))/\am w w':=by
 have ag:=aj h;have bp:=aj bb;have bs:=aj bl.g;generalize aJ:H9 kl rl dP kd p=R;have br:=aj aJ;have aR:=aj ((az _ w).alloc aH (dX p.kind ga p.gs.length gc p.nb p.nr p.pa p.pr pa p.ps.length pc sa p.sg.length sc));have aV:=aj (show (match (p.gs.drop 0).findSome? (o0 kl rl) with
  |some a=>some a
  |none=>if p.kind=2 then (if bh kd p.nr rl 0<0 then some p.pa else none)
   else if p.kind=3 then (if bh kd p.nb rl 0<0 then some p.pa else if fy rl p.nr (dP (bh kd p.nb rl 0).toNat)=[] then some p.pr else none)
   else none)=R from aJ)
 clear h bb bl aJ;go_enter func192,ntmps192;go_wp2_with fail
 go_loopw [7] (fun aO wr=>∃(k:Nat),k<=p.gs.length/\aO=au k/\am w wr/\aL wr w.heap.size (gL p.kind ga p.gs.length gc p.nb p.nr p.pa p.pr pa p.ps.length pc sa p.sg.length sc) 255/\Hid ((match (p.gs.drop k).findSome? (o0 kl rl) with
  |some a=>some a
  |none=>if p.kind=2 then (if bh kd p.nr rl 0<0 then some p.pa else none)
   else if p.kind=3 then (if bh kd p.nb rl 0<0 then some p.pa else if fy rl p.nr (dP (bh kd p.nb rl 0).toNat)=[] then some p.pr else none)
   else none)=R)) (fun aO _=>p.gs.length-(intOf aO).toNat)
 ·exact ⟨0,ai,rfl,aR,(aj (aL.new w (gL p.kind ga p.gs.length gc p.nb p.nr p.pa p.pr pa p.ps.length pc sa p.sg.length sc) 255)),aV⟩
 ·clear aR aV br;obtain ⟨k,bx,rfl,ah,ax,ap⟩:=hrel;have ad:=aj ah;have aF:=aj ax;have aN:=ah.size;obtain ⟨U,p1,p2,V,Y,Z,ab,ac⟩:=ax.eight
  by_cases bk:k<p.gs.length
  ·obtain ⟨gg,bv,e1,hc⟩:=bn cO 4 (fun _=>rfl) (aB bs ah) k p.gs[k] (aI bk);simp only [aK,true_and] at e1;obtain ⟨rfl,rfl⟩:=e1;have C:=aE ap;rw [c8 bk,gJ] at C;generalize p.gs[k]=x at*;refine BZ ?_;intro k0 k1;refine QW ?_;intro k2 k3 hkn;have aG:=(az _ wr).alloc aH (.cells #[an x.ty,an (bH x),au x.tp,au x.rp] 257);have ak:=aj (ad.trans (aG.mono aN));have aW:=aj (aF.below aG);have aU:=aj (aL.new wr #[an x.ty,an (bH x),au x.tp,au x.rp] 257);have Kt:=aj C;clear ah ax hc ap C aG;go_wp2_with fail;refine (aj (tO b kv rv pv kl rl pl l x.ty _ (ag.below ak))).mono ?_;rintro e bA ⟨rfl,ar⟩;have al:=aj (ak.trans (ar.mono ak.size));have aX:=aj (aW.below ar);have ay:=aj (aU.below ar);obtain ⟨g0,aY,aZ,ba⟩:=ay.four;clear ar ak aW aU k0 k1 k2 k3 U p1 p2 V Y Z ab ac;go_wp2_with fail;refine (aj (eh b kv rv pv kl rl pl l x.ty (bH x) _ (ag.below al))).mono ?_;rintro e aP ⟨rfl,I⟩;have B4:=aj (al.trans (I.mono al.size));have PB4:=aj (aX.below I);clear g0 aY aZ ba;obtain ⟨g0,aY,aZ,ba⟩:=(aj (ay.below I)).four;clear I al aX ay
   cases J:(kl.any fun k=>eqs k.1 x.ty)
   ·have D:o0 kl rl x=some x.tp:=by unfold o0;rw [J];simp
    have VU:=aj (by rw [<-Kt,D]:some x.tp=R);clear J D;exact H7
   cases h1:eqs (bH x) em
   ·have bt:((bH x).toList== [])=false:=by rw [<-h1,sO]
    cases h2:eqs (bH x) (sg 42)
    ·refine QX ?_;intro h2'
     rcases dc x.ty (bH x) rl 0 with hfi|⟨j,hfi,bg,bj⟩
     ·have D:o0 kl rl x=some x.rp:=by unfold o0;rw [J];simp [h1,h2,hfi]
      have VU:=aj (by rw [<-Kt,D]:some x.rp=R);rw [hfi];clear J D h1 h2 hfi;exact H7
     have D:o0 kl rl x=none:=by
      unfold o0;rw [J];have:¬((j:Int)<0):=ai;simp [h1,h2,hfi,this]
     have BV:=aj Kt;rw [D] at BV;rw [hfi];have av:¬((j:Int)<0):=ai;clear J D h1 h2 hfi;exact H6
    refine QY ?_;intro h2';have D:o0 kl rl x=none:=by unfold o0;rw [J];simp [h1,h2]
    have BV:=aj Kt;rw [D] at BV;clear J D h1 h2;exact H6
   have bt:((bH x).toList== [])=true:=by rw [<-h1,sO]
   have D:o0 kl rl x=none:=by unfold o0;rw [J];simp [h1]
   have BV:=aj Kt;rw [D] at BV;clear J D h1;exact H6
  have hkn:¬((k:Int)<(p.gs.length:Int)):=ai;have C:=aE ap;rw [eC ai,List.findSome?_nil] at C;simp only at C;clear ah ax ap
  by_cases Q:p.kind=2
  ·have e2:((p.kind:Int)==2)=true:=by rw [Q];rfl
   have e3:((p.kind:Int)==3)=false:=by rw [Q];rfl
   rw [if_pos Q] at C;have Kt:=aj C;clear Q C;go_wp2_with fail;refine (aj (eh b kv rv pv kl rl pl l kd p.nr wr (ag.below ad))).mono ?_;rintro e aP ⟨rfl,I⟩;have B4:=aj (ad.trans (I.mono aN));clear U p1 p2 V Y Z ab ac;obtain ⟨U,p1,p2,V,Y,Z,ab,ac⟩:=(aj (aF.below I)).eight;clear I
   rcases dc kd p.nr rl 0 with hfi|⟨j,hfi,bg,bj⟩
   ·exact QV
   have av:¬((j:Int)<0):=ai;have VU:=aj (by rw [<-Kt,hfi];simp [av]:none=R);rw [hfi];clear hfi;exact H7
  by_cases ae:p.kind=3
  ·have e2:((p.kind:Int)==2)=false:=by rw [ae];rfl
   have e3:((p.kind:Int)==3)=true:=by rw [ae];rfl
   rw [if_neg Q,if_pos ae] at C;have Kt:=aj C;clear Q ae C;go_wp2_with fail;refine (aj (eh b kv rv pv kl rl pl l kd p.nb wr (ag.below ad))).mono ?_;rintro e aP ⟨rfl,I⟩;have B4:=aj (ad.trans (I.mono aN));have PB4:=aj (aF.below I);clear U p1 p2 V Y Z ab ac;obtain ⟨U,p1,p2,V,Y,Z,ab,ac⟩:=PB4.eight;clear I
   rcases dc kd p.nb rl 0 with hfi|⟨j,hfi,bg,bj⟩
   ·exact QV
   have av:¬((j:Int)<0):=ai;have C:=Kt.u;rw [hfi,if_neg av,Int.toNat_natCast] at C;have BV:=aj C;obtain ⟨bc,bf⟩:=bp j ai;have aS:=aj (zV b kv rv pv kl rl pl l j (dP j) p.nr aP (ag.below B4) bc bf);rw [hfi];clear hfi C Kt bc bf;go_wp2_with fail;refine aS.mono ?_;rintro e w5 ⟨sv,rfl,aM,bo⟩;obtain ⟨ta,tc,rfl⟩:=aw bo;have B5:=aj (B4.trans (aM.mono B4.size));clear U p1 p2 V Y Z ab ac;obtain ⟨U,p1,p2,V,Y,Z,ab,ac⟩:=(aj (PB4.below aM)).eight;clear aM bo aS
   by_cases af:fy rl p.nr (dP j)=[]
   ·have VU:=aj (by rw [<-BV,af];simp:some p.pr=R);rw [af];clear af;simp only [List.length_nil];exact H8
   have VU:=aj (by rw [<-BV,if_neg af]:none=R);have hl:0<(fy rl p.nr (dP j)).length:=l5.2 af;have bu:¬(((fy rl p.nr (dP j)).length:Int)=0):=ai;have bz:(((fy rl p.nr (dP j)).length:Int)==0)=false:=bR.2 bu;clear af;generalize (fy rl p.nr (dP j)).length=tn at*;exact H8
  refine QZ ?_;intro e2 e3;rw [if_neg Q,if_neg ae] at C;have VU:=aj C;clear Q ae C;go_wp2;go_ret;exact ⟨by rw [<-VU];rfl,ad⟩
def Ca(q:bq) (h:cj bq->aD:=by
 intro zq;obtain ⟨gp,cp,ga,gc,pa,pc,sa,sc,hpv,hr,q0,q1,q2,q3,q4,q5,q6,q7⟩:=hd.pat m p hp;have hm:=(bD.1 hp).1;have hm':(m:Int)<(pl.length:Int):=ai
 revert gp cp ga gc pa pc sa sc hpv hr q0 q1 q2 q3 q4 q5 q6 q7 hm hm'
 exact zq.1):aD:=h ⟨q⟩
def Y8(rl:List RV)(pl:List PV)(h:Nat->List Nat):Prop:=∀x∈rl,gR pl x.ex (h x.ex)/\(h x.ex).length<=1000/\∀n∈h x.ex,∃p,pl[n]? =some p/\p.gs.length<=1000
def nY(rl:List RV)(pl:List PV)(h:Nat->List Gr):Prop:=∀r,r<rl.length->GrC rl pl r (h r)/\(h r).length<=1000000
def qZ(kl:List (ae×Nat))(rl:List RV)(pl:List PV)(h:Nat->List Gr)(kd:ae)(n:Nat):Option Nat:=match pl[n]? with
 |some p=>H9 kl rl h kd p
 |none=>none
def kD(kl:List (ae×Nat))(rl:List RV)(pl:List PV)(h:Nat->List Gr)(A:Nat->List Nat):Option Nat:=rl.findSome? fun x=>(A x.ex).findSome? (qZ kl rl pl h x.kd)
def Ic(b kv rv pv kl rl pl l dP fA w)(h:DM w b kv rv pv kl rl pl l)(av:nY rl pl dP)(ax:Y8 rl pl fA):
  Calls prog 129 #[.pointer (some (aC b 5))] w fun e w'=>e=bi (au (li (kD kl rl pl dP fA)))/\am w w':=by
 obtain ⟨bc,rc,rfl⟩:=aw h.rt;have Y:=h;have aS:=av;have aT:=ax;have a9:=h.rn;generalize aE:kD kl rl pl dP fA=R;have HR:=show ((rl.drop 0).findSome? fun x=>(fA x.ex).findSome? (qZ kl rl pl dP x.kd))=R from aE
 clear h av ax aE;go_enter func129,ntmps129;go_wp2_with fail
 go_loopw [3] (fun af wr=>∃(i:Nat),i<=rl.length/\af=au i/\am w wr/\Hid (((rl.drop i).findSome? fun x=>(fA x.ex).findSome? (qZ kl rl pl dP x.kd))=R)) (fun af _=>rl.length-(intOf af).toNat)
 ·exact vR
 ·clear HR;obtain ⟨i,hi,rfl,D,Z⟩:=hrel;have c6:=(Y.below D).c6;have al:=D;have a1:=D.size
  by_cases ab:i<rl.length
  ·have aW:(i:Int)<(rl.length:Int):=by omega
   obtain ⟨gr,cr,e1,ad,aN,aO,aQ⟩:=(Y.below D).rat i rl[i] (aI ab);simp only [aK,true_and] at e1;obtain ⟨rfl,rfl⟩:=e1;have ac:=Z;rw [c8 ab,gJ] at ac;obtain ⟨aG,a7,aZ⟩:=aT _ (br ab);have aU:=aI ab;generalize rl[i]=x at*;have C:=aG b kv _ pv kl rl l wr (Y.below D);generalize a0:fA x.ex=lv at*;clear a0;generalize ay:lv.findSome? (qZ kl rl pl dP x.kd)=ar at ac;have ap:=show (lv.drop 0).findSome? (qZ kl rl pl dP x.kd)=ar from ay
   have Q:=ac;clear D Z ac aG ay;go_wp2_with fail;refine C.mono ?_;rintro e w1 ⟨sv,rfl,aF,aH⟩;obtain ⟨ba,bb,rfl⟩:=aw aH;have ah:=al.trans (aF.mono a1);clear aF C ad aN aO aQ c6;go_wp2_with fail
   go_loopw [5] (fun ag a2=>∃(k:Nat),k<=lv.length/\ag=au k/\am w1 a2/\Hid ((lv.drop k).findSome? (qZ kl rl pl dP x.kd)=ar)) (fun ag _=>lv.length-(intOf ag).toNat)
   ·exact ⟨0,ai,rfl,az _ _,ap⟩
   clear ap;obtain ⟨k,a6,rfl,D,I⟩:=hrel;have U:=ah.trans (D.mono ah.size);have aL:=U.size
   by_cases ae:k<lv.length
   ·have aX:(k:Int)<(lv.length:Int):=by omega
    have hd:=Y.below U;have c6:=hd.c6;have c7:=hd.c7;obtain ⟨a5,a4,e1,ad,aN,aO,aQ⟩:=hd.rat i x aU;simp only [aK,true_and,aR,cg,and_true] at e1;obtain ⟨rfl,rfl⟩:=e1;obtain ⟨q,a3,e1,aM⟩:=aY (aB aH D) k (au (lv[k]:Nat)) (by simp [aI ae]);simp only [aK,true_and] at e1;obtain ⟨rfl,rfl⟩:=e1;rw [c8 ae,gJ] at I;obtain ⟨p,hp,a8⟩:=aZ _ (br ae);generalize lv[k]=m at*;refine Ca ?_;intro gp cp ga gc pa pc sa sc hpv hr q0 q1 q2 q3 q4 q5 q6 q7 hm hm';have aJ:qZ kl rl pl dP x.kd m=H9 kl rl dP x.kd p:=by unfold qZ;rw [hp]
    rw [aJ] at I;rw [hpv] at c7;clear hp aJ hpv;have J:=Ey b kv _ pv kl rl pl l dP x.kd p ga gc pa pc sa sc wr.drew (hd.below bo.drew) aS ⟨cP hr.g,cP hr.p,cP hr.s⟩ ai;generalize H9 kl rl dP x.kd p=aV at*;go_wp2_with fail
    cases aV with
    |some at_=>
     unfold li at J;simp only at J
     go_region_held3 (fun w'=>w'.cell? (aC b 6)=some (aA (some (aP gr)) rl.length rc)/\w'.cell? (aC gr (i*4))=some (an x.kd)/\w'.cell? (aC b 7)=some (aA (some (aP gp)) pl.length cp)/\w'.cell? (aC q k)=some (au m)/\w'.cell? (aC gp (m*8))=some (au p.kind)/\w'.cell? (aC gp (m*8+1))=some (aA ga p.gs.length gc)/\w'.cell? (aC gp (m*8+2))=some (an p.nb)/\w'.cell? (aC gp (m*8+3))=some (an p.nr)/\w'.cell? (aC gp (m*8+4))=some (au p.pa)/\w'.cell? (aC gp (m*8+5))=some (au p.pr)/\w'.cell? (aC gp (m*8+6))=some (aA pa p.ps.length pc)/\w'.cell? (aC gp (m*8+7))=some (aA sa p.sg.length sc)) (go_keep)
      ((go_at_call 192;refine J.mono ?_;rintro e w5 ⟨rfl,V⟩;have A:am wr w5:=(az _ wr).drew.trans V;have d0:=ak c6 A;have d1:=ak ad A;have d2:=ak c7 A;have d3:=ak aM A;have d4:=ak q0 A;have d5:=ak q1 A;have d6:=ak q2 A;have d7:=ak q3 A;have d8:=ak q4 A;have d9:=ak q5 A;have d10:=ak q6 A;have d11:=ak q7 A;have B5:=(U.trans (A.mono aL));have aj:=(D.trans (A.mono D.size));clear V A))
     have VU:=(show some at_=R from by
      rw [<-I] at Q;exact Q)
     have h0:(0:Int)<=(at_:Int):=ai;exact H8
    |none=>
     unfold li at J;simp only at J
     go_region_held3 (fun w'=>w'.cell? (aC b 6)=some (aA (some (aP gr)) rl.length rc)/\w'.cell? (aC gr (i*4))=some (an x.kd)/\w'.cell? (aC b 7)=some (aA (some (aP gp)) pl.length cp)/\w'.cell? (aC q k)=some (au m)/\w'.cell? (aC gp (m*8))=some (au p.kind)/\w'.cell? (aC gp (m*8+1))=some (aA ga p.gs.length gc)/\w'.cell? (aC gp (m*8+2))=some (an p.nb)/\w'.cell? (aC gp (m*8+3))=some (an p.nr)/\w'.cell? (aC gp (m*8+4))=some (au p.pa)/\w'.cell? (aC gp (m*8+5))=some (au p.pr)/\w'.cell? (aC gp (m*8+6))=some (aA pa p.ps.length pc)/\w'.cell? (aC gp (m*8+7))=some (aA sa p.sg.length sc)) (go_keep)
      ((go_at_call 192;refine J.mono ?_;rintro e w5 ⟨rfl,V⟩;have A:am wr w5:=(az _ wr).drew.trans V;have d0:=ak c6 A;have d1:=ak ad A;have d2:=ak c7 A;have d3:=ak aM A;have d4:=ak q0 A;have d5:=ak q1 A;have d6:=ak q2 A;have d7:=ak q3 A;have d8:=ak q4 A;have d9:=ak q5 A;have d10:=ak q6 A;have d11:=ak q7 A;have B5:=(U.trans (A.mono aL));have aj:=(D.trans (A.mono D.size));clear V A))
     go_wp2;go_roundw
     ·exact ⟨k+1,ai,by go_num,aj,I⟩
     simp [intOf];omega
   have aX:¬((k:Int)<(lv.length:Int)):=ai;rw [eC ai,List.findSome?_nil] at I;rw [<-I] at Q;simp only at Q;clear I;go_wp2;go_roundw
   ·exact ⟨i+1,ai,by go_num,U,Q⟩
   simp [intOf];omega
  have aW:¬((i:Int)<(rl.length:Int)):=ai;rw [eC ai,List.findSome?_nil] at Z;clear D;go_wp2;go_ret;exact ⟨by rw [<-Z];rfl,al⟩
def XY (h:aD:=by
 clear p0 p1 p2 p3 p4 p5 p6 p7 k0 k1 d0 d1 d2 C;refine Ie ?_;intro B6 Cb ED G6 R6;clear HB Ig XZ Y9 uF;go_wp2;go_roundw
 ·exact ⟨k+1,f2,fa,fc,ai,by go_num,rfl,B6,Cb,ED,G6,R6,Ku⟩
 simp [intOf];omega):aD:=h
def Q5 (h:aD:=by
 exact ⟨0,[],none,0,ai,rfl,rfl,B1,az _ _,bP,aj ar⟩):aD:=h
def Q6 (h:aD:=by
 exact ⟨0,fv,fa,fc,ai,rfl,rfl,B2,Bg,PB2,RG2,R2,aj ar⟩):aD:=h
def Ih (h:aD:=by
 intro u A;obtain ⟨n,_,rfl⟩:=aU.1 A
 rfl):aD:=h
def Q7(q:bq) (h:cj bq->aD:=by
 intro zq;have b2:am wr ((wr.alloc (dX p.kind ga p.gs.length gc p.nb p.nr p.pa p.pr pa p.ps.length pc sa p.sg.length sc)).drew):=((az _ wr).alloc aH _).drew;have PB2:=aj (aL.new wr (gL p.kind ga p.gs.length gc p.nb p.nr p.pa p.pr pa p.ps.length pc sa p.sg.length sc) 255).drew;have B2:=aj (HB.trans (b2.mono hwr));have Bg:=aj (Ig.trans (b2.mono VV));have R2:=aj (aB uF b2);have RG2:=aj (aB HRG b2);clear b2
 revert PB2 B2 Bg R2 RG2
 exact zq.1):aD:=h ⟨q⟩
def Ie(q:bq) (h:cj bq->aD:=by
 intro zq;have B6:=aj (HB.trans (BB.mono hwi));have Cb:=aj (Ig.trans (BB.mono Za));have ED:=aj (XZ.below BB);have G6:=aj (aB Y9 BB);have R6:=aj (aB uF BB)
 revert B6 Cb ED G6 R6
 exact zq.1):aD:=h ⟨q⟩
def Q8(q:bq) (h:cj bq->aD:=by
 intro zq;refine (aE C).mono ?_;rintro e w5 ⟨rfl,pf⟩;have B6:=aj (HB.u.trans (pf.mono hwi));have Cb:=aj (Ig.u.trans (pf.mono Za));have ED:=aj (XZ.u.below pf);have R6:=aj (aB uF.u pf);have X0:=B6.u.size;have EE:=Cb.u.size
 revert w5 pf B6 Cb ED R6 X0 EE
 exact zq.1):aD:=h ⟨q⟩
def Q9(q:bq) (h:cj bq->aD:=by
 intro zq;have Ra:¬((k:Int)<(p.gs.length:Int)):=ai;have hf2:f2=fv++p.gs.flatMap (ey rl):=by rw [aE N0,cX ai]
 have Ku:=aj hf2;have Ii:=congrArg List.length hf2
 revert Ra hf2 Ku Ii
 exact zq.1):aD:=h ⟨q⟩
def Rb(q:bq) (h:cj bq->aD:=by
 intro zq;have C:=aj (eh b kv rv pv kl rl pl l x.ty (bH x) wr.drew (HD.below (HB.trans (bo.drew.mono hwi))));have uw:f2.length+(ey rl x).length<=1000000000:=by have:=HHL.u;omega
 revert C uw
 exact zq.1):aD:=h ⟨q⟩
def Rc(q:bq) (h:cj bq->aD:=by
 intro zq;have VW:=aj (j4 (ey rl) p.gs k _ (aI hkt));have Ij:=oG (ey rl) p.gs (k+1);have hf2:=congrArg List.length N0
 revert VW Ij hf2
 exact zq.1):aD:=h ⟨q⟩
def Re(q:bq) (h:cj bq->aD:=by
 intro zq;have B7:=aj (mH (B6.alloc X0 _) VB (R6.alloc _) dk);have Zb:=aj (ff (Cb.alloc EE _) (R6.alloc _) dk)
 revert B7 Zb
 exact zq.1):aD:=h ⟨q⟩
def ey(rl:List RV)(g:Gr):List Nat:=if 0<=bh g.ty (bH g) rl 0 then [(bh g.ty (bH g) rl 0).toNat] else []
def gG(rl:List RV)(h:Nat->List Gr)(kd:ae)(p:PV):List Nat:=p.gs.flatMap (ey rl)++(if p.kind=2 then [(bh kd p.nr rl 0).toNat] else if p.kind=3 then fy rl p.nr (h (bh kd p.nb rl 0).toNat) else [])
def sQ(F:PV->List Nat)(pl:List PV)(m:Nat):List Nat:=match pl[m]? with
 |some p=>F p
 |none=>[]
def Rf(rl g):(ey rl g).length<=1:=by unfold ey;split<;>simp
def mH(h:am w W)(A:w.heap.size<=B)(k:W.ownsRow B E size v n xs)(C:W.grownBy w5 v.ownBlock):am w w5:=cA h C h.size (fun j D=>aV A (k.lt j D).1)
def oJ(h:aL W g cs T)(k:W.ownsRow base E size v n xs)(A:W.grownBy w5 v.ownBlock)(C:T≠E):aL w5 g cs T:=(A.block g h.lt (own_ne k h C)).trans h
def wM(b kv rv pv kl rl pl l dP kd n lv T w)(h:DM w b kv rv pv kl rl pl l)(bb:nY rl pl dP)(bc:gR pl n lv)(cm:lv.length<=1000)(bx:∀m∈lv,∃p,pl[m]? =some p/\p.gs.length<=1000/\(p.kind=2->0<=bh kd p.nr rl 0)/\(p.kind=3->0<=bh kd p.nb rl 0))(bg:lv.flatMap (sQ (gG rl dP kd) pl)=T)(ci:T.length<=1000000000):
  Calls prog 232 #[.pointer (some (aC b 5)),an kd,au n] w fun e w'=>∃sv,e=bi sv/\am w w'/\w'.ownsRow w.heap.size 3 1 sv T.length (T.map fun n:Nat=>au n):=by
 obtain ⟨b7,aO,bC,bE,bF⟩:=eN Tryz.infoInt;have bU:=aj aO;have bV:=aj bC;have bW:=aj bE;have bX:=aj bF;clear aO bC bE bF;have HD:=aj h;have bM:=aj bb;have bO:=aj bx;have aZ:=aj bg;have C:=aj (bc b kv rv pv kl rl l w h);clear h bb bc bx bg;go_enter func232,ntmps232;go_wp2_with fail;refine C.mono ?_;rintro e w1 ⟨sv,rfl,aJ,aQ⟩;obtain ⟨cq,cr,rfl⟩:=aw aQ;have B1:=aj aJ;have VB:=aJ.size;have bT:=aj aQ;clear aJ aQ C;go_wp2_with fail
 go_loopw [7,9] (fun aV aW wr=>∃(i:Nat)(fv:List Nat)(fa:Option Addr)(fc:Nat),i<=lv.length/\aW=au i/\aV=aA fa fv.length fc/\am w wr/\am w1 wr/\wr.ownsRow w1.heap.size 3 1 (aA fa fv.length fc) fv.length (fv.map fun n:Nat=>au n)/\Hid (fv=(lv.take i).flatMap (sQ (gG rl dP kd) pl))) (fun _ aW _=>lv.length-(intOf aW).toNat)
 ·exact Q5
 ·obtain ⟨i,fv,fa,fc,aO,rfl,rfl,I,J,U,Y⟩:=hrel;have HB:=aj I;have Ig:=aj J;have uF:=aj U;have hwr:=I.size;have VV:=J.size
  by_cases hlt:i<lv.length
  ·obtain ⟨q,ch,e1,bG⟩:=aY (aB bT J) i (au (lv[i]:Nat)) qX;simp only [aK,true_and] at e1;obtain ⟨rfl,rfl⟩:=e1;obtain ⟨p,hp,co,bA,bB⟩:=bO _ (br hlt);have Z:=aj (j4 (sQ (gG rl dP kd) pl) lv i _ (aI hlt));have bw:=oG (sQ (gG rl dP kd) pl) lv (i+1);rw [Z,<-Y,bf,aZ] at bw;have b5:(i:Int)<(lv.length:Int):=ai;generalize lv[i]=m at*;have hd:=HD.below I;refine Ca ?_;intro gp cp ga gc pa pc sa sc hpv hr q0 q1 q2 q3 q4 q5 q6 q7 hm hm';have bl:sQ (gG rl dP kd) pl m=gG rl dP kd p:=by unfold sQ;rw [hp]
   rw [bl] at Z bw;have c7:=hd.c7;rw [hpv] at c7;have HRG:=aj hr.g;have bQ:=aj bA;have bS:=aj bB;have b8:=cd wr _ c7;have mk:=cd wr _ bG;have b9:=cd wr _ q0;clear I J U hd hr hp hpv bl bA bB;go_wp2_with fail
   go_region_held3 (fun w'=>w'.cell? (aC b 7)=some (aA (some (aP gp)) pl.length cp)/\w'.cell? (aC q i)=some (au m)/\w'.cell? (aC gp (m*8))=some (au p.kind)/\w'.cell? (aC gp (m*8+1))=some (aA ga p.gs.length gc)/\w'.cell? (aC gp (m*8+2))=some (an p.nb)/\w'.cell? (aC gp (m*8+3))=some (an p.nr)/\w'.cell? (aC gp (m*8+4))=some (au p.pa)/\w'.cell? (aC gp (m*8+5))=some (au p.pr)/\w'.cell? (aC gp (m*8+6))=some (aA pa p.ps.length pc)/\w'.cell? (aC gp (m*8+7))=some (aA sa p.sg.length sc)) (go_keep) (fail)
   rename_i b4;clear b4 q0 q1 q2 q3 q4 q5 q6 q7 c7 bG b8 mk b9;refine Q7 ?_;intro PB2 B2 Bg R2 RG2;clear HB Ig uF HRG;go_wp2_with fail;generalize (wr.alloc (dX p.kind ga p.gs.length gc p.nb p.nr p.pa p.pr pa p.ps.length pc sa p.sg.length sc)).drew=cf at*;generalize wr.heap.size=aS at*;have bt:(gG rl dP kd p).length=(p.gs.flatMap (ey rl)).length+(if p.kind=2 then [(bh kd p.nr rl 0).toNat] else if p.kind=3 then fy rl p.nr (dP (bh kd p.nb rl 0).toNat) else []).length:=by unfold gG;rw [bf]
   have HHL:=aj bt;clear bt
   go_loopw [7,11] (fun aV aT ad=>∃(k:Nat)(f2:List Nat)(fa:Option Addr)(fc:Nat),k<=p.gs.length/\aT=au k/\aV=aA fa f2.length fc/\am w ad/\am w1 ad/\aL ad aS (gL p.kind ga p.gs.length gc p.nb p.nr p.pa p.pr pa p.ps.length pc sa p.sg.length sc) 255/\ad.ownsRow 0 257 4 (aA ga p.gs.length gc) p.gs.length (p.gs.flatMap cO)/\ad.ownsRow w1.heap.size 3 1 (aA fa f2.length fc) f2.length (f2.map fun n:Nat=>au n)/\Hid (f2=fv++(p.gs.take k).flatMap (ey rl))) (fun _ aT _=>p.gs.length-(intOf aT).toNat)
   ·exact Q6
   clear B2 Bg PB2 RG2 R2 hwr VV;obtain ⟨k,f2,fa,fc,cl,rfl,rfl,I,J,ap,al,U,N0⟩:=hrel;have HB:=aj I;have Ig:=aj J;have XZ:=aj ap;have Y9:=aj al;have uF:=aj U;have hwi:=I.size;have Za:=J.size;obtain ⟨p0,p1,p2,p3,p4,p5,p6,p7⟩:=ap.eight
   by_cases hkt:k<p.gs.length
   ·obtain ⟨gg,cg,e1,hc⟩:=bn cO 4 (fun _=>rfl) al k p.gs[k] (aI hkt);simp only [aK,true_and] at e1;obtain ⟨rfl,rfl⟩:=e1;refine Rc ?_;intro VW Ij hf2;rw [VW,bf] at Ij;rw [bf] at hf2;have Ra:(k:Int)<(p.gs.length:Int):=ai;generalize p.gs[k]=x at*;refine BZ ?_;intro k0 k1;refine Rb ?_;intro C uw;clear I J ap al U hc hf2 Ij
    rcases dc x.ty (bH x) rl 0 with D|⟨j,D,bu,bv⟩
    ·rw [D] at C;have V:ey rl x=[]:=by unfold ey;rw [D];simp
     have Ku:=aj (by rw [VW,V,dU];exact N0:f2=fv++(p.gs.take (k+1)).flatMap (ey rl));clear V D;go_wp2_with fail
     go_region_held3 (fun w'=>w'.cell? (aC aS 1)=some (aA (some (aP gg)) p.gs.length gc)/\w'.cell? (aC gg (k*4))=some (an x.ty)/\w'.cell? (aC gg (k*4+1))=some (an (bH x))) (go_keep)
      ((go_at_call 132;refine C.mono ?_;rintro e w5 ⟨rfl,pf⟩;have BB:=aj ((az _ wr).drew.trans pf:am wr w5);have d0:=ak p1 BB;have d1:=ak k0 BB;have d2:=ak k1 BB;clear pf))
     exact XY
    rw [D] at C;have V:ey rl x=[j]:=by unfold ey;rw [D];simp
    rw [V] at uw;simp only [List.length_cons,List.length_nil] at uw;have Ku:=aj (by rw [VW,V,<-ct,<-N0]:f2++[j]=fv++(p.gs.take (k+1)).flatMap (ey rl));have ck:(0:Int)<=(j:Int):=ai;clear V D;go_wp2_with fail
    go_region_held3 (fun w'=>w'.cell? (aC aS 1)=some (aA (some (aP gg)) p.gs.length gc)/\w'.cell? (aC gg (k*4))=some (an x.ty)/\w'.cell? (aC gg (k*4+1))=some (an (bH x))) (go_keep)
     ((go_at_call 132;refine C.mono ?_;rintro e w5 ⟨rfl,pf⟩;have BB:=aj ((az _ wr).drew.trans pf:am wr w5);have d0:=ak p1 BB;have d1:=ak k0 BB;have d2:=ak k1 BB;clear pf))
    clear p0 p1 p2 p3 p4 p5 p6 p7 k0 k1 d0 d1 d2 C;refine Ie ?_;intro B6 Cb ED G6 R6;have X0:=B6.size;have EE:=Cb.size;clear HB Ig XZ Y9 uF;go_wp2_with (at_builtin;go_must (refine eB rfl underlying29 Tryz.infoInt w1.heap.size (R6.alloc _) w5.heap.size 1 [au j] (w5.heap.size+1) ?sd));intro g5 be ce ac dk aG aM;refine Re ?_;intro B7 Zb;have ae:=aj (oJ (ED.alloc _) (R6.alloc _) dk ax);have bK:=aj (oH (G6.alloc _) (R6.alloc _) dk ax);have aF:=aj ac;clear ac dk aG aM B6 Cb ED G6 R6;go_wp2;go_roundw
    ·exact ⟨k+1,f2++[j],some (aP g5),be,ai,by go_num,ar,B7,Zb,ae,bK,by simpa using aF.u,Ku⟩
    simp [intOf];omega
   refine Q9 ?_;intro Ra hf2 Ku Ii;rw [bf] at Ii;have uw:f2.length+(if p.kind=2 then [(bh kd p.nr rl 0).toNat] else if p.kind=3 then fy rl p.nr (dP (bh kd p.nb rl 0).toNat) else []).length<=1000000000:=by have:=HHL.u;omega
   clear I J ap al U hf2 Ii
   by_cases Q:p.kind=2
   ·have e2:((p.kind:Int)==2)=true:=by rw [Q];rfl
    have e3:((p.kind:Int)==3)=false:=by rw [Q];rfl
    have h0:=bQ.u Q;obtain ⟨j,D,bu,bv⟩:∃j:Nat,bh kd p.nr rl 0=j/\0<=j/\j<0+rl.length:=by
     rcases dc kd p.nr rl 0 with D|h
     ·omega
     exact h
    rw [if_pos Q] at uw;simp only [List.length_cons,List.length_nil] at uw;have ab:=aj (by rw [aE Z,<-aE Y,Ku.u];unfold gG;simp [Q,D]:f2++[j]=(lv.take (i+1)).flatMap (sQ (gG rl dP kd) pl));have C:=aj (eh b kv rv pv kl rl pl l kd p.nr wr (HD.u.below HB.u));rw [D] at C;clear Q h0 D;go_wp2_with fail;refine Q8 ?_;intro w5 pf B6 Cb ED R6 X0 EE;clear pf C HB Ig XZ Y9 uF p0 p1 p2 p3 p4 p5 p6 p7;go_wp2_with (at_builtin;go_must (refine eB rfl underlying29 Tryz.infoInt w1.heap.size (R6.u.alloc _) w5.heap.size 1 [au j] (w5.heap.size+1) ?vu));intro g5 be ce ac dk aG aM;have B7:=aj (mH (B6.u.alloc X0 _) VB (R6.u.alloc _) dk);have Zb:=aj (ff (Cb.u.alloc EE _) (R6.u.alloc _) dk);have ae:=oJ (ED.u.alloc _) (R6.u.alloc _) dk ax;obtain ⟨p0,p1,p2,p3,p4,p5,p6,p7⟩:=ae.eight;have aF:=aj ac;clear ac dk aG aM B6 Cb ED R6 ae;go_wp2;go_roundw
    ·exact ⟨i+1,f2++[j],some (aP g5),be,ai,by go_num,ar,B7.u,Zb.u,by simpa using aF.u,ab⟩
    simp [intOf];omega
   by_cases R:p.kind=3
   ·have e2:((p.kind:Int)==2)=false:=by rw [R];rfl
    have e3:((p.kind:Int)==3)=true:=by rw [R];rfl
    have h0:=bS.u R;obtain ⟨j,D,bu,bv⟩:∃j:Nat,bh kd p.nb rl 0=j/\0<=j/\j<0+rl.length:=by
     rcases dc kd p.nb rl 0 with D|h
     ·omega
     exact h
    rw [if_neg Q,if_pos R,D,Int.toNat_natCast] at uw;have ab:=aj (by rw [aE Z,<-aE Y,Ku.u];unfold gG;simp [R,D]:f2++fy rl p.nr (dP j)=(lv.take (i+1)).flatMap (sQ (gG rl dP kd) pl));have C:=aj (eh b kv rv pv kl rl pl l kd p.nb wr (HD.u.below HB.u));rw [D] at C;obtain ⟨bs,b3⟩:=bM.u j ai;have bN:=aj bs;clear Q R h0 D bs;generalize bj:fy rl p.nr (dP j)=ag at*;go_wp2_with fail;refine Q8 ?_;intro w5 pf B6 Cb ED R6 X0 EE;clear pf C HB Ig XZ Y9 uF p0 p1 p2 p3 p4 p5 p6 p7;obtain ⟨p0,p1,p2,p3,p4,p5,p6,p7⟩:=ED.u.eight;have ay:=aj (zV b kv rv pv kl rl pl l j (dP j) p.nr w5 (HD.u.below B6.u) bN.u b3);rw [bj] at ay;clear bj;go_wp2_with fail;refine (aE ay).mono ?_;rintro e cu ⟨sv,rfl,ah,aR⟩;obtain ⟨ta,tc,rfl⟩:=aw aR;have aX:=aj (B6.u.trans (ah.mono X0));have av:=aj (Cb.u.trans (ah.mono EE));have af:=aj (aB R6.u ah);have ba:=aj aR;have cb:=av.u.size;clear ah aR ay B6 Cb ED R6 p0 p1 p2 p3 p4 p5 p6 p7;go_wp2_with (at_builtin;go_must (refine g8 rfl _ _ 29 rfl w1.heap.size 3 b7 _ 1 8 underlying29 bU.u bV.u bW.u bX.u rfl ax (aA fa f2.length fc) f2.length (f2.map fun n:Nat=>au n) rfl af.u (aA ta ag.length tc) ag.length (ag.map fun n:Nat=>au n) rfl _ ba.u ?honeC ?h63C ?VX cb ?GJ))
    case honeC=>
     exact Ih
    case h63C=>unfold maxLen;omega
    case VX=>omega
    intro bZ cv cw bz aN b0;have bI:=aj (mH aX.u VB af.u aN);have bJ:=aj (ff av.u af.u aN);have bY:=aj bz;clear bz aN b0 aX av af ba;go_wp2;go_roundw
    ·exact ⟨i+1,f2++ag,bZ,cv,ai,by go_num,ar,bI.u,bJ.u,by simpa using bY.u,ab⟩
    simp [intOf];omega
   refine QZ ?_;intro e2 e3;have ab:=aj (by rw [aE Z,<-aE Y,Ku.u];unfold gG;simp [Q,R]:f2=(lv.take (i+1)).flatMap (sQ (gG rl dP kd) pl));clear Q R uw;go_wp2;go_roundw
   ·exact ⟨i+1,f2,fa,fc,ai,by go_num,rfl,HB.u,Ig.u,uF.u,ab⟩
   simp [intOf];omega
  have b5:¬((i:Int)<(lv.length:Int)):=ai;have bp:fv=T:=by rw [aE Y,cX ai,aZ.u]
  have bL:=aj bp;have b6:=B1.u.size;clear I J U bp;go_wp2;go_ret;rw [<-bL.u];exact ⟨_,rfl,HB.u,bk uF.u b6⟩
def Mz(rl:List RV)(p:PV):List Nat:=p.gs.flatMap (ey rl)
def Cc(b kv rv pv kl rl pl l n lv T w)(h:DM w b kv rv pv kl rl pl l)(ap:gR pl n lv)(bx:lv.length<=1000)(aJ:∀m∈lv,∃p,pl[m]? =some p/\p.gs.length<=1000)(av:lv.flatMap (sQ (Mz rl) pl)=T)(bp:T.length<=1000000000):
  Calls prog 254 #[.pointer (some (aC b 5)),au n] w fun e w'=>∃sv,e=bi sv/\am w w'/\w'.ownsRow w.heap.size 3 1 sv T.length (T.map fun n:Nat=>au n):=by
 have HD:=aj h;have aS:=aj aJ;have al:=aj av;have bB:=h.rn;have bA:=h.pn;have C:=aj (ap b kv rv pv kl rl l w h);clear h ap aJ av;go_enter func254,ntmps254;go_wp2_with fail;refine C.mono ?_;rintro e w1 ⟨sv,rfl,ac,ad⟩;obtain ⟨bC,bE,rfl⟩:=aw ad;have B1:=aj ac;have VB:=ac.size;have aT:=aj ad;clear ac ad C;go_wp2_with fail
 go_loopw [5,7] (fun ag ah wr=>∃(i:Nat)(fv:List Nat)(fa:Option Addr)(fc:Nat),i<=lv.length/\ah=au i/\ag=aA fa fv.length fc/\am w wr/\am w1 wr/\wr.ownsRow w1.heap.size 3 1 (aA fa fv.length fc) fv.length (fv.map fun n:Nat=>au n)/\Hid (fv=(lv.take i).flatMap (sQ (Mz rl) pl))) (fun _ ah _=>lv.length-(intOf ah).toNat)
 ·exact Q5
 ·obtain ⟨i,fv,fa,fc,bs,rfl,rfl,A,D,J,Z⟩:=hrel;have HB:=aj A;have Ig:=aj D;have uF:=aj J;have hwr:=A.size;have VV:=D.size
  by_cases hlt:i<lv.length
  ·obtain ⟨q,bl,e1,aN⟩:=aY (aB aT D) i (au (lv[i]:Nat)) qX;simp only [aK,true_and] at e1;obtain ⟨rfl,rfl⟩:=e1;obtain ⟨p,hp,bz⟩:=aS _ (br hlt);have ab:=aj (j4 (sQ (Mz rl) pl) lv i _ (aI hlt));have aG:=oG (sQ (Mz rl) pl) lv (i+1);rw [ab,<-Z,bf,al] at aG;have ba:(i:Int)<(lv.length:Int):=ai;generalize lv[i]=m at*;have hd:=HD.below A;refine Ca ?_;intro gp cp ga gc pa pc sa sc hpv hr q0 q1 q2 q3 q4 q5 q6 q7 hm hm';have ay:sQ (Mz rl) pl m=Mz rl p:=by unfold sQ;rw [hp]
   rw [ay] at ab aG;have c7:=hd.c7;rw [hpv] at c7;have HRG:=aj hr.g;have bc:=cd wr _ c7;have mk:=cd wr _ aN;have bg:=cd wr _ q0;clear A D J hd hr hp hpv ay;go_wp2_with fail
   go_region_held3 (fun w'=>w'.cell? (aC b 7)=some (aA (some (aP gp)) pl.length cp)/\w'.cell? (aC q i)=some (au m)/\w'.cell? (aC gp (m*8))=some (au p.kind)/\w'.cell? (aC gp (m*8+1))=some (aA ga p.gs.length gc)/\w'.cell? (aC gp (m*8+2))=some (an p.nb)/\w'.cell? (aC gp (m*8+3))=some (an p.nr)/\w'.cell? (aC gp (m*8+4))=some (au p.pa)/\w'.cell? (aC gp (m*8+5))=some (au p.pr)/\w'.cell? (aC gp (m*8+6))=some (aA pa p.ps.length pc)/\w'.cell? (aC gp (m*8+7))=some (aA sa p.sg.length sc)) (go_keep) (fail)
   rename_i aZ;clear aZ q0 q1 q2 q3 q4 q5 q6 q7 c7 aN bc mk bg;refine Q7 ?_;intro PB2 B2 Bg R2 RG2;clear HB Ig uF HRG;go_wp2_with fail;generalize (wr.alloc (dX p.kind ga p.gs.length gc p.nb p.nr p.pa p.pr pa p.ps.length pc sa p.sg.length sc)).drew=bh at*;generalize wr.heap.size=ae at*;have HHL:=aj (show (Mz rl p).length=(p.gs.flatMap (ey rl)).length from rfl)
   go_loopw [5,9] (fun ag af V=>∃(k:Nat)(f2:List Nat)(fa:Option Addr)(fc:Nat),k<=p.gs.length/\af=au k/\ag=aA fa f2.length fc/\am w V/\am w1 V/\aL V ae (gL p.kind ga p.gs.length gc p.nb p.nr p.pa p.pr pa p.ps.length pc sa p.sg.length sc) 255/\V.ownsRow 0 257 4 (aA ga p.gs.length gc) p.gs.length (p.gs.flatMap cO)/\V.ownsRow w1.heap.size 3 1 (aA fa f2.length fc) f2.length (f2.map fun n:Nat=>au n)/\Hid (f2=fv++(p.gs.take k).flatMap (ey rl))) (fun _ af _=>p.gs.length-(intOf af).toNat)
   ·exact Q6
   clear B2 Bg PB2 RG2 R2 hwr VV;obtain ⟨k,f2,fa,fc,bw,rfl,rfl,A,D,U,Y,J,N0⟩:=hrel;have HB:=aj A;have Ig:=aj D;have XZ:=aj U;have Y9:=aj Y;have uF:=aj J;have hwi:=A.size;have Za:=D.size;obtain ⟨p0,p1,p2,p3,p4,p5,p6,p7⟩:=U.eight;have bF:=U.lt
   by_cases hkt:k<p.gs.length
   ·obtain ⟨gg,bj,e1,hc⟩:=bn cO 4 (fun _=>rfl) Y k p.gs[k] (aI hkt);simp only [aK,true_and] at e1;obtain ⟨rfl,rfl⟩:=e1;refine Rc ?_;intro VW Ij hf2;rw [VW,bf] at Ij;rw [bf] at hf2;have Ra:(k:Int)<(p.gs.length:Int):=ai;generalize p.gs[k]=x at*;refine BZ ?_;intro k0 k1;refine Rb ?_;intro C uw;clear A D U Y J hc hf2 Ij
    rcases dc x.ty (bH x) rl 0 with I|⟨j,I,bu,bv⟩
    ·rw [I] at C;have Q:ey rl x=[]:=by unfold ey;rw [I];simp
     have Ku:=aj (show f2=fv++(p.gs.take (k+1)).flatMap (ey rl) from by rw [VW,Q,dU];exact N0);clear Q I;go_wp2_with fail
     go_region_held3 (fun w'=>w'.cell? (aC ae 1)=some (aA (some (aP gg)) p.gs.length gc)/\w'.cell? (aC gg (k*4))=some (an x.ty)/\w'.cell? (aC gg (k*4+1))=some (an (bH x))) (go_keep)
      ((go_at_call 132;refine C.mono ?_;rintro e w5 ⟨rfl,R⟩;have BB:=aj (show am wr w5 from (az _ wr).drew.trans R);have d0:=ak p1 BB;have d1:=ak k0 BB;have d2:=ak k1 BB;clear R))
     exact XY
    rw [I] at C;have Q:ey rl x=[j]:=by unfold ey;rw [I];simp
    rw [Q] at uw;simp only [List.length_cons,List.length_nil] at uw;have Ku:=aj (show f2++[j]=fv++(p.gs.take (k+1)).flatMap (ey rl) from by rw [VW,Q,<-ct,<-N0]);have bt:(0:Int)<=(j:Int):=ai;clear Q I;go_wp2_with fail
    go_region_held3 (fun w'=>w'.cell? (aC ae 1)=some (aA (some (aP gg)) p.gs.length gc)/\w'.cell? (aC gg (k*4))=some (an x.ty)/\w'.cell? (aC gg (k*4+1))=some (an (bH x))) (go_keep)
     ((go_at_call 132;refine C.mono ?_;rintro e w5 ⟨rfl,R⟩;have BB:=aj (show am wr w5 from (az _ wr).drew.trans R);have d0:=ak p1 BB;have d1:=ak k0 BB;have d2:=ak k1 BB;clear R))
    clear p0 p1 p2 p3 p4 p5 p6 p7 k0 k1 d0 d1 d2 C;refine Ie ?_;intro B6 Cb ED G6 R6;have X0:=B6.size;have EE:=Cb.size;clear HB Ig XZ Y9 uF;go_wp2_with (at_builtin;go_must (refine eB rfl underlying29 Tryz.infoInt w1.heap.size (R6.alloc _) w5.heap.size 1 [au j] (w5.heap.size+1) ?sd));intro g5 be bG aM dk aW aX;refine Re ?_;intro B7 Zb;have aV:=aj (oJ (ED.u.alloc _) (R6.u.alloc _) dk ax);have aO:=aj (oH (G6.u.alloc _) (R6.u.alloc _) dk ax);have aU:=aj aM;clear aM dk aW aX B6 Cb ED G6 R6;go_wp2;go_roundw
    ·exact ⟨k+1,f2++[j],some (aP g5),be,ai,by go_num,ar,B7.u,Zb.u,aV.u,aO.u,by simpa using aU.u,Ku⟩
    simp [intOf];omega
   refine Q9 ?_;intro Ra hf2 Ku Ii;rw [bf] at Ii;clear A D U Y J hf2 Ii;have aQ:=aj (show f2=(lv.take (i+1)).flatMap (sQ (Mz rl) pl) from by rw [aE ab,<-Z,Ku];rfl);go_wp2;go_roundw
   ·exact ⟨i+1,f2,fa,fc,ai,by go_num,rfl,HB,Ig,uF,aQ⟩
   simp [intOf];omega
  have ba:¬((i:Int)<(lv.length:Int)):=ai;have aF:fv=T:=by rw [Z,cX ai,al]
  have aR:=aj aF;have bb:=B1.size;clear A D J aF;go_wp2;go_ret;rw [<-aR];exact ⟨_,rfl,HB,bk uF bb⟩
def Ik(b kv rv pv kl rl pl l n lv w)(h:DM w b kv rv pv kl rl pl l)(U:gR pl n lv)(aj:lv.length<=1000)(ad:∀m∈lv,∃p,pl[m]? =some p/\p.gs.length<=1000):
  Calls prog 253 #[.pointer (some (aC b 5)),au n] w fun e w'=>e=bi (.bool (lv.any fun m=>decide (0<(jN pl m).length)))/\am w w':=by
 have C:=U b kv rv pv kl rl l w h;generalize V:(lv.any fun m=>decide (0<(jN pl m).length))=R;have HR:=(V:((lv.drop 0).any fun m=>decide (0<(jN pl m).length))=R);clear U V;go_enter func253,ntmps253;go_wp2_with fail;refine C.mono ?_;rintro e w1 ⟨sv,rfl,Y,Z⟩;obtain ⟨an,ap,rfl⟩:=aw Z;have af:=Y.size;clear C;go_wp2_with fail
 go_loopw [6] (fun Q wr=>∃(i:Nat),i<=lv.length/\Q=au i/\am w1 wr/\Hid (((lv.drop i).any fun m=>decide (0<(jN pl m).length))=R)) (fun Q _=>lv.length-(intOf Q).toNat)
 ·exact vR
 ·clear HR;obtain ⟨i,ah,rfl,J,A⟩:=hrel;have D:=Y.trans (J.mono af)
  by_cases hlt:i<lv.length
  ·obtain ⟨q,ag,e1,al⟩:=aY (aB Z J) i (au (lv[i]:Nat)) qX;simp only [aK,true_and] at e1;obtain ⟨rfl,rfl⟩:=e1;obtain ⟨p,hp,ak⟩:=ad _ (br hlt);rw [c8 hlt,kj] at A;have ac:(i:Int)<(lv.length:Int):=ai;generalize lv[i]=m at*;have hd:=h.below D;refine Ca ?_;intro gp cp ga gc pa pc sa sc hpv hr q0 q1 q2 q3 q4 q5 q6 q7 hm hm';have I:jN pl m=p.gs:=by unfold jN;rw [hp]
   rw [I] at A;have c7:=hd.c7;rw [hpv] at c7
   by_cases ab:0<p.gs.length
   ·rw [kV ab,so] at A;have ae:(0:Int)<(p.gs.length:Int):=ai;clear hd hr hp hpv I;go_wp2
    go_quiet (fail)
    go_wp2;go_ret;exact ⟨by rw [<-A];rfl,below_drewN D _⟩
   rw [l6 ab,Bool.false_or] at A;have ae:¬((0:Int)<(p.gs.length:Int)):=ai;clear hd hr hp hpv I;go_wp2
   go_quiet (fail)
   go_wp2;go_roundw
   ·exact ⟨i+1,ai,by go_num,below_drewN J _,A⟩
   simp [intOf];omega
  have ac:¬((i:Int)<(lv.length:Int)):=ai;rw [eC ai,List.any_nil] at A;go_wp2;go_ret;exact ⟨by rw [<-A];rfl,D⟩
abbrev sR:=@List.nodup_append
def mI(rl:List RV)(pl:List PV)(kd:ae)(n:Nat)(lv:List Nat):Prop:=gR pl n lv/\lv.length<=1000/\∀m∈lv,∃p,pl[m]? =some p/\p.gs.length<=1000/\(p.kind=2->0<=bh kd p.nr rl 0)/\(p.kind=3->0<=bh kd p.nb rl 0)
def iu(rl:List RV)(pl:List PV)(h:Nat->List Gr)(kd:ae)(lv:List Nat):List Nat:=lv.flatMap (sQ (gG rl h kd) pl)
def N1(rl:List RV)(pl:List PV)(lv:List Nat):List Nat:=lv.flatMap (sQ (Mz rl) pl)
def fM(rl:List RV)(pl:List PV)(h:Nat->List Gr)(kd:ae)(lv A:List Nat):List Nat:=iu rl pl h kd lv++(if (lv.any fun m=>decide (0<(jN pl m).length))=true then N1 rl pl A else [])
def mI.gs{lv}(h:mI rl pl kd n lv):∀m∈lv,∃p,pl[m]? =some p/\p.gs.length<=1000:=fun m A=>by
 obtain ⟨p,h1,h2,_⟩:=h.2.2 m A;exact ⟨p,h1,h2⟩
def wN(b kv rv pv kl rl pl l dP kd n ex lv Di w)(h:DM w b kv rv pv kl rl pl l)(ak:nY rl pl dP)(D:mI rl pl kd n lv)(Q:mI rl pl kd ex Di)(h1:(iu rl pl dP kd lv).length<=1000000000)(h2:(N1 rl pl Di).length<=1000000000):
  Calls prog 231 #[.pointer (some (aC b 5)),an kd,au n,au ex] w fun e w'=>∃sv,e=bi sv/\am w w'/\w'.ownsRow w.heap.size 3 1 sv (fM rl pl dP kd lv Di).length ((fM rl pl dP kd lv Di).map fun n:Nat=>au n):=by
 obtain ⟨aG,av,az,aE,aF⟩:=eN Tryz.infoInt;have C:=wM b kv rv pv kl rl pl l dP kd n lv _ w h ak D.1 D.2.1 D.2.2 rfl h1;generalize ac:fM rl pl dP kd lv Di=Y;change (Calls _ _ _ _ fun e w'=>∃sv,e=bi sv/\am w w'/\w'.ownsRow w.heap.size 3 1 sv (iu rl pl dP kd lv).length ((iu rl pl dP kd lv).map fun n:Nat=>au n)) at C;generalize ad:iu rl pl dP kd lv=T at*;go_enter func231,ntmps231;go_wp2_with fail;refine C.mono ?_;rintro e w1 ⟨sv,rfl,R,ag⟩;obtain ⟨aH,aI,rfl⟩:=aw ag;have aJ:=R.size;have C:=Ik b kv rv pv kl rl pl l n lv w1 (h.below R) D.1 D.2.1 D.gs;go_wp2_with fail;refine C.mono ?_;rintro e U ⟨rfl,ae⟩;have I:=R.trans (ae.mono aJ);have aK:=I.size;have Z:=aB ag ae
 cases hl:(lv.any fun m=>decide (0<(jN pl m).length))
 ·have aj:=(by rw [<-ac,fM,ad,hl];simp:T=Y);go_wp2;go_ret;rw [<-aj];exact ⟨_,rfl,I,Z⟩
 ·have C:=Cc b kv rv pv kl rl pl l ex Di _ U (h.below I) Q.1 Q.2.1 Q.gs rfl h2;change (Calls _ _ _ _ fun e w'=>∃sv,e=bi sv/\am U w'/\w'.ownsRow U.heap.size 3 1 sv (N1 rl pl Di).length ((N1 rl pl Di).map fun n:Nat=>au n)) at C;generalize ap:N1 rl pl Di=J at*;go_wp2_with fail;refine C.mono ?_;rintro e aO ⟨sv,rfl,af,ah⟩;obtain ⟨ta,tc,rfl⟩:=aw ah;have V:=I.trans (af.mono aK);have aL:=V.size;have ab:=aB Z af;go_wp2_with (at_builtin;go_must (refine g8 rfl _ _ 29 rfl w.heap.size 3 aG _ 1 8 underlying29 av az aE aF rfl ax (aA aH T.length aI) T.length (T.map fun n:Nat=>au n) rfl ab (aA ta J.length tc) J.length (J.map fun n:Nat=>au n) rfl _ ah ?hone ?h63 ?hbytes aL ?hrest))
  case hone=>
   exact Ih
  case h63=>unfold maxLen;omega
  case hbytes=>omega
  intro aM cv aP ay ar aN;have ai:=ff V ab ar;go_wp2;go_ret;have al:T++J=Y:=by rw [<-ac,fM,ad,hl,ap];simp
  rw [<-al];exact ⟨_,rfl,ai,by simpa using ay⟩
def jn(o:List Nat)(x:Nat):List Nat:=if (o.any fun k=>k==x) then o else o++[x]
def lN(o l:List Nat):List Nat:=l.foldl jn o
def wO(H:Nat->List Nat):Nat->List Nat->Nat->List Nat
 |0,o,_=>o
 |f+1,o,i=>match o[i]? with
  |none=>o
  |some r=>wO H f (lN o (H r)) (i+1)
def g9(s:List Nat)(m:Nat)(o:List Nat):Prop:=∃ex,o=s++ex/\ex.Nodup/\∀x∈ex,x<m
def EF:∀(m:Nat)(l:List Nat),l.Nodup->(∀x∈l,x<m)->l.length<=m
 |0,l,_,h=>by
  cases l with
  |nil=>simp
  |cons a l=>have:=h a ar;omega
 |m+1,l,hn,h=>by
  have h1:(l.erase m).Nodup:=hn.erase m;have h2:∀x∈l.erase m,x<m:=fun x C=>by
   have:=(List.Nodup.mem_erase_iff hn).1 C;have:=h x this.2;omega
  have D:=EF m _ h1 h2;have A:=List.length_erase (a:=m) (l:=l)
  split at A<;>omega
def g9.le{s o}(h:g9 s m o):o.length<=s.length+m:=by
 obtain ⟨ex,rfl,h1,h2⟩:=h;have:=EF m ex h1 h2;simp;omega
def g9.add{s o}(h:g9 s m o){x}(I:x<m):g9 s m (jn o x):=by
 obtain ⟨ex,rfl,h1,h2⟩:=h;unfold jn
 cases ha:(s++ex).any (fun k=>k==x)
 ·refine ⟨ex++[x],ar,?_,?_⟩
  ·rw [sR];refine ⟨h1,ar,?_⟩;intro a C c hc D;simp at hc;subst hc;subst D;rw [jB] at ha;exact ha a (by simp [C]) ar
  intro y A;rw [aW,aX] at A
  rcases A with A|rfl
  ·exact h2 y A
  exact I
 exact ⟨ex,rfl,h1,h2⟩
def EG:∀(o l:List Nat),o.length<=(lN o l).length
 |o,[]=>bV _
 |o,y::l=>by
  have h1:=EG (jn o y) l;have h2:o.length<=(jn o y).length:=by unfold jn;split<;>simp
  exact aV h2 h1
def Il(o l:List Nat)(j:Nat)(h:j<l.length):lN o (l.take (j+1))=jn (lN o (l.take j)) l[j]:=by
 unfold lN;rw [cD h,List.foldl_append]
 rfl
def g9.lt{s o}(h:g9 s m o)(hs:∀x∈s,x<m):∀x∈o,x<m:=by
 obtain ⟨ex,rfl,h1,h2⟩:=h;intro x A
 rcases aW.1 A with A|A
 ·exact hs x A
 exact h2 x A
def nZ(rl:List RV)(pl:List PV)(h:Nat->List Gr)(A:Nat->List Nat)(r:Nat):List Nat:=match rl[r]? with
 |some x=>iu rl pl h x.kd (A x.ex)
 |none=>[]
def lk(rl:List RV)(pl:List PV)(A:Nat->List Gr)(h:Nat->List Nat):Prop:=∀x∈rl,mI rl pl x.kd x.ex (h x.ex)/\(iu rl pl A x.kd (h x.ex)).length<=1000000000/\∀r∈iu rl pl A x.kd (h x.ex),r<rl.length
def Cd(rl:List RV)(pl:List PV)(h:Nat->List Gr)(A:Nat->List Nat)(S:List Nat):List Nat:=wO (nZ rl pl h A) (S.length+rl.length+1) S 0
def yJ(h:w.ownsRow base e size v n xs)
  (k:∀g cs f,v.ownBlock=some g->w.heap[g]? =some (.cells cs e f)->w'.heap[g]? =w.heap[g]?):w'.ownsRow base e size v n xs:=by
 obtain ⟨h1,h2⟩:=h;refine ⟨h1,?_⟩
 rcases h2 with h2|⟨g,cap,A,hv,D,C,r⟩
 ·exact Or.inl h2
 ·exact Or.inr ⟨g,cap,A,hv,D,(k g A (0,0) (by rw [hv];rfl) C).trans C,r⟩
def MA{w6 s1 xs1}(h1:W.ownsRow b1 E s1 v1 n1 xs1)(h:W.grownBy w6 v.ownBlock)(D:∀q,v1.ownBlock=some q->v.ownBlock≠some q):w6.ownsRow b1 E s1 v1 n1 xs1:=
 yJ h1 (fun g cs f A C=>h.block g (lt_of_some C) (fun e=>D g A e.symm))
def Rg(b kv rv pv kl rl pl l dP fA kd n ex lv Di w)(h:DM w b kv rv pv kl rl pl l)(aX:nY rl pl dP)(bk:mI rl pl kd n lv)(bj:mI rl pl kd ex Di)(h1:(iu rl pl dP kd lv).length<=1000000000)(h2:(N1 rl pl Di).length<=1000000000)(bl:lk rl pl dP fA)(bn:∀r∈fM rl pl dP kd lv Di,r<rl.length)(ce:(fM rl pl dP kd lv Di).length<=900000000):
  Calls prog 193 #[.pointer (some (aC b 5)),an kd,au n,au ex] w fun e w'=>∃sv,e=bi sv/\am w w'/\w'.ownsRow w.heap.size 3 1 sv (Cd rl pl dP fA (fM rl pl dP kd lv Di)).length ((Cd rl pl dP fA (fM rl pl dP kd lv Di)).map fun n:Nat=>au n):=by
 obtain ⟨co,rc,rfl⟩:=aw h.rt;have bD:=aj h;have bE:=aj aX;have bN:=aj bl;have cl:=h.rn;have C:=aj (wN b kv _ pv kl rl pl l dP kd n ex lv Di w h aX bk bj h1 h2);generalize fM rl pl dP kd lv Di=S at*;have bO:=aj bn;generalize bh:Cd rl pl dP fA S=R;have a7:=aj (bh:wO (nZ rl pl dP fA) (S.length+rl.length+1) S 0=R);clear h aX bk bj h1 h2 bl bn bh;go_enter func193,ntmps193;go_wp2_with fail;refine (aE C).mono ?_;rintro e w1 ⟨sv,rfl,bt,a1⟩;obtain ⟨b0,b2,rfl⟩:=aw a1;have a5:=aj bt;have ba:=aj a1;clear bt a1 C;go_wp2_with fail
 go_loopg [9,10] (S.length+rl.length+1) (fun k a3 b5 wr=>∃(i:Nat)(o:List Nat)(Q:Option Addr)(oc:Nat),b5=au i/\a3=aA Q o.length oc/\i<=o.length/\k=S.length+rl.length+1-i/\am w wr/\wr.ownsRow w.heap.size 3 1 (aA Q o.length oc) o.length (o.map fun n:Nat=>au n)/\Hid (g9 S rl.length o/\wO (nZ rl pl dP fA) k o i=R))
 ·exact ⟨0,S,b0,b2,rfl,rfl,ai,ai,a5.u,ba.u,aj ⟨⟨[],ar,ar,ar⟩,a7.u⟩⟩
 ·clear a5 ba a7;obtain ⟨i,o,Q,oc,rfl,rfl,cf,rfl,I,Y,ae⟩:=hrel;have ch:=(aE ae).1.le;have ac:=aj I;have Z:=aj Y;have bX:=I.size
  by_cases hlt:i<o.length
  ·have bU:(i:Int)<(o.length:Int):=by omega
   have a0:=(aE ae).1.lt bO.u _ (br hlt);obtain ⟨q,cb,e1,al⟩:=aY Y i (au (o[i]:Nat)) qX;simp only [aK,true_and] at e1;obtain ⟨rfl,rfl⟩:=e1;obtain ⟨aM,J⟩:=aE ae;rw [show S.length+rl.length+1-i=(S.length+rl.length-i)+1 by omega,wO,aI hlt] at J;simp only at J;generalize o[i]=r at*;have ay:=bD.u.below I;obtain ⟨gr,cr,e1,bA,b7,b8,bB⟩:=ay.rat r rl[r] (aI a0);simp only [aK,true_and] at e1;obtain ⟨rfl,rfl⟩:=e1;obtain ⟨aL,bS,bv⟩:=bN.u _ (br a0);have bw:nZ rl pl dP fA r=iu rl pl dP rl[r].kd (fA rl[r].ex):=by unfold nZ;rw [aI a0]
   rw [bw] at J;have ck:(r:Int)<(rl.length:Int):=ai;have c6:=ay.c6;generalize rl[r]=x at*;have C:=aj (wM b kv _ pv kl rl pl l dP x.kd x.ex (fA x.ex) _ wr.drew (ay.below bo.drew) bE.u aL.1 aL.2.1 aL.2.2 rfl bS);change Hid (Calls _ _ _ _ fun e w'=>∃sv,e=bi sv/\Below wr.drew.heap.size wr.drew w'/\w'.ownsRow wr.drew.heap.size 3 1 sv (iu rl pl dP x.kd (fA x.ex)).length ((iu rl pl dP x.kd (fA x.ex)).map fun n:Nat=>au n)) at C;generalize iu rl pl dP x.kd (fA x.ex)=hl at*;have bG:=aj bv;have bK:=aj aM;have bL:=aj J;clear I Y ay aL bw bv aM J ae;go_wp2_with fail
   go_region_held3 (fun w'=>w'.cell? (aC b 6)=some (aA (some (aP gr)) rl.length rc)/\w'.cell? (aC q i)=some (au r)/\w'.cell? (aC gr (r*4))=some (an x.kd)/\w'.cell? (aC gr (r*4+3))=some (au x.ex)) (go_keep)
    ((go_at_call 232;refine (aE C).mono ?_;rintro e w5 ⟨sv,rfl,bu,bz⟩;have ab:=aj ((az _ wr).drew.trans bu:am wr w5);have d0:=ak c6 ab.u;have d1:=ak al ab.u;have d2:=ak bA ab.u;have d3:=ak bB ab.u;have aQ:=aj bz;obtain ⟨ha,ag,rfl⟩:=aw aQ.u;clear bu bz))
   clear c6 al bA b7 b8 bB d0 d1 d2 d3 C;have a6:=aj (ac.u.trans (ab.u.mono bX));have bb:=aj (aB Z.u ab.u);have aT:=aj (show w5.ownsRow wr.heap.size 3 1 (aA ha hl.length ag) hl.length (hl.map fun n:Nat=>au n) from aQ.u);have a9:=aj (show ∀A,(Value.slice ha hl.length ag).ownBlock=some A->(Value.slice (some (aP q)) o.length oc).ownBlock≠some A/\A<w5.heap.size from fun A ah=>by
    have e1:=aT.u.lt A ah;refine ⟨fun aV=> ?_,e1.2⟩;have aW:=(Z.u.lt A aV).2;omega)
   clear ac Z ab aQ;go_wp2_with fail
   go_loopw [9,12] (fun a3 a2 aN=>∃(j:Nat)(D:List Nat)(Q:Option Addr)(oc:Nat),a2=au j/\a3=aA Q D.length oc/\j<=hl.length/\am w aN/\w5.heap.size<=aN.heap.size/\aN.ownsRow w.heap.size 3 1 (aA Q D.length oc) D.length (D.map fun n:Nat=>au n)/\aN.ownsRow wr.heap.size 3 1 (aA ha hl.length ag) hl.length (hl.map fun n:Nat=>au n)/\
    Hid (lN o (hl.take j)=D/\g9 S rl.length D/\∀A,(Value.slice ha hl.length ag).ownBlock=some A->(Value.slice Q D.length oc).ownBlock≠some A/\A<w5.heap.size)) (fun _ a2 _=>hl.length-(intOf a2).toNat)
   ·exact ⟨0,o,_,oc,rfl,rfl,ai,a6.u,bV _,bb.u,aT.u,aj ⟨rfl,bK.u,a9.u⟩⟩
   clear a6 bb aT a9;obtain ⟨j,D,Q,oc,rfl,rfl,cg,I,cm,Y,aJ,U⟩:=hrel;have ci:=(aE U).2.1.le;have ac:=aj I;have Z:=aj Y;have a8:=aj aJ;have bW:=I.size
   by_cases aH:j<hl.length
   ·have bT:(j:Int)<(hl.length:Int):=by omega
    obtain ⟨b3,cd,e1,al⟩:=aY aJ j (au (hl[j]:Nat)) (by simp [aI aH]);simp only [aK,true_and] at e1;obtain ⟨rfl,rfl⟩:=e1;have av:=aj (Il o hl j aH);have bY:=bG.u _ (br aH);have b9:=aj (aI aH);generalize hl[j]=y at*;rw [(aE U).1] at av;have C:=aj (Ew w.heap.size _ D y wr Y ai);clear I Y aJ;go_wp2_with fail;refine (aE C).mono ?_;rintro e a4 ⟨rfl,ad⟩;have ap:=aj (ac.u.trans (ad.mono bW));have ax:=aj (aB Z.u ad);have aU:=aj (aB a8.u ad);have cp:=ad.size;have b4:=ap.u.size;have bZ:=ak al ad;clear ad C ac Z a8 al;have V:=aE av;unfold jn at V
    cases af:(D.any fun k=>k==y)
    ·rw [af] at V;simp only [bJ,aZ] at V;have bp:jn D y=D++[y]:=by unfold jn;rw [af];simp
     have aO:=(aE U).2.1.add bY;rw [bp] at aO;have bF:=aj aO;have aS:=aj V;clear af V av bp aO;go_wp2_with (at_builtin;go_must (refine eB rfl underlying29 Tryz.infoInt w.heap.size (ax.u.alloc _) a4.heap.size 1 [au y] (a4.heap.size+1) ?hrest));intro bg bc b6 bx aF bs bR;have bC:=aj (ff (ap.u.alloc b4 _) (ax.u.alloc _) aF);have bP:=aj (MA (aU.u.alloc _) aF (fun A ah=>((aE U).2.2 A ah).1));have bQ:=aj bx;have cq:a4.heap.size<=b6.heap.size:=by have:=aF.size;simp at this;omega
     have bI:=aj (show ∀A,(Value.slice (some (aP b3)) hl.length ag).ownBlock=some A->(Value.slice (some (aP bg)) (D++[y]).length bc).ownBlock≠some A/\A<w5.heap.size from fun A ah=>by
      obtain ⟨e1,aV⟩:=(aE U).2.2 A ah;refine ⟨fun aW=> ?_,aV⟩;simp only [Value.ownBlock,aR] at aW
      rcases bs with bf|bf
      ·exact e1 (by rw [bf,aW])
      omega)
     clear bx aF bs bR ap ax aU bZ;go_wp2;go_roundw
     ·exact ⟨j+1,D++[y],some (aP bg),bc,by go_num,ar,ai,bC.u,ai,by simpa using bQ.u,bP.u,aj ⟨aS.u,bF.u,bI.u⟩⟩
     simp [intOf];omega
    rw [af] at V;simp only [if_true] at V;have aS:=aj V;clear af V av;go_wp2;go_roundw
    ·exact ⟨j+1,D,Q,oc,by go_num,rfl,ai,ap.u,ai,ax.u,aU.u,aj ⟨aS.u,(aE U).2.1,(aE U).2.2⟩⟩
    simp [intOf];omega
   have bT:¬((j:Int)<(hl.length:Int)):=ai;have aG:=(aE U).1;rw [cX ai] at aG;have bH:=aj aG;have cj:o.length<=D.length:=by
    have:=EG o hl;rw [aG] at this;exact this
   clear I Y aJ aG;go_wp2
   go_roundg (S.length+rl.length-i)
   case measure=>omega
   case rel=>exact ⟨i+1,D,Q,oc,by go_num,rfl,ai,ai,ac.u,Z.u,aj ⟨(aE U).2.1,by rw [<-bH.u];exact bL.u⟩⟩
  have bU:¬((i:Int)<(o.length:Int)):=ai;obtain ⟨aM,J⟩:=aE ae;rw [show S.length+rl.length+1-i=(S.length+rl.length-i)+1 by omega,wO,jD ai] at J;simp only at J;have bM:=aj J;clear I Y aM J;go_wp2;go_ret;rw [<-bM.u];exact ⟨_,rfl,ac.u,Z.u⟩
abbrev Im:=@List.drop_append_of_le_length
def wP (h:aD:=by
 go_wp2;go_roundw
 ·exact ⟨j+1,_,ai,ai,by go_num,rfl,B7,C7,uL⟩
 simp [intOf];omega):aD:=h
def minus(t:Tk):Bool:=(mk t.text).toList== [45]
def UH(bad:Nat->Bool):List Nat->List Tk->Int->Int
 |m::ms,t::ts,c=>UH bad ms ts (if minus t&&bad m then eI c t.place else c)
 |_,_,c=>c
def pp(bad:Nat->Bool)(pl:List PV):Nat->List Nat->Int->Int
 |0,_,c=>c
 |_+1,[],c=>c
 |f+1,n::q,c=>match pl[n]? with
  |none=>pp bad pl f q c
  |some p=>pp bad pl f (q++p.ps) (UH bad (p.ps.drop 1) (p.sg.drop 1) c)
def wQ(rl:List RV)(pl:List PV)(A:Nat->List Gr)(h:Nat->List Nat)(i:Nat)(x:RV)(m:Nat):Bool:=(Cd rl pl A h (fM rl pl A x.kd (h m) (h x.ex))).any fun k=>k==i
structure Io(rl:List RV)(pl:List PV)(dP:Nat->List Gr)(fA:Nat->List Nat)(x:RV)(Q:Nat->Prop)(sz:Nat->Nat):Prop where
 root:Q x.ex
 szr:sz x.ex<=1000
 step:∀n,Q n->∃p,pl[n]? =some p/\p.sg.length<=p.ps.length/\(p.ps.map sz).sum<sz n/\∀m∈p.ps,Q m/\mI rl pl x.kd m (fA m)/\(iu rl pl dP x.kd (fA m)).length<=1000000000/\(∀r∈fM rl pl dP x.kd (fA m) (fA x.ex),r<rl.length)/\(fM rl pl dP x.kd (fA m) (fA x.ex)).length<=900000000
 ex:mI rl pl x.kd x.ex (fA x.ex)/\(N1 rl pl (fA x.ex)).length<=1000000000
def Ip(sz):∀(l:List Nat),(∀m∈l,0<sz m)->l.length<=(l.map sz).sum
 | [],_=>ar
 |a::l,h=>by
  have h1:=h a ar;have h2:=Ip sz l (fun m hm=>h m Ks);simp only [List.length_cons,List.map_cons,List.sum_cons];omega
def loopsR(rl:List RV)(pl:List PV)(h:Nat->List Gr)(A:Nat->List Nat)(C:RV->Nat->Nat):List RV->Nat->Int->Int
 | [],_,c=>c
 |x::xs,i,c=>loopsR rl pl h A C xs (i+1) (pp (wQ rl pl h A i x) pl (C x x.ex+1) [x.ex] c)
def n7{s m}:∀(l o:List Nat),g9 s m o->(∀x∈l,x<m)->g9 s m (lN o l)
 | [],o,h,_=>h
 |y::l,o,h,hl=>n7 l (jn o y) (h.add (hl y ar)) (fun x hx=>hl x zb)
def wR{s m}(H)(A:∀r,∀x∈H r,x<m):∀(f:Nat)(o:List Nat)(i:Nat),g9 s m o->g9 s m (wO H f o i)
 |0,o,i,h=>h
 |f+1,o,i,h=>by
  rw [wO]
  split
  ·exact h
  exact wR H A f _ _ (n7 _ _ h (A _))
def Rh(rl pl dP fA)(h:lk rl pl dP fA)(S):(Cd rl pl dP fA S).length<=S.length+rl.length:=by
 refine g9.le (wR _ (fun r x A=> ?_) _ _ _ ⟨[],ar,ar,ar⟩);unfold nZ at A
 cases C:rl[r]? with
 |none=>rw [C] at A;simp at A
 |some y=>
  rw [C] at A;exact (h y (bF C)).2.2 x A
def Iq(b kv rv pv kl rl pl l)(J:Nat->List Gr)(D:Nat->List Nat)(bf:RV->Nat->Prop)(I:RV->Nat->Nat)(w)(h:DM w b kv rv pv kl rl pl l)(cI:nY rl pl J)(bV:lk rl pl J D)(cK:∀x∈rl,Io rl pl J D x (bf x) (I x)):
  Calls prog 130 #[.pointer (some (aC b 5))] w fun e w'=>e=bi (au (loopsR rl pl J D I rl 0 (-1)))/\am w w':=by
 obtain ⟨c4,cP,c1,c2,c3⟩:=eN Tryz.infoInt;obtain ⟨dF,rc,rfl⟩:=aw h.rt;have dA:=h.rn;generalize bS:loopsR rl pl J D I rl 0 (-1)=R;have bK:=(bS:loopsR rl pl J D I (rl.drop 0) 0 (-1)=R);clear bS;go_enter func130,ntmps130;go_wp2_with fail
 go_loopw [3,4] (fun ap bF wr=>∃(i:Nat)(c:Int),i<=rl.length/\bF=au i/\ap=au c/\am w wr/\Hid (loopsR rl pl J D I (rl.drop i) i c=R)) (fun _ bF _=>rl.length-(intOf bF).toNat)
 ·exact ⟨0,-1,ai,rfl,rfl,az _ _,bK⟩
 ·clear bK;obtain ⟨i,c,hi,rfl,rfl,C,aF⟩:=hrel;have c6:=(h.below C).c6;have ab:=C;have b7:=C.size
  by_cases bs:i<rl.length
  ·have cR:(i:Int)<(rl.length:Int):=by omega
   obtain ⟨gr,cr,e1,bQ,cD,cE,bg⟩:=h.rat i rl[i] (aI bs);simp only [aK,true_and] at e1;obtain ⟨rfl,rfl⟩:=e1;have aO:=aF;rw [c8 bs,loopsR] at aO;have bx:=cK _ (br bs);generalize rl[i]=x at*;have aV:=ak bg C;have cx:=bQ;have cy:=bg;have ad:=bx;have dB:=bx.szr;generalize bY:pp (wQ rl pl J D i x) pl (I x x.ex+1) [x.ex] c=cC at aO;have bL:=bY;have cu:=aO;have bR:am wr (wr.alloc (.cells #[au x.ex] 3)):=bo.alloc aH _;have bG:=ab.trans (bR.mono b7);have bO:=(⟨rfl,.inr ⟨wr.heap.size,1,#[au x.ex],rfl,b7,aL.new wr _ _,ai,by unfold maxLen;omega,rfl,rfl⟩⟩:(wr.alloc (.cells #[au x.ex] 3)).ownsRow w.heap.size 3 1 (aA (some (aP wr.heap.size)) 1 1) 1 ([x.ex].map fun n:Nat=>au n));clear C aF aO bx bQ cD cE bg bY bR;go_wp2_with fail
   go_loopg [3,5,6] (I x x.ex+1) (fun gk ap dd de av=>∃(k:Nat)(inn:List Nat)(bz:Option Addr)(aQ:Nat)(c:Int),de=au k/\dd=aA bz inn.length aQ/\ap=au c/\k<=inn.length/\gk=I x x.ex+1-k/\am w av/\av.ownsRow w.heap.size 3 1 (aA bz inn.length aQ) inn.length (inn.map fun n:Nat=>au n)/\Hid (k+((inn.drop k).map (I x)).sum<=I x x.ex/\(∀m∈inn.drop k,bf x m)/\pp (wQ rl pl J D i x) pl gk (inn.drop k) c=cC))
   ·exact ⟨0,[x.ex],_,1,c,rfl,rfl,rfl,ai,ai,bG,bO,aj ⟨ar,fun m Q=>by simp at Q;subst Q;exact ad.root,bL⟩⟩
   clear bG bO bL aV c6;obtain ⟨k,inn,bz,aQ,c,rfl,rfl,rfl,dw,rfl,C,bw,ac⟩:=hrel;have ab:=C;have cY:=C.size;have bu:∀m∈inn.drop k,0<I x m:=fun m Q=>by
    obtain ⟨p,_,_,cH,_⟩:=ad.step m (ac.2.1 m Q);omega
   have cT:=Ip (I x) (inn.drop k) bu;have dD:=ac.1;rw [nh] at cT
   by_cases b2:k<inn.length
   ·have cS:(k:Int)<(inn.length:Int):=by omega
    obtain ⟨q,dp,e1,b8⟩:=aY bw k (au (inn[k]:Nat)) (by simp [aI b2]);simp only [aK,true_and] at e1;obtain ⟨rfl,rfl⟩:=e1;obtain ⟨ah,ae,af⟩:=aE ac;rw [c8 b2] at ah ae af;obtain ⟨p,aN,dz,dE,bj⟩:=ad.step inn[k] (ae inn[k] List.mem_cons_self);rw [show I x x.ex+1-k=(I x x.ex-k)+1 by omega,pp,aN] at af;simp only [List.map_cons,List.sum_cons] at ah;generalize inn[k]=m at*;obtain ⟨Y,cG,ga,gc,pa,pc,sa,sc,b5,bv,b9,cb,ce,cf,cg,ch,ci,cj⟩:=h.pat m p aN;have Q:=(bD.1 aN).1;have dx:(m:Int)<(pl.length:Int):=ai;have c7:=(h.below C).c7;rw [b5] at c7;have bM:=bv.p;have cw:=bv.s;have dy:p.ps.length<=1000:=by
     have cW:∀m∈p.ps,0<I x m:=fun m Q=>by
      obtain ⟨p,_,_,cH,_⟩:=ad.step m (bj m Q).1;omega
     have:=Ip (I x) p.ps cW;omega
    have bT:(k+1)+(((inn++p.ps).drop (k+1)).map (I x)).sum<=I x x.ex:=by
     rw [Im ai,List.map_append,List.sum_append];omega
    have bU:∀m∈(inn++p.ps).drop (k+1),bf x m:=fun m Q=>by
     rw [Im ai] at Q
     rcases aW.1 Q with Q|Q
     ·exact ae m (List.mem_cons_of_mem _ Q)
     exact (bj m Q).1
    have bN:=And.intro bT bU;have cq:=ak b9 C;have dg:=ak cb C;have dh:=ak ce C;have di:=ak cf C;have dj:=ak cg C;have dk:=ak ch C;have dl:=ak ci C;have dm:=ak cj C;have c5:=cd wr _ c7;have mk:=cd wr _ b8;have c9:=cd wr _ cq;clear C bv aN b5 ah ae ac bT bU b9 cb ce cf cg ch ci cj bu;go_wp2_with fail
    go_region_held3 (fun w'=>w'.cell? (aC b 7)=some (aA (some (aP Y)) pl.length cG)/\w'.cell? (aC q k)=some (au m)/\w'.cell? (aC Y (m*8))=some (au p.kind)/\w'.cell? (aC Y (m*8+1))=some (aA ga p.gs.length gc)/\w'.cell? (aC Y (m*8+2))=some (an p.nb)/\w'.cell? (aC Y (m*8+3))=some (an p.nr)/\w'.cell? (aC Y (m*8+4))=some (au p.pa)/\w'.cell? (aC Y (m*8+5))=some (au p.pr)/\w'.cell? (aC Y (m*8+6))=some (aA pa p.ps.length pc)/\w'.cell? (aC Y (m*8+7))=some (aA sa p.sg.length sc)) (go_keep) (fail)
    rename_i cO;clear cO cq dg dh di dj dk dl dm c7 b8 c5 mk c9;have bh:am wr ((wr.alloc (dX p.kind ga p.gs.length gc p.nb p.nr p.pa p.pr pa p.ps.length pc sa p.sg.length sc)).drew):=((az _ wr).alloc aH _).drew;have aG:=(aL.new wr (gL p.kind ga p.gs.length gc p.nb p.nr p.pa p.pr pa p.ps.length pc sa p.sg.length sc) 255).drew;have ay:=ab.trans (bh.mono cY);have aJ:=aB bw bh;have dc:=ay.size;obtain ⟨bA,p1,p2,bB,bC,bE,aR,aT⟩:=aG.eight;have db:=aG.lt;have bP:=aB bM ay;clear bh ab bw;generalize (wr.alloc (dX p.kind ga p.gs.length gc p.nb p.nr p.pa p.pr pa p.ps.length pc sa p.sg.length sc)).drew=dn at*;generalize wr.heap.size=da at*;go_wp2_with (at_builtin;go_must (refine g8 rfl _ _ 29 rfl w.heap.size 3 c4 _ 1 8 underlying29 cP c1 c2 c3 rfl ax (aA (some (aP q)) inn.length aQ) inn.length (inn.map fun n:Nat=>au n) rfl aJ (aA pa p.ps.length pc) p.ps.length (p.ps.map fun n:Nat=>au n) rfl _ bP ?honeA ?h63A ?VY dc ?sd))
    case honeA=>
     exact Ih
    case h63A=>unfold maxLen;omega
    case VY=>omega
    intro cF cv df cV bl cN;have ct:=ff ay aJ bl;have cA:=oJ aG aJ bl ax;clear bl cN ay aJ aG bP bA p1 p2 bB bC bE aR aT db;go_wp2_with fail;have dC:p.sg.length<=1000:=ai
    go_loopw [3,8] (fun ap u8 av=>∃(j:Nat)(U:Int),1<=j/\j<=p.sg.length+1/\u8=au j/\ap=au U/\am w av/\am df av/\Hid (UH (wQ rl pl J D i x) (p.ps.drop j) (p.sg.drop j) U=UH (wQ rl pl J D i x) (p.ps.drop 1) (p.sg.drop 1) c)) (fun _ u8 _=>p.sg.length+1-(intOf u8).toNat)
    ·exact ⟨1,c,ai,ai,rfl,rfl,ct,az _ _,rfl⟩
    obtain ⟨j,U,dt,du,rfl,rfl,C,al,uL⟩:=hrel;have cZ:=C.size;have cX:=al.size;have bt:=cA.below al;obtain ⟨bA,p1,p2,bB,bC,bE,aR,aT⟩:=bt.eight
    by_cases b0:j<p.sg.length
    ·have cQ:(j:Int)<(p.sg.length:Int):=by omega
     have bp:j<p.ps.length:=ai;have dv:(j:Int)<(p.ps.length:Int):=ai;obtain ⟨ck,dq,e1,kp⟩:=aY (aB bM C) j (au (p.ps[j]:Nat)) (by simp [aI bp]);simp only [aK,true_and] at e1;obtain ⟨rfl,rfl⟩:=e1;obtain ⟨qs,dr,e1,bk⟩:=bn fI 3 (fun _=>rfl) (aB cw C) j p.sg[j] (aI b0);simp only [aK,true_and] at e1;obtain ⟨rfl,rfl⟩:=e1;rw [c8 bp,c8 b0,UH] at uL;obtain ⟨_,b4,bZ,b3,cU⟩:=bj _ (br bp);generalize p.ps[j]=Z at*;generalize p.sg[j]=t at*;have cl:wr.cell? (aC qs (j*3))=some (an (mk t.text)):=bk 0 _ ai rfl;have cm:wr.cell? (aC qs (j*3+1))=some (au t.place):=bk 1 _ ai rfl;have c6:=(h.below C).c6;have cp:=ak cx C;have aV:=ak cy C;have cL:=Rh rl pl J D bV (fM rl pl J x.kd (D Z) (D x.ex));have bH:=Rg b kv _ pv kl rl pl l J D x.kd Z x.ex (D Z) (D x.ex) wr.drew (h.below (C.drew)) cI b4 ad.ex.1 bZ ad.ex.2 bV b3 cU;have bX:wQ rl pl J D i x Z=(Cd rl pl J D (fM rl pl J x.kd (D Z) (D x.ex))).any fun k=>k==i:=rfl
     rw [bX] at uL;generalize cJ:fM rl pl J x.kd (D Z) (D x.ex)=cz at*;generalize Cd rl pl J D cz=aX at*;have cM:aX.length<=1000000000:=ai;clear b4 bZ b3 bk bX cL cJ bt;go_wp2_with fail
     go_region_held3 (fun w'=>w'.cell? (aC b 6)=some (aA (some (aP gr)) rl.length rc)/\w'.cell? (aC gr (i*4))=some (an x.kd)/\w'.cell? (aC gr (i*4+3))=some (au x.ex)/\w'.cell? (aC da 6)=some (aA (some (aP ck)) p.ps.length pc)/\w'.cell? (aC ck j)=some (au Z)) (go_keep)
      ((go_at_call 193;refine bH.mono ?_;rintro e w5 ⟨sv,rfl,bW,b6⟩;have V:=((az _ wr).drew.trans bW:am wr w5);have d0:=ak c6 V;have d1:=ak cp V;have d2:=ak aV V;have d3:=ak aR V;have d4:=ak kp V;have bc:=b6;obtain ⟨ha,ds,rfl⟩:=aw bc;clear bW b6))
     have ba:=C.trans (V.mono cZ);have bb:=al.trans (V.mono cX);have bI:=Ew _ _ aX i w5 bc cM;have t0:=ak cl V;have t1:=ak cm V;have co:=ak aT V;clear c6 cp aV bA p1 p2 bB bC bE aR aT kp cl cm d0 d1 d2 d3 d4 bH C al V bc;go_wp2_with fail;refine bI.mono ?_;rintro e dG ⟨rfl,ag⟩;have B7:=ba.trans (ag.mono ba.size);have C7:=bb.trans (ag.mono bb.size);have f0:=ak t0 ag;have f1:=ak t1 ag;have f7:=ak co ag;clear ag bI ba bb t0 t1 co;generalize (aX.any fun k=>k==i)=bd at*
     cases aM:minus t
     ·rw [aM,eM] at uL;simp only [bJ,aZ] at uL;unfold minus at aM;exact wP
     rw [aM,Bool.true_and] at uL;unfold minus at aM
     cases bd
     ·simp only [bJ,aZ] at uL;exact wP
     simp only [if_true] at uL
     by_cases h0:U<0
     ·rw [show eI U t.place=t.place from by simp [eI,h0]] at uL;exact wP
     by_cases h1:(t.place:Int)<U
     ·rw [show eI U t.place=t.place from by simp [eI,h1]] at uL;exact wP
     rw [show eI U t.place=U from by simp [eI,h0,h1]] at uL;exact wP
    have cQ:¬((j:Int)<(p.sg.length:Int)):=ai;rw [show UH (wQ rl pl J D i x) (p.ps.drop j) (p.sg.drop j) U=U from by rw [eC (show p.sg.length<=j by omega)];cases p.ps.drop j<;>rfl] at uL;have cB:=aB cV al;clear bt;go_wp2
    go_roundg (I x x.ex-k)
    case measure=>omega
    case rel=>exact ⟨k+1,inn++p.ps,cF,cv,U,by go_num,ar,rfl,aS,ai,C,by simpa using cB,aj ⟨bN.1,bN.2,by rw [Im ai,uL];exact af⟩⟩
   have cS:¬((k:Int)<(inn.length:Int)):=ai;obtain ⟨ah,ae,af⟩:=aE ac;rw [eC ai,show I x x.ex+1-k=(I x x.ex-k)+1 by omega,pp] at af;clear C ah ae ac bu;go_wp2;go_roundw
   ·exact ⟨i+1,c,ai,by go_num,rfl,ab,(by rw [af];exact cu)⟩
   simp [intOf];omega
  have cR:¬((i:Int)<(rl.length:Int)):=ai;rw [eC ai,loopsR] at aF;clear C;go_wp2;go_ret;exact ⟨by rw [<-aF];rfl,ab⟩
abbrev sV:=@List.drop_eq_nil_of_le
def Ck (h:aD:=by
 rw [hw] at HF;clear hw h1 h2;exact RQ):aD:=h
def RR (h:aD:=by
 rw [hw] at HF;clear hw h1;exact RQ):aD:=h
def RU (h:aD:=by
 go_enter func81,ntmps81;go_wp2;go_ret;exact ⟨rfl,bo.alloc aH _⟩):aD:=h
def RQ (h:aD:=by
 go_wp2;go_roundw
 ·exact ⟨k+1,_,ai,by go_num,rfl,hb,hpb,HF⟩
 simp [intOf];omega):aD:=h
def xf:ae:=⟨#[44,32]⟩
def i7(s:ae)(i:Nat):ae:=if 0<i then s++xf else s
def pu(s:ae)(g:Gr):ae:=if eqs (bH g) em||eqs (bH g) (sg 42) then s else s++sg 35
def Cl(s:ae)(i:Nat)(g:Gr):ae:=pu (i7 s i++g.ty) g++bH g
def m4:List Gr->Nat->ae->ae
 | [],_,s=>s
 |g::gs,i,s=>m4 gs (i+1) (Cl s i g)
def bc(a c:ae):(a++c).size=a.size+c.size:=ByteArray.size_append
def ML(s:ae)(i:Nat):s.size<=(i7 s i).size:=by
 unfold i7
 split
 ·rw [bc];omega
 omega
def RW(s:ae)(g:Gr):s.size<=(pu s g).size:=by
 unfold pu
 split
 ·omega
 rw [bc];omega
def RX(s:ae)(i:Nat)(g:Gr):s.size+g.ty.size+(bH g).size<=(Cl s i g).size:=by
 unfold Cl;have h1:=ML s i;have h2:=RW (i7 s i++g.ty) g;rw [bc] at h2;rw [bc];omega
def Cm:∀(gs:List Gr)(i:Nat)(s:ae),s.size<=(m4 gs i s).size
 | [],_,s=>bV _
 |g::gs,i,s=>by
  have h1:=Cm gs (i+1) (Cl s i g);have h2:=RX s i g;rw [m4];omega
def UK(pl:List PV)(n:Nat)(W:Bool->Bool->ae):Prop:=∀(u d:Bool) (b:Nat) (kv rv pv:ag) (kl:List (ae×Nat)) (rl:List RV) (l:List PX) (w:af),DM w b kv rv pv kl rl pl l->
 Calls prog 81 #[.pointer (some (aC b 5)),au n,.bool u,.bool d] w fun e w'=>e=bi (an (W u d))/\am w w'
def Co(pl:List PV)(n:Nat)(p:PV)(hp:pl[n]? =some p)(A:p.kind=2):UK pl n (fun _ _=>p.nr):=by
 intro u d b kv rv pv kl rl l w h;obtain ⟨g,c,ga,gc,pa,pc,sa,sc,rfl,I,k0,k1,J,k3,Q,R,U,V⟩:=h.pat n p hp;refine wH ?_;intro c7 hn hn';have C:((p.kind:Int)==1)=false:=by rw [A];rfl
 have D:((p.kind:Int)==2)=true:=by rw [A];rfl
 exact RU
def Cp(pl:List PV)(n:Nat)(p:PV)(hp:pl[n]? =some p)(A:p.kind=3)(hs:p.nb.size+p.nr.size<=100000):UK pl n (fun _ _=>(p.nb++sg 46)++p.nr):=by
 intro u d b kv rv pv kl rl l w h;obtain ⟨g,c,ga,gc,pa,pc,sa,sc,rfl,J,k0,k1,Q,k3,R,U,V,Y⟩:=h.pat n p hp;refine wH ?_;intro c7 hn hn';have C:((p.kind:Int)==1)=false:=by rw [A];rfl
 have D:((p.kind:Int)==2)=false:=by rw [A];rfl
 have I:((p.kind:Int)==3)=true:=by rw [A];rfl
 exact RU
def yM(pl:List PV)(n:Nat)(p:PV)(I:pl[n]? =some p)(V:p.kind=1)(hs:(m4 p.gs 0 em).size<=100000)(ay:p.gs.length<=1000):UK pl n (fun _ _=>(sg 91++m4 p.gs 0 em)++sg 93):=by
 intro u d b kv rv pv kl rl l w h;obtain ⟨g,c,ga,gc,pa,pc,sa,sc,rfl,Z,k0,k1,k2,k3,ak,al,ap,ar⟩:=h.pat n p I;have c7:=h.c7;have hn:=(bD.1 I).1;have aG:=h.pn;have aF:(n:Int)<(pl.length:Int):=ai;have af:((p.kind:Int)==1)=true:=by rw [V];rfl
 have ax:=en k0;generalize U:m4 p.gs 0 em=R at*;have ad:=Z.g;have Q:=(U:m4 (p.gs.drop 0) 0 em=R);clear h Z I V U;go_enter func81,ntmps81;go_wp2_with fail;clear k0 k1 k2 k3 ak al ap ar c7 af
 go_loopw [10,11] (fun av J wr=>∃(k:Nat)(s:ae),k<=p.gs.length/\J=au k/\av=an s/\am w wr/\aL wr w.heap.size (gL p.kind ga p.gs.length gc p.nb p.nr p.pa p.pr pa p.ps.length pc sa p.sg.length sc) 255/\(m4 (p.gs.drop k) k s=R)) (fun _ J _=>p.gs.length-(intOf J).toNat)
 ·exact ⟨0,em,ai,rfl,rfl,((az _ w).alloc aH _:am w (w.alloc (dX p.kind ga p.gs.length gc p.nb p.nr p.pa p.pr pa p.ps.length pc sa p.sg.length sc))),(aL.new w (gL p.kind ga p.gs.length gc p.nb p.nr p.pa p.pr pa p.ps.length pc sa p.sg.length sc) 255),Q⟩
 clear Q;obtain ⟨k,s,aE,rfl,rfl,hb,hpb,HF⟩:=hrel;obtain ⟨aN,p1,p2,aO,aP,aR,aS,aU⟩:=hpb.eight;have aM:=hb.size;have aV:=hpb.lt;have ac:=Cm (p.gs.drop k) k s;rw [HF] at ac
 by_cases Y:k<p.gs.length
 ·obtain ⟨gg,aw,e1,hc⟩:=bn cO 4 (fun _=>rfl) (aB ad hb) k p.gs[k] (aI Y);simp only [aK,true_and] at e1;obtain ⟨rfl,rfl⟩:=e1;rw [c8 Y,m4] at HF;generalize p.gs[k]=x at*;refine BZ ?_;intro k0 k1;refine QW ?_;intro k2 k3 hkn;have ab:=Cm (p.gs.drop (k+1)) (k+1) (Cl s k x);rw [HF] at ab;have aj:=RX s k x;have aJ:s.size+x.ty.size+(bH x).size<=100000:=ai;clear hc ab aj
  cases h1:eqs (bH x) em
  ·have D:((bH x).toList== [])=false:=by rw [<-h1,sO]
   have ag:((bH x).toList != [])=true:=by rw [bne,D];rfl
   cases h2:eqs (bH x) (sg 42)
   ·refine QX ?_;intro h2';have ah:((bH x).toList != [42])=true:=by rw [bne,h2'];rfl
    by_cases A:0<k
    ·have C:(0:Int)<(k:Int):=by omega
     have hw:Cl s k x=(((s++xf)++x.ty)++sg 35)++bH x:=by unfold Cl pu i7;rw [if_pos A];simp [h1,h2]
     exact Ck
    have C:¬((0:Int)<(k:Int)):=ai;have hw:Cl s k x=((s++x.ty)++sg 35)++bH x:=by unfold Cl pu i7;rw [if_neg A];simp [h1,h2]
    exact Ck
   refine QY ?_;intro h2';have ah:((bH x).toList != [42])=false:=by rw [bne,h2'];rfl
   by_cases A:0<k
   ·have C:(0:Int)<(k:Int):=by omega
    have hw:Cl s k x=((s++xf)++x.ty)++bH x:=by unfold Cl pu i7;rw [if_pos A];simp [h1,h2]
    exact Ck
   have C:¬((0:Int)<(k:Int)):=ai;have hw:Cl s k x=(s++x.ty)++bH x:=by unfold Cl pu i7;rw [if_neg A];simp [h1,h2]
   exact Ck
  have D:((bH x).toList== [])=true:=by rw [<-h1,sO]
  have ag:((bH x).toList != [])=false:=by rw [bne,D];rfl
  by_cases A:0<k
  ·have C:(0:Int)<(k:Int):=by omega
   have hw:Cl s k x=((s++xf)++x.ty)++bH x:=by unfold Cl pu i7;rw [if_pos A];simp [h1]
   exact RR
  have C:¬((0:Int)<(k:Int)):=ai;have hw:Cl s k x=(s++x.ty)++bH x:=by unfold Cl pu i7;rw [if_neg A];simp [h1]
  exact RR
 have hkn:¬((k:Int)<(p.gs.length:Int)):=ai;have e:s=R:=by
  have:=HF;rw [sV ai,m4] at this;exact this
 subst e;clear HF ac;go_wp2;go_ret;exact ⟨rfl,hb⟩
def qm(k i:ae)(w:af)(A:k.size+i.size<=1000):
  Calls prog 66 #[.agg #[an k,an i]] w fun e w'=>e=bi (an ((k++sg 58)++i))/\am w w':=by
 have h:=az w.heap.size w;go_enter func66,ntmps66;go_wp2;go_ret;exact ⟨rfl,(cq h)⟩
def xg(k i r:ae):ae:=if r.size=0 then (k++sg 58)++i else (((k++sg 58)++i)++sg 35)++r
def Cr(k i r:ae)(w:af)(Y:k.size+i.size+r.size<=900):
  Calls prog 107 #[.agg #[an k,an i,an r]] w fun e w'=>e=bi (an (xg k i r))/\am w w':=by
 have Z:((k++sg 58)++i).size+r.size<=1000:=by rw [bc,bc,show (sg 58).size=1 from rfl];omega
 have A:=(az w.heap.size w).alloc aH (cf k i r);have K0:=aL.new w #[an k,an i,an r] 102;have C:=fun w=>qm k i w ai
 unfold xg
 by_cases h0:r.size=0
 ·rw [if_pos h0];have V:(r.toList== [])=true:=by rw [aT,dS];exact iL (by rw [bj];exact h0)
  have Q:r.toList.isEmpty=true:=by rw [aT,List.isEmpty_iff];exact iL (by rw [bj];exact h0)
  clear h0;go_enter func107,ntmps107;go_wp2_with fail;refine (C _).mono ?_;rintro e w1 ⟨rfl,I⟩;have J:=A.trans (I.mono A.size);clear I C;go_wp2;go_ret;exact ⟨rfl,J⟩
 ·rw [if_neg h0];have Q:r.toList.isEmpty=false:=by
   rw [aT,A3];intro h;rw [List.isEmpty_iff] at h;exact h0 (by rw [<-bj,h];rfl)
  have V:(r.toList== [])=false:=by rw [aT] at Q ⊢;revert Q;cases bB r<;>simp
  clear h0;generalize (k++sg 58)++i=x at*;have ab:¬9223372036854775807<x.size+1:=ai;have ac:¬9223372036854775807<x.size+1+r.size:=ai;go_enter func107,ntmps107;go_wp2_with fail;generalize (w.alloc (cf k i r))=W at*;have k0:W.cell? (aP w.heap.size)=some (an k):=K0.cell rfl;have k1:W.cell? (aC w.heap.size 1)=some (an i):=K0.cell rfl;have U:W.cell? (aC w.heap.size 2)=some (an r):=K0.cell rfl;have R:=C W.drew;clear C
  go_region_held3 (fun w'=>w'.cell? (aP w.heap.size)=some (an k)/\w'.cell? (aC w.heap.size 1)=some (an i)/\w'.cell? (aC w.heap.size 2)=some (an r)) (go_keep)
   ((go_at_call 66;refine R.mono ?_;rintro e w1 ⟨rfl,I⟩;have D:=((az _ W).drew.trans I:am W w1);have d0:=ak k0 D;have d1:=ak k1 D;have d2:=ak U D;clear I))
  have J:=A.trans (D.mono A.size);clear D A K0 R k0 k1 U d0 d1 d2;go_wp2;go_ret;exact ⟨rfl,J⟩
def IB(k i r sk A D:ae)(w:af)(ap:k.size+i.size+r.size+sk.size+A.size+D.size<=500):
  Calls prog 63 #[.agg #[an k,an i,an r,an sk,an A,an D]] w fun e w'=>e=bi (an (((((k++sg 58)++i)++sg 35)++r)++sg 64++xg sk A D))/\am w w':=by
 have ar:((k++sg 58)++i).size+r.size+(xg sk A D).size<=1000:=by
  have:(xg sk A D).size<=sk.size+A.size+D.size+2:=by
   unfold xg
   split
   ·rw [bc,bc,show (sg 58).size=1 from rfl];omega
   rw [bc,bc,bc,bc,show (sg 58).size=1 from rfl,show (sg 35).size=1 from rfl];omega
  rw [bc,bc,show (sg 58).size=1 from rfl];omega
 have Q:=(az w.heap.size w).alloc aH (.cells #[an k,an i,an r,an sk,an A,an D] 123);have K0:=aL.new w #[an k,an i,an r,an sk,an A,an D] 123;have C:=fun w=>qm k i w ai
 have Z:=fun w=>Cr sk A D w ai
 generalize (k++sg 58)++i=x at*;generalize xg sk A D=y at*;have au:¬9223372036854775807<x.size+1:=ai;have av:¬9223372036854775807<x.size+1+r.size:=ai;have aw:¬9223372036854775807<x.size+1+r.size+1:=ai;have ax:¬9223372036854775807<x.size+1+r.size+1+y.size:=ai;go_enter func63,ntmps63;go_wp2_with fail;generalize (w.alloc (.cells #[an k,an i,an r,an sk,an A,an D] 123))=W at*;have k0:W.cell? (aP w.heap.size)=some (an k):=K0.cell rfl;have k1:W.cell? (aC w.heap.size 1)=some (an i):=K0.cell rfl;have R:W.cell? (aC w.heap.size 2)=some (an r):=K0.cell rfl;have k3:W.cell? (aC w.heap.size 3)=some (an sk):=K0.cell rfl;have U:W.cell? (aC w.heap.size 4)=some (an A):=K0.cell rfl;have V:W.cell? (aC w.heap.size 5)=some (an D):=K0.cell rfl;have ab:=C W.drew
 go_region_held3 (fun w'=>w'.cell? (aP w.heap.size)=some (an k)/\w'.cell? (aC w.heap.size 1)=some (an i)/\w'.cell? (aC w.heap.size 2)=some (an r)/\w'.cell? (aC w.heap.size 3)=some (an sk)/\w'.cell? (aC w.heap.size 4)=some (an A)/\w'.cell? (aC w.heap.size 5)=some (an D)) (go_keep)
  (first
  |(have aA:=I;go_at_call 107;refine (Z _).mono ?_;rintro e ay ⟨rfl,ad⟩;have J:=(I.trans (ad.mono I.size));have e0:=ak k0 J;have e1:=ak k1 J;have ag:=ak R J;have ah:=ak k3 J;have aj:=ak U J;have al:=ak V J)
  |(go_at_call 66;refine ab.mono ?_;rintro e w1 ⟨rfl,ac⟩;have I:=((az _ W).drew.trans ac:am W w1);have d0:=ak k0 I;have d1:=ak k1 I;have d2:=ak R I;have d3:=ak k3 I;have d4:=ak U I;have d5:=ak V I))
 have Y:=Q.trans (J.mono Q.size);go_wp2;go_ret;exact ⟨rfl,Y⟩
def xh(h:dM s=true):((((((b7 s).1.kind++sg 58)++(b7 s).1.id)++sg 35)++(b7 s).1.rel)++sg 64++xg (b7 s).1.sub (b7 s).1.who (b7 s).1.of)=s:=by
 obtain ⟨_,_,hl⟩:=lJ h;have e:∀a b:ae,bB (a++b)=bB a++bB b:=fun a b=>by simp [bB,ByteArray.data_append]
 have A:∀c:UInt8,bB (sg c)=[c]:=fun c=>rfl
 generalize (b7 s).1=t at*;have key:bB ((((((t.kind++sg 58)++t.id)++sg 35)++t.rel)++sg 64++xg t.sub t.who t.of))=bB s:=by
  rw [hl];unfold xg
  split<;>simp [e,A]
 rw [<-cW s,<-key,cW]
def aai(q:bq) (h:cj bq->aD:=by
 intro zq;have hn':(n:Int)<(pl.length:Int):=ai;have h1b:((p.kind:Int)==1)=false:=by rw [hk];rfl
 have h2b:((p.kind:Int)==2)=false:=by rw [hk];rfl
 revert hn' h1b h2b
 exact zq.1):aD:=h ⟨q⟩
def Uo(q:bq) (h:cj bq->aD:=by
 intro zq;have B0:=show am w (w.alloc (dX p.kind ga p.gs.length gc p.nb p.nr p.pa p.pr pa p.ps.length pc sa p.sg.length sc)) from (az _ w).alloc aH _
 revert B0
 exact zq.1):aD:=h ⟨q⟩
def Up(q:bq) (h:cj bq->aD:=by
 intro zq;have c7:=h.c7;have hn:=(bD.1 hp).1;have hpn:=h.pn;refine aai ?_;intro hn' h1b h2b;have h3b:((p.kind:Int)==3)=false:=by rw [hk];rfl
 revert c7 hn hpn hn' h1b h2b h3b
 exact zq.1):aD:=h ⟨q⟩
def abu:ae:=⟨#[32,124,32]⟩
def F9(s:ae)(i:Nat):ae:=if 0<i then s++abu else s
def iJ(W:Nat->Bool->Bool->ae):List Nat->Nat->ae->ae
 | [],_,s=>s
 |m::ms,i,s=>iJ W ms (i+1) (F9 s i++W m false false)
def ov(s:ae)(i:Nat)(t:Tk):ae:=if 0<i then ((s++sg 32)++mk t.text)++sg 32 else s
def Dc(W:Nat->Bool->Bool->ae):List Nat->List Tk->Nat->ae->ae
 |m::ms,t::ts,i,s=>Dc W ms ts (i+1) (ov s i t++W m true (decide (0<i)))
 |_,_,_,s=>s
def UY(c:Bool)(s:ae):ae:=if c then (sg 40++s)++sg 41 else s
def Lt(s:ae)(i:Nat):s.size<=(F9 s i).size:=by
 unfold F9
 split
 ·rw [bc];omega
 omega
def Ga(s:ae)(i:Nat)(t:Tk):s.size<=(ov s i t).size/\(0<i->s.size+(mk t.text).size+2<=(ov s i t).size):=by
 have e1:(sg 32).size=1:=rfl;unfold ov
 split
 ·rw [bc,bc,bc];omega
 omega
def yo(h:Nat->Bool->Bool->ae):∀(l:List Nat)(i:Nat)(s:ae),s.size<=(iJ h l i s).size
 | [],_,s=>bV _
 |m::l,i,s=>by
  have h1:=yo h l (i+1) (F9 s i++h m false false);have h2:=Lt s i;rw [bc] at h1;rw [iJ];omega
def JA(h:Nat->Bool->Bool->ae):∀(l:List Nat)(ts:List Tk)(i:Nat)(s:ae),s.size<=(Dc h l ts i s).size
 |m::l,t::ts,i,s=>by
  have h1:=JA h l ts (i+1) (ov s i t++h m true (decide (0<i)));have h2:=(Ga s i t).1;rw [bc] at h1;rw [Dc];omega
 | [],_,_,s=>by unfold Dc;exact bV _
 |_::_,[],_,s=>by unfold Dc;exact bV _
def yV(pl:List PV)(n:Nat)(p:PV)(hp:pl[n]? =some p)(hk:p.kind=5)(A:Nat->Bool->Bool->ae)(aV:∀m∈p.ps,UK pl m (A m))(hs:(iJ A p.ps 0 em).size<=100000)(bo:p.ps.length<=1000):UK pl n (fun u _=>UY u (iJ A p.ps 0 em)):=by
 intro u d b kv rv pv kl rl l w h;obtain ⟨g,c,ga,gc,pa,pc,sa,sc,rfl,av,k0,k1,bf,k3,bg,bh,bi,bj⟩:=h.pat n p hp;refine Up ?_;intro c7 hn hpn hn' h1b h2b h3b;have aR:((p.kind:Int)==4)=false:=by rw [hk];rfl
 have aS:((p.kind:Int)==5)=true:=by rw [hk];rfl
 have bn:=en k0;have ac:=aj (show (p.kind:Int)=5 from by rw [hk];rfl);generalize ah:iJ A p.ps 0 em=R at*;have aQ:=av.p;have ad:=aj (show iJ A (p.ps.drop 0) 0 em=R from ah);refine Uo ?_;intro B0;refine qe ?_;intro NZ;clear av hp hk ah;go_enter func81,ntmps81;go_wp2_with fail;clear k0 k1 bf k3 bg bh bi bj c7 h1b h2b h3b aR aS
 go_loopw [10,12] (fun bk ab wr=>∃(k:Nat)(s:ae),k<=p.ps.length/\ab=au k/\bk=an s/\am w wr/\aL wr w.heap.size (gL p.kind ga p.gs.length gc p.nb p.nr p.pa p.pr pa p.ps.length pc sa p.sg.length sc) 255/\Hid (iJ A (p.ps.drop k) k s=R)) (fun _ ab _=>p.ps.length-(intOf ab).toNat)
 ·exact ⟨0,em,ai,rfl,rfl,B0,NZ,ad⟩
 clear B0 NZ ad;obtain ⟨k,s,bp,rfl,rfl,D,U,J⟩:=hrel;obtain ⟨Q,p1,p2,aF,aG,aJ,Z,aN⟩:=U.eight;rw [ac.u] at Q;have bb:=D.size;have bt:=U.lt;have ax:=yo A (p.ps.drop k) k s;rw [aE J] at ax
 by_cases hlt:k<p.ps.length
 ·obtain ⟨q,bl,e1,ay⟩:=aY (aB aQ D) k (au (p.ps[k]:Nat)) qX;simp only [aK,true_and] at e1;obtain ⟨rfl,rfl⟩:=e1;have V:=aE J;rw [c8 hlt,iJ] at V;have ap:=aV _ (br hlt);generalize p.ps[k]=m at*;have aZ:(k:Int)<(p.ps.length:Int):=ai;have aw:=yo A (p.ps.drop (k+1)) (k+1) (F9 s k++A m false false);rw [V,bc] at aw;have ba:=Lt s k;have bs:s.size+(A m false false).size<=100000:=ai;have C:=ap false false b kv rv _ kl rl l wr.drew (h.below D.drew);generalize A m false false=x at*;clear J aw ba ap;have aW:(((0:Int)<(k:Int))/\F9 s k=s++abu)\/(¬((0:Int)<(k:Int))/\F9 s k=s):=by
   by_cases h:0<k
   ·exact .inl ⟨ai,if_pos h⟩
   exact .inr ⟨ai,if_neg h⟩
  rcases aW with ⟨aX,e⟩|⟨aX,e⟩
  all_goals
   rw [e] at V;clear e;go_wp2_with fail;refine wp_region_held_drew (S:=fun w'=>w'.cell? (aP w.heap.size)=some (au 5)/\w'.cell? (aC w.heap.size 6)=some (aA (some (aP q)) p.ps.length pc)/\w'.cell? (aC q k)=some (au m)) aM (by go_keep) (fun aT=>wl 0 ?_)
   iterate 16
    first
    |refine pk rfl aM (fun _ _ _ h=>h) (by assumption) (Or.inr ⟨bQ,rfl⟩) ?_
    |refine pk (v:= ?_) rfl aM (fun _ _ _ h=>h) (by assumption) (Or.inl ⟨bQ,?_⟩) ?_
     rotate_left
     ·(intro w' Y;(try dsimp only at Y);go_simp)<;>with_reducible rfl
    simp only [Act.put,List.setIfInBounds_toArray,List.set_cons_zero,List.set_cons_succ,List.getElem_toArray,List.getElem_cons_zero,List.getElem_cons_succ,Nat.reduceAdd]
   refine wpAnyH_ready (rs:=[16]) aM ar ?_;refine AllReadyH.cons rfl (fun K ag=> ?_) AllReadyH.nil
   go_simp
   refine C.mono ?_;rintro e w1 ⟨rfl,al⟩;have I:=show am wr w1 from (az _ wr).drew.trans al
   have d0:=ak Q I;have d1:=ak Z I;have d2:=ak ay I;clear al;refine ag.out _ _ ⟨d0,d1,d2⟩ (fun aU=> ?_);clear ag K aT
   try simp only [Act.put,List.setIfInBounds_toArray,List.set_cons_zero,List.set_cons_succ,List.getElem_toArray,List.getElem_cons_zero,List.getElem_cons_succ]
   refine pk (k:=17) (v:= ?_) rfl aM (fun _ _ _ h=>h) (by assumption) (Or.inl ⟨bQ,?_⟩) ?_
   rotate_left
   ·(intro w' Y;(try dsimp only at Y);go_simp)<;>with_reducible rfl
   simp only [Act.put,List.setIfInBounds_toArray,List.set_cons_zero,List.set_cons_succ,List.getElem_toArray,List.getElem_cons_zero,List.getElem_cons_succ];refine wpAnyH_done aM ?_ _;clear aU;have aO:=D.trans (I.mono bb);have af:=U.below I;clear C D U Q p1 p2 aF aG aJ Z aN ay d0 d1 d2 I;obtain ⟨Q,p1,p2,aF,aG,aJ,Z,aN⟩:=af.eight;rw [ac.u] at Q;go_wp2;go_roundw
   ·exact ⟨k+1,_,ai,by go_num,rfl,aO,af,V⟩
   ·simp [intOf];omega
 have aZ:¬((k:Int)<(p.ps.length:Int)):=ai;have e:s=R:=by
  have:=aE J;rw [sV ai,iJ] at this;exact this
 subst e;clear J ax
 cases u
 ·go_wp2;go_ret;exact ⟨rfl,D⟩
 go_wp2;go_ret;exact ⟨rfl,D⟩
