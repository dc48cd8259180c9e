import Derived.Test.YtlbpnlngckgcbaaGreatDoorM16
import Derived.Test.YtlbpnlngckgcbaaGreatDoorM18
import Derived.Test.YtlbpnlngckgcbaaGreatDoorM06
set_option linter.all false
set_option maxHeartbeats 4000000
set_option maxRecDepth 100000
namespace Go.Proofs.YtlbpnlngckgcbaaGreatDoor
open Go.RowKit Go.PlainAid Go.Proofs.Tryz
variable {aD br:Prop} {w W w5 w':af} {B size n g base m b1 n1:Nat} {E T e:TypeId} {v v1:ag} {xs:List ag} {cs:Array ag} {rl:List RV} {pl:List PV} {kd s:ae}
def Qq (h:aD:=by
 have A:=ak (by rw [<-JV,hfi];simp:some p.pa=R);rw [hfi];clear hfi;go_wp2;go_ret;exact ⟨by rw [<-A];rfl,B4⟩):aD:=h
def Hj (h:aD:=by
 go_wp2;go_roundw
 ·exact ⟨k+1,ai,by go_num,B4,PB4,Bo⟩
 simp [intOf];omega):aD:=h
def Hk (h:aD:=by
 go_wp2;go_ret;exact ⟨by rw [<-Vs];rfl,B4⟩):aD:=h
def Hl (h:aD:=by
 go_wp2;go_ret;exact ⟨by rw [<-Vs];rfl,B5⟩):aD:=h
def Br(q:br) (h:cj br->aD:=by
 intro zq;have k0:wr.cell? (aC gg (k*4))=some (aj x.ty):=hc 0 _ ai rfl;have k1:wr.cell? (aC gg (k*4+1))=some (aj (bH x)):=hc 1 _ ai rfl
 revert k0 k1
 exact zq.1):aD:=h ⟨q⟩
def Qr(q:br) (h:cj br->aD:=by
 intro zq;have k2:wr.cell? (aC gg (k*4+2))=some (ar x.tp):=hc 2 _ ai rfl;have k3:wr.cell? (aC gg (k*4+3))=some (ar x.rp):=hc 3 _ ai rfl;have hkn:(k:Int)<(p.gs.length:Int):=ai
 revert k2 k3 hkn
 exact zq.1):aD:=h ⟨q⟩
def Qs(q:br) (h:cj br->aD:=by
 intro zq;have h2':((bH x).toList== [42])=false:=by rw [<-h2,aQ];rw [show (sg 42).toList=[42] from by rw [aT];rfl]
 revert h2'
 exact zq.1):aD:=h ⟨q⟩
def Qt(q:br) (h:cj br->aD:=by
 intro zq;have h2':((bH x).toList== [42])=true:=by rw [<-h2,aQ];rw [show (sg 42).toList=[42] from by rw [aT];rfl]
 revert h2'
 exact zq.1):aD:=h ⟨q⟩
def Qu(q:br) (h:cj br->aD:=by
 intro zq;have e2:((p.kind:Int)==2)=false:=bW.2 ai;have e3:((p.kind:Int)==3)=false:=bW.2 ai
 revert e2 e3
 exact zq.1):aD:=h ⟨q⟩
def oM(kl:List (ae×Nat))(rl:List RV)(g:Gr):Option Nat:=
 if (kl.any fun k=>eqs k.1 g.ty)=false then some g.tp
 else if eqs (bH g) em=false/\eqs (bH g) (sg 42)=false/\bi g.ty (bH g) rl 0<0 then some g.rp else none
def Hm(kl:List (ae×Nat))(rl:List RV)(h:Nat->List Gr)(kd:ae)(p:PV):Option Nat:=match p.gs.findSome? (oM kl rl) with
 |some a=>some a
 |none=>if p.kind=2 then (if bi kd p.nr rl 0<0 then some p.pa else none)
  else if p.kind=3 then (if bi kd p.nb rl 0<0 then some p.pa else if fA rl p.nr (h (bi kd p.nb rl 0).toNat)=[] then some p.pr else none)
  else none
def k7:Option Nat->Int
 |some a=>a
 |none=> -1
def D2(b kv rv pv kl rl pl l dN kd p ga gc pa pc sa sc w)(h:DM w b kv rv pv kl rl pl l)(a9:∀r,r<rl.length->GrC rl pl r (dN r)/\(dN r).length<=1000000)(bh:mh w (p,aw ga p.gs.length gc,aw pa p.ps.length pc,aw sa p.sg.length sc))(bu:p.gs.length<=1000000):
  Calls prog 192 #[.pointer (some (aC b 5)),aj kd,.agg #[ar p.kind,aw ga p.gs.length gc,aj p.nb,aj p.nr,ar p.pa,ar p.pr,aw pa p.ps.length pc,aw sa p.sg.length sc]] w fun e w'=>e=bj (ar (k7 (Hm kl rl dN kd p)))/\an w w':=by
 have ag:=ak h;have bl:=ak a9;have bp:=ak bh.g;generalize aJ:Hm kl rl dN kd p=R;have bn:=ak aJ;have aR:=ak ((aA _ w).alloc aH (dV ar p.kind aw ga p.gs.length gc aj p.nb aj p.nr ar p.pa ar p.pr aw pa p.ps.length pc aw sa p.sg.length sc));have aV:=ak (show (match (p.gs.drop 0).findSome? (oM kl rl) with
  |some a=>some a
  |none=>if p.kind=2 then (if bi kd p.nr rl 0<0 then some p.pa else none)
   else if p.kind=3 then (if bi kd p.nb rl 0<0 then some p.pa else if fA rl p.nr (dN (bi kd p.nb rl 0).toNat)=[] then some p.pr else none)
   else none)=R from aJ)
 clear h a9 bh aJ;go_enter func192,ntmps192;go_wp2_with fail
 go_loopw [7] (fun aO wr=>∃(k:Nat),k<=p.gs.length/\aO=ar k/\an w wr/\aL wr w.heap.size #[ar p.kind,aw ga p.gs.length gc,aj p.nb,aj p.nr,ar p.pa,ar p.pr,aw pa p.ps.length pc,aw sa p.sg.length sc] 255/\Hid ((match (p.gs.drop k).findSome? (oM kl rl) with
  |some a=>some a
  |none=>if p.kind=2 then (if bi kd p.nr rl 0<0 then some p.pa else none)
   else if p.kind=3 then (if bi kd p.nb rl 0<0 then some p.pa else if fA rl p.nr (dN (bi kd p.nb rl 0).toNat)=[] then some p.pr else none)
   else none)=R)) (fun aO _=>p.gs.length-(intOf aO).toNat)
 ·exact ⟨0,ai,rfl,aR,(ak (aL.new w #[ar p.kind,aw ga p.gs.length gc,aj p.nb,aj p.nr,ar p.pa,ar p.pr,aw pa p.ps.length pc,aw sa p.sg.length sc] 255)),aV⟩
 ·clear aR aV bn;obtain ⟨k,bv,rfl,ah,ay,ap⟩:=hrel;have ad:=ak ah;have aF:=ak ay;have aN:=ah.size;obtain ⟨U,p1,p2,V,Y,Z,ab,ac⟩:=ay.eight
  by_cases bg:k<p.gs.length
  ·obtain ⟨gg,bt,e1,hc⟩:=bo cO 4 (fun _=>rfl) (aB bp ah) k p.gs[k] (aI bg);simp only [aK,true_and] at e1;obtain ⟨rfl,rfl⟩:=e1;have C:=aE ap;rw [c9 bg,gI] at C;generalize p.gs[k]=x at*;refine Br ?_;intro k0 k1;refine Qr ?_;intro k2 k3 hkn;have aG:=(aA _ wr).alloc aH (.cells #[aj x.ty,aj (bH x),ar x.tp,ar x.rp] 257);have al:=ak (ad.trans (aG.mono aN));have aW:=ak (aF.below aG);have aU:=ak (aL.new wr #[aj x.ty,aj (bH x),ar x.tp,ar x.rp] 257);have JV:=ak C;clear ah ay hc ap C aG;go_wp2_with fail;refine (ak (s9 b kv rv pv kl rl pl l x.ty _ (ag.below al))).mono ?_;rintro e bx ⟨rfl,au⟩;have am:=ak (al.trans (au.mono al.size));have aX:=ak (aW.below au);have az:=ak (aU.below au);obtain ⟨g0,aY,aZ,a8⟩:=az.four;clear au al aW aU k0 k1 k2 k3 U p1 p2 V Y Z ab ac;go_wp2_with fail;refine (ak (ef b kv rv pv kl rl pl l x.ty (bH x) _ (ag.below am))).mono ?_;rintro e aP ⟨rfl,I⟩;have B4:=ak (am.trans (I.mono am.size));have PB4:=ak (aX.below I);clear g0 aY aZ a8;obtain ⟨g0,aY,aZ,a8⟩:=(ak (az.below I)).four;clear I am aX az
   cases J:(kl.any fun k=>eqs k.1 x.ty)
   ·have D:oM kl rl x=some x.tp:=by unfold oM;rw [J];simp
    have Vs:=ak (by rw [<-JV,D]:some x.tp=R);clear J D;exact Hk
   cases h1:eqs (bH x) em
   ·have bq:((bH x).toList== [])=false:=by rw [<-h1,si]
    cases h2:eqs (bH x) (sg 42)
    ·refine Qs ?_;intro h2'
     rcases dd x.ty (bH x) rl 0 with hfi|⟨j,hfi,bc,be⟩
     ·have D:oM kl rl x=some x.rp:=by unfold oM;rw [J];simp [h1,h2,hfi]
      have Vs:=ak (by rw [<-JV,D]:some x.rp=R);rw [hfi];clear J D h1 h2 hfi;exact Hk
     have D:oM kl rl x=none:=by
      unfold oM;rw [J];have:¬((j:Int)<0):=ai;simp [h1,h2,hfi,this]
     have Bo:=ak JV;rw [D] at Bo;rw [hfi];have av:¬((j:Int)<0):=ai;clear J D h1 h2 hfi;exact Hj
    refine Qt ?_;intro h2';have D:oM kl rl x=none:=by unfold oM;rw [J];simp [h1,h2]
    have Bo:=ak JV;rw [D] at Bo;clear J D h1 h2;exact Hj
   have bq:((bH x).toList== [])=true:=by rw [<-h1,si]
   have D:oM kl rl x=none:=by unfold oM;rw [J];simp [h1]
   have Bo:=ak JV;rw [D] at Bo;clear J D h1;exact Hj
  have hkn:¬((k:Int)<(p.gs.length:Int)):=ai;have C:=aE ap;rw [eA ai,List.findSome?_nil] at C;simp only at C;clear ah ay ap
  by_cases Q:p.kind=2
  ·have e2:((p.kind:Int)==2)=true:=by rw [Q];rfl
   have e3:((p.kind:Int)==3)=false:=by rw [Q];rfl
   rw [if_pos Q] at C;have JV:=ak C;clear Q C;go_wp2_with fail;refine (ak (ef b kv rv pv kl rl pl l kd p.nr wr (ag.below ad))).mono ?_;rintro e aP ⟨rfl,I⟩;have B4:=ak (ad.trans (I.mono aN));clear U p1 p2 V Y Z ab ac;obtain ⟨U,p1,p2,V,Y,Z,ab,ac⟩:=(ak (aF.below I)).eight;clear I
   rcases dd kd p.nr rl 0 with hfi|⟨j,hfi,bc,be⟩
   ·exact Qq
   have av:¬((j:Int)<0):=ai;have Vs:=ak (by rw [<-JV,hfi];simp [av]:none=R);rw [hfi];clear hfi;exact Hk
  by_cases ae:p.kind=3
  ·have e2:((p.kind:Int)==2)=false:=by rw [ae];rfl
   have e3:((p.kind:Int)==3)=true:=by rw [ae];rfl
   rw [if_neg Q,if_pos ae] at C;have JV:=ak C;clear Q ae C;go_wp2_with fail;refine (ak (ef b kv rv pv kl rl pl l kd p.nb wr (ag.below ad))).mono ?_;rintro e aP ⟨rfl,I⟩;have B4:=ak (ad.trans (I.mono aN));have PB4:=ak (aF.below I);clear U p1 p2 V Y Z ab ac;obtain ⟨U,p1,p2,V,Y,Z,ab,ac⟩:=PB4.eight;clear I
   rcases dd kd p.nb rl 0 with hfi|⟨j,hfi,bc,be⟩
   ·exact Qq
   have av:¬((j:Int)<0):=ai;have C:=JV.u;rw [hfi,if_neg av,Int.toNat_natCast] at C;have Bo:=ak C;obtain ⟨ba,bb⟩:=bl j ai;have aS:=ak (zm b kv rv pv kl rl pl l j (dN j) p.nr aP (ag.below B4) ba bb);rw [hfi];clear hfi C JV ba bb;go_wp2_with fail;refine aS.mono ?_;rintro e w5 ⟨sv,rfl,aM,bk⟩;obtain ⟨ta,tc,rfl⟩:=ax bk;have B5:=ak (B4.trans (aM.mono B4.size));clear U p1 p2 V Y Z ab ac;obtain ⟨U,p1,p2,V,Y,Z,ab,ac⟩:=(ak (PB4.below aM)).eight;clear aM bk aS
   by_cases af:fA rl p.nr (dN j)=[]
   ·have Vs:=ak (by rw [<-Bo,af];simp:some p.pr=R);rw [af];clear af;simp only [List.length_nil];exact Hl
   have Vs:=ak (by rw [<-Bo,if_neg af]:none=R);have hl:0<(fA rl p.nr (dN j)).length:=lT.2 af;have bs:¬(((fA rl p.nr (dN j)).length:Int)=0):=ai;have bw:(((fA rl p.nr (dN j)).length:Int)==0)=false:=bW.2 bs;clear af;generalize (fA rl p.nr (dN j)).length=tn at*;exact Hl
  refine Qu ?_;intro e2 e3;rw [if_neg Q,if_neg ae] at C;have Vs:=ak C;clear Q ae C;go_wp2;go_ret;exact ⟨by rw [<-Vs];rfl,ad⟩
def Bu(q:br) (h:cj br->aD:=by
 intro zq;obtain ⟨gp,cp,ga,gc,pa,pc,sa,sc,hpv,hr,q0,q1,q2,q3,q4,q5,q6,q7⟩:=hd.pat m p hp;have hm:=(bD.1 hp).1;have hm':(m:Int)<(pl.length:Int):=ai
 revert gp cp ga gc pa pc sa sc hpv hr q0 q1 q2 q3 q4 q5 q6 q7 hm hm'
 exact zq.1):aD:=h ⟨q⟩
def YG(rl:List RV)(pl:List PV)(h:Nat->List Nat):Prop:=∀x∈rl,gP pl x.ex (h x.ex)/\(h x.ex).length<=1000/\∀n∈h x.ex,∃p,pl[n]? =some p/\p.gs.length<=1000
def nL(rl:List RV)(pl:List PV)(h:Nat->List Gr):Prop:=∀r,r<rl.length->GrC rl pl r (h r)/\(h r).length<=1000000
def qE(kl:List (ae×Nat))(rl:List RV)(pl:List PV)(h:Nat->List Gr)(kd:ae)(n:Nat):Option Nat:=match pl[n]? with
 |some p=>Hm kl rl h kd p
 |none=>none
def kz(kl:List (ae×Nat))(rl:List RV)(pl:List PV)(h:Nat->List Gr)(A:Nat->List Nat):Option Nat:=rl.findSome? fun x=>(A x.ex).findSome? (qE kl rl pl h x.kd)
def Hr(b kv rv pv kl rl pl l dN fB w)(h:DM w b kv rv pv kl rl pl l)(av:nL rl pl dN)(ay:YG rl pl fB):
  Calls prog 129 #[.pointer (some (aC b 5))] w fun e w'=>e=bj (ar (k7 (kz kl rl pl dN fB)))/\an w w':=by
 obtain ⟨bc,rc,rfl⟩:=ax h.rt;have Y:=h;have aS:=av;have aT:=ay;have a9:=h.rn;generalize aE:kz kl rl pl dN fB=R;have HR:=show ((rl.drop 0).findSome? fun x=>(fB x.ex).findSome? (qE kl rl pl dN x.kd))=R from aE
 clear h av ay aE;go_enter func129,ntmps129;go_wp2_with fail
 go_loopw [3] (fun af wr=>∃(i:Nat),i<=rl.length/\af=ar i/\an w wr/\Hid (((rl.drop i).findSome? fun x=>(fB x.ex).findSome? (qE kl rl pl dN x.kd))=R)) (fun af _=>rl.length-(intOf af).toNat)
 ·exact vp
 ·clear HR;obtain ⟨i,hi,rfl,D,Z⟩:=hrel;have c6:=(Y.below D).c6;have al:=D;have a1:=D.size
  by_cases ab:i<rl.length
  ·have aW:(i:Int)<(rl.length:Int):=by omega
   obtain ⟨gr,cr,e1,ad,aO,aP,aQ⟩:=(Y.below D).rat i rl[i] (aI ab);simp only [aK,true_and] at e1;obtain ⟨rfl,rfl⟩:=e1;have ac:=Z;rw [c9 ab,gI] at ac;obtain ⟨aG,a7,aY⟩:=aT _ (bu ab);have aU:=aI ab;generalize rl[i]=x at*;have C:=aG b kv _ pv kl rl l wr (Y.below D);generalize a0:fB x.ex=lv at*;clear a0;generalize az:lv.findSome? (qE kl rl pl dN x.kd)=au at ac;have ap:=show (lv.drop 0).findSome? (qE kl rl pl dN x.kd)=au from az
   have Q:=ac;clear D Z ac aG az;go_wp2_with fail;refine C.mono ?_;rintro e w1 ⟨sv,rfl,aF,aH⟩;obtain ⟨ba,bb,rfl⟩:=ax aH;have ah:=al.trans (aF.mono a1);clear aF C ad aO aP aQ c6;go_wp2_with fail
   go_loopw [5] (fun ag a2=>∃(k:Nat),k<=lv.length/\ag=ar k/\an w1 a2/\Hid ((lv.drop k).findSome? (qE kl rl pl dN x.kd)=au)) (fun ag _=>lv.length-(intOf ag).toNat)
   ·exact ⟨0,ai,rfl,aA _ _,ap⟩
   clear ap;obtain ⟨k,a6,rfl,D,I⟩:=hrel;have U:=ah.trans (D.mono ah.size);have aL:=U.size
   by_cases ae:k<lv.length
   ·have aX:(k:Int)<(lv.length:Int):=by omega
    have hd:=Y.below U;have c6:=hd.c6;have c7:=hd.c7;obtain ⟨a5,a4,e1,ad,aO,aP,aQ⟩:=hd.rat i x aU;simp only [aK,true_and,aR,cg,and_true] at e1;obtain ⟨rfl,rfl⟩:=e1;obtain ⟨q,a3,e1,aM⟩:=aZ (aB aH D) k (ar (lv[k]:Nat)) (by simp [aI ae]);simp only [aK,true_and] at e1;obtain ⟨rfl,rfl⟩:=e1;rw [c9 ae,gI] at I;obtain ⟨p,hp,a8⟩:=aY _ (bu ae);generalize lv[k]=m at*;refine Bu ?_;intro gp cp ga gc pa pc sa sc hpv hr q0 q1 q2 q3 q4 q5 q6 q7 hm hm';have aJ:qE kl rl pl dN x.kd m=Hm kl rl dN x.kd p:=by unfold qE;rw [hp]
    rw [aJ] at I;rw [hpv] at c7;clear hp aJ hpv;have J:=D2 b kv _ pv kl rl pl l dN x.kd p ga gc pa pc sa sc wr.drew (hd.below bp.drew) aS ⟨cQ hr.g,cQ hr.p,cQ hr.s⟩ ai;generalize Hm kl rl dN x.kd p=aV at*;go_wp2_with fail
    cases aV with
    |some at_=>
     unfold k7 at J;simp only at J
     go_region_held3 (fun w'=>w'.cell? (aC b 6)=some (aw (some (aN gr)) rl.length rc)/\w'.cell? (aC gr (i*4))=some (aj x.kd)/\w'.cell? (aC b 7)=some (aw (some (aN gp)) pl.length cp)/\w'.cell? (aC q k)=some (ar m)/\w'.cell? (aC gp (m*8))=some (ar p.kind)/\w'.cell? (aC gp (m*8+1))=some (aw ga p.gs.length gc)/\w'.cell? (aC gp (m*8+2))=some (aj p.nb)/\w'.cell? (aC gp (m*8+3))=some (aj p.nr)/\w'.cell? (aC gp (m*8+4))=some (ar p.pa)/\w'.cell? (aC gp (m*8+5))=some (ar p.pr)/\w'.cell? (aC gp (m*8+6))=some (aw pa p.ps.length pc)/\w'.cell? (aC gp (m*8+7))=some (aw sa p.sg.length sc)) (go_keep)
      ((go_at_call 192;refine J.mono ?_;rintro e w5 ⟨rfl,V⟩;have A:an wr w5:=(aA _ wr).drew.trans V;have d0:=am c6 A;have d1:=am ad A;have d2:=am c7 A;have d3:=am aM A;have d4:=am q0 A;have d5:=am q1 A;have d6:=am q2 A;have d7:=am q3 A;have d8:=am q4 A;have d9:=am q5 A;have d10:=am q6 A;have d11:=am q7 A;have B5:=(U.trans (A.mono aL));have ak:=(D.trans (A.mono D.size));clear V A))
     have Vs:=(show some at_=R from by
      rw [<-I] at Q;exact Q)
     have h0:(0:Int)<=(at_:Int):=ai;exact Hl
    |none=>
     unfold k7 at J;simp only at J
     go_region_held3 (fun w'=>w'.cell? (aC b 6)=some (aw (some (aN gr)) rl.length rc)/\w'.cell? (aC gr (i*4))=some (aj x.kd)/\w'.cell? (aC b 7)=some (aw (some (aN gp)) pl.length cp)/\w'.cell? (aC q k)=some (ar m)/\w'.cell? (aC gp (m*8))=some (ar p.kind)/\w'.cell? (aC gp (m*8+1))=some (aw ga p.gs.length gc)/\w'.cell? (aC gp (m*8+2))=some (aj p.nb)/\w'.cell? (aC gp (m*8+3))=some (aj p.nr)/\w'.cell? (aC gp (m*8+4))=some (ar p.pa)/\w'.cell? (aC gp (m*8+5))=some (ar p.pr)/\w'.cell? (aC gp (m*8+6))=some (aw pa p.ps.length pc)/\w'.cell? (aC gp (m*8+7))=some (aw sa p.sg.length sc)) (go_keep)
      ((go_at_call 192;refine J.mono ?_;rintro e w5 ⟨rfl,V⟩;have A:an wr w5:=(aA _ wr).drew.trans V;have d0:=am c6 A;have d1:=am ad A;have d2:=am c7 A;have d3:=am aM A;have d4:=am q0 A;have d5:=am q1 A;have d6:=am q2 A;have d7:=am q3 A;have d8:=am q4 A;have d9:=am q5 A;have d10:=am q6 A;have d11:=am q7 A;have B5:=(U.trans (A.mono aL));have ak:=(D.trans (A.mono D.size));clear V A))
     go_wp2;go_roundw
     ·exact ⟨k+1,ai,by go_num,ak,I⟩
     simp [intOf];omega
   have aX:¬((k:Int)<(lv.length:Int)):=ai;rw [eA ai,List.findSome?_nil] at I;rw [<-I] at Q;simp only at Q;clear I;go_wp2;go_roundw
   ·exact ⟨i+1,ai,by go_num,U,Q⟩
   simp [intOf];omega
  have aW:¬((i:Int)<(rl.length:Int)):=ai;rw [eA ai,List.findSome?_nil] at Z;clear D;go_wp2;go_ret;exact ⟨by rw [<-Z];rfl,al⟩
def Xt (h:aD:=by
 clear p0 p1 p2 p3 p4 p5 p6 p7 k0 k1 d0 d1 d2 C;refine Hs ?_;intro B6 Bv D7 G6 R6;clear HB Ht Xu YH tY;go_wp2;go_roundw
 ·exact ⟨k+1,f2,fa,fc,ai,by go_num,rfl,B6,Bv,D7,G6,R6,JW⟩
 simp [intOf];omega):aD:=h
def QA (h:aD:=by
 exact ⟨0,[],none,0,ai,rfl,rfl,B1,aA _ _,bQ,ak au⟩):aD:=h
def QB (h:aD:=by
 exact ⟨0,fv,fa,fc,ai,rfl,rfl,B2,AF,Z1,Z2,R2,ak au⟩):aD:=h
def Hu (h:aD:=by
 intro u A;obtain ⟨n,_,rfl⟩:=aU.1 A
 rfl):aD:=h
def QC(q:br) (h:cj br->aD:=by
 intro zq;have b2:an wr ((wr.alloc (dV ar p.kind aw ga p.gs.length gc aj p.nb aj p.nr ar p.pa ar p.pr aw pa p.ps.length pc aw sa p.sg.length sc)).drew):=((aA _ wr).alloc aH _).drew;have Z1:=ak (aL.new wr #[ar p.kind,aw ga p.gs.length gc,aj p.nb,aj p.nr,ar p.pa,ar p.pr,aw pa p.ps.length pc,aw sa p.sg.length sc] 255).drew;have B2:=ak (HB.trans (b2.mono hwr));have AF:=ak (Ht.trans (b2.mono Vt));have R2:=ak (aB tY b2);have Z2:=ak (aB HRG b2);clear b2
 revert Z1 B2 AF R2 Z2
 exact zq.1):aD:=h ⟨q⟩
def Hs(q:br) (h:cj br->aD:=by
 intro zq;have B6:=ak (HB.trans (BB.mono hwi));have Bv:=ak (Ht.trans (BB.mono YI));have D7:=ak (Xu.below BB);have G6:=ak (aB YH BB);have R6:=ak (aB tY BB)
 revert B6 Bv D7 G6 R6
 exact zq.1):aD:=h ⟨q⟩
def QD(q:br) (h:cj br->aD:=by
 intro zq;refine (aE C).mono ?_;rintro e w5 ⟨rfl,oW⟩;have B6:=ak (HB.u.trans (oW.mono hwi));have Bv:=ak (Ht.u.trans (oW.mono YI));have D7:=ak (Xu.u.below oW);have R6:=ak (aB tY.u oW);have Xv:=B6.u.size;have D8:=Bv.u.size
 revert w5 oW B6 Bv D7 R6 Xv D8
 exact zq.1):aD:=h ⟨q⟩
def QE(q:br) (h:cj br->aD:=by
 intro zq;have QG:¬((k:Int)<(p.gs.length:Int)):=ai;have hf2:f2=fv++p.gs.flatMap (eu rl):=by rw [aE Nt,cY ai]
 have JW:=ak hf2;have Hv:=congrArg List.length hf2
 revert QG hf2 JW Hv
 exact zq.1):aD:=h ⟨q⟩
def QH(q:br) (h:cj br->aD:=by
 intro zq;have C:=ak (ef b kv rv pv kl rl pl l x.ty (bH x) wr.drew (HD.below (HB.trans (bp.drew.mono hwi))));have tP:f2.length+(eu rl x).length<=1000000000:=by have:=HHL.u;omega
 revert C tP
 exact zq.1):aD:=h ⟨q⟩
def QI(q:br) (h:cj br->aD:=by
 intro zq;have Vu:=ak (j0 (eu rl) p.gs k _ (aI hkt));have Hw:=oq (eu rl) p.gs (k+1);have hf2:=congrArg List.length Nt
 revert Vu Hw hf2
 exact zq.1):aD:=h ⟨q⟩
def QJ(q:br) (h:cj br->aD:=by
 intro zq;have B7:=ak (mz (B6.alloc Xv _) U9 (R6.alloc _) dl);have YJ:=ak (fg (Bv.alloc D8 _) (R6.alloc _) dl)
 revert B7 YJ
 exact zq.1):aD:=h ⟨q⟩
def eu(rl:List RV)(g:Gr):List Nat:=if 0<=bi g.ty (bH g) rl 0 then [(bi g.ty (bH g) rl 0).toNat] else []
def gF(rl:List RV)(h:Nat->List Gr)(kd:ae)(p:PV):List Nat:=p.gs.flatMap (eu rl)++(if p.kind=2 then [(bi kd p.nr rl 0).toNat] else if p.kind=3 then fA rl p.nr (h (bi kd p.nb rl 0).toNat) else [])
def sl(F:PV->List Nat)(pl:List PV)(m:Nat):List Nat:=match pl[m]? with
 |some p=>F p
 |none=>[]
def QK(rl g):(eu rl g).length<=1:=by unfold eu;split<;>simp
def mz(h:an w W)(A:w.heap.size<=B)(k:W.ownsRow B E size v n xs)(C:W.grownBy w5 v.ownBlock):an w w5:=cA h C h.size (fun j D=>aV A (k.lt j D).1)
def ov(h:aL W g cs T)(k:W.ownsRow base E size v n xs)(A:W.grownBy w5 v.ownBlock)(C:T≠E):aL w5 g cs T:=(A.block g h.lt (own_ne k h C)).trans h
def wd(b kv rv pv kl rl pl l dN kd n lv T w)(h:DM w b kv rv pv kl rl pl l)(a9:nL rl pl dN)(ba:gP pl n lv)(ck:lv.length<=1000)(bv:∀m∈lv,∃p,pl[m]? =some p/\p.gs.length<=1000/\(p.kind=2->0<=bi kd p.nr rl 0)/\(p.kind=3->0<=bi kd p.nb rl 0))(bb:lv.flatMap (sl (gF rl dN kd) pl)=T)(cg:T.length<=1000000000):
  Calls prog 232 #[.pointer (some (aC b 5)),aj kd,ar n] w fun e w'=>∃sv,e=bj sv/\an w w'/\w'.ownsRow w.heap.size 3 1 sv T.length (T.map fun n:Nat=>ar n):=by
 obtain ⟨b5,aP,bA,bB,bC⟩:=eL Tryz.infoInt;have bR:=ak aP;have bS:=ak bA;have bT:=ak bB;have bU:=ak bC;clear aP bA bB bC;have HD:=ak h;have bK:=ak a9;have bM:=ak bv;have aY:=ak bb;have C:=ak (ba b kv rv pv kl rl l w h);clear h a9 ba bv bb;go_enter func232,ntmps232;go_wp2_with fail;refine C.mono ?_;rintro e w1 ⟨sv,rfl,aJ,aQ⟩;obtain ⟨cm,co,rfl⟩:=ax aQ;have B1:=ak aJ;have U9:=aJ.size;have bP:=ak aQ;clear aJ aQ C;go_wp2_with fail
 go_loopw [7,9] (fun aV aW wr=>∃(i:Nat)(fv:List Nat)(fa:Option Addr)(fc:Nat),i<=lv.length/\aW=ar i/\aV=aw fa fv.length fc/\an w wr/\an w1 wr/\wr.ownsRow w1.heap.size 3 1 (aw fa fv.length fc) fv.length (fv.map fun n:Nat=>ar n)/\Hid (fv=(lv.take i).flatMap (sl (gF rl dN kd) pl))) (fun _ aW _=>lv.length-(intOf aW).toNat)
 ·exact QA
 ·obtain ⟨i,fv,fa,fc,aP,rfl,rfl,I,J,U,Y⟩:=hrel;have HB:=ak I;have Ht:=ak J;have tY:=ak U;have hwr:=I.size;have Vt:=J.size
  by_cases hlt:i<lv.length
  ·obtain ⟨q,cf,e1,bE⟩:=aZ (aB bP J) i (ar (lv[i]:Nat)) qC;simp only [aK,true_and] at e1;obtain ⟨rfl,rfl⟩:=e1;obtain ⟨p,hp,cl,bx,bz⟩:=bM _ (bu hlt);have Z:=ak (j0 (sl (gF rl dN kd) pl) lv i _ (aI hlt));have bt:=oq (sl (gF rl dN kd) pl) lv (i+1);rw [Z,<-Y,bg,aY] at bt;have b3:(i:Int)<(lv.length:Int):=ai;generalize lv[i]=m at*;have hd:=HD.below I;refine Bu ?_;intro gp cp ga gc pa pc sa sc hpv hr q0 q1 q2 q3 q4 q5 q6 q7 hm hm';have be:sl (gF rl dN kd) pl m=gF rl dN kd p:=by unfold sl;rw [hp]
   rw [be] at Z bt;have c7:=hd.c7;rw [hpv] at c7;have HRG:=ak hr.g;have bN:=ak bx;have bO:=ak bz;have b6:=ce wr _ c7;have mk:=ce wr _ bE;have b7:=ce wr _ q0;clear I J U hd hr hp hpv be bx bz;go_wp2_with fail
   go_region_held3 (fun w'=>w'.cell? (aC b 7)=some (aw (some (aN gp)) pl.length cp)/\w'.cell? (aC q i)=some (ar m)/\w'.cell? (aC gp (m*8))=some (ar p.kind)/\w'.cell? (aC gp (m*8+1))=some (aw ga p.gs.length gc)/\w'.cell? (aC gp (m*8+2))=some (aj p.nb)/\w'.cell? (aC gp (m*8+3))=some (aj p.nr)/\w'.cell? (aC gp (m*8+4))=some (ar p.pa)/\w'.cell? (aC gp (m*8+5))=some (ar p.pr)/\w'.cell? (aC gp (m*8+6))=some (aw pa p.ps.length pc)/\w'.cell? (aC gp (m*8+7))=some (aw sa p.sg.length sc)) (go_keep) (fail)
   rename_i b0;clear b0 q0 q1 q2 q3 q4 q5 q6 q7 c7 bE b6 mk b7;refine QC ?_;intro Z1 B2 AF R2 Z2;clear HB Ht tY HRG;go_wp2_with fail;generalize (wr.alloc (dV ar p.kind aw ga p.gs.length gc aj p.nb aj p.nr ar p.pa ar p.pr aw pa p.ps.length pc aw sa p.sg.length sc)).drew=cb at*;generalize wr.heap.size=aS at*;have bl:(gF rl dN kd p).length=(p.gs.flatMap (eu rl)).length+(if p.kind=2 then [(bi kd p.nr rl 0).toNat] else if p.kind=3 then fA rl p.nr (dN (bi kd p.nb rl 0).toNat) else []).length:=by unfold gF;rw [bg]
   have HHL:=ak bl;clear bl
   go_loopw [7,11] (fun aV aT ad=>∃(k:Nat)(f2:List Nat)(fa:Option Addr)(fc:Nat),k<=p.gs.length/\aT=ar k/\aV=aw fa f2.length fc/\an w ad/\an w1 ad/\aL ad aS #[ar p.kind,aw ga p.gs.length gc,aj p.nb,aj p.nr,ar p.pa,ar p.pr,aw pa p.ps.length pc,aw sa p.sg.length sc] 255/\ad.ownsRow 0 257 4 (aw ga p.gs.length gc) p.gs.length (p.gs.flatMap cO)/\ad.ownsRow w1.heap.size 3 1 (aw fa f2.length fc) f2.length (f2.map fun n:Nat=>ar n)/\Hid (f2=fv++(p.gs.take k).flatMap (eu rl))) (fun _ aT _=>p.gs.length-(intOf aT).toNat)
   ·exact QB
   clear B2 AF Z1 Z2 R2 hwr Vt;obtain ⟨k,f2,fa,fc,ci,rfl,rfl,I,J,ap,al,U,Nt⟩:=hrel;have HB:=ak I;have Ht:=ak J;have Xu:=ak ap;have YH:=ak al;have tY:=ak U;have hwi:=I.size;have YI:=J.size;obtain ⟨p0,p1,p2,p3,p4,p5,p6,p7⟩:=ap.eight
   by_cases hkt:k<p.gs.length
   ·obtain ⟨gg,cd,e1,hc⟩:=bo cO 4 (fun _=>rfl) al k p.gs[k] (aI hkt);simp only [aK,true_and] at e1;obtain ⟨rfl,rfl⟩:=e1;refine QI ?_;intro Vu Hw hf2;rw [Vu,bg] at Hw;rw [bg] at hf2;have QG:(k:Int)<(p.gs.length:Int):=ai;generalize p.gs[k]=x at*;refine Br ?_;intro k0 k1;refine QH ?_;intro C tP;clear I J ap al U hc hf2 Hw
    rcases dd x.ty (bH x) rl 0 with D|⟨j,D,bq,bs⟩
    ·rw [D] at C;have V:eu rl x=[]:=by unfold eu;rw [D];simp
     have JW:=ak (by rw [Vu,V,dS];exact Nt:f2=fv++(p.gs.take (k+1)).flatMap (eu rl));clear V D;go_wp2_with fail
     go_region_held3 (fun w'=>w'.cell? (aC aS 1)=some (aw (some (aN gg)) p.gs.length gc)/\w'.cell? (aC gg (k*4))=some (aj x.ty)/\w'.cell? (aC gg (k*4+1))=some (aj (bH x))) (go_keep)
      ((go_at_call 132;refine C.mono ?_;rintro e w5 ⟨rfl,oW⟩;have BB:=ak ((aA _ wr).drew.trans oW:an wr w5);have d0:=am p1 BB;have d1:=am k0 BB;have d2:=am k1 BB;clear oW))
     exact Xt
    rw [D] at C;have V:eu rl x=[j]:=by unfold eu;rw [D];simp
    rw [V] at tP;simp only [List.length_cons,List.length_nil] at tP;have JW:=ak (by rw [Vu,V,<-ct,<-Nt]:f2++[j]=fv++(p.gs.take (k+1)).flatMap (eu rl));have ch:(0:Int)<=(j:Int):=ai;clear V D;go_wp2_with fail
    go_region_held3 (fun w'=>w'.cell? (aC aS 1)=some (aw (some (aN gg)) p.gs.length gc)/\w'.cell? (aC gg (k*4))=some (aj x.ty)/\w'.cell? (aC gg (k*4+1))=some (aj (bH x))) (go_keep)
     ((go_at_call 132;refine C.mono ?_;rintro e w5 ⟨rfl,oW⟩;have BB:=ak ((aA _ wr).drew.trans oW:an wr w5);have d0:=am p1 BB;have d1:=am k0 BB;have d2:=am k1 BB;clear oW))
    clear p0 p1 p2 p3 p4 p5 p6 p7 k0 k1 d0 d1 d2 C;refine Hs ?_;intro B6 Bv D7 G6 R6;have Xv:=B6.size;have D8:=Bv.size;clear HB Ht Xu YH tY;go_wp2_with (at_builtin;go_must (refine ez rfl underlying29 Tryz.infoInt w1.heap.size (R6.alloc _) w5.heap.size 1 [ar j] (w5.heap.size+1) ?rH));intro g5 bf b9 ac dl aG aM;refine QJ ?_;intro B7 YJ;have ae:=ak (ov (D7.alloc _) (R6.alloc _) dl ay);have bI:=ak (ot (G6.alloc _) (R6.alloc _) dl ay);have aF:=ak ac;clear ac dl aG aM B6 Bv D7 G6 R6;go_wp2;go_roundw
    ·exact ⟨k+1,f2++[j],some (aN g5),bf,ai,by go_num,au,B7,YJ,ae,bI,by simpa using aF.u,JW⟩
    simp [intOf];omega
   refine QE ?_;intro QG hf2 JW Hv;rw [bg] at Hv;have tP:f2.length+(if p.kind=2 then [(bi kd p.nr rl 0).toNat] else if p.kind=3 then fA rl p.nr (dN (bi kd p.nb rl 0).toNat) else []).length<=1000000000:=by have:=HHL.u;omega
   clear I J ap al U hf2 Hv
   by_cases Q:p.kind=2
   ·have e2:((p.kind:Int)==2)=true:=by rw [Q];rfl
    have e3:((p.kind:Int)==3)=false:=by rw [Q];rfl
    have h0:=bN.u Q;obtain ⟨j,D,bq,bs⟩:∃j:Nat,bi kd p.nr rl 0=j/\0<=j/\j<0+rl.length:=by
     rcases dd kd p.nr rl 0 with D|h
     ·omega
     exact h
    rw [if_pos Q] at tP;simp only [List.length_cons,List.length_nil] at tP;have ab:=ak (by rw [aE Z,<-aE Y,JW.u];unfold gF;simp [Q,D]:f2++[j]=(lv.take (i+1)).flatMap (sl (gF rl dN kd) pl));have C:=ak (ef b kv rv pv kl rl pl l kd p.nr wr (HD.u.below HB.u));rw [D] at C;clear Q h0 D;go_wp2_with fail;refine QD ?_;intro w5 oW B6 Bv D7 R6 Xv D8;clear oW C HB Ht Xu YH tY p0 p1 p2 p3 p4 p5 p6 p7;go_wp2_with (at_builtin;go_must (refine ez rfl underlying29 Tryz.infoInt w1.heap.size (R6.u.alloc _) w5.heap.size 1 [ar j] (w5.heap.size+1) ?uQ));intro g5 bf b9 ac dl aG aM;have B7:=ak (mz (B6.u.alloc Xv _) U9 (R6.u.alloc _) dl);have YJ:=ak (fg (Bv.u.alloc D8 _) (R6.u.alloc _) dl);have ae:=ov (D7.u.alloc _) (R6.u.alloc _) dl ay;obtain ⟨p0,p1,p2,p3,p4,p5,p6,p7⟩:=ae.eight;have aF:=ak ac;clear ac dl aG aM B6 Bv D7 R6 ae;go_wp2;go_roundw
    ·exact ⟨i+1,f2++[j],some (aN g5),bf,ai,by go_num,au,B7.u,YJ.u,by simpa using aF.u,ab⟩
    simp [intOf];omega
   by_cases R:p.kind=3
   ·have e2:((p.kind:Int)==2)=false:=by rw [R];rfl
    have e3:((p.kind:Int)==3)=true:=by rw [R];rfl
    have h0:=bO.u R;obtain ⟨j,D,bq,bs⟩:∃j:Nat,bi kd p.nb rl 0=j/\0<=j/\j<0+rl.length:=by
     rcases dd kd p.nb rl 0 with D|h
     ·omega
     exact h
    rw [if_neg Q,if_pos R,D,Int.toNat_natCast] at tP;have ab:=ak (by rw [aE Z,<-aE Y,JW.u];unfold gF;simp [R,D]:f2++fA rl p.nr (dN j)=(lv.take (i+1)).flatMap (sl (gF rl dN kd) pl));have C:=ak (ef b kv rv pv kl rl pl l kd p.nb wr (HD.u.below HB.u));rw [D] at C;obtain ⟨bk,bZ⟩:=bK.u j ai;have bL:=ak bk;clear Q R h0 D bk;generalize bc:fA rl p.nr (dN j)=ag at*;go_wp2_with fail;refine QD ?_;intro w5 oW B6 Bv D7 R6 Xv D8;clear oW C HB Ht Xu YH tY p0 p1 p2 p3 p4 p5 p6 p7;obtain ⟨p0,p1,p2,p3,p4,p5,p6,p7⟩:=D7.u.eight;have az:=ak (zm b kv rv pv kl rl pl l j (dN j) p.nr w5 (HD.u.below B6.u) bL.u bZ);rw [bc] at az;clear bc;go_wp2_with fail;refine (aE az).mono ?_;rintro e cq ⟨sv,rfl,ah,aR⟩;obtain ⟨ta,tc,rfl⟩:=ax aR;have aX:=ak (B6.u.trans (ah.mono Xv));have av:=ak (Bv.u.trans (ah.mono D8));have af:=ak (aB R6.u ah);have a8:=ak aR;have b8:=av.u.size;clear ah aR az B6 Bv D7 R6 p0 p1 p2 p3 p4 p5 p6 p7;go_wp2_with (at_builtin;go_must (refine g4 rfl _ _ 29 rfl w1.heap.size 3 b5 _ 1 8 underlying29 bR.u bS.u bT.u bU.u rfl ay (aw fa f2.length fc) f2.length (f2.map fun n:Nat=>ar n) rfl af.u (aw ta ag.length tc) ag.length (ag.map fun n:Nat=>ar n) rfl _ a8.u ?honeC ?h63C ?Vv b8 ?Ga))
    case honeC=>
     exact Hu
    case h63C=>unfold maxLen;omega
    case Vv=>omega
    intro bX cv cr bw aO bY;have bF:=ak (mz aX.u U9 af.u aO);have bG:=ak (fg av.u af.u aO);have bV:=ak bw;clear bw aO bY aX av af a8;go_wp2;go_roundw
    ·exact ⟨i+1,f2++ag,bX,cv,ai,by go_num,au,bF.u,bG.u,by simpa using bV.u,ab⟩
    simp [intOf];omega
   refine Qu ?_;intro e2 e3;have ab:=ak (by rw [aE Z,<-aE Y,JW.u];unfold gF;simp [Q,R]:f2=(lv.take (i+1)).flatMap (sl (gF rl dN kd) pl));clear Q R tP;go_wp2;go_roundw
   ·exact ⟨i+1,f2,fa,fc,ai,by go_num,rfl,HB.u,Ht.u,tY.u,ab⟩
   simp [intOf];omega
  have b3:¬((i:Int)<(lv.length:Int)):=ai;have bh:fv=T:=by rw [aE Y,cY ai,aY.u]
  have bJ:=ak bh;have b4:=B1.u.size;clear I J U bh;go_wp2;go_ret;rw [<-bJ.u];exact ⟨_,rfl,HB.u,bn tY.u b4⟩
def L0(rl:List RV)(p:PV):List Nat:=p.gs.flatMap (eu rl)
def Bw(b kv rv pv kl rl pl l n lv T w)(h:DM w b kv rv pv kl rl pl l)(ap:gP pl n lv)(bv:lv.length<=1000)(aJ:∀m∈lv,∃p,pl[m]? =some p/\p.gs.length<=1000)(av:lv.flatMap (sl (L0 rl) pl)=T)(bi:T.length<=1000000000):
  Calls prog 254 #[.pointer (some (aC b 5)),ar n] w fun e w'=>∃sv,e=bj sv/\an w w'/\w'.ownsRow w.heap.size 3 1 sv T.length (T.map fun n:Nat=>ar n):=by
 have HD:=ak h;have aS:=ak aJ;have al:=ak av;have bz:=h.rn;have bx:=h.pn;have C:=ak (ap b kv rv pv kl rl l w h);clear h ap aJ av;go_enter func254,ntmps254;go_wp2_with fail;refine C.mono ?_;rintro e w1 ⟨sv,rfl,ac,ad⟩;obtain ⟨bA,bB,rfl⟩:=ax ad;have B1:=ak ac;have U9:=ac.size;have aT:=ak ad;clear ac ad C;go_wp2_with fail
 go_loopw [5,7] (fun ag ah wr=>∃(i:Nat)(fv:List Nat)(fa:Option Addr)(fc:Nat),i<=lv.length/\ah=ar i/\ag=aw fa fv.length fc/\an w wr/\an w1 wr/\wr.ownsRow w1.heap.size 3 1 (aw fa fv.length fc) fv.length (fv.map fun n:Nat=>ar n)/\Hid (fv=(lv.take i).flatMap (sl (L0 rl) pl))) (fun _ ah _=>lv.length-(intOf ah).toNat)
 ·exact QA
 ·obtain ⟨i,fv,fa,fc,bk,rfl,rfl,A,D,J,Z⟩:=hrel;have HB:=ak A;have Ht:=ak D;have tY:=ak J;have hwr:=A.size;have Vt:=D.size
  by_cases hlt:i<lv.length
  ·obtain ⟨q,bh,e1,aO⟩:=aZ (aB aT D) i (ar (lv[i]:Nat)) qC;simp only [aK,true_and] at e1;obtain ⟨rfl,rfl⟩:=e1;obtain ⟨p,hp,bw⟩:=aS _ (bu hlt);have ab:=ak (j0 (sl (L0 rl) pl) lv i _ (aI hlt));have aG:=oq (sl (L0 rl) pl) lv (i+1);rw [ab,<-Z,bg,al] at aG;have a8:(i:Int)<(lv.length:Int):=ai;generalize lv[i]=m at*;have hd:=HD.below A;refine Bu ?_;intro gp cp ga gc pa pc sa sc hpv hr q0 q1 q2 q3 q4 q5 q6 q7 hm hm';have az:sl (L0 rl) pl m=L0 rl p:=by unfold sl;rw [hp]
   rw [az] at ab aG;have c7:=hd.c7;rw [hpv] at c7;have HRG:=ak hr.g;have ba:=ce wr _ c7;have mk:=ce wr _ aO;have bb:=ce wr _ q0;clear A D J hd hr hp hpv az;go_wp2_with fail
   go_region_held3 (fun w'=>w'.cell? (aC b 7)=some (aw (some (aN gp)) pl.length cp)/\w'.cell? (aC q i)=some (ar m)/\w'.cell? (aC gp (m*8))=some (ar p.kind)/\w'.cell? (aC gp (m*8+1))=some (aw ga p.gs.length gc)/\w'.cell? (aC gp (m*8+2))=some (aj p.nb)/\w'.cell? (aC gp (m*8+3))=some (aj p.nr)/\w'.cell? (aC gp (m*8+4))=some (ar p.pa)/\w'.cell? (aC gp (m*8+5))=some (ar p.pr)/\w'.cell? (aC gp (m*8+6))=some (aw pa p.ps.length pc)/\w'.cell? (aC gp (m*8+7))=some (aw sa p.sg.length sc)) (go_keep) (fail)
   rename_i aY;clear aY q0 q1 q2 q3 q4 q5 q6 q7 c7 aO ba mk bb;refine QC ?_;intro Z1 B2 AF R2 Z2;clear HB Ht tY HRG;go_wp2_with fail;generalize (wr.alloc (dV ar p.kind aw ga p.gs.length gc aj p.nb aj p.nr ar p.pa ar p.pr aw pa p.ps.length pc aw sa p.sg.length sc)).drew=bc at*;generalize wr.heap.size=ae at*;have HHL:=ak (show (L0 rl p).length=(p.gs.flatMap (eu rl)).length from rfl)
   go_loopw [5,9] (fun ag af V=>∃(k:Nat)(f2:List Nat)(fa:Option Addr)(fc:Nat),k<=p.gs.length/\af=ar k/\ag=aw fa f2.length fc/\an w V/\an w1 V/\aL V ae #[ar p.kind,aw ga p.gs.length gc,aj p.nb,aj p.nr,ar p.pa,ar p.pr,aw pa p.ps.length pc,aw sa p.sg.length sc] 255/\V.ownsRow 0 257 4 (aw ga p.gs.length gc) p.gs.length (p.gs.flatMap cO)/\V.ownsRow w1.heap.size 3 1 (aw fa f2.length fc) f2.length (f2.map fun n:Nat=>ar n)/\Hid (f2=fv++(p.gs.take k).flatMap (eu rl))) (fun _ af _=>p.gs.length-(intOf af).toNat)
   ·exact QB
   clear B2 AF Z1 Z2 R2 hwr Vt;obtain ⟨k,f2,fa,fc,bt,rfl,rfl,A,D,U,Y,J,Nt⟩:=hrel;have HB:=ak A;have Ht:=ak D;have Xu:=ak U;have YH:=ak Y;have tY:=ak J;have hwi:=A.size;have YI:=D.size;obtain ⟨p0,p1,p2,p3,p4,p5,p6,p7⟩:=U.eight;have bC:=U.lt
   by_cases hkt:k<p.gs.length
   ·obtain ⟨gg,be,e1,hc⟩:=bo cO 4 (fun _=>rfl) Y k p.gs[k] (aI hkt);simp only [aK,true_and] at e1;obtain ⟨rfl,rfl⟩:=e1;refine QI ?_;intro Vu Hw hf2;rw [Vu,bg] at Hw;rw [bg] at hf2;have QG:(k:Int)<(p.gs.length:Int):=ai;generalize p.gs[k]=x at*;refine Br ?_;intro k0 k1;refine QH ?_;intro C tP;clear A D U Y J hc hf2 Hw
    rcases dd x.ty (bH x) rl 0 with I|⟨j,I,bq,bs⟩
    ·rw [I] at C;have Q:eu rl x=[]:=by unfold eu;rw [I];simp
     have JW:=ak (show f2=fv++(p.gs.take (k+1)).flatMap (eu rl) from by rw [Vu,Q,dS];exact Nt);clear Q I;go_wp2_with fail
     go_region_held3 (fun w'=>w'.cell? (aC ae 1)=some (aw (some (aN gg)) p.gs.length gc)/\w'.cell? (aC gg (k*4))=some (aj x.ty)/\w'.cell? (aC gg (k*4+1))=some (aj (bH x))) (go_keep)
      ((go_at_call 132;refine C.mono ?_;rintro e w5 ⟨rfl,R⟩;have BB:=ak (show an wr w5 from (aA _ wr).drew.trans R);have d0:=am p1 BB;have d1:=am k0 BB;have d2:=am k1 BB;clear R))
     exact Xt
    rw [I] at C;have Q:eu rl x=[j]:=by unfold eu;rw [I];simp
    rw [Q] at tP;simp only [List.length_cons,List.length_nil] at tP;have JW:=ak (show f2++[j]=fv++(p.gs.take (k+1)).flatMap (eu rl) from by rw [Vu,Q,<-ct,<-Nt]);have bl:(0:Int)<=(j:Int):=ai;clear Q I;go_wp2_with fail
    go_region_held3 (fun w'=>w'.cell? (aC ae 1)=some (aw (some (aN gg)) p.gs.length gc)/\w'.cell? (aC gg (k*4))=some (aj x.ty)/\w'.cell? (aC gg (k*4+1))=some (aj (bH x))) (go_keep)
     ((go_at_call 132;refine C.mono ?_;rintro e w5 ⟨rfl,R⟩;have BB:=ak (show an wr w5 from (aA _ wr).drew.trans R);have d0:=am p1 BB;have d1:=am k0 BB;have d2:=am k1 BB;clear R))
    clear p0 p1 p2 p3 p4 p5 p6 p7 k0 k1 d0 d1 d2 C;refine Hs ?_;intro B6 Bv D7 G6 R6;have Xv:=B6.size;have D8:=Bv.size;clear HB Ht Xu YH tY;go_wp2_with (at_builtin;go_must (refine ez rfl underlying29 Tryz.infoInt w1.heap.size (R6.alloc _) w5.heap.size 1 [ar j] (w5.heap.size+1) ?rH));intro g5 bf bE aM dl aW aX;refine QJ ?_;intro B7 YJ;have aV:=ak (ov (D7.u.alloc _) (R6.u.alloc _) dl ay);have aP:=ak (ot (G6.u.alloc _) (R6.u.alloc _) dl ay);have aU:=ak aM;clear aM dl aW aX B6 Bv D7 G6 R6;go_wp2;go_roundw
    ·exact ⟨k+1,f2++[j],some (aN g5),bf,ai,by go_num,au,B7.u,YJ.u,aV.u,aP.u,by simpa using aU.u,JW⟩
    simp [intOf];omega
   refine QE ?_;intro QG hf2 JW Hv;rw [bg] at Hv;clear A D U Y J hf2 Hv;have aQ:=ak (show f2=(lv.take (i+1)).flatMap (sl (L0 rl) pl) from by rw [aE ab,<-Z,JW];rfl);go_wp2;go_roundw
   ·exact ⟨i+1,f2,fa,fc,ai,by go_num,rfl,HB,Ht,tY,aQ⟩
   simp [intOf];omega
  have a8:¬((i:Int)<(lv.length:Int)):=ai;have aF:fv=T:=by rw [Z,cY ai,al]
  have aR:=ak aF;have a9:=B1.size;clear A D J aF;go_wp2;go_ret;rw [<-aR];exact ⟨_,rfl,HB,bn tY a9⟩
def Hy(b kv rv pv kl rl pl l n lv w)(h:DM w b kv rv pv kl rl pl l)(U:gP pl n lv)(aj:lv.length<=1000)(ad:∀m∈lv,∃p,pl[m]? =some p/\p.gs.length<=1000):
  Calls prog 253 #[.pointer (some (aC b 5)),ar n] w fun e w'=>e=bj (.bool (lv.any fun m=>decide (0<(jK pl m).length)))/\an w w':=by
 have C:=U b kv rv pv kl rl l w h;generalize V:(lv.any fun m=>decide (0<(jK pl m).length))=R;have HR:=(V:((lv.drop 0).any fun m=>decide (0<(jK pl m).length))=R);clear U V;go_enter func253,ntmps253;go_wp2_with fail;refine C.mono ?_;rintro e w1 ⟨sv,rfl,Y,Z⟩;obtain ⟨am,ap,rfl⟩:=ax Z;have af:=Y.size;clear C;go_wp2_with fail
 go_loopw [6] (fun Q wr=>∃(i:Nat),i<=lv.length/\Q=ar i/\an w1 wr/\Hid (((lv.drop i).any fun m=>decide (0<(jK pl m).length))=R)) (fun Q _=>lv.length-(intOf Q).toNat)
 ·exact vp
 ·clear HR;obtain ⟨i,ah,rfl,J,A⟩:=hrel;have D:=Y.trans (J.mono af)
  by_cases hlt:i<lv.length
  ·obtain ⟨q,ag,e1,al⟩:=aZ (aB Z J) i (ar (lv[i]:Nat)) qC;simp only [aK,true_and] at e1;obtain ⟨rfl,rfl⟩:=e1;obtain ⟨p,hp,ak⟩:=ad _ (bu hlt);rw [c9 hlt,kg] at A;have ac:(i:Int)<(lv.length:Int):=ai;generalize lv[i]=m at*;have hd:=h.below D;refine Bu ?_;intro gp cp ga gc pa pc sa sc hpv hr q0 q1 q2 q3 q4 q5 q6 q7 hm hm';have I:jK pl m=p.gs:=by unfold jK;rw [hp]
   rw [I] at A;have c7:=hd.c7;rw [hpv] at c7
   by_cases ab:0<p.gs.length
   ·rw [kR ab,rO] at A;have ae:(0:Int)<(p.gs.length:Int):=ai;clear hd hr hp hpv I;go_wp2
    go_quiet (fail)
    go_wp2;go_ret;exact ⟨by rw [<-A];rfl,below_drewN D _⟩
   rw [lU ab,Bool.false_or] at A;have ae:¬((0:Int)<(p.gs.length:Int)):=ai;clear hd hr hp hpv I;go_wp2
   go_quiet (fail)
   go_wp2;go_roundw
   ·exact ⟨i+1,ai,by go_num,below_drewN J _,A⟩
   simp [intOf];omega
  have ac:¬((i:Int)<(lv.length:Int)):=ai;rw [eA ai,List.any_nil] at A;go_wp2;go_ret;exact ⟨by rw [<-A];rfl,D⟩
abbrev sm:=@List.nodup_append
def mA(rl:List RV)(pl:List PV)(kd:ae)(n:Nat)(lv:List Nat):Prop:=gP pl n lv/\lv.length<=1000/\∀m∈lv,∃p,pl[m]? =some p/\p.gs.length<=1000/\(p.kind=2->0<=bi kd p.nr rl 0)/\(p.kind=3->0<=bi kd p.nb rl 0)
def io(rl:List RV)(pl:List PV)(h:Nat->List Gr)(kd:ae)(lv:List Nat):List Nat:=lv.flatMap (sl (gF rl h kd) pl)
def Nu(rl:List RV)(pl:List PV)(lv:List Nat):List Nat:=lv.flatMap (sl (L0 rl) pl)
def fL(rl:List RV)(pl:List PV)(h:Nat->List Gr)(kd:ae)(lv A:List Nat):List Nat:=io rl pl h kd lv++(if (lv.any fun m=>decide (0<(jK pl m).length))=true then Nu rl pl A else [])
def mA.gs{lv}(h:mA rl pl kd n lv):∀m∈lv,∃p,pl[m]? =some p/\p.gs.length<=1000:=fun m A=>by
 obtain ⟨p,h1,h2,_⟩:=h.2.2 m A;exact ⟨p,h1,h2⟩
def we(b kv rv pv kl rl pl l dN kd n ex lv CE w)(h:DM w b kv rv pv kl rl pl l)(al:nL rl pl dN)(D:mA rl pl kd n lv)(Q:mA rl pl kd ex CE)(h1:(io rl pl dN kd lv).length<=1000000000)(h2:(Nu rl pl CE).length<=1000000000):
  Calls prog 231 #[.pointer (some (aC b 5)),aj kd,ar n,ar ex] w fun e w'=>∃sv,e=bj sv/\an w w'/\w'.ownsRow w.heap.size 3 1 sv (fL rl pl dN kd lv CE).length ((fL rl pl dN kd lv CE).map fun n:Nat=>ar n):=by
 obtain ⟨aG,av,aA,aE,aF⟩:=eL Tryz.infoInt;have C:=wd b kv rv pv kl rl pl l dN kd n lv _ w h al D.1 D.2.1 D.2.2 rfl h1;generalize ac:fL rl pl dN kd lv CE=Y;change (Calls _ _ _ _ fun e w'=>∃sv,e=bj sv/\an w w'/\w'.ownsRow w.heap.size 3 1 sv (io rl pl dN kd lv).length ((io rl pl dN kd lv).map fun n:Nat=>ar n)) at C;generalize ad:io rl pl dN kd lv=T at*;go_enter func231,ntmps231;go_wp2_with fail;refine C.mono ?_;rintro e w1 ⟨sv,rfl,R,ag⟩;obtain ⟨aH,aI,rfl⟩:=ax ag;have aJ:=R.size;have C:=Hy b kv rv pv kl rl pl l n lv w1 (h.below R) D.1 D.2.1 D.gs;go_wp2_with fail;refine C.mono ?_;rintro e U ⟨rfl,ae⟩;have I:=R.trans (ae.mono aJ);have aK:=I.size;have Z:=aB ag ae
 cases hl:(lv.any fun m=>decide (0<(jK pl m).length))
 ·have ak:=(by rw [<-ac,fL,ad,hl];simp:T=Y);go_wp2;go_ret;rw [<-ak];exact ⟨_,rfl,I,Z⟩
 ·have C:=Bw b kv rv pv kl rl pl l ex CE _ U (h.below I) Q.1 Q.2.1 Q.gs rfl h2;change (Calls _ _ _ _ fun e w'=>∃sv,e=bj sv/\an U w'/\w'.ownsRow U.heap.size 3 1 sv (Nu rl pl CE).length ((Nu rl pl CE).map fun n:Nat=>ar n)) at C;generalize ap:Nu rl pl CE=J at*;go_wp2_with fail;refine C.mono ?_;rintro e aO ⟨sv,rfl,af,ah⟩;obtain ⟨ta,tc,rfl⟩:=ax ah;have V:=I.trans (af.mono aK);have aL:=V.size;have ab:=aB Z af;go_wp2_with (at_builtin;go_must (refine g4 rfl _ _ 29 rfl w.heap.size 3 aG _ 1 8 underlying29 av aA aE aF rfl ay (aw aH T.length aI) T.length (T.map fun n:Nat=>ar n) rfl ab (aw ta J.length tc) J.length (J.map fun n:Nat=>ar n) rfl _ ah ?hone ?h63 ?hbytes aL ?hrest))
  case hone=>
   exact Hu
  case h63=>unfold maxLen;omega
  case hbytes=>omega
  intro aM cv aP az au aN;have ai:=fg V ab au;go_wp2;go_ret;have am:T++J=Y:=by rw [<-ac,fL,ad,hl,ap];simp
  rw [<-am];exact ⟨_,rfl,ai,by simpa using az⟩
def jk(o:List Nat)(x:Nat):List Nat:=if (o.any fun k=>k==x) then o else o++[x]
def lF(o l:List Nat):List Nat:=l.foldl jk o
def wg(H:Nat->List Nat):Nat->List Nat->Nat->List Nat
 |0,o,_=>o
 |f+1,o,i=>match o[i]? with
  |none=>o
  |some r=>wg H f (lF o (H r)) (i+1)
def g7(s:List Nat)(m:Nat)(o:List Nat):Prop:=∃ex,o=s++ex/\ex.Nodup/\∀x∈ex,x<m
def D9:∀(m:Nat)(l:List Nat),l.Nodup->(∀x∈l,x<m)->l.length<=m
 |0,l,_,h=>by
  cases l with
  |nil=>simp
  |cons a l=>have:=h a au;omega
 |m+1,l,hn,h=>by
  have h1:(l.erase m).Nodup:=hn.erase m;have h2:∀x∈l.erase m,x<m:=fun x C=>by
   have:=(List.Nodup.mem_erase_iff hn).1 C;have:=h x this.2;omega
  have D:=D9 m _ h1 h2;have A:=List.length_erase (a:=m) (l:=l)
  split at A<;>omega
def g7.le{s o}(h:g7 s m o):o.length<=s.length+m:=by
 obtain ⟨ex,rfl,h1,h2⟩:=h;have:=D9 m ex h1 h2;simp;omega
def g7.add{s o}(h:g7 s m o){x}(I:x<m):g7 s m (jk o x):=by
 obtain ⟨ex,rfl,h1,h2⟩:=h;unfold jk
 cases ha:(s++ex).any (fun k=>k==x)
 ·refine ⟨ex++[x],au,?_,?_⟩
  ·rw [sm];refine ⟨h1,au,?_⟩;intro a C c hc D;simp at hc;subst hc;subst D;rw [jy] at ha;exact ha a (by simp [C]) au
  intro y A;rw [aW,aX] at A
  rcases A with A|rfl
  ·exact h2 y A
  exact I
 exact ⟨ex,rfl,h1,h2⟩
def Ea:∀(o l:List Nat),o.length<=(lF o l).length
 |o,[]=>bV _
 |o,y::l=>by
  have h1:=Ea (jk o y) l;have h2:o.length<=(jk o y).length:=by unfold jk;split<;>simp
  exact aV h2 h1
def Hz(o l:List Nat)(j:Nat)(h:j<l.length):lF o (l.take (j+1))=jk (lF o (l.take j)) l[j]:=by
 unfold lF;rw [cD h,List.foldl_append]
 rfl
def g7.lt{s o}(h:g7 s m o)(hs:∀x∈s,x<m):∀x∈o,x<m:=by
 obtain ⟨ex,rfl,h1,h2⟩:=h;intro x A
 rcases aW.1 A with A|A
 ·exact hs x A
 exact h2 x A
def nM(rl:List RV)(pl:List PV)(h:Nat->List Gr)(A:Nat->List Nat)(r:Nat):List Nat:=match rl[r]? with
 |some x=>io rl pl h x.kd (A x.ex)
 |none=>[]
def k9(rl:List RV)(pl:List PV)(A:Nat->List Gr)(h:Nat->List Nat):Prop:=∀x∈rl,mA rl pl x.kd x.ex (h x.ex)/\(io rl pl A x.kd (h x.ex)).length<=1000000000/\∀r∈io rl pl A x.kd (h x.ex),r<rl.length
def Bx(rl:List RV)(pl:List PV)(h:Nat->List Gr)(A:Nat->List Nat)(S:List Nat):List Nat:=wg (nM rl pl h A) (S.length+rl.length+1) S 0
def xW(h:w.ownsRow base e size v n xs)
  (k:∀g cs f,v.ownBlock=some g->w.heap[g]? =some (.cells cs e f)->w'.heap[g]? =w.heap[g]?):w'.ownsRow base e size v n xs:=by
 obtain ⟨h1,h2⟩:=h;refine ⟨h1,?_⟩
 rcases h2 with h2|⟨g,cap,A,hv,D,C,r⟩
 ·exact Or.inl h2
 ·exact Or.inr ⟨g,cap,A,hv,D,(k g A (0,0) (by rw [hv];rfl) C).trans C,r⟩
def L6{w6 s1 xs1}(h1:W.ownsRow b1 E s1 v1 n1 xs1)(h:W.grownBy w6 v.ownBlock)(D:∀q,v1.ownBlock=some q->v.ownBlock≠some q):w6.ownsRow b1 E s1 v1 n1 xs1:=
 xW h1 (fun g cs f A C=>h.block g (lt_of_some C) (fun e=>D g A e.symm))
def QL(b kv rv pv kl rl pl l dN fB kd n ex lv CE w)(h:DM w b kv rv pv kl rl pl l)(aX:nL rl pl dN)(bk:mA rl pl kd n lv)(bi:mA rl pl kd ex CE)(h1:(io rl pl dN kd lv).length<=1000000000)(h2:(Nu rl pl CE).length<=1000000000)(bl:k9 rl pl dN fB)(bn:∀r∈fL rl pl dN kd lv CE,r<rl.length)(ce:(fL rl pl dN kd lv CE).length<=900000000):
  Calls prog 193 #[.pointer (some (aC b 5)),aj kd,ar n,ar ex] w fun e w'=>∃sv,e=bj sv/\an w w'/\w'.ownsRow w.heap.size 3 1 sv (Bx rl pl dN fB (fL rl pl dN kd lv CE)).length ((Bx rl pl dN fB (fL rl pl dN kd lv CE)).map fun n:Nat=>ar n):=by
 obtain ⟨co,rc,rfl⟩:=ax h.rt;have bD:=ak h;have bE:=ak aX;have bN:=ak bl;have cl:=h.rn;have C:=ak (we b kv _ pv kl rl pl l dN kd n ex lv CE w h aX bk bi h1 h2);generalize fL rl pl dN kd lv CE=S at*;have bO:=ak bn;generalize bh:Bx rl pl dN fB S=R;have a6:=ak (bh:wg (nM rl pl dN fB) (S.length+rl.length+1) S 0=R);clear h aX bk bi h1 h2 bl bn bh;go_enter func193,ntmps193;go_wp2_with fail;refine (aE C).mono ?_;rintro e w1 ⟨sv,rfl,bs,a0⟩;obtain ⟨b0,b2,rfl⟩:=ax a0;have a4:=ak bs;have ba:=ak a0;clear bs a0 C;go_wp2_with fail
 go_loopg [9,10] (S.length+rl.length+1) (fun k a2 b5 wr=>∃(i:Nat)(o:List Nat)(Q:Option Addr)(oc:Nat),b5=ar i/\a2=aw Q o.length oc/\i<=o.length/\k=S.length+rl.length+1-i/\an w wr/\wr.ownsRow w.heap.size 3 1 (aw Q o.length oc) o.length (o.map fun n:Nat=>ar n)/\Hid (g7 S rl.length o/\wg (nM rl pl dN fB) k o i=R))
 ·exact ⟨0,S,b0,b2,rfl,rfl,ai,ai,a4.u,ba.u,ak ⟨⟨[],au,au,au⟩,a6.u⟩⟩
 ·clear a4 ba a6;obtain ⟨i,o,Q,oc,rfl,rfl,cf,rfl,I,Y,ae⟩:=hrel;have ch:=(aE ae).1.le;have ac:=ak I;have Z:=ak Y;have bX:=I.size
  by_cases hlt:i<o.length
  ·have bU:(i:Int)<(o.length:Int):=by omega
   have aY:=(aE ae).1.lt bO.u _ (bu hlt);obtain ⟨q,cb,e1,al⟩:=aZ Y i (ar (o[i]:Nat)) qC;simp only [aK,true_and] at e1;obtain ⟨rfl,rfl⟩:=e1;obtain ⟨aM,J⟩:=aE ae;rw [show S.length+rl.length+1-i=(S.length+rl.length-i)+1 by omega,wg,aI hlt] at J;simp only at J;generalize o[i]=r at*;have az:=bD.u.below I;obtain ⟨gr,cr,e1,bA,b7,b8,bB⟩:=az.rat r rl[r] (aI aY);simp only [aK,true_and] at e1;obtain ⟨rfl,rfl⟩:=e1;obtain ⟨aL,bS,bv⟩:=bN.u _ (bu aY);have bw:nM rl pl dN fB r=io rl pl dN rl[r].kd (fB rl[r].ex):=by unfold nM;rw [aI aY]
   rw [bw] at J;have ck:(r:Int)<(rl.length:Int):=ai;have c6:=az.c6;generalize rl[r]=x at*;have C:=ak (wd b kv _ pv kl rl pl l dN x.kd x.ex (fB x.ex) _ wr.drew (az.below bp.drew) bE.u aL.1 aL.2.1 aL.2.2 rfl bS);change Hid (Calls _ _ _ _ fun e w'=>∃sv,e=bj sv/\Below wr.drew.heap.size wr.drew w'/\w'.ownsRow wr.drew.heap.size 3 1 sv (io rl pl dN x.kd (fB x.ex)).length ((io rl pl dN x.kd (fB x.ex)).map fun n:Nat=>ar n)) at C;generalize io rl pl dN x.kd (fB x.ex)=hl at*;have bG:=ak bv;have bK:=ak aM;have bL:=ak J;clear I Y az aL bw bv aM J ae;go_wp2_with fail
   go_region_held3 (fun w'=>w'.cell? (aC b 6)=some (aw (some (aN gr)) rl.length rc)/\w'.cell? (aC q i)=some (ar r)/\w'.cell? (aC gr (r*4))=some (aj x.kd)/\w'.cell? (aC gr (r*4+3))=some (ar x.ex)) (go_keep)
    ((go_at_call 232;refine (aE C).mono ?_;rintro e w5 ⟨sv,rfl,bt,bz⟩;have ab:=ak ((aA _ wr).drew.trans bt:an wr w5);have d0:=am c6 ab.u;have d1:=am al ab.u;have d2:=am bA ab.u;have d3:=am bB ab.u;have aQ:=ak bz;obtain ⟨ha,ag,rfl⟩:=ax aQ.u;clear bt bz))
   clear c6 al bA b7 b8 bB d0 d1 d2 d3 C;have a5:=ak (ac.u.trans (ab.u.mono bX));have bb:=ak (aB Z.u ab.u);have aT:=ak (show w5.ownsRow wr.heap.size 3 1 (aw ha hl.length ag) hl.length (hl.map fun n:Nat=>ar n) from aQ.u);have a9:=ak (show ∀A,(Value.slice ha hl.length ag).ownBlock=some A->(Value.slice (some (aN q)) o.length oc).ownBlock≠some A/\A<w5.heap.size from fun A ah=>by
    have e1:=aT.u.lt A ah;refine ⟨fun aV=> ?_,e1.2⟩;have aW:=(Z.u.lt A aV).2;omega)
   clear ac Z ab aQ;go_wp2_with fail
   go_loopw [9,12] (fun a2 a1 aO=>∃(j:Nat)(D:List Nat)(Q:Option Addr)(oc:Nat),a1=ar j/\a2=aw Q D.length oc/\j<=hl.length/\an w aO/\w5.heap.size<=aO.heap.size/\aO.ownsRow w.heap.size 3 1 (aw Q D.length oc) D.length (D.map fun n:Nat=>ar n)/\aO.ownsRow wr.heap.size 3 1 (aw ha hl.length ag) hl.length (hl.map fun n:Nat=>ar n)/\
    Hid (lF o (hl.take j)=D/\g7 S rl.length D/\∀A,(Value.slice ha hl.length ag).ownBlock=some A->(Value.slice Q D.length oc).ownBlock≠some A/\A<w5.heap.size)) (fun _ a1 _=>hl.length-(intOf a1).toNat)
   ·exact ⟨0,o,_,oc,rfl,rfl,ai,a5.u,bV _,bb.u,aT.u,ak ⟨rfl,bK.u,a9.u⟩⟩
   clear a5 bb aT a9;obtain ⟨j,D,Q,oc,rfl,rfl,cg,I,cm,Y,aJ,U⟩:=hrel;have ci:=(aE U).2.1.le;have ac:=ak I;have Z:=ak Y;have a7:=ak aJ;have bW:=I.size
   by_cases aH:j<hl.length
   ·have bT:(j:Int)<(hl.length:Int):=by omega
    obtain ⟨b3,cd,e1,al⟩:=aZ aJ j (ar (hl[j]:Nat)) (by simp [aI aH]);simp only [aK,true_and] at e1;obtain ⟨rfl,rfl⟩:=e1;have av:=ak (Hz o hl j aH);have bY:=bG.u _ (bu aH);have b9:=ak (aI aH);generalize hl[j]=y at*;rw [(aE U).1] at av;have C:=ak (D1 w.heap.size _ D y wr Y ai);clear I Y aJ;go_wp2_with fail;refine (aE C).mono ?_;rintro e a3 ⟨rfl,ad⟩;have ap:=ak (ac.u.trans (ad.mono bW));have ay:=ak (aB Z.u ad);have aU:=ak (aB a7.u ad);have cp:=ad.size;have b4:=ap.u.size;have bZ:=am al ad;clear ad C ac Z a7 al;have V:=aE av;unfold jk at V
    cases af:(D.any fun k=>k==y)
    ·rw [af] at V;simp only [bJ,a8] at V;have bo:jk D y=D++[y]:=by unfold jk;rw [af];simp
     have aP:=(aE U).2.1.add bY;rw [bo] at aP;have bF:=ak aP;have aS:=ak V;clear af V av bo aP;go_wp2_with (at_builtin;go_must (refine ez rfl underlying29 Tryz.infoInt w.heap.size (ay.u.alloc _) a3.heap.size 1 [ar y] (a3.heap.size+1) ?hrest));intro bg bc b6 bx aF bq bR;have bC:=ak (fg (ap.u.alloc b4 _) (ay.u.alloc _) aF);have bP:=ak (L6 (aU.u.alloc _) aF (fun A ah=>((aE U).2.2 A ah).1));have bQ:=ak bx;have cq:a3.heap.size<=b6.heap.size:=by have:=aF.size;simp at this;omega
     have bI:=ak (show ∀A,(Value.slice (some (aN b3)) hl.length ag).ownBlock=some A->(Value.slice (some (aN bg)) (D++[y]).length bc).ownBlock≠some A/\A<w5.heap.size from fun A ah=>by
      obtain ⟨e1,aV⟩:=(aE U).2.2 A ah;refine ⟨fun aW=> ?_,aV⟩;simp only [Value.ownBlock,aR] at aW
      rcases bq with be|be
      ·exact e1 (by rw [be,aW])
      omega)
     clear bx aF bq bR ap ay aU bZ;go_wp2;go_roundw
     ·exact ⟨j+1,D++[y],some (aN bg),bc,by go_num,au,ai,bC.u,ai,by simpa using bQ.u,bP.u,ak ⟨aS.u,bF.u,bI.u⟩⟩
     simp [intOf];omega
    rw [af] at V;simp only [if_true] at V;have aS:=ak V;clear af V av;go_wp2;go_roundw
    ·exact ⟨j+1,D,Q,oc,by go_num,rfl,ai,ap.u,ai,ay.u,aU.u,ak ⟨aS.u,(aE U).2.1,(aE U).2.2⟩⟩
    simp [intOf];omega
   have bT:¬((j:Int)<(hl.length:Int)):=ai;have aG:=(aE U).1;rw [cY ai] at aG;have bH:=ak aG;have cj:o.length<=D.length:=by
    have:=Ea o hl;rw [aG] at this;exact this
   clear I Y aJ aG;go_wp2
   go_roundg (S.length+rl.length-i)
   case measure=>omega
   case rel=>exact ⟨i+1,D,Q,oc,by go_num,rfl,ai,ai,ac.u,Z.u,ak ⟨(aE U).2.1,by rw [<-bH.u];exact bL.u⟩⟩
  have bU:¬((i:Int)<(o.length:Int)):=ai;obtain ⟨aM,J⟩:=aE ae;rw [show S.length+rl.length+1-i=(S.length+rl.length-i)+1 by omega,wg,jA ai] at J;simp only at J;have bM:=ak J;clear I Y aM J;go_wp2;go_ret;rw [<-bM.u];exact ⟨_,rfl,ac.u,Z.u⟩
abbrev HA:=@List.drop_append_of_le_length
def wh (h:aD:=by
 go_wp2;go_roundw
 ·exact ⟨j+1,_,ai,ai,by go_num,rfl,B7,C7,ui⟩
 simp [intOf];omega):aD:=h
def minus(t:Tk):Bool:=(mk t.text).toList== [45]
def Uf(bad:Nat->Bool):List Nat->List Tk->Int->Int
 |m::ms,t::ts,c=>Uf bad ms ts (if minus t&&bad m then eG c t.place else c)
 |_,_,c=>c
def o5(bad:Nat->Bool)(pl:List PV):Nat->List Nat->Int->Int
 |0,_,c=>c
 |_+1,[],c=>c
 |f+1,n::q,c=>match pl[n]? with
  |none=>o5 bad pl f q c
  |some p=>o5 bad pl f (q++p.ps) (Uf bad (p.ps.drop 1) (p.sg.drop 1) c)
def wi(rl:List RV)(pl:List PV)(A:Nat->List Gr)(h:Nat->List Nat)(i:Nat)(x:RV)(m:Nat):Bool:=(Bx rl pl A h (fL rl pl A x.kd (h m) (h x.ex))).any fun k=>k==i
structure HC(rl:List RV)(pl:List PV)(dN:Nat->List Gr)(fB:Nat->List Nat)(x:RV)(Q:Nat->Prop)(sz:Nat->Nat):Prop where
 root:Q x.ex
 szr:sz x.ex<=1000
 step:∀n,Q n->∃p,pl[n]? =some p/\p.sg.length<=p.ps.length/\(p.ps.map sz).sum<sz n/\∀m∈p.ps,Q m/\mA rl pl x.kd m (fB m)/\(io rl pl dN x.kd (fB m)).length<=1000000000/\(∀r∈fL rl pl dN x.kd (fB m) (fB x.ex),r<rl.length)/\(fL rl pl dN x.kd (fB m) (fB x.ex)).length<=900000000
 ex:mA rl pl x.kd x.ex (fB x.ex)/\(Nu rl pl (fB x.ex)).length<=1000000000
def HH(sz):∀(l:List Nat),(∀m∈l,0<sz m)->l.length<=(l.map sz).sum
 | [],_=>au
 |a::l,h=>by
  have h1:=h a au;have h2:=HH sz l (fun m hm=>h m JU);simp only [List.length_cons,List.map_cons,List.sum_cons];omega
def loopsR(rl:List RV)(pl:List PV)(h:Nat->List Gr)(A:Nat->List Nat)(C:RV->Nat->Nat):List RV->Nat->Int->Int
 | [],_,c=>c
 |x::xs,i,c=>loopsR rl pl h A C xs (i+1) (o5 (wi rl pl h A i x) pl (C x x.ex+1) [x.ex] c)
def nN{s m}:∀(l o:List Nat),g7 s m o->(∀x∈l,x<m)->g7 s m (lF o l)
 | [],o,h,_=>h
 |y::l,o,h,hl=>nN l (jk o y) (h.add (hl y au)) (fun x hx=>hl x yC)
def wj{s m}(H)(A:∀r,∀x∈H r,x<m):∀(f:Nat)(o:List Nat)(i:Nat),g7 s m o->g7 s m (wg H f o i)
 |0,o,i,h=>h
 |f+1,o,i,h=>by
  rw [wg]
  split
  ·exact h
  exact wj H A f _ _ (nN _ _ h (A _))
def QM(rl pl dN fB)(h:k9 rl pl dN fB)(S):(Bx rl pl dN fB S).length<=S.length+rl.length:=by
 refine g7.le (wj _ (fun r x A=> ?_) _ _ _ ⟨[],au,au,au⟩);unfold nM at A
 cases C:rl[r]? with
 |none=>rw [C] at A;simp at A
 |some y=>
  rw [C] at A;exact (h y (bG C)).2.2 x A
def HJ(b kv rv pv kl rl pl l)(J:Nat->List Gr)(D:Nat->List Nat)(bb:RV->Nat->Prop)(I:RV->Nat->Nat)(w)(h:DM w b kv rv pv kl rl pl l)(cG:nL rl pl J)(bT:k9 rl pl J D)(cI:∀x∈rl,HC rl pl J D x (bb x) (I x)):
  Calls prog 130 #[.pointer (some (aC b 5))] w fun e w'=>e=bj (ar (loopsR rl pl J D I rl 0 (-1)))/\an w w':=by
 obtain ⟨c2,cN,cY,cZ,c1⟩:=eL Tryz.infoInt;obtain ⟨dD,rc,rfl⟩:=ax h.rt;have dy:=h.rn;generalize bQ:loopsR rl pl J D I rl 0 (-1)=R;have bH:=(bQ:loopsR rl pl J D I (rl.drop 0) 0 (-1)=R);clear bQ;go_enter func130,ntmps130;go_wp2_with fail
 go_loopw [3,4] (fun ap bC wr=>∃(i:Nat)(c:Int),i<=rl.length/\bC=ar i/\ap=ar c/\an w wr/\Hid (loopsR rl pl J D I (rl.drop i) i c=R)) (fun _ bC _=>rl.length-(intOf bC).toNat)
 ·exact ⟨0,-1,ai,rfl,rfl,aA _ _,bH⟩
 ·clear bH;obtain ⟨i,c,hi,rfl,rfl,C,aF⟩:=hrel;have c6:=(h.below C).c6;have ab:=C;have b5:=C.size
  by_cases bl:i<rl.length
  ·have cP:(i:Int)<(rl.length:Int):=by omega
   obtain ⟨gr,cr,e1,bO,cB,cC,bc⟩:=h.rat i rl[i] (aI bl);simp only [aK,true_and] at e1;obtain ⟨rfl,rfl⟩:=e1;have aP:=aF;rw [c9 bl,loopsR] at aP;have bv:=cI _ (bu bl);generalize rl[i]=x at*;have aV:=am bc C;have cu:=bO;have cw:=bc;have ad:=bv;have dz:=bv.szr;generalize bW:o5 (wi rl pl J D i x) pl (I x x.ex+1) [x.ex] c=cA at aP;have bI:=bW;have cq:=aP;have bP:an wr (wr.alloc (iO ar x.ex)):=bp.alloc aH _;have bE:=ab.trans (bP.mono b5);have bM:=(⟨rfl,.inr ⟨wr.heap.size,1,#[ar x.ex],rfl,b5,aL.new wr _ _,ai,by unfold maxLen;omega,rfl,rfl⟩⟩:(wr.alloc (iO ar x.ex)).ownsRow w.heap.size 3 1 (aw (some (aN wr.heap.size)) 1 1) 1 ([x.ex].map fun n:Nat=>ar n));clear C aF aP bv bO cB cC bc bW bP;go_wp2_with fail
   go_loopg [3,5,6] (I x x.ex+1) (fun gk ap db dc av=>∃(k:Nat)(inn:List Nat)(bw:Option Addr)(aQ:Nat)(c:Int),dc=ar k/\db=aw bw inn.length aQ/\ap=ar c/\k<=inn.length/\gk=I x x.ex+1-k/\an w av/\av.ownsRow w.heap.size 3 1 (aw bw inn.length aQ) inn.length (inn.map fun n:Nat=>ar n)/\Hid (k+((inn.drop k).map (I x)).sum<=I x x.ex/\(∀m∈inn.drop k,bb x m)/\o5 (wi rl pl J D i x) pl gk (inn.drop k) c=cA))
   ·exact ⟨0,[x.ex],_,1,c,rfl,rfl,rfl,ai,ai,bE,bM,ak ⟨au,fun m Q=>by simp at Q;subst Q;exact ad.root,bI⟩⟩
   clear bE bM bI aV c6;obtain ⟨k,inn,bw,aQ,c,rfl,rfl,rfl,du,rfl,C,bt,ac⟩:=hrel;have ab:=C;have cW:=C.size;have bq:∀m∈inn.drop k,0<I x m:=fun m Q=>by
    obtain ⟨p,_,_,cF,_⟩:=ad.step m (ac.2.1 m Q);omega
   have cR:=HH (I x) (inn.drop k) bq;have dB:=ac.1;rw [m2] at cR
   by_cases bZ:k<inn.length
   ·have cQ:(k:Int)<(inn.length:Int):=by omega
    obtain ⟨q,dm,e1,b6⟩:=aZ bt k (ar (inn[k]:Nat)) (by simp [aI bZ]);simp only [aK,true_and] at e1;obtain ⟨rfl,rfl⟩:=e1;obtain ⟨ah,ae,af⟩:=aE ac;rw [c9 bZ] at ah ae af;obtain ⟨p,aO,dx,dC,bg⟩:=ad.step inn[k] (ae inn[k] List.mem_cons_self);rw [show I x x.ex+1-k=(I x x.ex-k)+1 by omega,o5,aO] at af;simp only [List.map_cons,List.sum_cons] at ah;generalize inn[k]=m at*;obtain ⟨Y,cE,ga,gc,pa,pc,sa,sc,b3,bs,b7,b8,b9,cb,cd,cf,cg,ch⟩:=h.pat m p aO;have Q:=(bD.1 aO).1;have dv:(m:Int)<(pl.length:Int):=ai;have c7:=(h.below C).c7;rw [b3] at c7;have bK:=bs.p;have ct:=bs.s;have dw:p.ps.length<=1000:=by
     have cU:∀m∈p.ps,0<I x m:=fun m Q=>by
      obtain ⟨p,_,_,cF,_⟩:=ad.step m (bg m Q).1;omega
     have:=HH (I x) p.ps cU;omega
    have bR:(k+1)+(((inn++p.ps).drop (k+1)).map (I x)).sum<=I x x.ex:=by
     rw [HA ai,List.map_append,List.sum_append];omega
    have bS:∀m∈(inn++p.ps).drop (k+1),bb x m:=fun m Q=>by
     rw [HA ai] at Q
     rcases aW.1 Q with Q|Q
     ·exact ae m (List.mem_cons_of_mem _ Q)
     exact (bg m Q).1
    have bL:=And.intro bR bS;have co:=am b7 C;have de:=am b8 C;have df:=am b9 C;have dg:=am cb C;have dh:=am cd C;have di:=am cf C;have dj:=am cg C;have dk:=am ch C;have c3:=ce wr _ c7;have mk:=ce wr _ b6;have c4:=ce wr _ co;clear C bs aO b3 ah ae ac bR bS b7 b8 b9 cb cd cf cg ch bq;go_wp2_with fail
    go_region_held3 (fun w'=>w'.cell? (aC b 7)=some (aw (some (aN Y)) pl.length cE)/\w'.cell? (aC q k)=some (ar m)/\w'.cell? (aC Y (m*8))=some (ar p.kind)/\w'.cell? (aC Y (m*8+1))=some (aw ga p.gs.length gc)/\w'.cell? (aC Y (m*8+2))=some (aj p.nb)/\w'.cell? (aC Y (m*8+3))=some (aj p.nr)/\w'.cell? (aC Y (m*8+4))=some (ar p.pa)/\w'.cell? (aC Y (m*8+5))=some (ar p.pr)/\w'.cell? (aC Y (m*8+6))=some (aw pa p.ps.length pc)/\w'.cell? (aC Y (m*8+7))=some (aw sa p.sg.length sc)) (go_keep) (fail)
    rename_i cM;clear cM co de df dg dh di dj dk c7 b6 c3 mk c4;have be:an wr ((wr.alloc (dV ar p.kind aw ga p.gs.length gc aj p.nb aj p.nr ar p.pa ar p.pr aw pa p.ps.length pc aw sa p.sg.length sc)).drew):=((aA _ wr).alloc aH _).drew;have aG:=(aL.new wr #[ar p.kind,aw ga p.gs.length gc,aj p.nb,aj p.nr,ar p.pa,ar p.pr,aw pa p.ps.length pc,aw sa p.sg.length sc] 255).drew;have az:=ab.trans (be.mono cW);have aJ:=aB bt be;have da:=az.size;obtain ⟨bx,p1,p2,bz,bA,bB,aR,aT⟩:=aG.eight;have c8:=aG.lt;have bN:=aB bK az;clear be ab bt;generalize (wr.alloc (dV ar p.kind aw ga p.gs.length gc aj p.nb aj p.nr ar p.pa ar p.pr aw pa p.ps.length pc aw sa p.sg.length sc)).drew=dl at*;generalize wr.heap.size=c5 at*;go_wp2_with (at_builtin;go_must (refine g4 rfl _ _ 29 rfl w.heap.size 3 c2 _ 1 8 underlying29 cN cY cZ c1 rfl ay (aw (some (aN q)) inn.length aQ) inn.length (inn.map fun n:Nat=>ar n) rfl aJ (aw pa p.ps.length pc) p.ps.length (p.ps.map fun n:Nat=>ar n) rfl _ bN ?honeA ?h63A ?Vw da ?rH))
    case honeA=>
     exact Hu
    case h63A=>unfold maxLen;omega
    case Vw=>omega
    intro cD cv dd cT bi cL;have cp:=fg az aJ bi;have cy:=ov aG aJ bi ay;clear bi cL az aJ aG bN bx p1 p2 bz bA bB aR aT c8;go_wp2_with fail;have dA:p.sg.length<=1000:=ai
    go_loopw [3,8] (fun ap u8 av=>∃(j:Nat)(U:Int),1<=j/\j<=p.sg.length+1/\u8=ar j/\ap=ar U/\an w av/\an dd av/\Hid (Uf (wi rl pl J D i x) (p.ps.drop j) (p.sg.drop j) U=Uf (wi rl pl J D i x) (p.ps.drop 1) (p.sg.drop 1) c)) (fun _ u8 _=>p.sg.length+1-(intOf u8).toNat)
    ·exact ⟨1,c,ai,ai,rfl,rfl,cp,aA _ _,rfl⟩
    obtain ⟨j,U,dr,ds,rfl,rfl,C,al,ui⟩:=hrel;have cX:=C.size;have cV:=al.size;have bn:=cy.below al;obtain ⟨bx,p1,p2,bz,bA,bB,aR,aT⟩:=bn.eight
    by_cases bY:j<p.sg.length
    ·have cO:(j:Int)<(p.sg.length:Int):=by omega
     have bk:j<p.ps.length:=ai;have dt:(j:Int)<(p.ps.length:Int):=ai;obtain ⟨ci,dn,e1,kp⟩:=aZ (aB bK C) j (ar (p.ps[j]:Nat)) (by simp [aI bk]);simp only [aK,true_and] at e1;obtain ⟨rfl,rfl⟩:=e1;obtain ⟨qs,dp,e1,bh⟩:=bo fH 3 (fun _=>rfl) (aB ct C) j p.sg[j] (aI bY);simp only [aK,true_and] at e1;obtain ⟨rfl,rfl⟩:=e1;rw [c9 bk,c9 bY,Uf] at ui;obtain ⟨_,b2,bX,b0,cS⟩:=bg _ (bu bk);generalize p.ps[j]=Z at*;generalize p.sg[j]=t at*;have cj:wr.cell? (aC qs (j*3))=some (aj (mk t.text)):=bh 0 _ ai rfl;have ck:wr.cell? (aC qs (j*3+1))=some (ar t.place):=bh 1 _ ai rfl;have c6:=(h.below C).c6;have cm:=am cu C;have aV:=am cw C;have cJ:=QM rl pl J D bT (fL rl pl J x.kd (D Z) (D x.ex));have bF:=QL b kv _ pv kl rl pl l J D x.kd Z x.ex (D Z) (D x.ex) wr.drew (h.below (C.drew)) cG b2 ad.ex.1 bX ad.ex.2 bT b0 cS;have bV:wi rl pl J D i x Z=(Bx rl pl J D (fL rl pl J x.kd (D Z) (D x.ex))).any fun k=>k==i:=rfl
     rw [bV] at ui;generalize cH:fL rl pl J x.kd (D Z) (D x.ex)=cx at*;generalize Bx rl pl J D cx=aX at*;have cK:aX.length<=1000000000:=ai;clear b2 bX b0 bh bV cJ cH bn;go_wp2_with fail
     go_region_held3 (fun w'=>w'.cell? (aC b 6)=some (aw (some (aN gr)) rl.length rc)/\w'.cell? (aC gr (i*4))=some (aj x.kd)/\w'.cell? (aC gr (i*4+3))=some (ar x.ex)/\w'.cell? (aC c5 6)=some (aw (some (aN ci)) p.ps.length pc)/\w'.cell? (aC ci j)=some (ar Z)) (go_keep)
      ((go_at_call 193;refine bF.mono ?_;rintro e w5 ⟨sv,rfl,bU,b4⟩;have V:=((aA _ wr).drew.trans bU:an wr w5);have d0:=am c6 V;have d1:=am cm V;have d2:=am aV V;have d3:=am aR V;have d4:=am kp V;have ba:=b4;obtain ⟨ha,dq,rfl⟩:=ax ba;clear bU b4))
     have aY:=C.trans (V.mono cX);have a9:=al.trans (V.mono cV);have bG:=D1 _ _ aX i w5 ba cK;have t0:=am cj V;have t1:=am ck V;have cl:=am aT V;clear c6 cm aV bx p1 p2 bz bA bB aR aT kp cj ck d0 d1 d2 d3 d4 bF C al V ba;go_wp2_with fail;refine bG.mono ?_;rintro e dE ⟨rfl,ag⟩;have B7:=aY.trans (ag.mono aY.size);have C7:=a9.trans (ag.mono a9.size);have f0:=am t0 ag;have f1:=am t1 ag;have f7:=am cl ag;clear ag bG aY a9 t0 t1 cl;generalize (aX.any fun k=>k==i)=bd at*
     cases aM:minus t
     ·rw [aM,eK] at ui;simp only [bJ,a8] at ui;unfold minus at aM;exact wh
     rw [aM,Bool.true_and] at ui;unfold minus at aM
     cases bd
     ·simp only [bJ,a8] at ui;exact wh
     simp only [if_true] at ui
     by_cases h0:U<0
     ·rw [show eG U t.place=t.place from by simp [eG,h0]] at ui;exact wh
     by_cases h1:(t.place:Int)<U
     ·rw [show eG U t.place=t.place from by simp [eG,h1]] at ui;exact wh
     rw [show eG U t.place=U from by simp [eG,h0,h1]] at ui;exact wh
    have cO:¬((j:Int)<(p.sg.length:Int)):=ai;rw [show Uf (wi rl pl J D i x) (p.ps.drop j) (p.sg.drop j) U=U from by rw [eA (show p.sg.length<=j by omega)];cases p.ps.drop j<;>rfl] at ui;have cz:=aB cT al;clear bn;go_wp2
    go_roundg (I x x.ex-k)
    case measure=>omega
    case rel=>exact ⟨k+1,inn++p.ps,cD,cv,U,by go_num,au,rfl,aS,ai,C,by simpa using cz,ak ⟨bL.1,bL.2,by rw [HA ai,ui];exact af⟩⟩
   have cQ:¬((k:Int)<(inn.length:Int)):=ai;obtain ⟨ah,ae,af⟩:=aE ac;rw [eA ai,show I x x.ex+1-k=(I x x.ex-k)+1 by omega,o5] at af;clear C ah ae ac bq;go_wp2;go_roundw
   ·exact ⟨i+1,c,ai,by go_num,rfl,ab,(by rw [af];exact cq)⟩
   simp [intOf];omega
  have cP:¬((i:Int)<(rl.length:Int)):=ai;rw [eA ai,loopsR] at aF;clear C;go_wp2;go_ret;exact ⟨by rw [<-aF];rfl,ab⟩
abbrev sx:=@List.drop_eq_nil_of_le
def BG (h:aD:=by
 rw [hw] at HF;clear hw h1 h2;exact Rk):aD:=h
def Rm (h:aD:=by
 rw [hw] at HF;clear hw h1;exact Rk):aD:=h
def Rn (h:aD:=by
 go_enter func81,ntmps81;go_wp2;go_ret;exact ⟨rfl,bp.alloc aH _⟩):aD:=h
def Rk (h:aD:=by
 go_wp2;go_roundw
 ·exact ⟨k+1,_,ai,by go_num,rfl,hb,hpb,HF⟩
 simp [intOf];omega):aD:=h
def wD:ae:=⟨#[44,32]⟩
def iY(s:ae)(i:Nat):ae:=if 0<i then s++wD else s
def o6(s:ae)(g:Gr):ae:=if eqs (bH g) em||eqs (bH g) (sg 42) then s else s++sg 35
def BH(s:ae)(i:Nat)(g:Gr):ae:=o6 (iY s i++g.ty) g++bH g
def mT:List Gr->Nat->ae->ae
 | [],_,s=>s
 |g::gs,i,s=>mT gs (i+1) (BH s i g)
def be(a c:ae):(a++c).size=a.size+c.size:=ByteArray.size_append
def Me(s:ae)(i:Nat):s.size<=(iY s i).size:=by
 unfold iY
 split
 ·rw [be];omega
 omega
def Ro(s:ae)(g:Gr):s.size<=(o6 s g).size:=by
 unfold o6
 split
 ·omega
 rw [be];omega
def Rp(s:ae)(i:Nat)(g:Gr):s.size+g.ty.size+(bH g).size<=(BH s i g).size:=by
 unfold BH;have h1:=Me s i;have h2:=Ro (iY s i++g.ty) g;rw [be] at h2;rw [be];omega
def BI:∀(gs:List Gr)(i:Nat)(s:ae),s.size<=(mT gs i s).size
 | [],_,s=>bV _
 |g::gs,i,s=>by
  have h1:=BI gs (i+1) (BH s i g);have h2:=Rp s i g;rw [mT];omega
def Ui(pl:List PV)(n:Nat)(W:Bool->Bool->ae):Prop:=∀(u d:Bool) (b:Nat) (kv rv pv:ag) (kl:List (ae×Nat)) (rl:List RV) (l:List PX) (w:af),DM w b kv rv pv kl rl pl l->
 Calls prog 81 #[.pointer (some (aC b 5)),ar n,.bool u,.bool d] w fun e w'=>e=bj (aj (W u d))/\an w w'
def BJ(pl:List PV)(n:Nat)(p:PV)(hp:pl[n]? =some p)(A:p.kind=2):Ui pl n (fun _ _=>p.nr):=by
 intro u d b kv rv pv kl rl l w h;obtain ⟨g,c,ga,gc,pa,pc,sa,sc,rfl,I,k0,k1,J,k3,Q,R,U,V⟩:=h.pat n p hp;refine vZ ?_;intro c7 hn hn';have C:((p.kind:Int)==1)=false:=by rw [A];rfl
 have D:((p.kind:Int)==2)=true:=by rw [A];rfl
 exact Rn
def BK(pl:List PV)(n:Nat)(p:PV)(hp:pl[n]? =some p)(A:p.kind=3)(hs:p.nb.size+p.nr.size<=100000):Ui pl n (fun _ _=>(p.nb++sg 46)++p.nr):=by
 intro u d b kv rv pv kl rl l w h;obtain ⟨g,c,ga,gc,pa,pc,sa,sc,rfl,J,k0,k1,Q,k3,R,U,V,Y⟩:=h.pat n p hp;refine vZ ?_;intro c7 hn hn';have C:((p.kind:Int)==1)=false:=by rw [A];rfl
 have D:((p.kind:Int)==2)=false:=by rw [A];rfl
 have I:((p.kind:Int)==3)=true:=by rw [A];rfl
 exact Rn
def xZ(pl:List PV)(n:Nat)(p:PV)(I:pl[n]? =some p)(V:p.kind=1)(hs:(mT p.gs 0 em).size<=100000)(az:p.gs.length<=1000):Ui pl n (fun _ _=>(sg 91++mT p.gs 0 em)++sg 93):=by
 intro u d b kv rv pv kl rl l w h;obtain ⟨g,c,ga,gc,pa,pc,sa,sc,rfl,Z,k0,k1,k2,k3,al,am,ap,au⟩:=h.pat n p I;have c7:=h.c7;have hn:=(bD.1 I).1;have aG:=h.pn;have aF:(n:Int)<(pl.length:Int):=ai;have af:((p.kind:Int)==1)=true:=by rw [V];rfl
 have ay:=ei k0;generalize U:mT p.gs 0 em=R at*;have ad:=Z.g;have Q:=(U:mT (p.gs.drop 0) 0 em=R);clear h Z I V U;go_enter func81,ntmps81;go_wp2_with fail;clear k0 k1 k2 k3 al am ap au c7 af
 go_loopw [10,11] (fun av J wr=>∃(k:Nat)(s:ae),k<=p.gs.length/\J=ar k/\av=aj s/\an w wr/\aL wr w.heap.size #[ar p.kind,aw ga p.gs.length gc,aj p.nb,aj p.nr,ar p.pa,ar p.pr,aw pa p.ps.length pc,aw sa p.sg.length sc] 255/\(mT (p.gs.drop k) k s=R)) (fun _ J _=>p.gs.length-(intOf J).toNat)
 ·exact ⟨0,em,ai,rfl,rfl,((aA _ w).alloc aH _:an w (w.alloc (dV ar p.kind aw ga p.gs.length gc aj p.nb aj p.nr ar p.pa ar p.pr aw pa p.ps.length pc aw sa p.sg.length sc))),(aL.new w #[ar p.kind,aw ga p.gs.length gc,aj p.nb,aj p.nr,ar p.pa,ar p.pr,aw pa p.ps.length pc,aw sa p.sg.length sc] 255),Q⟩
 clear Q;obtain ⟨k,s,aE,rfl,rfl,hb,hpb,HF⟩:=hrel;obtain ⟨aN,p1,p2,aO,aP,aR,aS,aU⟩:=hpb.eight;have aM:=hb.size;have aV:=hpb.lt;have ac:=BI (p.gs.drop k) k s;rw [HF] at ac
 by_cases Y:k<p.gs.length
 ·obtain ⟨gg,ax,e1,hc⟩:=bo cO 4 (fun _=>rfl) (aB ad hb) k p.gs[k] (aI Y);simp only [aK,true_and] at e1;obtain ⟨rfl,rfl⟩:=e1;rw [c9 Y,mT] at HF;generalize p.gs[k]=x at*;refine Br ?_;intro k0 k1;refine Qr ?_;intro k2 k3 hkn;have ab:=BI (p.gs.drop (k+1)) (k+1) (BH s k x);rw [HF] at ab;have ak:=Rp s k x;have aJ:s.size+x.ty.size+(bH x).size<=100000:=ai;clear hc ab ak
  cases h1:eqs (bH x) em
  ·have D:((bH x).toList== [])=false:=by rw [<-h1,si]
   have ag:((bH x).toList != [])=true:=by rw [bne,D];rfl
   cases h2:eqs (bH x) (sg 42)
   ·refine Qs ?_;intro h2';have ah:((bH x).toList != [42])=true:=by rw [bne,h2'];rfl
    by_cases A:0<k
    ·have C:(0:Int)<(k:Int):=by omega
     have hw:BH s k x=(((s++wD)++x.ty)++sg 35)++bH x:=by unfold BH o6 iY;rw [if_pos A];simp [h1,h2]
     exact BG
    have C:¬((0:Int)<(k:Int)):=ai;have hw:BH s k x=((s++x.ty)++sg 35)++bH x:=by unfold BH o6 iY;rw [if_neg A];simp [h1,h2]
    exact BG
   refine Qt ?_;intro h2';have ah:((bH x).toList != [42])=false:=by rw [bne,h2'];rfl
   by_cases A:0<k
   ·have C:(0:Int)<(k:Int):=by omega
    have hw:BH s k x=((s++wD)++x.ty)++bH x:=by unfold BH o6 iY;rw [if_pos A];simp [h1,h2]
    exact BG
   have C:¬((0:Int)<(k:Int)):=ai;have hw:BH s k x=(s++x.ty)++bH x:=by unfold BH o6 iY;rw [if_neg A];simp [h1,h2]
   exact BG
  have D:((bH x).toList== [])=true:=by rw [<-h1,si]
  have ag:((bH x).toList != [])=false:=by rw [bne,D];rfl
  by_cases A:0<k
  ·have C:(0:Int)<(k:Int):=by omega
   have hw:BH s k x=((s++wD)++x.ty)++bH x:=by unfold BH o6 iY;rw [if_pos A];simp [h1]
   exact Rm
  have C:¬((0:Int)<(k:Int)):=ai;have hw:BH s k x=(s++x.ty)++bH x:=by unfold BH o6 iY;rw [if_neg A];simp [h1]
  exact Rm
 have hkn:¬((k:Int)<(p.gs.length:Int)):=ai;have e:s=R:=by
  have:=HF;rw [sx ai,mT] at this;exact this
 subst e;clear HF ac;go_wp2;go_ret;exact ⟨rfl,hb⟩
def pU(k i:ae)(w:af)(A:k.size+i.size<=1000):
  Calls prog 66 #[.agg #[aj k,aj i]] w fun e w'=>e=bj (aj ((k++sg 58)++i))/\an w w':=by
 have h:=aA w.heap.size w;go_enter func66,ntmps66;go_wp2;go_ret;exact ⟨rfl,(cq h)⟩
def wE(k i r:ae):ae:=if r.size=0 then (k++sg 58)++i else (((k++sg 58)++i)++sg 35)++r
def BL(k i r:ae)(w:af)(Y:k.size+i.size+r.size<=900):
  Calls prog 107 #[.agg #[aj k,aj i,aj r]] w fun e w'=>e=bj (aj (wE k i r))/\an w w':=by
 have Z:((k++sg 58)++i).size+r.size<=1000:=by rw [be,be,show (sg 58).size=1 from rfl];omega
 have A:=(aA w.heap.size w).alloc aH (bT aj k aj i aj r);have K0:=aL.new w #[aj k,aj i,aj r] 102;have C:=fun w=>pU k i w ai
 unfold wE
 by_cases h0:r.size=0
 ·rw [if_pos h0];have V:(r.toList== [])=true:=by rw [aT,dQ];exact iF (by rw [bk];exact h0)
  have Q:r.toList.isEmpty=true:=by rw [aT,List.isEmpty_iff];exact iF (by rw [bk];exact h0)
  clear h0;go_enter func107,ntmps107;go_wp2_with fail;refine (C _).mono ?_;rintro e w1 ⟨rfl,I⟩;have J:=A.trans (I.mono A.size);clear I C;go_wp2;go_ret;exact ⟨rfl,J⟩
 ·rw [if_neg h0];have Q:r.toList.isEmpty=false:=by
   rw [aT,Av];intro h;rw [List.isEmpty_iff] at h;exact h0 (by rw [<-bk,h];rfl)
  have V:(r.toList== [])=false:=by rw [aT] at Q ⊢;revert Q;cases bB r<;>simp
  clear h0;generalize (k++sg 58)++i=x at*;have ab:¬9223372036854775807<x.size+1:=ai;have ac:¬9223372036854775807<x.size+1+r.size:=ai;go_enter func107,ntmps107;go_wp2_with fail;generalize (w.alloc (bT aj k aj i aj r))=W at*;have k0:W.cell? (aN w.heap.size)=some (aj k):=K0.cell rfl;have k1:W.cell? (aC w.heap.size 1)=some (aj i):=K0.cell rfl;have U:W.cell? (aC w.heap.size 2)=some (aj r):=K0.cell rfl;have R:=C W.drew;clear C
  go_region_held3 (fun w'=>w'.cell? (aN w.heap.size)=some (aj k)/\w'.cell? (aC w.heap.size 1)=some (aj i)/\w'.cell? (aC w.heap.size 2)=some (aj r)) (go_keep)
   ((go_at_call 66;refine R.mono ?_;rintro e w1 ⟨rfl,I⟩;have D:=((aA _ W).drew.trans I:an W w1);have d0:=am k0 D;have d1:=am k1 D;have d2:=am U D;clear I))
  have J:=A.trans (D.mono A.size);clear D A K0 R k0 k1 U d0 d1 d2;go_wp2;go_ret;exact ⟨rfl,J⟩
def H3(k i r sk A D:ae)(w:af)(ap:k.size+i.size+r.size+sk.size+A.size+D.size<=500):
  Calls prog 63 #[.agg #[aj k,aj i,aj r,aj sk,aj A,aj D]] w fun e w'=>e=bj (aj (((((k++sg 58)++i)++sg 35)++r)++sg 64++wE sk A D))/\an w w':=by
 have ar:((k++sg 58)++i).size+r.size+(wE sk A D).size<=1000:=by
  have:(wE sk A D).size<=sk.size+A.size+D.size+2:=by
   unfold wE
   split
   ·rw [be,be,show (sg 58).size=1 from rfl];omega
   rw [be,be,be,be,show (sg 58).size=1 from rfl,show (sg 35).size=1 from rfl];omega
  rw [be,be,show (sg 58).size=1 from rfl];omega
 have Q:=(aA w.heap.size w).alloc aH (.cells #[aj k,aj i,aj r,aj sk,aj A,aj D] 123);have K0:=aL.new w #[aj k,aj i,aj r,aj sk,aj A,aj D] 123;have C:=fun w=>pU k i w ai
 have Z:=fun w=>BL sk A D w ai
 generalize (k++sg 58)++i=x at*;generalize wE sk A D=y at*;have au:¬9223372036854775807<x.size+1:=ai;have av:¬9223372036854775807<x.size+1+r.size:=ai;have aw:¬9223372036854775807<x.size+1+r.size+1:=ai;have ax:¬9223372036854775807<x.size+1+r.size+1+y.size:=ai;go_enter func63,ntmps63;go_wp2_with fail;generalize (w.alloc (.cells #[aj k,aj i,aj r,aj sk,aj A,aj D] 123))=W at*;have k0:W.cell? (aN w.heap.size)=some (aj k):=K0.cell rfl;have k1:W.cell? (aC w.heap.size 1)=some (aj i):=K0.cell rfl;have R:W.cell? (aC w.heap.size 2)=some (aj r):=K0.cell rfl;have k3:W.cell? (aC w.heap.size 3)=some (aj sk):=K0.cell rfl;have U:W.cell? (aC w.heap.size 4)=some (aj A):=K0.cell rfl;have V:W.cell? (aC w.heap.size 5)=some (aj D):=K0.cell rfl;have ab:=C W.drew
 go_region_held3 (fun w'=>w'.cell? (aN w.heap.size)=some (aj k)/\w'.cell? (aC w.heap.size 1)=some (aj i)/\w'.cell? (aC w.heap.size 2)=some (aj r)/\w'.cell? (aC w.heap.size 3)=some (aj sk)/\w'.cell? (aC w.heap.size 4)=some (aj A)/\w'.cell? (aC w.heap.size 5)=some (aj D)) (go_keep)
  (first
  |(have az:=I;go_at_call 107;refine (Z _).mono ?_;rintro e ay ⟨rfl,ad⟩;have J:=(I.trans (ad.mono I.size));have e0:=am k0 J;have e1:=am k1 J;have ag:=am R J;have ah:=am k3 J;have ak:=am U J;have al:=am V J)
  |(go_at_call 66;refine ab.mono ?_;rintro e w1 ⟨rfl,ac⟩;have I:=((aA _ W).drew.trans ac:an W w1);have d0:=am k0 I;have d1:=am k1 I;have d2:=am R I;have d3:=am k3 I;have d4:=am U I;have d5:=am V I))
 have Y:=Q.trans (J.mono Q.size);go_wp2;go_ret;exact ⟨rfl,Y⟩
def wF(h:dK s=true):((((((b8 s).1.kind++sg 58)++(b8 s).1.id)++sg 35)++(b8 s).1.rel)++sg 64++wE (b8 s).1.sub (b8 s).1.who (b8 s).1.of)=s:=by
 obtain ⟨_,_,hl⟩:=lB h;have e:∀a b:ae,bB (a++b)=bB a++bB b:=fun a b=>by simp [bB,ByteArray.data_append]
 have A:∀c:UInt8,bB (sg c)=[c]:=fun c=>rfl
 generalize (b8 s).1=t at*;have key:bB ((((((t.kind++sg 58)++t.id)++sg 35)++t.rel)++sg 64++wE t.sub t.who t.of))=bB s:=by
  rw [hl];unfold wE
  split<;>simp [e,A]
 rw [<-cX s,<-key,cX]
def ZQ(q:br) (h:cj br->aD:=by
 intro zq;have hn':(n:Int)<(pl.length:Int):=ai;have h1b:((p.kind:Int)==1)=false:=by rw [hk];rfl
 have ZR:((p.kind:Int)==2)=false:=by rw [hk];rfl
 revert hn' h1b ZR
 exact zq.1):aD:=h ⟨q⟩
def TU(q:br) (h:cj br->aD:=by
 intro zq;have B0:=show an w (w.alloc (dV ar p.kind aw ga p.gs.length gc aj p.nb aj p.nr ar p.pa ar p.pr aw pa p.ps.length pc aw sa p.sg.length sc)) from (aA _ w).alloc aH _
 revert B0
 exact zq.1):aD:=h ⟨q⟩
def TV(q:br) (h:cj br->aD:=by
 intro zq;have c7:=h.c7;have hn:=(bD.1 hp).1;have hpn:=h.pn;refine ZQ ?_;intro hn' h1b ZR;have h3b:((p.kind:Int)==3)=false:=by rw [hk];rfl
 revert c7 hn hpn hn' h1b ZR h3b
 exact zq.1):aD:=h ⟨q⟩
def aaZ:ae:=⟨#[32,124,32]⟩
def FE(s:ae)(i:Nat):ae:=if 0<i then s++aaZ else s
def iD(W:Nat->Bool->Bool->ae):List Nat->Nat->ae->ae
 | [],_,s=>s
 |m::ms,i,s=>iD W ms (i+1) (FE s i++W m false false)
def oa(s:ae)(i:Nat)(t:Tk):ae:=if 0<i then ((s++sg 32)++mk t.text)++sg 32 else s
def Cy(W:Nat->Bool->Bool->ae):List Nat->List Tk->Nat->ae->ae
 |m::ms,t::ts,i,s=>Cy W ms ts (i+1) (oa s i t++W m true (decide (0<i)))
 |_,_,_,s=>s
def Ut(c:Bool)(s:ae):ae:=if c then (sg 40++s)++sg 41 else s
def KU(s:ae)(i:Nat):s.size<=(FE s i).size:=by
 unfold FE
 split
 ·rw [be];omega
 omega
def FF(s:ae)(i:Nat)(t:Tk):s.size<=(oa s i t).size/\(0<i->s.size+(mk t.text).size+2<=(oa s i t).size):=by
 have e1:(sg 32).size=1:=rfl;unfold oa
 split
 ·rw [be,be,be];omega
 omega
def xG(h:Nat->Bool->Bool->ae):∀(l:List Nat)(i:Nat)(s:ae),s.size<=(iD h l i s).size
 | [],_,s=>bV _
 |m::l,i,s=>by
  have h1:=xG h l (i+1) (FE s i++h m false false);have h2:=KU s i;rw [be] at h1;rw [iD];omega
def I6(h:Nat->Bool->Bool->ae):∀(l:List Nat)(ts:List Tk)(i:Nat)(s:ae),s.size<=(Cy h l ts i s).size
 |m::l,t::ts,i,s=>by
  have h1:=I6 h l ts (i+1) (oa s i t++h m true (decide (0<i)));have h2:=(FF s i t).1;rw [be] at h1;rw [Cy];omega
 | [],_,_,s=>by unfold Cy;exact bV _
 |_::_,[],_,s=>by unfold Cy;exact bV _
def yj(pl:List PV)(n:Nat)(p:PV)(hp:pl[n]? =some p)(hk:p.kind=5)(A:Nat->Bool->Bool->ae)(aV:∀m∈p.ps,Ui pl m (A m))(hs:(iD A p.ps 0 em).size<=100000)(bl:p.ps.length<=1000):Ui pl n (fun u _=>Ut u (iD A p.ps 0 em)):=by
 intro u d b kv rv pv kl rl l w h;obtain ⟨g,c,ga,gc,pa,pc,sa,sc,rfl,av,k0,k1,ba,k3,bb,bc,bg,bh⟩:=h.pat n p hp;refine TV ?_;intro c7 hn hpn hn' h1b ZR h3b;have aR:((p.kind:Int)==4)=false:=by rw [hk];rfl
 have aS:((p.kind:Int)==5)=true:=by rw [hk];rfl
 have bk:=ei k0;have ac:=ak (show (p.kind:Int)=5 from by rw [hk];rfl);generalize ah:iD A p.ps 0 em=R at*;have aQ:=av.p;have ad:=ak (show iD A (p.ps.drop 0) 0 em=R from ah);refine TU ?_;intro B0;refine pN ?_;intro Ns;clear av hp hk ah;go_enter func81,ntmps81;go_wp2_with fail;clear k0 k1 ba k3 bb bc bg bh c7 h1b ZR h3b aR aS
 go_loopw [10,12] (fun bi ab wr=>∃(k:Nat)(s:ae),k<=p.ps.length/\ab=ar k/\bi=aj s/\an w wr/\aL wr w.heap.size #[ar p.kind,aw ga p.gs.length gc,aj p.nb,aj p.nr,ar p.pa,ar p.pr,aw pa p.ps.length pc,aw sa p.sg.length sc] 255/\Hid (iD A (p.ps.drop k) k s=R)) (fun _ ab _=>p.ps.length-(intOf ab).toNat)
 ·exact ⟨0,em,ai,rfl,rfl,B0,Ns,ad⟩
 clear B0 Ns ad;obtain ⟨k,s,bn,rfl,rfl,D,U,J⟩:=hrel;obtain ⟨Q,p1,p2,aF,aG,aJ,Z,aO⟩:=U.eight;rw [ac.u] at Q;have a9:=D.size;have bp:=U.lt;have ay:=xG A (p.ps.drop k) k s;rw [aE J] at ay
 by_cases hlt:k<p.ps.length
 ·obtain ⟨q,bj,e1,az⟩:=aZ (aB aQ D) k (ar (p.ps[k]:Nat)) qC;simp only [aK,true_and] at e1;obtain ⟨rfl,rfl⟩:=e1;have V:=aE J;rw [c9 hlt,iD] at V;have ap:=aV _ (bu hlt);generalize p.ps[k]=m at*;have aY:(k:Int)<(p.ps.length:Int):=ai;have ax:=xG A (p.ps.drop (k+1)) (k+1) (FE s k++A m false false);rw [V,be] at ax;have a8:=KU s k;have bo:s.size+(A m false false).size<=100000:=ai;have C:=ap false false b kv rv _ kl rl l wr.drew (h.below D.drew);generalize A m false false=x at*;clear J ax a8 ap;have aW:(((0:Int)<(k:Int))/\FE s k=s++aaZ)\/(¬((0:Int)<(k:Int))/\FE s k=s):=by
   by_cases h:0<k
   ·exact .inl ⟨ai,if_pos h⟩
   exact .inr ⟨ai,if_neg h⟩
  rcases aW with ⟨aX,e⟩|⟨aX,e⟩
  all_goals
   rw [e] at V;clear e;go_wp2_with fail;refine wp_region_held_drew (S:=fun w'=>w'.cell? (aN w.heap.size)=some (ar 5)/\w'.cell? (aC w.heap.size 6)=some (aw (some (aN q)) p.ps.length pc)/\w'.cell? (aC q k)=some (ar m)) aM (by go_keep) (fun aT=>vJ 0 ?_)
   iterate 16
    first
    |refine o0 rfl aM (fun _ _ _ h=>h) (by assumption) (Or.inr ⟨bL,rfl⟩) ?_
    |refine o0 (v:= ?_) rfl aM (fun _ _ _ h=>h) (by assumption) (Or.inl ⟨bL,?_⟩) ?_
     rotate_left
     ·(intro w' Y;(try dsimp only at Y);go_simp)<;>with_reducible rfl
    simp only [Act.put,List.setIfInBounds_toArray,List.set_cons_zero,List.set_cons_succ,List.getElem_toArray,List.getElem_cons_zero,List.getElem_cons_succ,Nat.reduceAdd]
   refine wpAnyH_ready (rs:=[16]) aM au ?_;refine AllReadyH.cons rfl (fun K ag=> ?_) AllReadyH.nil
   go_simp
   refine C.mono ?_;rintro e w1 ⟨rfl,al⟩;have I:=show an wr w1 from (aA _ wr).drew.trans al
   have d0:=am Q I;have d1:=am Z I;have d2:=am az I;clear al;refine ag.out _ _ ⟨d0,d1,d2⟩ (fun aU=> ?_);clear ag K aT
   try simp only [Act.put,List.setIfInBounds_toArray,List.set_cons_zero,List.set_cons_succ,List.getElem_toArray,List.getElem_cons_zero,List.getElem_cons_succ]
   refine o0 (k:=17) (v:= ?_) rfl aM (fun _ _ _ h=>h) (by assumption) (Or.inl ⟨bL,?_⟩) ?_
   rotate_left
   ·(intro w' Y;(try dsimp only at Y);go_simp)<;>with_reducible rfl
   simp only [Act.put,List.setIfInBounds_toArray,List.set_cons_zero,List.set_cons_succ,List.getElem_toArray,List.getElem_cons_zero,List.getElem_cons_succ];refine wpAnyH_done aM ?_ _;clear aU;have aP:=D.trans (I.mono a9);have af:=U.below I;clear C D U Q p1 p2 aF aG aJ Z aO az d0 d1 d2 I;obtain ⟨Q,p1,p2,aF,aG,aJ,Z,aO⟩:=af.eight;rw [ac.u] at Q;go_wp2;go_roundw
   ·exact ⟨k+1,_,ai,by go_num,rfl,aP,af,V⟩
   ·simp [intOf];omega
 have aY:¬((k:Int)<(p.ps.length:Int)):=ai;have e:s=R:=by
  have:=aE J;rw [sx ai,iD] at this;exact this
 subst e;clear J ay
 cases u
 ·go_wp2;go_ret;exact ⟨rfl,D⟩
 go_wp2;go_ret;exact ⟨rfl,D⟩
