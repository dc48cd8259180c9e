import Derived.Test.YtlbpnlngckgcbaaGreatDoorM09
set_option linter.all false
set_option maxHeartbeats 4000000
set_option maxRecDepth 100000
namespace Go.Proofs.YtlbpnlngckgcbaaGreatDoor
open Go.RowKit Go.PlainAid Go.Proofs.Tryz
variable {aF cD:Prop} {w W w5:af} {B size n g base:Nat} {E T:TypeId} {v:ag} {xs:List ag} {cs:Array ag}
def Qs (ay:aF:=by
 obtain ⟨J,aH,e1,hc⟩:=bi bK 4 (fun _=>rfl) hgr k p.gs[k] (aG Uq);simp only [aI,true_and] at e1;obtain ⟨rfl,rfl⟩:=e1;have ac:=ai (jt (fg rl) p.gs k _ (aG Uq));have ag:=nx (fg rl) p.gs (k+1);have af:=congrArg List.length (ak La);rw [ac.u,bo] at ag;rw [bo] at af;have aM:(k:Int)<(p.gs.length:Int):=aj;generalize p.gs[k]=x at*;have k0:wr.cell? ⟨J,k*4,none⟩=some (.string x.ty):=hc 0 _ aj rfl;have k1:wr.cell? ⟨J,k*4+1,none⟩=some (.string (b9 x)):=hc 1 _ aj rfl;have C:=ai (dI b kv rv pv kl rl pl l x.ty (b9 x) wr.drew (HD.u.below (HB.u.trans (ba.drew.mono SY))));have ae:f2.length+(fg rl x).length<=1000000000:=by have:=Ur.u;omega
 clear hb mE hpb hgr hrow hc af ag
 rcases cU x.ty (b9 x) rl 0 with O|⟨j,O,aK,aL⟩
 ·rw [O] at C;have Q:fg rl x=[]:=by unfold fg;rw [O];simp
  have ad:=ai (show f2=fv++(p.gs.take (k+1)).flatMap (fg rl) from by rw [ac.u,Q,gl];exact ak La);clear Q O;go_wp2_with fail
  go_region_held3 (fun w'=>w'.cell? ⟨pb,1,none⟩=some (.slice (some ⟨J,0,none⟩) p.gs.length gc)/\w'.cell? ⟨J,k*4,none⟩=some (.string x.ty)/\w'.cell? ⟨J,k*4+1,none⟩=some (.string (b9 x))) (go_keep)
   ((go_at_call 132;refine (ak C).mono ?_;rintro e w5 ⟨rfl,V⟩;have D:=ai (show Below wr.heap.size wr w5 from (aw _ wr).drew.trans V);have d0:=am p1 D.u;have d1:=am k0 D.u;have d2:=am k1 D.u;clear V))
  clear p0 p1 p2 p3 p4 p5 p6 p7 k0 k1 d0 d1 d2 C;have R:=ai (HB.u.trans (D.u.mono SY));have U:=ai (BF.u.trans (D.u.mono Lj));have ab:=ai (OH.u.below D.u);have Z:=ai (aE RG.u D.u);have I:=ai (aE Ak.u D.u);clear HB BF OH RG Ak;go_wp2;go_roundw
  case rel=>exact ⟨k+1,f2,fa,fc,aj,by go_num,rfl,R.u,U.u,ab.u,Z.u,I.u,ad⟩
  case measure=>simp [intOf];omega
 rw [O] at C;have Q:fg rl x=[j]:=by unfold fg;rw [O];simp
 rw [Q] at ae;simp only [List.length_cons,List.length_nil] at ae;have ad:=ai (show f2++[j]=fv++(p.gs.take (k+1)).flatMap (fg rl) from by rw [ac.u,Q,<-eI,<-ak La]);have aJ:(0:Int)<=(j:Int):=aj;clear Q O;go_wp2_with fail
 go_region_held3 (fun w'=>w'.cell? ⟨pb,1,none⟩=some (.slice (some ⟨J,0,none⟩) p.gs.length gc)/\w'.cell? ⟨J,k*4,none⟩=some (.string x.ty)/\w'.cell? ⟨J,k*4+1,none⟩=some (.string (b9 x))) (go_keep)
  ((go_at_call 132;refine (ak C).mono ?_;rintro e w5 ⟨rfl,V⟩;have D:=ai (show Below wr.heap.size wr w5 from (aw _ wr).drew.trans V);have d0:=am p1 D.u;have d1:=am k0 D.u;have d2:=am k1 D.u;clear V))
 clear p0 p1 p2 p3 p4 p5 p6 p7 k0 k1 d0 d1 d2 C;have R:=ai (HB.u.trans (D.u.mono SY));have U:=ai (BF.u.trans (D.u.mono Lj));have ab:=ai (OH.u.below D.u);have Z:=ai (aE RG.u D.u);have I:=ai (aE Ak.u D.u);have aC:=R.u.size;have aD:=U.u.size;clear HB BF OH RG Ak;go_wp2_with (at_builtin;go_must (refine bD _ rfl _ _ 29 rfl w1.heap.size 3 iI _ 1 8 underlying29 II.u Rz.u RA.u RB.u rfl ar (.slice fa f2.length fc) f2.length (f2.map fun n:Nat=> .int .i64 n) rfl (I.u.alloc _) ⟨w5.heap.size,0,none⟩ 1 1 [.int .i64 j] rfl rfl ?k9 ?mx ar ?sO ?hu ?ld (w5.heap.size+1) ?N2 ?pY))
 case k9=>exact bE (B:=w5.heap.size) (cs:=#[.int .i64 j]) (t:=3) (fr:=(0,0)) (aB.new' _ _ _ _ rfl)
 case mx=>
  exact JN
 case sO=>unfold maxLen;omega
 case hu=>omega
 case ld=>simp;omega
 case N2=>simp
 intro g5 aV aN ah Y az aA;have al:=ai (lK (R.u.alloc aC _) Ua (I.u.alloc _) Y);have ap:=ai (eX (U.u.alloc aD _) (I.u.alloc _) Y);have ax:=ai (qz (ab.u.alloc _) (I.u.alloc _) Y ar);have au:=ai (qy (Z.u.alloc _) (I.u.alloc _) Y ar);have av:=ai ah;clear ah Y az aA R U ab Z I;go_wp2;go_roundw
 case rel=>exact ⟨k+1,f2++[j],some ⟨g5,0,none⟩,aV,aj,by go_num,an,al.u,ap.u,ax.u,au.u,by simpa using av.u,ad⟩
 case measure=>simp [intOf];omega):aF:=ay
def Lk (I:aF:=by
 have O:¬((i:Int)<(lv.length:Int)):=aj;have C:fv=T:=by rw [ak HF,eh aj,HT.u]
 have D:=ai C;have J:=B1.u.size;clear hb mE hrow C;go_wp2;go_ret;rw [<-D.u];exact ⟨_,rfl,HB.u,aX Ak.u J⟩):aF:=I
def Ll (C:aF:=by
 go_wp2;go_roundw
 case rel=>exact ⟨i+1,f2,fa,fc,aj,by go_num,rfl,HB.u,BF.u,Ak.u,SZ⟩
 case measure=>simp [intOf];omega):aF:=C
def Df (A:aF:=by
 intro u C;obtain ⟨n,_,rfl⟩:=aY.1 C
 rfl):aF:=A
def fg(rl:List RV)(g:Gr):List Nat:=if 0<=aU g.ty (b9 g) rl 0 then [(aU g.ty (b9 g) rl 0).toNat] else []
def gg(rl:List RV)(h:Nat->List Gr)(kd:ae)(p:PV):List Nat:=p.gs.flatMap (fg rl)++(if p.kind=2 then [(aU kd p.nr rl 0).toNat] else if p.kind=3 then fe rl p.nr (h (aU kd p.nb rl 0).toNat) else [])
def qA(F:PV->List Nat)(pl:List PV)(m:Nat):List Nat:=match pl[m]? with
 |some p=>F p
 |none=>[]
theorem Lm(rl g):(fg rl g).length<=1:=by unfold fg;split<;>simp
theorem lK(h:Below w.heap.size w W)(A:w.heap.size<=B)(k:W.ownsRow B E size v n xs)(C:W.grownBy w5 v.ownBlock):Below w.heap.size w w5:=dc h C h.size (fun j D=>aL A (k.lt j D).1)
theorem qz(h:aB W g cs T)(k:W.ownsRow base E size v n xs)(A:W.grownBy w5 v.ownBlock)(C:T≠E):aB w5 g cs T:=(A.block g h.lt (own_ne k h C)).trans h
theorem tP(b kv rv pv kl rl pl l dk kd n lv T w)(aS:DM w b kv rv pv kl rl pl l)(b3:mR rl pl dk)(b4:gF pl n lv)(dd:lv.length<=1000)(cf:∀m∈lv,∃p,pl[m]? =some p/\p.gs.length<=1000/\(p.kind=2->0<=aU kd p.nr rl 0)/\(p.kind=3->0<=aU kd p.nb rl 0))(b5:lv.flatMap (qA (gg rl dk kd) pl)=T)(c9:T.length<=1000000000):
  Calls prog 232 #[.pointer (some ⟨b,5,none⟩),.string kd,.int .i64 n] w fun e w'=>∃sv,e=.returned sv/\Below w.heap.size w w'/\w'.ownsRow w.heap.size 3 1 sv T.length (T.map fun n:Nat=> .int .i64 n):=by
 obtain ⟨iI,bI,cq,cr,cu⟩:=bH Tryz.infoInt;have II:=ai bI;have Rz:=ai cq;have RA:=ai cr;have RB:=ai cu;clear bI cq cr cu;have HD:=ai aS;have cC:=ai b3;have cF:=ai cf;have HT:=ai b5;have di:=aS.rn;have dh:=aS.pn;have C:=ai (b4 b kv rv pv kl rl l w aS);clear aS b3 b4 cf b5;go_enter func232,ntmps232;go_wp2_with fail;refine (ak C).mono ?_;rintro e w1 ⟨sv,rfl,bz,bJ⟩;obtain ⟨dj,dl,rfl⟩:=ay bJ;have B1:=ai bz;have Ua:=bz.size;have cI:=ai bJ;clear bz bJ C;go_wp2_with fail
 go_loopw [7,9] (fun bQ bR wr=>∃(i:Nat)(fv:List Nat)(fa:Option Addr)(fc:Nat),i<=lv.length/\bR=.int .i64 i/\bQ=.slice fa fv.length fc/\Below w.heap.size w wr/\Below w1.heap.size w1 wr/\wr.ownsRow w1.heap.size 3 1 (.slice fa fv.length fc) fv.length (fv.map fun n:Nat=> .int .i64 n)/\Hid (fv=(lv.take i).flatMap (qA (gg rl dk kd) pl))) (fun _ bR _=>lv.length-(intOf bR).toNat)
 case atStart=>exact ⟨0,[],none,0,aj,rfl,rfl,B1.u,aw _ _,bN,ai an⟩
 case round=>
  obtain ⟨i,fv,fa,fc,bI,rfl,rfl,hb,mE,hrow,HF⟩:=hrel;have HB:=ai hb;have BF:=ai mE;have Ak:=ai hrow;have co:=hb.size;have cp:=mE.size
  by_cases hlt:i<lv.length
  ·obtain ⟨q,c8,e1,cw⟩:=aZ (aE cI.u mE) i (.int .i64 (lv[i]:Nat)) tI;simp only [aI,true_and] at e1;obtain ⟨rfl,rfl⟩:=e1;obtain ⟨p,bs,dg,cj,ck⟩:=cF.u _ (bu hlt);have bg:=ai (jt (qA (gg rl dk kd) pl) lv i _ (aG hlt));have ce:=nx (qA (gg rl dk kd) pl) lv (i+1);rw [ak bg,<-ak HF,bo,HT.u] at ce;have db:(i:Int)<(lv.length:Int):=aj;generalize lv[i]=m at*;have bB:=HD.u.below hb;obtain ⟨aR,cM,ga,gc,pa,pc,sa,sc,cl,cm,cx,cX,cY,cZ,c1,c2,c3,c4⟩:=bB.pat m p bs;have de:=(be.1 bs).1;have df:(m:Int)<(pl.length:Int):=aj;have b7:qA (gg rl dk kd) pl m=gg rl dk kd p:=by unfold qA;rw [bs]
   rw [b7] at bg ce;have c7:=bB.c7;rw [cl] at c7;have bV:=ai cm.g;have cG:=ai cj;have cH:=ai ck;have cV:=bj wr _ c7;have mk:=bj wr _ cw;have cW:=bj wr _ cx;clear hb mE hrow bB cm bs cl b7 cj ck;go_wp2_with fail
   go_region_held3 (fun w'=>w'.cell? ⟨b,7,none⟩=some (.slice (some ⟨aR,0,none⟩) pl.length cM)/\w'.cell? ⟨q,i,none⟩=some (.int .i64 m)/\w'.cell? ⟨aR,m*8,none⟩=some (.int .i64 p.kind)/\w'.cell? ⟨aR,m*8+1,none⟩=some (.slice ga p.gs.length gc)/\w'.cell? ⟨aR,m*8+2,none⟩=some (.string p.nb)/\w'.cell? ⟨aR,m*8+3,none⟩=some (.string p.nr)/\w'.cell? ⟨aR,m*8+4,none⟩=some (.int .i64 p.pa)/\w'.cell? ⟨aR,m*8+5,none⟩=some (.int .i64 p.pr)/\w'.cell? ⟨aR,m*8+6,none⟩=some (.slice pa p.ps.length pc)/\w'.cell? ⟨aR,m*8+7,none⟩=some (.slice sa p.sg.length sc)) (go_keep) (fail)
   rename_i cR;clear cR cx cX cY cZ c1 c2 c3 c4 c7 cw cV mk cW;have bh:Below wr.heap.size wr ((wr.alloc (ct p.kind ga p.gs.length gc p.nb p.nr p.pa p.pr pa p.ps.length pc sa p.sg.length sc)).drew):=((aw _ wr).alloc az _).drew;have bW:=ai (aB.new wr #[.int .i64 p.kind,.slice ga p.gs.length gc,.string p.nb,.string p.nr,.int .i64 p.pa,.int .i64 p.pr,.slice pa p.ps.length pc,.slice sa p.sg.length sc] 255).drew;have bS:=ai (HB.u.trans (bh.mono co));have bU:=ai (BF.u.trans (bh.mono cp));have bX:=ai (aE Ak.u bh);have bY:=ai (aE bV.u bh);clear bh HB BF Ak bV;go_wp2_with fail;generalize (wr.alloc (ct p.kind ga p.gs.length gc p.nb p.nr p.pa p.pr pa p.ps.length pc sa p.sg.length sc)).drew=c6 at*;generalize wr.heap.size=pb at*;have cd:(gg rl dk kd p).length=(p.gs.flatMap (fg rl)).length+(if p.kind=2 then [(aU kd p.nr rl 0).toNat] else if p.kind=3 then fe rl p.nr (dk (aU kd p.nb rl 0).toNat) else []).length:=by unfold gg;rw [bo]
   have Ur:=ai cd;clear cd
   go_loopw [7,11] (fun bQ bP bk=>∃(k:Nat)(f2:List Nat)(fa:Option Addr)(fc:Nat),k<=p.gs.length/\bP=.int .i64 k/\bQ=.slice fa f2.length fc/\Below w.heap.size w bk/\Below w1.heap.size w1 bk/\aB bk pb #[.int .i64 p.kind,.slice ga p.gs.length gc,.string p.nb,.string p.nr,.int .i64 p.pa,.int .i64 p.pr,.slice pa p.ps.length pc,.slice sa p.sg.length sc] 255/\bk.ownsRow 0 257 4 (.slice ga p.gs.length gc) p.gs.length (p.gs.flatMap bK)/\bk.ownsRow w1.heap.size 3 1 (.slice fa f2.length fc) f2.length (f2.map fun n:Nat=> .int .i64 n)/\Hid (f2=fv++(p.gs.take k).flatMap (fg rl))) (fun _ bP _=>p.gs.length-(intOf bP).toNat)
   case atStart=>exact ⟨0,fv,fa,fc,aj,rfl,rfl,bS.u,bU.u,bW.u,bY.u,bX.u,ai an⟩
   case round=>
    clear bS bU bW bY bX co cp;obtain ⟨k,f2,fa,fc,da,rfl,rfl,hb,mE,hpb,hgr,hrow,La⟩:=hrel;have HB:=ai hb;have BF:=ai mE;have OH:=ai hpb;have RG:=ai hgr;have Ak:=ai hrow;have SY:=hb.size;have Lj:=mE.size;obtain ⟨p0,p1,p2,p3,p4,p5,p6,p7⟩:=hpb.eight;have dm:=hpb.lt
    by_cases Uq:k<p.gs.length
    ·exact Qs
    have dc:¬((k:Int)<(p.gs.length:Int)):=aj;have bC:f2=fv++p.gs.flatMap (fg rl):=by rw [ak La,eh aj]
    have bw:=ai bC;have b8:=congrArg List.length bC;rw [bo] at b8;have bq:f2.length+(if p.kind=2 then [(aU kd p.nr rl 0).toNat] else if p.kind=3 then fe rl p.nr (dk (aU kd p.nb rl 0).toNat) else []).length<=1000000000:=by have:=Ur.u;omega
    clear hb mE hpb hgr hrow bC b8
    by_cases aQ:p.kind=2
    ·have b0:((p.kind:Int)==2)=true:=by rw [aQ];rfl
     have b2:((p.kind:Int)==3)=false:=by rw [aQ];rfl
     have h0:=cG.u aQ;obtain ⟨j,aP,cS,cT⟩:∃j:Nat,aU kd p.nr rl 0=j/\0<=j/\j<0+rl.length:=by
      rcases cU kd p.nr rl 0 with aP|aS
      ·omega
      exact aS
     rw [if_pos aQ] at bq;simp only [List.length_cons,List.length_nil] at bq;have SZ:=ai (show f2++[j]=(lv.take (i+1)).flatMap (qA (gg rl dk kd) pl) from by rw [ak bg,<-ak HF,bw.u];unfold gg;simp [aQ,aP]);have C:=ai (dI b kv rv pv kl rl pl l kd p.nr wr (HD.u.below HB.u));rw [aP] at C;clear aQ h0 aP;go_wp2_with fail;refine (ak C).mono ?_;rintro e w5 ⟨rfl,aO⟩;have aT:=ai (HB.u.trans (aO.mono SY));have bc:=ai (BF.u.trans (aO.mono Lj));have bf:=ai (OH.u.below aO);have aW:=ai (aE Ak.u aO);have bM:=aT.u.size;have bO:=bc.u.size;clear aO C HB BF OH RG Ak p0 p1 p2 p3 p4 p5 p6 p7;go_wp2_with (at_builtin;go_must (refine bD _ rfl _ _ 29 rfl w1.heap.size 3 iI _ 1 8 underlying29 II.u Rz.u RA.u RB.u rfl ar (.slice fa f2.length fc) f2.length (f2.map fun n:Nat=> .int .i64 n) rfl (aW.u.alloc _) ⟨w5.heap.size,0,none⟩ 1 1 [.int .i64 j] rfl rfl ?lg ?o5 ar ?xk ?jo ?lh (w5.heap.size+1) ?N3 ?pZ))
     case lg=>exact bE (B:=w5.heap.size) (cs:=#[.int .i64 j]) (t:=3) (fr:=(0,0)) (aB.new' _ _ _ _ rfl)
     case o5=>
      exact ow
     case xk=>unfold maxLen;omega
     case jo=>omega
     case lh=>simp;omega
     case N3=>simp
     intro g5 aV dq ch br cN cQ;have cy:=ai (lK (aT.u.alloc bM _) Ua (aW.u.alloc _) br);have cA:=ai (eX (bc.u.alloc bO _) (aW.u.alloc _) br);have bx:=qz (bf.u.alloc _) (aW.u.alloc _) br ar;obtain ⟨p0,p1,p2,p3,p4,p5,p6,p7⟩:=bx.eight;have dp:=bx.lt;have cJ:=ai ch;clear ch br cN cQ aT bc bf aW bx;go_wp2;go_roundw
     case rel=>exact ⟨i+1,f2++[j],some ⟨g5,0,none⟩,aV,aj,by go_num,an,cy.u,cA.u,by simpa using cJ.u,SZ⟩
     case measure=>simp [intOf];omega
    by_cases bb:p.kind=3
    ·have b0:((p.kind:Int)==2)=false:=by rw [bb];rfl
     have b2:((p.kind:Int)==3)=true:=by rw [bb];rfl
     have h0:=cH.u bb;obtain ⟨j,aP,cS,cT⟩:∃j:Nat,aU kd p.nb rl 0=j/\0<=j/\j<0+rl.length:=by
      rcases cU kd p.nb rl 0 with aP|aS
      ·omega
      exact aS
     rw [if_neg aQ,if_pos bb,aP,Int.toNat_natCast] at bq;have SZ:=ai (show f2++fe rl p.nr (dk j)=(lv.take (i+1)).flatMap (qA (gg rl dk kd) pl) from by rw [ak bg,<-ak HF,bw.u];unfold gg;simp [bb,aP]);have C:=ai (dI b kv rv pv kl rl pl l kd p.nb wr (HD.u.below HB.u));rw [aP] at C;obtain ⟨cb,cP⟩:=cC.u j aj;have cE:=ai cb;clear aQ bb h0 aP cb;generalize b6:fe rl p.nr (dk j)=bn at*;go_wp2_with fail;refine (ak C).mono ?_;rintro e w5 ⟨rfl,aO⟩;have aT:=ai (HB.u.trans (aO.mono SY));have bc:=ai (BF.u.trans (aO.mono Lj));have bf:=ai (OH.u.below aO);have aW:=ai (aE Ak.u aO);have bM:=aT.u.size;have bO:=bc.u.size;clear aO C HB BF OH RG Ak p0 p1 p2 p3 p4 p5 p6 p7;obtain ⟨p0,p1,p2,p3,p4,p5,p6,p7⟩:=bf.u.eight;have dn:=bf.u.lt;have bv:=ai (wg b kv rv pv kl rl pl l j (dk j) p.nr w5 (HD.u.below aT.u) cE.u cP);rw [b6] at bv;clear b6;go_wp2_with fail;refine (ak bv).mono ?_;rintro e dr ⟨sv,rfl,bp,bL⟩;obtain ⟨ta,tc,rfl⟩:=ay bL;have bT:=ai (aT.u.trans (bp.mono bM));have bt:=ai (bc.u.trans (bp.mono bO));have bl:=ai (aE aW.u bp);have bZ:=ai bL;have c5:=bt.u.size;clear bp bL bv aT bc bf aW p0 p1 p2 p3 p4 p5 p6 p7;go_wp2_with (at_builtin;go_must (refine gN rfl _ _ 29 rfl w1.heap.size 3 iI _ 1 8 underlying29 II.u Rz.u RA.u RB.u rfl ar (.slice fa f2.length fc) f2.length (f2.map fun n:Nat=> .int .i64 n) rfl bl.u (.slice ta bn.length tc) bn.length (bn.map fun n:Nat=> .int .i64 n) rfl _ bZ.u ?sR ?Cf ?li c5 ?xl))
     case sR=>
      exact Df
     case Cf=>unfold maxLen;omega
     case li=>omega
     intro cL cv ds ci bF cO;have cz:=ai (lK bT.u Ua bl.u bF);have cB:=ai (eX bt.u bl.u bF);have cK:=ai ci;clear ci bF cO bT bt bl bZ;go_wp2;go_roundw
     case rel=>exact ⟨i+1,f2++bn,cL,cv,aj,by go_num,an,cz.u,cB.u,by simpa using cK.u,SZ⟩
     case measure=>simp [intOf];omega
    have b0:((p.kind:Int)==2)=false:=bG.2 aj;have b2:((p.kind:Int)==3)=false:=bG.2 aj;have SZ:=ai (show f2=(lv.take (i+1)).flatMap (qA (gg rl dk kd) pl) from by rw [ak bg,<-ak HF,bw.u];unfold gg;simp [aQ,bb]);clear aQ bb bq;exact Ll
  exact Lk
