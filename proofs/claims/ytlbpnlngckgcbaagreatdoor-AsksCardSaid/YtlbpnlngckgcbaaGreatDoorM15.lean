import Derived.Test.YtlbpnlngckgcbaaGreatDoorM12
set_option linter.all false
set_option maxHeartbeats 4000000
set_option maxRecDepth 100000
namespace Go.Proofs.YtlbpnlngckgcbaaGreatDoor
open Go.RowKit Go.PlainAid Go.Proofs.Tryz
variable {aA aU:Prop} {rl:List RV} {pl:List PV} {kd:ae} {n m base size b1 n1:Nat} {w w' W:af} {e E:TypeId} {v v1:ag} {xs:List ag}
def Qg (h:aA:=by
 have A:=ai hq;clear hb HI hq;go_wp2;go_roundw
 case rel=>exact ⟨i+1,c',aj,by go_num,rfl,HBI.u,ai (by rw [A.u];exact Jk.u)⟩
 case measure=>simp [intOf];omega):aA:=h
def my (h:aA:=by
 go_wp2;go_roundw
 case rel=>exact ⟨k+1,_,aj,by go_num,rfl,below_drewN HBI.u _,sZ⟩
 case measure=>simp [intOf];omega):aA:=h
def Qh (h:aA:=by
 have KV:=ai hq;clear hb HQ hq;exact Uza):aA:=h
def Dr(base:Nat)(v:ag)(l:List Nat)(n:Nat)(w:af)(h:w.ownsRow base 3 1 v l.length (l.map fun n:Nat=> .int .i64 n))(U:l.length<=1000000000):
  Calls prog 194 #[v,.int .i64 n] w fun e w'=>e=.returned (.bool (l.any fun k=>k==n))/\an w w':=by
 obtain ⟨Y,Z,rfl⟩:=ax h;have H:=ai h;generalize hR:(l.any fun k=>k==n)=C;have D:=ai (hR:((l.drop 0).any fun k=>k==n)=C);clear h hR;go_enter func194,ntmps194;go_wp2_with fail
 go_loopw [5] (fun u wr=>∃k:Nat,k<=l.length/\u=.int .i64 k/\an w wr/\Hid (((l.drop k).any fun k=>k==n)=C)) (fun u _=>l.length-(intOf u).toNat)
 case atStart=>exact ⟨0,aj,rfl,az _ _,D⟩
 case round=>
  obtain ⟨k,R,rfl,hb,HQ⟩:=hrel;have HB:=ai hb
  by_cases hlt:k<l.length
  ·obtain ⟨q,Q,e1,V⟩:=aS (aB H.u hb) k (.int .i64 (l[k]:Nat)) vE;simp only [aI,true_and] at e1;obtain ⟨rfl,rfl⟩:=e1;have hR:=ak HQ;rw [dI hlt,j2] at hR;generalize l[k]=m at*;have J:(k:Int)<(l.length:Int):=aj
   by_cases A:m=n
   ·have I:((m:Int)==(n:Int))=true:=by rw [dA];omega
    rw [dA.2 A,Bool.true_or] at hR;have KV:=ai hR;clear hb HQ hR A;exact Uza
   have I:((m:Int)==(n:Int))=false:=by rw [b6];omega
   rw [b6.2 A,Bool.false_or] at hR;have kP:=ai hR;clear hb HQ hR A;exact OO
  have J:¬((k:Int)<(l.length:Int)):=aj;exact OM
def ey(best:Int)(p:Nat):Int:=if best<0\/(p:Int)<best then p else best
def td(x:ae×Nat):List (ae×Nat)->Int->Int
 | [],c=>c
 |y::ys,c=>td x ys (if eqs y.1 x.1 then ey c x.2 else c)
def nM:List (ae×Nat)->List (ae×Nat)->Int->Int
 |_,[],c=>c
 |acc,x::xs,c=>nM (acc++[x]) xs (td x acc c)
def te(x:RV):List RV->Int->Int
 | [],c=>c
 |y::ys,c=>te x ys (if eqs y.kd x.kd&&eqs y.nm x.nm then ey c x.pl else c)
def pP:List RV->List RV->Int->Int
 |_,[],c=>c
 |acc,x::xs,c=>pP (acc++[x]) xs (te x acc c)
def vG(kl:List (ae×Nat))(rl:List RV):Int:=pP [] rl (nM [] kl (-1))
def Gj(b kv rv pv kl rl pl l w)(h:DM w b kv rv pv kl rl pl l):
  Calls prog 128 #[.pointer (some ⟨b,5,none⟩)] w fun e w'=>e=.returned (.int .i64 (vG kl rl))/\an w w':=by
 obtain ⟨aD,aE,rfl⟩:=ax h.kt;obtain ⟨aF,rc,rfl⟩:=ax h.rt;have H:=ai h;have aB:=h.kn;have aC:=h.rn;clear h;go_enter func128,ntmps128;go_wp2_with fail
 go_loopw [3,4] (fun I Y wr=>∃(i:Nat)(c:Int),i<=kl.length/\Y=.int .i64 i/\I=.int .i64 c/\an w wr/\Hid (nM (kl.take i) (kl.drop i) c=nM [] kl (-1))) (fun _ Y _=>kl.length-(intOf Y).toNat)
 case atStart=>exact ⟨0,-1,aj,rfl,rfl,az _ _,ai ar⟩
 case round=>
  obtain ⟨i,c,hi,rfl,rfl,hb,HQ⟩:=hrel;have c5:=(H.u.below hb).c5;have HB:=ai hb
  by_cases D:i<kl.length
  ·have V:(i:Int)<(kl.length:Int):=by omega
   have hq:=ak HQ;rw [dI D,nM,<-cJ D] at hq;have Jk:=ai hq;obtain ⟨ah,gc,e1,ae,af⟩:=(H.u.below hb).kat i kl[i] (aH D);simp only [aI,true_and] at e1;obtain ⟨rfl,rfl⟩:=e1;have Q:=ai (aH D);generalize kl[i]=x at*;clear hb HQ hq;go_wp2_with fail
   go_loopw [3,5] (fun I Z ad=>∃(k:Nat)(c':Int),k<=i/\Z=.int .i64 k/\I=.int .i64 c'/\an w ad/\Hid (td x ((kl.take i).drop k) c'=td x (kl.take i) c)) (fun _ Z _=>i-(intOf Z).toNat)
   case atStart=>exact ⟨0,c,aj,rfl,rfl,HB.u,ai ar⟩
   case round=>
    clear ae af c5;obtain ⟨k,c',ap,rfl,rfl,hb,HI⟩:=hrel;have c5:=(H.u.below hb).c5;obtain ⟨ah,gc,e1,ae,af⟩:=(H.u.below hb).kat i x Q.u;simp only [aI,true_and,aL,ce,and_true] at e1;obtain ⟨rfl,rfl⟩:=e1;have HBI:=ai hb
    by_cases av:k<i
    ·have R:(k:Int)<(i:Int):=by omega
     have U:k<kl.length:=aj;have au:(k:Int)<(kl.length:Int):=aj;obtain ⟨am,al,e1,aw,ay⟩:=(H.u.below hb).kat k kl[k] (aH U);simp only [aI,true_and,aL,ce,and_true] at e1;obtain ⟨rfl,rfl⟩:=e1;have hq:=ak HI;rw [dI mN,List.getElem_take,td] at hq;generalize kl[k]=y at*
     cases C:eqs y.1 x.1
     ·rw [C] at hq;simp only [bH,aV] at hq;rw [aK] at C;have sZ:=ai hq;clear hb HI hq;go_wp2
      go_quiet (fail)
      exact my
     rw [C] at hq;simp only [if_true] at hq;rw [aK] at C
     by_cases h0:c'<0
     ·rw [show ey c' x.2=x.2 from by simp [ey,h0]] at hq;have sZ:=ai hq;clear hb HI hq;go_wp2
      go_quiet (fail)
      exact my
     by_cases h1:(x.2:Int)<c'
     ·rw [show ey c' x.2=x.2 from by simp [ey,h1]] at hq;have sZ:=ai hq;clear hb HI hq;go_wp2
      go_quiet (fail)
      exact my
     rw [show ey c' x.2=c' from by simp [ey,h0,h1]] at hq;have sZ:=ai hq;clear hb HI hq;go_wp2
     go_quiet (fail)
     exact my
    have R:¬((k:Int)<(i:Int)):=aj;have hq:=ak HI;rw [ei mN,td] at hq;exact Qg
  have V:¬((i:Int)<(kl.length:Int)):=aj;have hq:=ak HQ;rw [ei aj,nM] at hq;have ag:=ai hq;clear hb HQ hq;go_wp2_with fail;clear c5
  go_loopw [3,6] (fun I ab wr=>∃(i:Nat)(c:Int),i<=rl.length/\ab=.int .i64 i/\I=.int .i64 c/\an w wr/\Hid (pP (rl.take i) (rl.drop i) c=vG kl rl)) (fun _ ab _=>rl.length-(intOf ab).toNat)
  case atStart=>exact ⟨0,c,aj,rfl,rfl,HB.u,ai (by rw [ag.u];rfl)⟩
  case round=>
   clear HB ag;obtain ⟨i,c,hi,rfl,rfl,hb,HQ⟩:=hrel;have c6:=(H.u.below hb).c6;have HB:=ai hb
   by_cases D:i<rl.length
   ·have V:(i:Int)<(rl.length:Int):=by omega
    have hq:=ak HQ;rw [dI D,pP,<-cJ D] at hq;have Jk:=ai hq;have Q:=ai (aH D);generalize rl[i]=x at*;clear hb HQ hq;go_wp2_with fail
    go_loopw [3,7] (fun I ac ad=>∃(k:Nat)(c':Int),k<=i/\ac=.int .i64 k/\I=.int .i64 c'/\an w ad/\Hid (te x ((rl.take i).drop k) c'=te x (rl.take i) c)) (fun _ ac _=>i-(intOf ac).toNat)
    case atStart=>exact ⟨0,c,aj,rfl,rfl,HB.u,ai ar⟩
    case round=>
     clear c6;obtain ⟨k,c',ap,rfl,rfl,hb,HI⟩:=hrel;have c6:=(H.u.below hb).c6;have HBI:=ai hb
     by_cases av:k<i
     ·have R:(k:Int)<(i:Int):=by omega
      obtain ⟨ah,gc,e1,ae,af,aG,aJ⟩:=(H.u.below hb).rat i x Q.u;simp only [aI,true_and] at e1;obtain ⟨rfl,rfl⟩:=e1;have U:k<rl.length:=aj;have au:(k:Int)<(rl.length:Int):=aj;obtain ⟨am,al,e1,aw,ay,aM,aN⟩:=(H.u.below hb).rat k rl[k] (aH U);simp only [aI,true_and,aL,ce,and_true] at e1;obtain ⟨rfl,rfl⟩:=e1;have hq:=ak HI;rw [dI mN,List.getElem_take,te] at hq;generalize rl[k]=y at*
      cases C:eqs y.kd x.kd
      ·rw [C,eB] at hq;simp only [bH,aV] at hq;rw [aK] at C;have sZ:=ai hq;clear hb HI hq;go_wp2
       go_quiet (fail)
       exact my
      rw [C,Bool.true_and] at hq;rw [aK] at C
      cases J:eqs y.nm x.nm
      ·rw [J] at hq;simp only [bH,aV] at hq;rw [aK] at J;have sZ:=ai hq;clear hb HI hq;go_wp2
       go_quiet (fail)
       exact my
      rw [J] at hq;simp only [if_true] at hq;rw [aK] at J
      by_cases h0:c'<0
      ·rw [show ey c' x.pl=x.pl from by simp [ey,h0]] at hq;have sZ:=ai hq;clear hb HI hq;go_wp2
       go_quiet (fail)
       exact my
      by_cases h1:(x.pl:Int)<c'
      ·rw [show ey c' x.pl=x.pl from by simp [ey,h1]] at hq;have sZ:=ai hq;clear hb HI hq;go_wp2
       go_quiet (fail)
       exact my
      rw [show ey c' x.pl=c' from by simp [ey,h0,h1]] at hq;have sZ:=ai hq;clear hb HI hq;go_wp2
      go_quiet (fail)
      exact my
     have R:¬((k:Int)<(i:Int)):=aj;have hq:=ak HI;rw [ei mN,te] at hq;exact Qg
   have V:¬((i:Int)<(rl.length:Int)):=aj;have hq:=ak HQ;rw [ei aj,pP] at hq;exact Qh
def Lx(rl:List RV)(p:PV):List Nat:=p.gs.flatMap (ed rl)
def A0(b kv rv pv kl rl pl l n lv T w)(h:DM w b kv rv pv kl rl pl l)(aC:gF pl n lv)(bo:lv.length<=1000)(aK:∀m∈lv,∃p,pl[m]? =some p/\p.gs.length<=1000)(aF:lv.flatMap (se (Lx rl) pl)=T)(bb:T.length<=1000000000):
  Calls prog 254 #[.pointer (some ⟨b,5,none⟩),.int .i64 n] w fun e w'=>∃sv,e=.returned sv/\an w w'/\w'.ownsRow w.heap.size 3 1 sv T.length (T.map fun n:Nat=> .int .i64 n):=by
 obtain ⟨iI,ah,aL,aM,aN⟩:=bK Tryz.infoInt;have II:=ai ah;have Vv:=ai aL;have Vw:=ai aM;have Vx:=ai aN;clear ah aL aM aN;have HD:=ai h;have aP:=ai aK;have HT:=ai aF;have C:=ai (aC b kv rv pv kl rl l w h);clear h aC aK aF;go_enter func254,ntmps254;go_wp2_with fail;refine (ak C).mono ?_;rintro e w1 ⟨sv,rfl,ag,al⟩;obtain ⟨bq,bs,rfl⟩:=ax al;have B1:=ai ag;have Xk:=ag.size;have aQ:=ai al;clear ag al C;go_wp2_with fail
 go_loopw [5,7] (fun aw ay wr=>∃(i:Nat)(fv:List Nat)(fa:Option Addr)(fc:Nat),i<=lv.length/\ay=.int .i64 i/\aw=.slice fa fv.length fc/\an w wr/\an w1 wr/\wr.ownsRow w1.heap.size 3 1 (.slice fa fv.length fc) fv.length (fv.map fun n:Nat=> .int .i64 n)/\Hid (fv=(lv.take i).flatMap (se (Lx rl) pl))) (fun _ ay _=>lv.length-(intOf ay).toNat)
 case atStart=>exact ⟨0,[],none,0,aj,rfl,rfl,B1.u,az _ _,bL,ai ar⟩
 case round=>
  obtain ⟨i,fv,fa,fc,ah,rfl,rfl,hb,mm,hrow,HF⟩:=hrel;have HB:=ai hb;have Lv:=ai mm;have Jm:=ai hrow;have hwr:=hb.size;have VB:=mm.size
  by_cases hlt:i<lv.length
  ·obtain ⟨q,ba,e1,aO⟩:=aS (aB aQ.u mm) i (.int .i64 (lv[i]:Nat)) vE;simp only [aI,true_and] at e1;obtain ⟨rfl,rfl⟩:=e1;obtain ⟨p,hp,bp⟩:=aP.u _ (bn hlt);have af:=ai (jN (se (Lx rl) pl) lv i _ (aH hlt));have aJ:=om (se (Lx rl) pl) lv (i+1);rw [ak af,<-ak HF,aZ,HT.u] at aJ;have bl:(i:Int)<(lv.length:Int):=aj;generalize lv[i]=m at*;have hd:=HD.u.below hb;refine AZ ?_;intro gp cp ga gc pa pc sa sc hpv hr q0 q1 q2 q3 q4 q5 q6 q7 hm hm';have aG:se (Lx rl) pl m=Lx rl p:=by unfold se;rw [hp]
   rw [aG] at af aJ;have c7:=hd.c7;rw [hpv] at c7;have HRG:=ai hr.g;have aV:=cm wr _ c7;have mk:=cm wr _ aO;have aW:=cm wr _ q0;clear hb mm hrow hd hr hp hpv aG;go_wp2_with fail
   go_region_held3 (fun w'=>w'.cell? ⟨b,7,none⟩=some (.slice (some ⟨gp,0,none⟩) pl.length cp)/\w'.cell? ⟨q,i,none⟩=some (.int .i64 m)/\w'.cell? ⟨gp,m*8,none⟩=some (.int .i64 p.kind)/\w'.cell? ⟨gp,m*8+1,none⟩=some (.slice ga p.gs.length gc)/\w'.cell? ⟨gp,m*8+2,none⟩=some (.string p.nb)/\w'.cell? ⟨gp,m*8+3,none⟩=some (.string p.nr)/\w'.cell? ⟨gp,m*8+4,none⟩=some (.int .i64 p.pa)/\w'.cell? ⟨gp,m*8+5,none⟩=some (.int .i64 p.pr)/\w'.cell? ⟨gp,m*8+6,none⟩=some (.slice pa p.ps.length pc)/\w'.cell? ⟨gp,m*8+7,none⟩=some (.slice sa p.sg.length sc)) (go_keep) (fail)
   rename_i aR;clear aR q0 q1 q2 q3 q4 q5 q6 q7 c7 aO aV mk aW;refine Gy ?_;intro b2 MV;refine QB ?_;intro B2 BP R2 YY;clear b2 HB Lv Jm HRG;go_wp2_with fail;generalize (wr.alloc (dq p.kind ga p.gs.length gc p.nb p.nr p.pa p.pr pa p.ps.length pc sa p.sg.length sc)).drew=aX at*;generalize wr.heap.size=ap at*;have HHL:=ai (show (Lx rl p).length=(p.gs.flatMap (ed rl)).length from rfl)
   go_loopw [5,9] (fun aw av ac=>∃(k:Nat)(f2:List Nat)(fa:Option Addr)(fc:Nat),k<=p.gs.length/\av=.int .i64 k/\aw=.slice fa f2.length fc/\an w ac/\an w1 ac/\aE ac ap (jZ p.kind ga p.gs.length gc p.nb p.nr p.pa p.pr pa p.ps.length pc sa p.sg.length sc) 255/\ac.ownsRow 0 257 4 (.slice ga p.gs.length gc) p.gs.length (p.gs.flatMap cf)/\ac.ownsRow w1.heap.size 3 1 (.slice fa f2.length fc) f2.length (f2.map fun n:Nat=> .int .i64 n)/\Hid (f2=fv++(p.gs.take k).flatMap (ed rl))) (fun _ av _=>p.gs.length-(intOf av).toNat)
   case atStart=>exact ⟨0,fv,fa,fc,aj,rfl,rfl,B2.u,BP.u,MV.u,YY.u,R2.u,ai ar⟩
   case round=>
    clear B2 BP MV YY R2 hwr VB;obtain ⟨k,f2,fa,fc,bk,rfl,rfl,hb,mm,ae,ad,hrow,MU⟩:=hrel;have HB:=ai hb;have Lv:=ai mm;have YW:=ai ae;have HGR:=ai ad;have Jm:=ai hrow;have hwi:=hb.size;have YX:=mm.size;obtain ⟨p0,p1,p2,p3,p4,p5,p6,p7⟩:=ae.eight
    by_cases hkt:k<p.gs.length
    ·obtain ⟨gg,aY,e1,hc⟩:=bf cf 4 (fun _=>rfl) ad k p.gs[k] (aH hkt);simp only [aI,true_and] at e1;obtain ⟨rfl,rfl⟩:=e1;refine QA ?_;intro VA GA hf2;rw [VA.u,aZ] at GA;rw [aZ] at hf2;have Qz:(k:Int)<(p.gs.length:Int):=aj;generalize p.gs[k]=x at*;refine Qw ?_;intro k0 k1 C tH;clear hb mm ae ad hrow hc hf2 GA
     rcases cP x.ty (b8 x) rl 0 with Y|⟨j,Y,be,bh⟩
     ·rw [Y] at C;have Z:ed rl x=[]:=by unfold ed;rw [Y];simp
      have Lw:=ai (show f2=fv++(p.gs.take (k+1)).flatMap (ed rl) from by rw [VA.u,Z,eh];exact ak MU);clear Z Y;go_wp2_with fail
      go_region_held3 (fun w'=>w'.cell? ⟨ap,1,none⟩=some (.slice (some ⟨gg,0,none⟩) p.gs.length gc)/\w'.cell? ⟨gg,k*4,none⟩=some (.string x.ty)/\w'.cell? ⟨gg,k*4+1,none⟩=some (.string (b8 x))) (go_keep)
       ((go_at_call 132;refine (ak C).mono ?_;rintro e w5 ⟨rfl,ab⟩;have BB:=ai (show an wr w5 from (az _ wr).drew.trans ab);have d0:=am p1 BB.u;have d1:=am k0 BB.u;have d2:=am k1 BB.u;clear ab))
      exact XF
     rw [Y] at C;have Z:ed rl x=[j]:=by unfold ed;rw [Y];simp
     rw [Z] at tH;simp only [List.length_cons,List.length_nil] at tH;have Lw:=ai (show f2++[j]=fv++(p.gs.take (k+1)).flatMap (ed rl) from by rw [VA.u,Z,<-dc,<-ak MU]);have bc:(0:Int)<=(j:Int):=aj;clear Z Y;go_wp2_with fail
     go_region_held3 (fun w'=>w'.cell? ⟨ap,1,none⟩=some (.slice (some ⟨gg,0,none⟩) p.gs.length gc)/\w'.cell? ⟨gg,k*4,none⟩=some (.string x.ty)/\w'.cell? ⟨gg,k*4+1,none⟩=some (.string (b8 x))) (go_keep)
      ((go_at_call 132;refine (ak C).mono ?_;rintro e w5 ⟨rfl,ab⟩;have BB:=ai (show an wr w5 from (az _ wr).drew.trans ab);have d0:=am p1 BB.u;have d1:=am k0 BB.u;have d2:=am k1 BB.u;clear ab))
     exact XE
    refine Qy ?_;intro Qz hf2 Lw Gz;rw [aZ] at Gz;clear hb mm ae ad hrow hf2 Gz;have HF6:=ai (show f2=(lv.take (i+1)).flatMap (se (Lx rl) pl) from by rw [ak af,<-ak HF,Lw.u];rfl);exact Qv
  exact XG
def GB(b kv rv pv kl rl pl l n lv w)(h:DM w b kv rv pv kl rl pl l)(ad:gF pl n lv)(aE:lv.length<=1000)(af:∀m∈lv,∃p,pl[m]? =some p/\p.gs.length<=1000):
  Calls prog 253 #[.pointer (some ⟨b,5,none⟩),.int .i64 n] w fun e w'=>e=.returned (.bool (lv.any fun m=>decide (0<(jv pl m).length)))/\an w w':=by
 have am:=ai h;have ap:=ai af;have C:=ai (ad b kv rv pv kl rl l w h);generalize ae:(lv.any fun m=>decide (0<(jv pl m).length))=ac;have ab:=ai (ae:((lv.drop 0).any fun m=>decide (0<(jv pl m).length))=ac);clear h ad af ae;go_enter func253,ntmps253;go_wp2_with fail;refine C.u.mono ?_;rintro e w1 ⟨sv,rfl,U,V⟩;obtain ⟨aJ,aK,rfl⟩:=ax V;have ah:=ai U;have ay:=U.size;have au:=ai V;clear U V C;go_wp2_with fail
 go_loopw [6] (fun Y wr=>∃(i:Nat),i<=lv.length/\Y=.int .i64 i/\an w1 wr/\Hid (((lv.drop i).any fun m=>decide (0<(jv pl m).length))=ac)) (fun Y _=>lv.length-(intOf Y).toNat)
 case atStart=>exact ⟨0,aj,rfl,az _ _,ab⟩
 case round=>
  clear ab;obtain ⟨i,aD,rfl,D,I⟩:=hrel;have J:=ah.u.trans (D.mono ay);have al:=ai D;have Z:=ai J
  by_cases hlt:i<lv.length
  ·obtain ⟨q,aC,e1,aG⟩:=aS (aB au.u D) i (.int .i64 (lv[i]:Nat)) vE;simp only [aI,true_and] at e1;obtain ⟨rfl,rfl⟩:=e1;obtain ⟨p,hp,aF⟩:=ap.u _ (bn hlt);have A:=ak I;rw [dI hlt,j2] at A;have av:(i:Int)<(lv.length:Int):=aj;generalize lv[i]=m at*;have hd:=am.u.below J;refine AZ ?_;intro gp cp ga gc pa pc sa sc hpv hr q0 q1 q2 q3 q4 q5 q6 q7 hm hm';have R:jv pl m=p.gs:=by unfold jv;rw [hp]
   rw [R] at A;have c7:=hd.c7;rw [hpv] at c7
   by_cases ag:0<p.gs.length
   ·rw [m4 ag,Bool.true_or] at A;have Q:=ai A;have aw:(0:Int)<(p.gs.length:Int):=aj;clear D J hd hr hp hpv R I A;go_wp2
    go_quiet (fail)
    go_wp2;go_ret;exact ⟨by rw [<-Q.u];rfl,below_drewN Z.u _⟩
   rw [m5 ag,Bool.false_or] at A;have ar:=ai A;have aw:¬((0:Int)<(p.gs.length:Int)):=aj;clear D J hd hr hp hpv R I A;go_wp2
   go_quiet (fail)
   go_wp2;go_roundw
   case rel=>exact ⟨i+1,aj,by go_num,below_drewN al.u _,ar⟩
   case measure=>simp [intOf];omega
  have av:¬((i:Int)<(lv.length:Int)):=aj;have A:=ak I;rw [ei aj,List.any_nil] at A;have Q:=ai A;clear D J I A;go_wp2;go_ret;exact ⟨by rw [<-Q.u];rfl,Z.u⟩
abbrev sf:=@List.nodup_append
def mB(rl:List RV)(pl:List PV)(kd:ae)(n:Nat)(lv:List Nat):Prop:=gF pl n lv/\lv.length<=1000/\∀m∈lv,∃p,pl[m]? =some p/\p.gs.length<=1000/\(p.kind=2->0<=aY kd p.nr rl 0)/\(p.kind=3->0<=aY kd p.nb rl 0)
def h7(rl:List RV)(pl:List PV)(h:Nat->List Gr)(kd:ae)(lv:List Nat):List Nat:=lv.flatMap (se (fZ rl h kd) pl)
def MW(rl:List RV)(pl:List PV)(lv:List Nat):List Nat:=lv.flatMap (se (Lx rl) pl)
def fw(rl:List RV)(pl:List PV)(h:Nat->List Gr)(kd:ae)(lv A:List Nat):List Nat:=h7 rl pl h kd lv++(if (lv.any fun m=>decide (0<(jv pl m).length))=true then MW rl pl A else [])
def mB.gs{lv}(h:mB rl pl kd n lv):∀m∈lv,∃p,pl[m]? =some p/\p.gs.length<=1000:=fun m A=>by
 obtain ⟨p,h1,h2,_⟩:=h.2.2 m A;exact ⟨p,h1,h2⟩
def vM(b kv rv pv kl rl pl l dE kd n ex lv BT w)(h:DM w b kv rv pv kl rl pl l)(aH:nO rl pl dE)(J:mB rl pl kd n lv)(aG:mB rl pl kd ex BT)(h1:(h7 rl pl dE kd lv).length<=1000000000)(h2:(MW rl pl BT).length<=1000000000):
  Calls prog 231 #[.pointer (some ⟨b,5,none⟩),.string kd,.int .i64 n,.int .i64 ex] w fun e w'=>∃sv,e=.returned sv/\an w w'/\w'.ownsRow w.heap.size 3 1 sv (fw rl pl dE kd lv BT).length ((fw rl pl dE kd lv BT).map fun n:Nat=> .int .i64 n):=by
 obtain ⟨aV,aO,aQ,aR,aS⟩:=bK Tryz.infoInt;have ay:=ai aO;have az:=ai aQ;have aC:=ai aR;have aD:=ai aS;have Z:=ai h;have R:=ai J;have Q:=ai aG;have C:=ai (vL b kv rv pv kl rl pl l dE kd n lv _ w h aH J.1 J.2.1 J.2.2 rfl h1);generalize aI:fw rl pl dE kd lv BT=ad;have ab:=ai aI;change Hid (Calls _ _ _ _ fun e w'=>∃sv,e=.returned sv/\an w w'/\w'.ownsRow w.heap.size 3 1 sv (h7 rl pl dE kd lv).length ((h7 rl pl dE kd lv).map fun n:Nat=> .int .i64 n)) at C;generalize aK:h7 rl pl dE kd lv=T at*;have ac:=ai aK;go_enter func231,ntmps231;go_wp2_with fail;refine (ak C).mono ?_;rintro e w1 ⟨sv,rfl,ag,al⟩;obtain ⟨aW,aX,rfl⟩:=ax al;have V:=ai ag;have aY:=ag.size;have av:=ai al;have C:=ai (GB b kv rv pv kl rl pl l n lv w1 (Z.u.below V.u) R.u.1 R.u.2.1 R.u.gs);go_wp2_with fail;refine (ak C).mono ?_;rintro e U ⟨rfl,ah⟩;have D:=ai (V.u.trans (ah.mono aY));have aZ:=D.u.size;have ae:=ai (aB av.u ah)
 cases hl:(lv.any fun m=>decide (0<(jv pl m).length))
 ·have ar:=ai (by rw [<-ab.u,fw,ac.u,hl];simp:T=ad);go_wp2;go_ret;rw [<-ar.u];exact ⟨_,rfl,D.u,ae.u⟩
 ·have C:=ai (A0 b kv rv pv kl rl pl l ex BT _ U (Z.u.below D.u) Q.u.1 Q.u.2.1 Q.u.gs rfl h2);change Hid (Calls _ _ _ _ fun e w'=>∃sv,e=.returned sv/\an U w'/\w'.ownsRow U.heap.size 3 1 sv (MW rl pl BT).length ((MW rl pl BT).map fun n:Nat=> .int .i64 n)) at C;generalize aL:MW rl pl BT=I at*;have aw:=ai aL;go_wp2_with fail;refine (ak C).mono ?_;rintro e a3 ⟨sv,rfl,aj,am⟩;obtain ⟨ta,tc,rfl⟩:=ax am;have Y:=ai (D.u.trans (aj.mono aZ));have a0:=Y.u.size;have af:=ai (aB ae.u aj);have aF:=ai am;go_wp2_with (at_builtin;go_must (refine gP rfl _ _ 29 rfl w.heap.size 3 aV _ 1 8 underlying29 ay.u az.u aC.u aD.u rfl au (.slice aW T.length aX) T.length (T.map fun n:Nat=> .int .i64 n) rfl af.u (.slice ta I.length tc) I.length (I.map fun n:Nat=> .int .i64 n) rfl _ aF.u ?hone ?h63 ?hbytes a0 ?hrest))
  case hone=>
   exact Gx
  case h63=>unfold maxLen;omega
  case hbytes=>omega
  intro a1 cv a4 aP aM a2;have ap:=ai (fM Y.u af.u aM);have aE:=ai aP;go_wp2;go_ret;have aJ:T++I=ad:=by rw [<-ab.u,fw,ac.u,hl,aw.u];simp
  rw [<-aJ];exact ⟨_,rfl,ap.u,by simpa using aE.u⟩
def i7(o:List Nat)(x:Nat):List Nat:=if (o.any fun k=>k==x) then o else o++[x]
def lI(o l:List Nat):List Nat:=l.foldl i7 o
def vN(H:Nat->List Nat):Nat->List Nat->Nat->List Nat
 |0,o,_=>o
 |f+1,o,i=>match o[i]? with
  |none=>o
  |some r=>vN H f (lI o (H r)) (i+1)
def gQ(s:List Nat)(m:Nat)(o:List Nat):Prop:=∃ex,o=s++ex/\ex.Nodup/\∀x∈ex,x<m
def Dx:∀(m:Nat)(l:List Nat),l.Nodup->(∀x∈l,x<m)->l.length<=m
 |0,l,_,h=>by
  cases l with
  |nil=>simp
  |cons a l=>have:=h a ar;omega
 |m+1,l,hn,h=>by
  have h1:(l.erase m).Nodup:=hn.erase m;have h2:∀x∈l.erase m,x<m:=fun x C=>by
   have:=(List.Nodup.mem_erase_iff hn).1 C;have:=h x this.2;omega
  have D:=Dx m _ h1 h2;have A:=List.length_erase (a:=m) (l:=l)
  split at A<;>omega
def gQ.le{s o}(h:gQ s m o):o.length<=s.length+m:=by
 obtain ⟨ex,rfl,h1,h2⟩:=h;have:=Dx m ex h1 h2;simp;omega
def gQ.add{s o}(h:gQ s m o){x}(I:x<m):gQ s m (i7 o x):=by
 obtain ⟨ex,rfl,h1,h2⟩:=h;unfold i7
 cases ha:(s++ex).any (fun k=>k==x)
 ·refine ⟨ex++[x],ar,?_,?_⟩
  ·rw [sf];refine ⟨h1,ar,?_⟩;intro a C c hc D;simp at hc;subst hc;subst D;rw [jk] at ha;exact ha a (by simp [C]) ar
  intro y A;rw [aQ,aR] at A
  rcases A with A|rfl
  ·exact h2 y A
  exact I
 exact ⟨ex,rfl,h1,h2⟩
def Dy:∀(o l:List Nat),o.length<=(lI o l).length
 |o,[]=>bY _
 |o,y::l=>by
  have h1:=Dy (i7 o y) l;have h2:o.length<=(i7 o y).length:=by unfold i7;split<;>simp
  exact aP h2 h1
def GC(o l:List Nat)(j:Nat)(h:j<l.length):lI o (l.take (j+1))=i7 (lI o (l.take j)) l[j]:=by
 unfold lI;rw [cJ h,List.foldl_append]
 rfl
def gQ.lt{s o}(h:gQ s m o)(hs:∀x∈s,x<m):∀x∈o,x<m:=by
 obtain ⟨ex,rfl,h1,h2⟩:=h;intro x A
 rcases aQ.1 A with A|A
 ·exact hs x A
 exact h2 x A
def nP(rl:List RV)(pl:List PV)(h:Nat->List Gr)(A:Nat->List Nat)(r:Nat):List Nat:=match rl[r]? with
 |some x=>h7 rl pl h x.kd (A x.ex)
 |none=>[]
def lg(rl:List RV)(pl:List PV)(A:Nat->List Gr)(h:Nat->List Nat):Prop:=∀x∈rl,mB rl pl x.kd x.ex (h x.ex)/\(h7 rl pl A x.kd (h x.ex)).length<=1000000000/\∀r∈h7 rl pl A x.kd (h x.ex),r<rl.length
def A2(rl:List RV)(pl:List PV)(h:Nat->List Gr)(A:Nat->List Nat)(S:List Nat):List Nat:=vN (nP rl pl h A) (S.length+rl.length+1) S 0
def xB(h:w.ownsRow base e size v n xs)
  (k:∀g cs f,v.ownBlock=some g->w.heap[g]? =some (.cells cs e f)->w'.heap[g]? =w.heap[g]?):w'.ownsRow base e size v n xs:=by
 obtain ⟨h1,h2⟩:=h;refine ⟨h1,?_⟩
 rcases h2 with h2|⟨g,cap,A,hv,D,C,r⟩
 ·exact Or.inl h2
 ·exact Or.inr ⟨g,cap,A,hv,D,(k g A (0,0) (by rw [hv];rfl) C).trans C,r⟩
def Ly{w6 s1 xs1}(h1:W.ownsRow b1 E s1 v1 n1 xs1)(h:W.grownBy w6 v.ownBlock)(D:∀q,v1.ownBlock=some q->v.ownBlock≠some q):w6.ownsRow b1 E s1 v1 n1 xs1:=
 xB h1 (fun g cs f A C=>h.block g (lt_of_some C) (fun e=>D g A e.symm))
def QD(b kv rv pv kl rl pl l dE fk kd n ex lv BT w)(h:DM w b kv rv pv kl rl pl l)(aZ:nO rl pl dE)(bk:mB rl pl kd n lv)(bh:mB rl pl kd ex BT)(h1:(h7 rl pl dE kd lv).length<=1000000000)(h2:(MW rl pl BT).length<=1000000000)(bl:lg rl pl dE fk)(bo:∀r∈fw rl pl dE kd lv BT,r<rl.length)(cp:(fw rl pl dE kd lv BT).length<=900000000):
  Calls prog 193 #[.pointer (some ⟨b,5,none⟩),.string kd,.int .i64 n,.int .i64 ex] w fun e w'=>∃sv,e=.returned sv/\an w w'/\w'.ownsRow w.heap.size 3 1 sv (A2 rl pl dE fk (fw rl pl dE kd lv BT)).length ((A2 rl pl dE fk (fw rl pl dE kd lv BT)).map fun n:Nat=> .int .i64 n):=by
 obtain ⟨b9,bw,bA,bB,bC⟩:=bK Tryz.infoInt;have bU:=ai bw;have bV:=ai bA;have bW:=ai bB;have bX:=ai bC;clear bw bA bB bC;obtain ⟨cB,rc,rfl⟩:=ax h.rt;have bG:=ai h;have bJ:=ai aZ;have bS:=ai bl;have cz:=h.rn;have C:=ai (vM b kv _ pv kl rl pl l dE kd n ex lv BT w h aZ bk bh h1 h2);generalize fw rl pl dE kd lv BT=S at*;have bT:=ai bo;generalize bg:A2 rl pl dE fk S=ba;have a6:=ai (bg:vN (nP rl pl dE fk) (S.length+rl.length+1) S 0=ba);clear h aZ bk bh h1 h2 bl bo bg;go_enter func193,ntmps193;go_wp2_with fail;refine (ak C).mono ?_;rintro e w1 ⟨sv,rfl,br,a1⟩;obtain ⟨cd,ce,rfl⟩:=ax a1;have a4:=ai br;have a9:=ai a1;clear br a1 C;go_wp2_with fail
 go_loopg [9,10] (S.length+rl.length+1) (fun k a3 ch wr=>∃(i:Nat)(o:List Nat)(J:Option Addr)(oc:Nat),ch=.int .i64 i/\a3=.slice J o.length oc/\i<=o.length/\k=S.length+rl.length+1-i/\an w wr/\wr.ownsRow w.heap.size 3 1 (.slice J o.length oc) o.length (o.map fun n:Nat=> .int .i64 n)/\Hid (gQ S rl.length o/\vN (nP rl pl dE fk) k o i=ba))
 case atStart=>exact ⟨0,S,cd,ce,rfl,rfl,aj,aj,a4.u,a9.u,ai ⟨⟨[],ar,ar,ar⟩,a6.u⟩⟩
 case round=>
  clear a4 a9 a6;obtain ⟨i,o,J,oc,rfl,rfl,cq,rfl,Q,Y,ae⟩:=hrel;have cu:=(ak ae).1.le;have ac:=ai Q;have Z:=ai Y;have b7:=Q.size
  by_cases hlt:i<o.length
  ·have b5:(i:Int)<(o.length:Int):=by omega
   have a0:=(ak ae).1.lt bT.u _ (bn hlt);obtain ⟨q,cm,e1,al⟩:=aS Y i (.int .i64 (o[i]:Nat)) vE;simp only [aI,true_and] at e1;obtain ⟨rfl,rfl⟩:=e1;obtain ⟨aK,R⟩:=ak ae;rw [show S.length+rl.length+1-i=(S.length+rl.length-i)+1 by omega,vN,aH hlt] at R;simp only at R;generalize o[i]=r at*;have ay:=bG.u.below Q;obtain ⟨gr,cr,e1,bD,cj,ck,bE⟩:=ay.rat r rl[r] (aH a0);simp only [aI,true_and] at e1;obtain ⟨rfl,rfl⟩:=e1;obtain ⟨aJ,b3,bt⟩:=bS.u _ (bn a0);have bv:nP rl pl dE fk r=h7 rl pl dE rl[r].kd (fk rl[r].ex):=by unfold nP;rw [aH a0]
   rw [bv] at R;have cy:(r:Int)<(rl.length:Int):=aj;have c6:=ay.c6;generalize rl[r]=x at*;have C:=ai (vL b kv _ pv kl rl pl l dE x.kd x.ex (fk x.ex) _ wr.drew (ay.below bj.drew) bJ.u aJ.1 aJ.2.1 aJ.2.2 rfl b3);change Hid (Calls _ _ _ _ fun e w'=>∃sv,e=.returned sv/\Below wr.drew.heap.size wr.drew w'/\w'.ownsRow wr.drew.heap.size 3 1 sv (h7 rl pl dE x.kd (fk x.ex)).length ((h7 rl pl dE x.kd (fk x.ex)).map fun n:Nat=> .int .i64 n)) at C;generalize h7 rl pl dE x.kd (fk x.ex)=hl at*;have bM:=ai bt;have bP:=ai aK;have bQ:=ai R;clear Q Y ay aJ bv bt aK R ae;go_wp2_with fail
   go_region_held3 (fun w'=>w'.cell? ⟨b,6,none⟩=some (.slice (some ⟨gr,0,none⟩) rl.length rc)/\w'.cell? ⟨q,i,none⟩=some (.int .i64 r)/\w'.cell? ⟨gr,r*4,none⟩=some (.string x.kd)/\w'.cell? ⟨gr,r*4+3,none⟩=some (.int .i64 x.ex)) (go_keep)
    ((go_at_call 232;refine (ak C).mono ?_;rintro e w5 ⟨sv,rfl,bs,bz⟩;have ab:=ai ((az _ wr).drew.trans bs:an wr w5);have d0:=am c6 ab.u;have d1:=am al ab.u;have d2:=am bD ab.u;have d3:=am bE ab.u;have aP:=ai bz;obtain ⟨ha,ag,rfl⟩:=ax aP.u;clear bs bz))
   clear c6 al bD cj ck bE d0 d1 d2 d3 C;have a5:=ai (ac.u.trans (ab.u.mono b7));have bb:=ai (aB Z.u ab.u);have aR:=ai (ak aP:w5.ownsRow wr.heap.size 3 1 (.slice ha hl.length ag) hl.length (hl.map fun n:Nat=> .int .i64 n));have a8:=ai (show ∀I,(Value.slice ha hl.length ag).ownBlock=some I->(Value.slice (some ⟨q,0,none⟩) o.length oc).ownBlock≠some I/\I<w5.heap.size from fun I ah=>by
    have e1:=aR.u.lt I ah;refine ⟨fun aX=> ?_,e1.2⟩;have aY:=(Z.u.lt I aX).2;omega)
   clear ac Z ab aP;go_wp2_with fail
   go_loopw [9,12] (fun a3 a2 aN=>∃(j:Nat)(D:List Nat)(J:Option Addr)(oc:Nat),a2=.int .i64 j/\a3=.slice J D.length oc/\j<=hl.length/\an w aN/\w5.heap.size<=aN.heap.size/\aN.ownsRow w.heap.size 3 1 (.slice J D.length oc) D.length (D.map fun n:Nat=> .int .i64 n)/\aN.ownsRow wr.heap.size 3 1 (.slice ha hl.length ag) hl.length (hl.map fun n:Nat=> .int .i64 n)/\
    Hid (lI o (hl.take j)=D/\gQ S rl.length D/\∀I,(Value.slice ha hl.length ag).ownBlock=some I->(Value.slice J D.length oc).ownBlock≠some I/\I<w5.heap.size)) (fun _ a2 _=>hl.length-(intOf a2).toNat)
   case atStart=>exact ⟨0,o,_,oc,rfl,rfl,aj,a5.u,bY _,bb.u,aR.u,ai ⟨rfl,bP.u,a8.u⟩⟩
   case round=>
    clear a5 bb aR a8;obtain ⟨j,D,J,oc,rfl,rfl,ct,Q,cA,Y,aG,U⟩:=hrel;have cw:=(ak U).2.1.le;have ac:=ai Q;have Z:=ai Y;have a7:=ai aG;have b6:=Q.size
    by_cases aF:j<hl.length
    ·have b4:(j:Int)<(hl.length:Int):=by omega
     obtain ⟨cf,co,e1,al⟩:=aS aG j (.int .i64 (hl[j]:Nat)) (by simp [aH aF]);simp only [aI,true_and] at e1;obtain ⟨rfl,rfl⟩:=e1;have av:=ai (GC o hl j aF);have b8:=bM.u _ (bn aF);have cl:=ai (aH aF);generalize hl[j]=y at*;rw [(ak U).1] at av;have C:=ai (Dr w.heap.size _ D y wr Y aj);clear Q Y aG;go_wp2_with fail;refine (ak C).mono ?_;rintro e aM ⟨rfl,ad⟩;have ap:=ai (ac.u.trans (ad.mono b6));have aw:=ai (aB Z.u ad);have aW:=ai (aB a7.u ad);have cC:=ad.size;have cg:=ap.u.size;have cb:=am al ad;clear ad C ac Z a7 al;have V:=ak av;unfold i7 at V
     cases af:(D.any fun k=>k==y)
     ·rw [af] at V;simp only [bH,aV] at V;have bp:i7 D y=D++[y]:=by unfold i7;rw [af];simp
      have aO:=(ak U).2.1.add b8;rw [bp] at aO;have bL:=ai aO;have aQ:=ai V;clear af V av bp aO;go_wp2_with (at_builtin;go_must (refine bI _ rfl _ _ 29 rfl w.heap.size 3 b9 _ 1 8 underlying29 bU.u bV.u bW.u bX.u rfl au (.slice J D.length oc) D.length (D.map fun n:Nat=> .int .i64 n) rfl (aw.u.alloc _) ⟨aM.heap.size,0,none⟩ 1 1 [.int .i64 y] rfl rfl ?hnews ?hone au ?h63 ?hbytes ?hbase (aM.heap.size+1) ?hH ?hrest))
      case hnews=>exact bu (B:=aM.heap.size) (cs:=#[.int .i64 y]) (t:=3) (fr:=(0,0)) (aE.new' _ _ _ _ rfl)
      case hone=>
       exact pD
      case h63=>unfold maxLen;omega
      case hbytes=>omega
      case hbase=>simp;omega
      case hH=>simp
      intro bf bc ci bx aC bq b2;have bF:=ai (fM (ap.u.alloc cg _) (aw.u.alloc _) aC);have bZ:=ai (Ly (aW.u.alloc _) aC (fun I ah=>((ak U).2.2 I ah).1));have b0:=ai bx;have cD:aM.heap.size<=ci.heap.size:=by have:=aC.size;simp at this;omega
      have bO:=ai (show ∀I,(Value.slice (some ⟨cf,0,none⟩) hl.length ag).ownBlock=some I->(Value.slice (some ⟨bf,0,none⟩) (D++[y]).length bc).ownBlock≠some I/\I<w5.heap.size from fun I ah=>by
       obtain ⟨e1,aX⟩:=(ak U).2.2 I ah;refine ⟨fun aY=> ?_,aX⟩;simp only [Value.ownBlock,aL] at aY
       rcases bq with be|be
       ·exact e1 (by rw [be,aY])
       omega)
      clear bx aC bq b2 ap aw aW cb;go_wp2;go_roundw
      case rel=>exact ⟨j+1,D++[y],some ⟨bf,0,none⟩,bc,by go_num,ar,aj,bF.u,aj,by simpa using b0.u,bZ.u,ai ⟨aQ.u,bL.u,bO.u⟩⟩
      case measure=>simp [intOf];omega
     rw [af] at V;simp only [if_true] at V;have aQ:=ai V;clear af V av;go_wp2;go_roundw
     case rel=>exact ⟨j+1,D,J,oc,by go_num,rfl,aj,ap.u,aj,aw.u,aW.u,ai ⟨aQ.u,(ak U).2.1,(ak U).2.2⟩⟩
     case measure=>simp [intOf];omega
    have b4:¬((j:Int)<(hl.length:Int)):=aj;have aD:=(ak U).1;rw [dy aj] at aD;have bN:=ai aD;have cx:o.length<=D.length:=by
     have:=Dy o hl;rw [aD] at this;exact this
    clear Q Y aG aD;go_wp2
    go_roundg (S.length+rl.length-i)
    case measure=>omega
    case rel=>exact ⟨i+1,D,J,oc,by go_num,rfl,aj,aj,ac.u,Z.u,ai ⟨(ak U).2.1,by rw [<-bN.u];exact bQ.u⟩⟩
  have b5:¬((i:Int)<(o.length:Int)):=aj;obtain ⟨aK,R⟩:=ak ae;rw [show S.length+rl.length+1-i=(S.length+rl.length-i)+1 by omega,vN,kR aj] at R;simp only at R;have bR:=ai R;clear Q Y aK R;go_wp2;go_ret;rw [<-bR.u];exact ⟨_,rfl,ac.u,Z.u⟩
