import Derived.Test.YtlbpnlngckgcbaaGreatDoorM15
set_option linter.all false
set_option maxHeartbeats 4000000
set_option maxRecDepth 100000
namespace Go.Proofs.YtlbpnlngckgcbaaGreatDoor
open Go.RowKit Go.PlainAid Go.Proofs.Tryz
variable {aA aU:Prop}
abbrev GD:=@List.drop_append_of_le_length
def vO (h:aA:=by
 have A:=ai EW;clear EW GF;go_wp2;go_roundw
 case rel=>exact ⟨j+1,_,aj,aj,by go_num,rfl,B7.u,C7.u,A⟩
 case measure=>simp [intOf];omega):aA:=h
def minus(t:Tk):Bool:=(mk t.text).toList== [45]
def Ug(bad:Nat->Bool):List Nat->List Tk->Int->Int
 |m::ms,t::ts,c=>Ug bad ms ts (if minus t&&bad m then ey c t.place else c)
 |_,_,c=>c
def oW(bad:Nat->Bool)(pl:List PV):Nat->List Nat->Int->Int
 |0,_,c=>c
 |_+1,[],c=>c
 |f+1,n::q,c=>match pl[n]? with
  |none=>oW bad pl f q c
  |some p=>oW bad pl f (q++p.ps) (Ug bad (p.ps.drop 1) (p.sg.drop 1) c)
def vP(rl:List RV)(pl:List PV)(A:Nat->List Gr)(h:Nat->List Nat)(i:Nat)(x:RV)(m:Nat):Bool:=(A2 rl pl A h (fw rl pl A x.kd (h m) (h x.ex))).any fun k=>k==i
structure GG(rl:List RV)(pl:List PV)(dE:Nat->List Gr)(fk:Nat->List Nat)(x:RV)(Q:Nat->Prop)(sz:Nat->Nat):Prop where
 root:Q x.ex
 szr:sz x.ex<=1000
 step:∀n,Q n->∃p,pl[n]? =some p/\p.sg.length<=p.ps.length/\(p.ps.map sz).sum<sz n/\∀m∈p.ps,Q m/\mB rl pl x.kd m (fk m)/\(h7 rl pl dE x.kd (fk m)).length<=1000000000/\(∀r∈fw rl pl dE x.kd (fk m) (fk x.ex),r<rl.length)/\(fw rl pl dE x.kd (fk m) (fk x.ex)).length<=900000000
 ex:mB rl pl x.kd x.ex (fk x.ex)/\(MW rl pl (fk x.ex)).length<=1000000000
def GH(sz):∀(l:List Nat),(∀m∈l,0<sz m)->l.length<=(l.map sz).sum
 | [],_=>ar
 |a::l,h=>by
  have h1:=h a ar;have h2:=GH sz l (fun m hm=>h m Jj);simp only [List.length_cons,List.map_cons,List.sum_cons];omega
def loopsR(rl:List RV)(pl:List PV)(h:Nat->List Gr)(A:Nat->List Nat)(C:RV->Nat->Nat):List RV->Nat->Int->Int
 | [],_,c=>c
 |x::xs,i,c=>loopsR rl pl h A C xs (i+1) (oW (vP rl pl h A i x) pl (C x x.ex+1) [x.ex] c)
def nQ{s m}:∀(l o:List Nat),gQ s m o->(∀x∈l,x<m)->gQ s m (lI o l)
 | [],o,h,_=>h
 |y::l,o,h,hl=>nQ l (i7 o y) (h.add (hl y ar)) (fun x A=>hl x (by simp [A]))
def vQ{s m}(H)(A:∀r,∀x∈H r,x<m):∀(f:Nat)(o:List Nat)(i:Nat),gQ s m o->gQ s m (vN H f o i)
 |0,o,i,h=>h
 |f+1,o,i,h=>by
  rw [vN]
  split
  ·exact h
  exact vQ H A f _ _ (nQ _ _ h (A _))
def QE(rl pl dE fk)(h:lg rl pl dE fk)(S):(A2 rl pl dE fk S).length<=S.length+rl.length:=by
 refine gQ.le (vQ _ (fun r x A=> ?_) _ _ _ ⟨[],ar,ar,ar⟩);unfold nP at A
 cases C:rl[r]? with
 |none=>rw [C] at A;simp at A
 |some y=>
  rw [C] at A;exact (h y (bA C)).2.2 x A
def GJ(b kv rv pv kl rl pl l)(I:Nat->List Gr)(C:Nat->List Nat)(aX:RV->Nat->Prop)(D:RV->Nat->Nat)(w)(h:DM w b kv rv pv kl rl pl l)(bN:nO rl pl I)(bQ:lg rl pl I C)(bR:∀x∈rl,GG rl pl I C x (aX x) (D x)):
  Calls prog 130 #[.pointer (some ⟨b,5,none⟩)] w fun e w'=>e=.returned (.int .i64 (loopsR rl pl I C D rl 0 (-1)))/\an w w':=by
 obtain ⟨dc,bW,b7,b8,b9⟩:=bK Tryz.infoInt;have cH:=ai bW;have cI:=ai b7;have cJ:=ai b8;have cK:=ai b9;clear bW b7 b8 b9;obtain ⟨dM,rc,rfl⟩:=ax h.rt;have Z:=ai h;have cz:=ai bN;have bC:=ai bQ;have cE:=ai bR;have dG:=h.rn;generalize bM:loopsR rl pl I C D rl 0 (-1)=bE;have bw:=ai (bM:loopsR rl pl I C D (rl.drop 0) 0 (-1)=bE);clear h bN bQ bR bM;go_enter func130,ntmps130;go_wp2_with fail
 go_loopw [3,4] (fun ah bs wr=>∃(i:Nat)(c:Int),i<=rl.length/\bs=.int .i64 i/\ah=.int .i64 c/\an w wr/\Hid (loopsR rl pl I C D (rl.drop i) i c=bE)) (fun _ bs _=>rl.length-(intOf bs).toNat)
 case atStart=>exact ⟨0,-1,aj,rfl,rfl,az _ _,bw⟩
 case round=>
  clear bw;obtain ⟨i,c,hi,rfl,rfl,hb,HQ⟩:=hrel;have c6:=(Z.u.below hb).c6;have HB:=ai hb;have b6:=hb.size
  by_cases bc:i<rl.length
  ·have c2:(i:Int)<(rl.length:Int):=by omega
   obtain ⟨gr,cr,e1,bJ,cQ,cR,aY⟩:=Z.u.rat i rl[i] (aH bc);simp only [aI,true_and] at e1;obtain ⟨rfl,rfl⟩:=e1;have hq:=ak HQ;rw [dI bc,loopsR] at hq;have bi:=cE.u _ (bn bc);generalize rl[i]=x at*;have aL:=am aY hb;have cF:=ai bJ;have cG:=ai aY;have ac:=ai bi;have dH:=bi.szr;generalize bU:oW (vP rl pl I C i x) pl (D x x.ex+1) [x.ex] c=cP at hq;have bx:=ai bU;have cB:=ai hq;have bL:an wr (wr.alloc (.cells #[.int .i64 x.ex] 3)):=bj.alloc aD _;have bt:=ai (HB.u.trans (bL.mono b6));have bG:=ai (⟨rfl,.inr ⟨wr.heap.size,1,#[.int .i64 x.ex],rfl,b6,aE.new wr _ _,aj,by unfold maxLen;omega,rfl,rfl⟩⟩:(wr.alloc (.cells #[.int .i64 x.ex] 3)).ownsRow w.heap.size 3 1 (.slice (some ⟨wr.heap.size,0,none⟩) 1 1) 1 ([x.ex].map fun n:Nat=> .int .i64 n));clear hb HQ hq bi bJ cQ cR aY bU bL;go_wp2_with fail
   go_loopg [3,5,6] (D x x.ex+1) (fun gk ah di dj al=>∃(k:Nat)(inn:List Nat)(bk:Option Addr)(aG:Nat)(c:Int),dj=.int .i64 k/\di=.slice bk inn.length aG/\ah=.int .i64 c/\k<=inn.length/\gk=D x x.ex+1-k/\an w al/\al.ownsRow w.heap.size 3 1 (.slice bk inn.length aG) inn.length (inn.map fun n:Nat=> .int .i64 n)/\Hid (k+((inn.drop k).map (D x)).sum<=D x x.ex/\(∀m∈inn.drop k,aX x m)/\oW (vP rl pl I C i x) pl gk (inn.drop k) c=cP))
   case atStart=>exact ⟨0,[x.ex],_,1,c,rfl,rfl,rfl,aj,aj,bt.u,bG.u,ai ⟨ar,fun m J=>by simp at J;subst J;exact ac.u.root,bx.u⟩⟩
   case round=>
    clear bt bG bx aL c6;obtain ⟨k,inn,bk,aG,c,rfl,rfl,rfl,dC,rfl,hb,aF,ab⟩:=hrel;have HB:=ai hb;have bD:=ai aF;have da:=hb.size;have bg:∀m∈inn.drop k,0<D x m:=fun m J=>by
     obtain ⟨p,_,_,cU,_⟩:=ac.u.step m ((ak ab).2.1 m J);omega
    have c4:=GH (D x) (inn.drop k) bg;have dK:=(ak ab).1;rw [m2] at c4
    by_cases bY:k<inn.length
    ·have c3:(k:Int)<(inn.length:Int):=by omega
     obtain ⟨q,dv,e1,cb⟩:=aS aF k (.int .i64 (inn[k]:Nat)) (by simp [aH bY]);simp only [aI,true_and] at e1;obtain ⟨rfl,rfl⟩:=e1;obtain ⟨ag,ad,V⟩:=ak ab;rw [dI bY] at ag ad V;obtain ⟨p,aC,dF,dL,aw⟩:=ac.u.step inn[k] (ad inn[k] List.mem_cons_self);rw [show D x x.ex+1-k=(D x x.ex-k)+1 by omega,oW,aC] at V;simp only [List.map_cons,List.sum_cons] at ag;generalize inn[k]=m at*;obtain ⟨U,cT,ga,gc,pa,pc,sa,sc,b4,bh,cd,ce,cf,cg,ch,ci,cj,ck⟩:=Z.u.pat m p aC;have J:=(br.1 aC).1;have dD:(m:Int)<(pl.length:Int):=aj;have c7:=(Z.u.below hb).c7;rw [b4] at c7;have bA:=ai bh.p;have cD:=ai bh.s;have cy:=ai aw;have cA:=ai V;have dE:p.ps.length<=1000:=by
      have c8:∀m∈p.ps,0<D x m:=fun m J=>by
       obtain ⟨p,_,_,cU,_⟩:=ac.u.step m (aw m J).1;omega
      have:=GH (D x) p.ps c8;omega
     have bO:(k+1)+(((inn++p.ps).drop (k+1)).map (D x)).sum<=D x x.ex:=by
      rw [GD aj,List.map_append,List.sum_append];omega
     have bP:∀m∈(inn++p.ps).drop (k+1),aX x m:=fun m J=>by
      rw [GD aj] at J
      rcases aQ.1 J with J|J
      ·exact ad m (List.mem_cons_of_mem _ J)
      exact (aw m J).1
     have bB:=ai (And.intro bO bP);have cu:=am cd hb;have dl:=am ce hb;have dm:=am cf hb;have dn:=am cg hb;have dp:=am ch hb;have dr:=am ci hb;have ds:=am cj hb;have dt:=am ck hb;have dd:=cm wr _ c7;have mk:=cm wr _ cb;have de:=cm wr _ cu;clear hb aF bh aC b4 aw ag ad V ab bO bP cd ce cf cg ch ci cj ck bg;go_wp2_with fail
     go_region_held3 (fun w'=>w'.cell? ⟨b,7,none⟩=some (.slice (some ⟨U,0,none⟩) pl.length cT)/\w'.cell? ⟨q,k,none⟩=some (.int .i64 m)/\w'.cell? ⟨U,m*8,none⟩=some (.int .i64 p.kind)/\w'.cell? ⟨U,m*8+1,none⟩=some (.slice ga p.gs.length gc)/\w'.cell? ⟨U,m*8+2,none⟩=some (.string p.nb)/\w'.cell? ⟨U,m*8+3,none⟩=some (.string p.nr)/\w'.cell? ⟨U,m*8+4,none⟩=some (.int .i64 p.pa)/\w'.cell? ⟨U,m*8+5,none⟩=some (.int .i64 p.pr)/\w'.cell? ⟨U,m*8+6,none⟩=some (.slice pa p.ps.length pc)/\w'.cell? ⟨U,m*8+7,none⟩=some (.slice sa p.sg.length sc)) (go_keep) (fail)
     rename_i cZ;clear cZ cu dl dm dn dp dr ds dt c7 cb dd mk de;refine Gy ?_;intro b2 MV;have ap:=ai (HB.u.trans (b2.mono da));have av:=ai (aB bD.u b2);have dh:=ap.u.size;obtain ⟨bl,p1,p2,bo,bp,bq,aJ,aK⟩:=MV.u.eight;have dg:=MV.u.lt;have bI:=ai (aB bA.u ap.u);clear b2 HB bD;generalize (wr.alloc (dq p.kind ga p.gs.length gc p.nb p.nr p.pa p.pr pa p.ps.length pc sa p.sg.length sc)).drew=du at*;generalize wr.heap.size=df at*;go_wp2_with (at_builtin;go_must (refine gP rfl _ _ 29 rfl w.heap.size 3 dc _ 1 8 underlying29 cH.u cI.u cJ.u cK.u rfl au (.slice (some ⟨q,0,none⟩) inn.length aG) inn.length (inn.map fun n:Nat=> .int .i64 n) rfl av.u (.slice pa p.ps.length pc) p.ps.length (p.ps.map fun n:Nat=> .int .i64 n) rfl _ bI.u ?nj ?nk ?ew dh ?jm))
     case nj=>
      exact Gx
     case nk=>unfold maxLen;omega
     case ew=>omega
     intro cS cv dk b0 ba cY;have cw:=ai (fM ap.u av.u ba);have cN:=ai (sd MV.u av.u ba au);have cM:=ai b0;clear b0 ba cY ap av MV bI bl p1 p2 bo bp bq aJ aK dg;go_wp2_with fail;have dJ:p.sg.length<=1000:=aj
     go_loopw [3,8] (fun ah u8 al=>∃(j:Nat)(Q:Int),1<=j/\j<=p.sg.length+1/\u8=.int .i64 j/\ah=.int .i64 Q/\an w al/\an dk al/\Hid (Ug (vP rl pl I C i x) (p.ps.drop j) (p.sg.drop j) Q=Ug (vP rl pl I C i x) (p.ps.drop 1) (p.sg.drop 1) c)) (fun _ u8 _=>p.sg.length+1-(intOf u8).toNat)
     case atStart=>exact ⟨1,c,aj,aj,rfl,rfl,cw.u,az _ _,ai rfl⟩
     case round=>
      obtain ⟨j,Q,dz,dA,rfl,rfl,hb,af,GF⟩:=hrel;have HB:=ai hb;have bz:=ai af;have db:=hb.size;have c9:=af.size;have be:=cN.u.below af;obtain ⟨bl,p1,p2,bo,bp,bq,aJ,aK⟩:=be.eight
      by_cases bX:j<p.sg.length
      ·have c1:(j:Int)<(p.sg.length:Int):=by omega
       have bb:j<p.ps.length:=aj;have dB:(j:Int)<(p.ps.length:Int):=aj;obtain ⟨cl,dw,e1,kp⟩:=aS (aB bA.u hb) j (.int .i64 (p.ps[j]:Nat)) (by simp [aH bb]);simp only [aI,true_and] at e1;obtain ⟨rfl,rfl⟩:=e1;obtain ⟨qs,dx,e1,aZ⟩:=bf eW 3 (fun _=>rfl) (aB cD.u hb) j p.sg[j] (aH bX);simp only [aI,true_and] at e1;obtain ⟨rfl,rfl⟩:=e1;have EW:=ak GF;rw [dI bb,dI bX,Ug] at EW;obtain ⟨_,b3,bV,bZ,c5⟩:=cy.u _ (bn bb);generalize p.ps[j]=Y at*;generalize p.sg[j]=t at*;have co:wr.cell? ⟨qs,j*3,none⟩=some (.string (mk t.text)):=aZ 0 _ aj rfl;have cp:wr.cell? ⟨qs,j*3+1,none⟩=some (.int .i64 t.place):=aZ 1 _ aj rfl;have c6:=(Z.u.below hb).c6;have ct:=am cF.u hb;have aL:=am cG.u hb;have cW:=QE rl pl I C bC.u (fw rl pl I x.kd (C Y) (C x.ex));have bu:=ai (QD b kv _ pv kl rl pl l I C x.kd Y x.ex (C Y) (C x.ex) wr.drew (Z.u.below (hb.drew)) cz.u b3 ac.u.ex.1 bV ac.u.ex.2 bC.u bZ c5);have bT:vP rl pl I C i x Y=(A2 rl pl I C (fw rl pl I x.kd (C Y) (C x.ex))).any fun k=>k==i:=rfl
       rw [bT] at EW;generalize cV:fw rl pl I x.kd (C Y) (C x.ex)=cL at*;generalize A2 rl pl I C cL=aO at*;have cX:aO.length<=1000000000:=aj;clear hb af b3 bV bZ aZ bT cW cV be;go_wp2_with fail
       go_region_held3 (fun w'=>w'.cell? ⟨b,6,none⟩=some (.slice (some ⟨gr,0,none⟩) rl.length rc)/\w'.cell? ⟨gr,i*4,none⟩=some (.string x.kd)/\w'.cell? ⟨gr,i*4+3,none⟩=some (.int .i64 x.ex)/\w'.cell? ⟨df,6,none⟩=some (.slice (some ⟨cl,0,none⟩) p.ps.length pc)/\w'.cell? ⟨cl,j,none⟩=some (.int .i64 Y)) (go_keep)
        ((go_at_call 193;refine bu.u.mono ?_;rintro e w5 ⟨sv,rfl,bS,b5⟩;have R:=ai ((az _ wr).drew.trans bS:an wr w5);have d0:=am c6 R.u;have d1:=am ct R.u;have d2:=am aL R.u;have d3:=am aJ R.u;have d4:=am kp R.u;have aW:=ai b5;obtain ⟨ha,dy,rfl⟩:=ax aW.u;clear bS b5))
       have aP:=ai (HB.u.trans (R.u.mono db));have aR:=ai (bz.u.trans (R.u.mono c9));have bv:=ai (Dr _ _ aO i w5 aW.u cX);have t0:=am co R.u;have t1:=am cp R.u;have cq:=am aK R.u;clear c6 ct aL bl p1 p2 bo bp bq aJ aK kp co cp d0 d1 d2 d3 d4 bu HB bz R aW;go_wp2_with fail;refine bv.u.mono ?_;rintro e dN ⟨rfl,ae⟩;have B7:=ai (aP.u.trans (ae.mono aP.u.size));have C7:=ai (aR.u.trans (ae.mono aR.u.size));have f0:=am t0 ae;have f1:=am t1 ae;have f7:=am cq ae;clear ae bv aP aR t0 t1 cq;generalize (aO.any fun k=>k==i)=bd at*
       cases ay:minus t
       ·rw [ay,eB] at EW;simp only [bH,aV] at EW;unfold minus at ay;exact vO
       rw [ay,Bool.true_and] at EW;unfold minus at ay
       cases bd
       ·simp only [bH,aV] at EW;exact vO
       simp only [if_true] at EW
       by_cases h0:Q<0
       ·rw [show ey Q t.place=t.place from by simp [ey,h0]] at EW;exact vO
       by_cases h1:(t.place:Int)<Q
       ·rw [show ey Q t.place=t.place from by simp [ey,h1]] at EW;exact vO
       rw [show ey Q t.place=Q from by simp [ey,h0,h1]] at EW;exact vO
      have c1:¬((j:Int)<(p.sg.length:Int)):=aj;have EW:=ak GF;rw [show Ug (vP rl pl I C i x) (p.ps.drop j) (p.sg.drop j) Q=Q from by rw [ei (show p.sg.length<=j by omega)];cases p.ps.drop j<;>rfl] at EW;have cC:=ai EW;have cO:=ai (aB cM.u af);clear hb af EW GF be;go_wp2
      go_roundg (D x x.ex-k)
      case measure=>omega
      case rel=>exact ⟨k+1,inn++p.ps,cS,cv,Q,by go_num,ar,rfl,aM,aj,HB.u,by simpa using cO.u,ai ⟨bB.u.1,bB.u.2,by rw [GD aj,cC.u];exact cA.u⟩⟩
    have c3:¬((k:Int)<(inn.length:Int)):=aj;obtain ⟨ag,ad,V⟩:=ak ab;rw [ei aj,show D x x.ex+1-k=(D x x.ex-k)+1 by omega,oW] at V;have cx:=ai V;clear hb aF ag ad V ab bg;go_wp2;go_roundw
    case rel=>exact ⟨i+1,c,aj,by go_num,rfl,HB.u,ai (by rw [cx.u];exact cB.u)⟩
    case measure=>simp [intOf];omega
  have c2:¬((i:Int)<(rl.length:Int)):=aj;have hq:=ak HQ;rw [ei aj,loopsR] at hq;exact Qh
