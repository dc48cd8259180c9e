import Derived.Test.YtlbpnlngckgcbaaGreatDoorM38
import Derived.Deep.OwnRows
import Derived.Test.YtlbpnlngckgcbaaGreatDoorM39
import Derived.Test.YtlbpnlngckgcbaaGreatDoorM36
set_option linter.all false
set_option maxHeartbeats 4000000
set_option maxRecDepth 100000
namespace Go.Proofs.YtlbpnlngckgcbaaGreatDoor
open Go.RowKit Go.PlainAid Go.Proofs.Tryz
variable {aF cD:Prop}
def FL (A:aF:=by
 rw [dU,aG hi];rfl):aF:=A
def DW (C:aF:=by
 rw [dB,bo]
 rcases bA.1 hy with rfl|hy
 ·omega
 obtain ⟨a,b,e⟩:=sV hy;rw [e];exact KZ):aF:=C
def M3 (A:aF:=by
 rw [hpl];refine aL (uN _ (fun y D=> ?_)) ?_
 ·obtain ⟨m,_,C⟩:=cf.memr _ _ S9 y D;exact yA g.pl f m y C
 rw [dB] at hl
 simpa using hl):aF:=A
def DX (A:aF:=by
 rw [dB,aT]
 rcases bA.1 hy with rfl|hy
 ·exact .inl he
 exact .inr (cb.2 ⟨y,hy,he⟩)):aF:=A
theorem sd{R}:∀{ns:List Nat} {xs:List Ex},cf R ns xs->∀{i m:Nat},ns[i]? =some m->∃y,xs[i]? =some y/\R m y
 | [],[],_,i,m,h=>by simp at h
 |n::ns,x::xs,h,0,m,e=>by
  simp only [List.getElem?_cons_zero,aK] at e;subst e;exact ⟨x,rfl,h.1⟩
 |n::ns,x::xs,h,i+1,m,e=>by
  simp only [List.getElem?_cons_succ] at e ⊢;exact sd h.2 e
 | [],_::_,h,_,_,_=>h.elim
 |_::_,[],h,_,_,_=>h.elim
theorem yA(pl):∀(f n:Nat)(x:Ex),Tr pl f n x->0<(aH x).length
 |0,_,_,h=>h.elim
 |f+1,n,x,⟨p,hp,h⟩=>by
  rcases h with ⟨_,_,rfl⟩|⟨_,_,_,rfl⟩|⟨_,_,_,rfl⟩|⟨_,_,C,ns,D,rs,_,A,_,_,_,rfl⟩|⟨_,_,_,C,ns,D,rs,_,A,_,_,_,rfl⟩
  ·simp [aH]
  ·simp [aH]
  ·simp [aH]
  ·have:=yA pl f _ _ A;rw [dB,bo];omega
  have:=yA pl f _ _ A;rw [dB,bo];omega
theorem uN:∀(C:List Ex),(∀y∈C,0<(aH y).length)->C.length<=(C.flatMap aH).length
 | [],_=>an
 |y::C,h=>by
  have:=uN C (fun z D=>h z (gM _ D));have:=h y hV;exact xR
def Nz{α:Type}(f:α->Bool)(l:List α)(i:Nat):Bool:=match l[i]? with
 |some y=>f y
 |none=>false
variable {α:Type} {i:Nat}
theorem ib{f:α->Bool}{l:List α}{y:α}(h:l[i]? =some y):Nz f l i=f y:=by unfold Nz;rw [h]
theorem Iv(f:α->Bool):∀(l:List α),lU l.length (Nz f l)=l.any f:=fun l=>by
 rw [mz,m7,ei]
 constructor
 ·rintro ⟨i,hi,h⟩;rw [ib (aG hi)] at h;exact ⟨_,bu hi,h⟩
 rintro ⟨y,A,h⟩;obtain ⟨i,hi,rfl⟩:=dn A;exact ⟨i,hi,by rw [ib (aG hi)];exact h⟩
theorem wM:minus ⟨[],0,false⟩=false:=by
 unfold minus;rw [aO]
 rfl
section
variable (g:GP)(K:Nat->Nat->Bool)(r k:Nat)(X:RV)(q:ae×ae)
theorem wN(V:g.rl[r]? =some X)(U:g.th[k]? =some q)(ai:∀s∈g.ss,MW g (tt s))(aj:∀s∈g.ss,Ui g (tt s)):∀(f n:Nat)(x:Ex),Tr g.pl f n x->(aH x).length<=1000->(∀e∈aH x,e.nd.kind=1->∃j:Nat,aU X.kd e.nd.n1 g.rl 0=j/\j<g.rl.length)->MZ g K r k n (kE g K X k q.2 x)
 |0,_,_,J,_,_=>J.elim
 |f+1,n,x,⟨p,hp,J⟩,hl,ho=>by
  have al:=wN V U ai aj f
  rcases J with ⟨h1,_,rfl⟩|⟨h1,_,_,rfl⟩|⟨h1,_,_,rfl⟩|⟨h1,_,au,ns,I,rs,Y,Z,ab,R,⟨ah,av⟩,rfl⟩|⟨h1,_,_,au,ns,I,rs,Y,Z,ab,R,ah,rfl⟩
  ·exact Is g K r k n X q p hp h1 V U ai
  ·obtain ⟨j,ak,ar⟩:=ho ⟨⟨1,p.pa,p.nr,p.pa,em,0,[]⟩,none,none⟩ (aR.2 rfl) rfl;have:=M1 g K r k n j X p hp h1 V (be.1 U).1 ak ar;have e:kE g K X k q.2 ⟨⟨1,p.pa,p.nr,p.pa,em,0,[]⟩,none,none⟩=K j k:=by
    show K (aU X.kd p.nr g.rl 0).toNat k=K j k
    rw [show aU X.kd p.nr g.rl 0=j from ak]
    rfl
   rw [e];exact this
  ·exact M0 g K r k n X q p hp h1 V U aj
  ·have S9:cf (Tr g.pl f) p.ps (I::rs.map fun r=>r.2.2):=by rw [Y];exact ⟨Z,ab⟩
   have af:∀y∈I::rs.map (fun r=>r.2.2),∀e∈aH y,e∈aH (dl I rs):=fun y hy e he=>by
    exact DX
   have ac:∀y∈I::rs.map (fun r=>r.2.2),(aH y).length<=(aH (dl I rs)).length:=fun y hy=>by
    exact DW
   have hpl:p.ps.length=(I::rs.map fun r=>r.2.2).length:=cf.len _ _ S9;have ae:p.ps.length<=1000:=by
    exact M3
   have am:p.sg=((I,(⟨[],0,false⟩:Tk))::rs.map fun r=>(r.2.2,(⟨bW r.1,r.2.1,false⟩:Tk))).map Prod.snd:=by rw [R];simp
   have ap:(I::rs.map fun r=>r.2.2)=((I,(⟨[],0,false⟩:Tk))::rs.map fun r=>(r.2.2,(⟨bW r.1,r.2.1,false⟩:Tk))).map Prod.fst:=an;have:=DV g K r k n p (Nz (kE g K X k q.2) (I::rs.map fun r=>r.2.2)) (Nz minus p.sg) hp h1 ae (by rw [hpl,R];simp) (fun i t O=>(ib O).symm) (fun i m ad=>by
    obtain ⟨y,hy,O⟩:=sd S9 ad;rw [ib hy];have Q:=bx hy;exact al m y O (aL (ac y Q) hl) (fun e he=>ho e (af y Q e he)))
   have e:(!lU p.ps.length (fun i=>Nz (kE g K X k q.2) (I::rs.map fun r=>r.2.2) i==Nz minus p.sg i))=kE g K X k q.2 (dl I rs):=by
    rw [Br g K X k q.2 rs I ah];have ag:∀(L:List (Ex×Tk)),lU L.length (fun i=>Nz (kE g K X k q.2) (L.map Prod.fst) i==Nz minus (L.map Prod.snd) i)=L.any (fun z=>kE g K X k q.2 z.1==minus z.2):=fun L=>by
     rw [mz,m7,ei]
     constructor
     ·rintro ⟨i,hi,J⟩;rw [ib (y:=L[i].1) FL,ib (y:=L[i].2) FL] at J;exact ⟨_,bu hi,J⟩
     rintro ⟨z,ag,J⟩;obtain ⟨i,hi,rfl⟩:=dn ag;exact ⟨i,hi,by rw [ib (y:=L[i].1) FL,ib (y:=L[i].2) FL];exact J⟩
    rw [hpl,am,ap,cK,ag];simp only [List.any_cons,oB,wM];rw [Bool.not_or,List.not_any_eq_all_not]
    congr 1
    ·cases kE g K X k q.2 I<;>rfl
   rw [e] at this;exact this
  have S9:cf (Tr g.pl f) p.ps (I::rs.map fun r=>r.2.2):=by rw [Y];exact ⟨Z,ab⟩
  have af:∀y∈I::rs.map (fun r=>r.2.2),∀e∈aH y,e∈aH (dl I rs):=fun y hy e he=>by
   exact DX
  have ac:∀y∈I::rs.map (fun r=>r.2.2),(aH y).length<=(aH (dl I rs)).length:=fun y hy=>by
   exact DW
  have hpl:p.ps.length=(I::rs.map fun r=>r.2.2).length:=cf.len _ _ S9;have ae:p.ps.length<=1000:=by
   exact M3
  have:=Iu g K r k n p (Nz (kE g K X k q.2) (I::rs.map fun r=>r.2.2)) hp h1 ae (fun i m ad=>by
   obtain ⟨y,hy,O⟩:=sd S9 ad;rw [ib hy];have Q:=bx hy;exact al m y O (aL (ac y Q) hl) (fun e he=>ho e (af y Q e he)))
  rw [hpl,Iv] at this;rw [FK g K X k q.2 rs I R];rw [jD,oB] at this;exact this
end
variable {aF cD:Prop}
def M4 (C:aF:=by
 go_wp2_with fail;exact ⟨⟨r+1,K2,Bs,aj,by go_num,rfl,NA.u,Qv.u,UI.u,NB⟩,by simp [intOf];omega⟩):aF:=C
def prs(g:GP):List (Nat×Nat):=(List.range g.rl.length).flatMap fun r=>(List.range g.th.length).map fun k=>(r,k)
def yB(g:GP)(K:Nat->Nat->Bool):Nat:=(prs g).countP fun p=> !K p.1 p.2
variable {k:Nat}
theorem Pp{g r}(A:r<g.rl.length)(h:k<g.th.length):(r,k)∈prs g:=cb.2 ⟨r,List.mem_range.2 A,aY.2 ⟨k,List.mem_range.2 h,rfl⟩⟩
theorem SD{g K r}(D:r<g.rl.length)(C:k<g.th.length)(h:K r k=false):yB g (yx K r k)<yB g K:=by
 refine qM (fun p A=> ?_) _ (r,k) (Pp D C) Aw (by simp [yx]);unfold yx at A
 split at A
 ·cases A
 exact A
variable {a b:Nat}
theorem FM{K r}(h:K a b=true):yx K r k a b=true:=by
 unfold yx
 split
 ·rfl
 exact h
def SE(g:GP)(lv:List Nat)(bd:Nat->Ex)(n:Nat)(K:Nat->Nat->Bool):Prop:=∀r k X q,g.rl[r]? =some X->g.th[k]? =some q->lv[r]? =some n->q.1=X.kd->kE g K X k q.2 (bd r)=true->K r k=true
def StD(g:GP)(lv:List Nat)(bd:Nat->Ex)(n:Nat)(h:(Nat->Nat->Bool)->Prop):Prop:=∀K r k X q,h K->g.rl[r]? =some X->g.th[k]? =some q->lv[r]? =some n->q.1=X.kd->kE g K X k q.2 (bd r)=true->h (yx K r k)
structure Iw(g:GP)(lv:List Nat)(bd:Nat->Ex)(n:Nat)(J:(Nat->Nat->Bool)->Prop)(K K':Nat->Nat->Bool)(more:Bool)(r0 k0:Nat):Prop where
 j:J K'
 le:∀r k,K r k=true->K' r k=true
 no:more=false->K'=K/\∀r k X q,(r<r0\/(r=r0/\k<k0))->g.rl[r]? =some X->g.th[k]? =some q->lv[r]? =some n->q.1=X.kd->kE g K X k q.2 (bd r)=true->K r k=true
 yes:more=true->yB g K'<yB g K
def M5(g:GP)(lv:List Nat)(bd:Nat->Ex)(n:Nat)(A:(Nat->Nat->Bool)->Prop)(K:Nat->Nat->Bool)(w:af)(e:Ending)(w':af):Prop:=∃h more,e=.returned (.bool more)/\GI w' g h/\A h/\bI (fun k=>k∈g.bs) w w'/\(∀r k,K r k=true->h r k=true)/\(more=false->h=K/\SE g lv bd n K)/\(more=true->yB g h<yB g K)
variable {n:Nat} {more:Bool}
theorem Iw.skip{g lv bd}{R:(Nat->Nat->Bool)->Prop}{K K' r}(C:Iw g lv bd n R K K' more r k)(hs:more=false->∀X q,g.rl[r]? =some X->g.th[k]? =some q->lv[r]? =some n->q.1=X.kd->kE g K X k q.2 (bd r)=true->K r k=true):Iw g lv bd n R K K' more r (k+1):=
 ⟨C.j,C.le,fun D=>⟨(C.no D).1,fun a b X q J I Q hl O hv=>by
  rcases J with J|⟨rfl,U⟩
  ·exact (C.no D).2 a b X q (.inl J) I Q hl O hv
  by_cases e:b=k
  ·subst e;exact hs D X q I Q hl O hv
  exact (C.no D).2 a b X q (.inr ⟨rfl,aj⟩) I Q hl O hv⟩,C.yes⟩
theorem Iw.row{g lv bd}{O:(Nat->Nat->Bool)->Prop}{K K' r}(C:Iw g lv bd n O K K' more r k)(hs:∀V X q,k<=V->g.rl[r]? =some X->g.th[V]? =some q->lv[r]? =some n->False):Iw g lv bd n O K K' more (r+1) 0:=
 ⟨C.j,C.le,fun I=>⟨(C.no I).1,fun a b X q Q D J hl U hv=>by
  rcases Q with Q|⟨_,R⟩
  ·by_cases e:a=r
   ·subst e
    by_cases R:b<k
    ·exact (C.no I).2 a b X q (.inr ⟨rfl,R⟩) D J hl U hv
    exact (hs b X q aj D J hl).elim
   exact (C.no I).2 a b X q (.inl aj) D J hl U hv
  omega⟩,C.yes⟩
theorem Iw.up{g lv bd n}{D:(Nat->Nat->Bool)->Prop}{K K' more r k}(h:Iw g lv bd n D K K' more r k)(O:StD g lv bd n D){X}{C:ae×ae}(I:g.rl[r]? =some X)(J:g.th[k]? =some C)(V:lv[r]? =some n)(R:C.1=X.kd)(Y:kE g K' X k C.2 (bd r)=true)(U:K' r k=false):Iw g lv bd n D K (yx K' r k) true r (k+1):=
 ⟨O K' r k X C h.j I J V R Y,fun a b Q=>FM (h.le a b Q),fun A=>Bool.noConfusion A,fun _=>by
  have h1:=SD (g:=g) (be.1 I).1 (be.1 J).1 U
  cases A:more
  ·rw [(h.no A).1] at h1 ⊢;exact h1
  exact Nat.lt_trans h1 (h.yes A)⟩
theorem Bt(g:GP)(K:Nat->Nat->Bool)(bM:ag)(lv:List Nat)(I:Nat->Ex)(n:Nat)(R:(Nat->Nat->Bool)->Prop)(w:af)(V:GI w g K)(a2:w.ownsRow 0 3 1 bM lv.length (lv.map fun n:Nat=> .int .i64 n))(bD:lv.length=g.rl.length)(bw:∀U r k X q,g.rl[r]? =some X->g.th[k]? =some q->MZ g U r k X.ex (kE g U X k q.2 (I r)))(bv:StD g lv I n R)(h0:R K):
  Calls prog 199 #[.pointer (some ⟨g.b,0,none⟩),bM,.int .i64 n] w (M5 g lv I n R K w):=by
 obtain ⟨bK,bL,rfl⟩:=ay a2;have bS:=ai bw;have bP:=ai bv;have bq:=ai a2;have bj:=ai V;have bQ:=ai h0;have cd:=V.few;have ch:=V.dm.rn;have bR:=ai bD;clear V a2 bw bv h0 bD;go_enter func199,ntmps199;go_wp2_with fail
 go_loopw [7,8] (fun bf ur wr=>∃(r:Nat)(U:Nat->Nat->Bool)(more:Bool),r<=lv.length/\ur=.int .i64 r/\bf=.bool more/\GI wr g U/\bI (fun k=>k∈g.bs) w wr/\wr.ownsRow 0 3 1 (.slice bK lv.length bL) lv.length (lv.map fun n:Nat=> .int .i64 n)/\Hid (Iw g lv I n R K U more r 0)) (fun _ ur _=>lv.length-(intOf ur).toNat)
 case atStart=>exact ⟨0,K,false,aj,rfl,rfl,bj.u,bI.refl _ _,bq.u,ai ⟨bQ.u,fun _ _ V=>V,fun _=>⟨rfl,fun r k X q b2=>aj⟩,fun V=>by cases V⟩⟩
 case round=>
  obtain ⟨r,K1,more,b2,rfl,rfl,Z,am,ah,Y⟩:=hrel;have aS:=ai Z;have aQ:=ai am;have br:=ai ah;clear Z am ah bj bq
  by_cases bE:r<lv.length
  ·have bF:r<g.rl.length:=by rw [<-bR.u];exact bE
   have b3:(r:Int)<(lv.length:Int):=aj;have cg:(r:Int)<(g.rl.length:Int):=aj;obtain ⟨X,aL⟩:∃X,g.rl[r]? =some X:=⟨_,aG bF⟩;obtain ⟨v,hv⟩:∃v,lv[r]? =some v:=⟨_,aG bE⟩;have ac:=ai aL;have aW:=ai hv;clear aL hv;go_wp2_with fail
   go_loopw [7,9] (fun bf bc wr=>∃(k:Nat)(U:Nat->Nat->Bool)(more:Bool),k<=g.th.length/\bc=.int .i64 k/\bf=.bool more/\GI wr g U/\bI (fun k=>k∈g.bs) w wr/\wr.ownsRow 0 3 1 (.slice bK lv.length bL) lv.length (lv.map fun n:Nat=> .int .i64 n)/\Hid (Iw g lv I n R K U more r k)) (fun _ bc _=>g.th.length-(intOf bc).toNat)
   case atStart=>exact ⟨0,K1,more,aj,rfl,rfl,aS.u,aQ.u,br.u,Y⟩
   case round=>
    obtain ⟨k,K2,Bs,ce,rfl,rfl,Z,am,ah,D⟩:=hrel;obtain ⟨aD,b1,bu,aY,aH⟩:=Z.five;obtain ⟨ga,gc,bA⟩:=ay Z.th;rw [bA] at aY;obtain ⟨cl,ck,e1,b6⟩:=aZ ah r (.int .i64 v) (by rw [dU,aW.u];rfl);simp only [aI,cz] at e1;obtain ⟨rfl,rfl⟩:=e1;have NA:=ai Z;have Qv:=ai am;have UI:=ai ah;clear Z am ah aS aQ br Y
    by_cases a1:k<g.th.length
    ·have bZ:(k:Int)<(g.th.length:Int):=by omega
     by_cases a6:v=n
     ·subst a6;obtain ⟨P,a0⟩:∃P,g.th[k]? =some P:=⟨_,aG a1⟩;have b4:((v:Int)==(v:Int))=true:=an;obtain ⟨ad,bW⟩:∃z,z=wr:=⟨_,rfl⟩;subst bW;obtain ⟨J,aO⟩:∃J,g.bs[r]? =some J:=⟨_,aG (by rw [NA.u.bl];exact bF)⟩;obtain ⟨ct,cq,a7,bN⟩:=aZ NA.u.yr r (.slice (some ⟨J,0,none⟩) g.th.length g.th.length) (by rw [dU,aO];rfl);have aP:=(NA.u.yb r J aO).cell a1;rw [a7] at aH;obtain ⟨b8,tc,a5,bH⟩:=bi Im 2 (fun _=>rfl) NA.u.th k P a0;have t0:ad.cell? ⟨b8,k*2,none⟩=some (.string P.1):=bH 0 _ aj rfl;rw [bA] at a5;simp only [aI,cz] at a5;obtain ⟨rfl,rfl⟩:=a5;obtain ⟨cm,rc,a3,a9,ba,bb,r3⟩:=NA.u.dm.rat r X ac.u;have av:=NA.u.dm.c6;rw [a3] at av;have bg:ad.cell? ⟨g.y,0,none⟩=some (.pointer (some ⟨g.bm,5,none⟩)):=NA.u.du.blk.cell rfl;have aC:=ai (aw ad.heap.size ad);have az:=ai a0;have ab:=ai aO;generalize bC:K2 r k=au at aP;have bp:=ai bC;clear bH a0 aO bC ba bb
      go_upto_region 8 with fail
      go_cut [68] (fun s cb=>s=.bool (au|| !eqs P.1 X.kd)/\Below ad.heap.size ad cb)
      case first=>
       cases au
       ·cases h1:eqs P.1 X.kd
        ·have bV:(P.1.toList==X.kd.toList)=false:=by rw [<-aJ];exact h1
         go_quiet (fail)
         go_wp2
         go_meet
         case rel=>exact ⟨by simp [h1],cN aC.u _⟩
        have bV:(P.1.toList==X.kd.toList)=true:=by rw [<-aJ];exact h1
        go_quiet (fail)
        go_wp2
        go_meet
        case rel=>exact ⟨by simp [h1],cN aC.u _⟩
       go_quiet (fail)
       go_wp2
       go_meet
       case rel=>exact ⟨an,cN aC.u _⟩
      case rest=>
       obtain ⟨rfl,aN⟩:=hcut;clear aD b1 bu aY aH b6 bN aP t0 a9 r3 av bg;have Q:=ai (NA.u.below aN);have aR:=ai (Qv.u.trans (bI.of_below aN));have aX:=ai (aE UI.u aN);clear aN NA Qv UI aC
       cases hs:(au|| !eqs P.1 X.kd)
       ·have bB:K2 r k=false:=by
         rw [bp.u]
         cases au
         ·rfl
         simp at hs
        have bz:P.1=X.kd:=by
         rw [<-bn]
         cases au
         ·simpa using hs
         simp at hs
        have bh:=ai (bS.u K2 r k X P ac.u az.u wc Q.u);obtain ⟨co,cp,a4,a9,ba,bb,r3⟩:=Q.u.dm.rat r X ac.u;rw [a3] at a4;simp only [aI,aK,cw,gL,cz] at a4;obtain ⟨rfl,rfl⟩:=a4;have av:=Q.u.dm.c6;rw [a3] at av;have bg:wc.cell? ⟨g.y,0,none⟩=some (.pointer (some ⟨g.bm,5,none⟩)):=Q.u.du.blk.cell rfl;have aD:=Q.u.five.1;have aT:=ai (show kE g K2 X k P.2 (I r)=false->Iw g lv I v R K K2 Bs r (k+1) from fun e=>(ak D).skip (fun ae bT b7 al ap _ _ bJ=>by
         rw [ac.u] at al;rw [az.u] at ap
         cases al
         cases ap
         rw [<-((ak D).no ae).1,e] at bJ
         cases bJ))
        have aU:=ai (show kE g K2 X k P.2 (I r)=true->Iw g lv I v R K (yx K2 r k) true r (k+1) from fun e=>(ak D).up bP.u ac.u az.u aW.u bz e bB);generalize kE g K2 X k P.2 (I r)=bU at*;clear a9 ba bb hs bz bB;go_wp2_with fail;refine bh.u.mono ?_;rintro e b9 ⟨rfl,aM⟩;have O:=ai (Q.u.below aM);have ax:=ai (aR.u.trans (bI.of_below aM));have aA:=ai (aE aX.u aM);clear aM Q aR aX bh av bg aD r3
        cases bU
        ·have NB:=ai (aT.u rfl);clear aT aU D;go_wp2_with fail;go_roundw
         case rel=>first|exact ⟨k+1,K2,Bs,aj,by go_num,rfl,O.u,ax.u,aA.u,NB⟩|((repeat apply Exists.intro);exact ⟨⟨k+1,K2,Bs,aj,by go_num,rfl,O.u,ax.u,aA.u,NB⟩,rfl⟩)
         case measure=>simp [intOf];omega
        have NB:=ai (aU.u rfl);obtain ⟨aD,b1,bu,aY,aH⟩:=O.u.five;rw [a7] at aH;obtain ⟨cu,cr,a8,bN⟩:=aZ O.u.yr r (.slice (some ⟨J,0,none⟩) g.th.length g.th.length) (by rw [dU,ab.u];rfl);rw [a7] at a8;simp only [aI,aK,cw,gL,cz] at a8;obtain ⟨rfl,rfl⟩:=a8;have aP:=(O.u.yb r J ab.u).cell a1;generalize K2 r k=cj at aP;have fz:=(O.u.yb r J ab.u).fz;have bo:=ai (O.u.set (k:=k) ab.u);have bk:=ai (ax.u.set (a:=⟨J,k,none⟩) (bx ab.u) (.bool true));have bt:=ai (lV aA.u (show aB b9 J _ 4 from O.u.yb r J ab.u) ar k (.bool true));clear aT aU D O ax aA;go_wp2_with fail;go_roundw
        case rel=>first|exact ⟨k+1,yx K2 r k,true,aj,by go_num,rfl,bo.u,bk.u,bt.u,NB⟩|((repeat apply Exists.intro);exact ⟨⟨k+1,yx K2 r k,true,aj,by go_num,rfl,bo.u,bk.u,bt.u,NB⟩,rfl⟩)
        case measure=>simp [intOf];omega
       have NB:=ai ((ak D).skip (fun ae bT b7 al ap _ bY _=>by
        rw [ac.u] at al;rw [az.u] at ap
        cases al
        cases ap
        rw [<-((ak D).no ae).1,bp.u];rw [(bn _ _).2 bY] at hs
        simpa using hs))
       clear D hs;go_wp2_with fail;exact ⟨⟨k+1,K2,Bs,aj,by go_num,rfl,Q.u,aR.u,aX.u,NB⟩,by simp [intOf];omega⟩
     have b4:((v:Int)==(n:Int))=false:=by rw [bG];omega
     have ci:¬((v:Int)=(n:Int)):=aj;have NB:=ai ((ak D).row (fun b5 X q _ _ _ e=>by rw [aW.u] at e;exact a6 (gu e)));clear D a6;exact M4
    have bZ:¬((k:Int)<(g.th.length:Int)):=aj;have NB:=ai ((ak D).row (fun b5 X q cf _ e _=>by have:=(be.1 e).1;omega));clear D;exact M4
  obtain rfl:r=lv.length:=aj;have b3:¬((lv.length:Int)<(lv.length:Int)):=aj;have bO:=ai (show M5 g lv I n R K w (.returned (.bool more)) wr from ⟨K1,more,rfl,aS.u,(ak Y).j,aQ.u,(ak Y).le,fun ae=>⟨((ak Y).no ae).1,fun r k X q aL b0 hl bX hv=>((ak Y).no ae).2 r k X q (.inl (be.1 hl).1) aL b0 hl bX hv⟩,(ak Y).yes⟩);go_wp2;go_ret;exact bO.u
def QQ (J:aF:=by
 rw [hkl] at CT;unfold minus at UJ;clear hb hcs TX hkl ht h4;exact M6):aF:=J
def M6 (I:aF:=by
 go_wp2_with fail;refine (ak CT _ ba).mono ?_;rintro e w1 ⟨rfl,D⟩;have C:=ai (HBL.u.trans (D.mono HBL.u.size));clear D CT x0 x6 x7 hc;go_wp2_with fail;go_roundw
 case rel=>first|exact ⟨j+1,aj,by go_num,by rw [HMX.u];first|done|(congr 1;omega),C.u⟩|((repeat apply Exists.intro);exact ⟨⟨j+1,aj,by go_num,by rw [HMX.u];first|done|(congr 1;omega),C.u⟩,rfl⟩)
 case measure=>simp [intOf];omega):aF:=I
def wO(l:List Nat):Nat:=l.foldl max 0
def pL:Nat->(Nat->Nat)->Nat
 |0,_=>0
 |k+1,f=>max (pL k f) (f k)
theorem wP(l):∀a,l.foldl max a=max a (wO l):=by
 unfold wO
 induction l with
 |nil=>intro a;simp
 |cons x l ih=>
  intro a;rw [qv,qv,ih,ih (max 0 x)];omega
theorem Pq(a b):wO (a++b)=max (wO a) (wO b):=by
 unfold wO;rw [List.foldl_append,wP]
 rfl
theorem SF{l}:wO l<=b↔∀x∈l,x<=b:=by
 induction l with
 |nil=>simp [wO]
 |cons x l ih=>
  have:wO (x::l)=max x (wO l):=by
   unfold wO;rw [qv,wP];unfold wO;omega
  rw [this];simp only [bA,forall_eq_or_imp];rw [<-ih];omega
theorem M7:∀(l:List Nat)(f:Nat->Nat),(∀i (C:i<l.length),f i=l[i])->pL l.length f=wO l:=by
 intro l f C;have key:∀k,k<=l.length->pL k f=wO (l.take k):=by
  intro k
  induction k with
  |zero=>intro _;simp [pL,wO]
  |succ k ih=>
   intro D;rw [pL,ih aj,dS aj,Pq,C k aj];have:wO [l[k]]=l[k]:=by simp [wO]
   rw [this]
 rw [key _ az,ti]
def NC(bm:Nat)(kv rv pv:ag)(kl:List (ae×Nat))(rl:List RV)(pl:List PV)(l:List PX)(rN:ag)(lv:List Nat)(i n less h:Nat):Prop:=∀w,DM w bm kv rv pv kl rl pl l->w.ownsRow 0 3 1 rN lv.length (lv.map fun n:Nat=> .int .i64 n)->Calls prog 233 #[.pointer (some ⟨bm,5,none⟩),rN,.int .i64 i,.int .i64 n,.int .i64 less] w fun e w'=>e=.returned (.int .i64 h)/\Below w.heap.size w w'
section
variable (bm:Nat)(kv rv pv:ag)(kl:List (ae×Nat))(rl:List RV)(pl:List PV)(l:List PX)(rN:ag)(lv:List Nat)
theorem Bu(i n less:Nat)(p:PV)(O:Nat->Nat)(U:Nat->Nat)(ap:pl[n]? =some p)(al:p.kind=4\/p.kind=5)(bg:p.ps.length<=1000)(bk:0<p.ps.length)(ar:p.kind=4->p.sg.length=p.ps.length)(hs:∀j,U j=if p.kind=4/\(∃t,p.sg[j]? =some t/\minus t=true) then 1 else less)(av:∀j m,p.ps[j]? =some m->NC bm kv rv pv kl rl pl l rN lv i m (U j) (O j))(ac:∀j,O j<=100000)(bh:less<=1):NC bm kv rv pv kl rl pl l rN lv i n less (pL p.ps.length O):=fun w R Z=>by
 obtain ⟨bv,bt,ga,gc,pa,pc,sa,sc,aY,ab,e0,e1,V,aR,aS,aT,aU,aW⟩:=R.pat n p ap;have bl:(n:Int)<(pl.length:Int):=by have:=(be.1 ap).1;omega
 have bo:=R.pn;have ax:=R.c7;rw [aY] at ax;obtain ⟨br,bs,rfl⟩:=ay Z;have Q:=(aw w.heap.size w).alloc az (ct p.kind ga p.gs.length gc p.nb p.nr p.pa p.pr pa p.ps.length pc sa p.sg.length sc);have ad:=ai Q;have Y:=ai (aB.new w #[.int .i64 p.kind,.slice ga p.gs.length gc,.string p.nb,.string p.nr,.int .i64 p.pa,.int .i64 p.pr,.slice pa p.ps.length pc,.slice sa p.sg.length sc] 255);have aA:=ai (R.below Q);have aH:=ai (aE Z Q);have aK:=ai (aE ab.p Q);have aM:=ai (aE ab.s Q);have aO:=ai av;have aD:=ai hs;have aP:=ai ac;have aN:=ai ar;have aC:=ai al;have an:∀k,pL k O<=100000:=by
  intro k
  induction k with
  |zero=>simp [pL]
  |succ k ih=>rw [pL];have:=ac k;omega
 have aJ:=ai an;generalize ag:pL p.ps.length O=aQ;have aL:=ai ag;clear R Q ab av ag hs ar Z ac al an;go_enter func233,ntmps233
 go_upto_region 2 with fail
 clear e0 e1 V aR aS aT aU aW ax;generalize w.alloc (ct p.kind ga p.gs.length gc p.nb p.nr p.pa p.pr pa p.ps.length pc sa p.sg.length sc)=W at*;go_wp2_with fail
 go_loopw [12,13] (fun bc u wr=>∃j:Nat,j<=p.ps.length/\u=.int .i64 j/\bc=.int .i64 (pL j O)/\Below W.heap.size W wr) (fun _ u _=>p.ps.length-(intOf u).toNat)
 case atStart=>exact ⟨0,aj,rfl,rfl,aw _ _⟩
 case round=>
  obtain ⟨j,bf,rfl,rfl,hb⟩:=hrel;have x0:wr.cell? ⟨w.heap.size,0,none⟩=some (.int .i64 p.kind):=(Y.u.below hb).cell rfl;have x6:wr.cell? ⟨w.heap.size,6,none⟩=some (.slice pa p.ps.length pc):=(Y.u.below hb).cell rfl;have x7:wr.cell? ⟨w.heap.size,7,none⟩=some (.slice sa p.sg.length sc):=(Y.u.below hb).cell rfl;have SC:=ai (ad.u.trans (hb.mono ad.u.size));have bj:=aJ.u j
  by_cases hlt:j<p.ps.length
  ·have aX:(j:Int)<(p.ps.length:Int):=by omega
   obtain ⟨bw,bu,e1,hc⟩:=aZ (aE aK.u hb) j (.int .i64 (p.ps[j]:Nat)) Po;simp only [aI,cz] at e1;obtain ⟨rfl,rfl⟩:=e1;have CT:=ai (fun (w':af) (ah:Below wr.heap.size wr w')=>aO.u j _ (aG hlt) w' (aA.u.below (hb.trans (ah.mono hb.size))) (aE aH.u (hb.trans (ah.mono hb.size))));have TX:=aD.u j;have bq:=aP.u j;have HMX:=ai (show pL (j+1) O=max (pL j O) (O j) from rfl);have HBL:=ai hb;generalize p.ps[j]=m at*;generalize O j=v at*;generalize pL j O=o at*
   rcases aC.u with h4|ae
   ·obtain ⟨t,ht⟩:∃t,p.sg[j]? =some t:=⟨_,aG (by rw [aN.u h4];exact hlt)⟩;obtain ⟨bz,bx,V,hcs⟩:=bi eZ 3 (fun _=>rfl) (aE aM.u hb) j t ht;simp only [aI,cz] at V;obtain ⟨rfl,rfl⟩:=V;have bb:=hcs 0 _ aj rfl;rw [qS] at bb;have bp:(j:Int)<(p.sg.length:Int):=by have:=(be.1 ht).1;omega
    rw [h4] at x0
    cases UJ:minus t
    ·have hkl:U j=less:=by
      rw [TX,if_neg];rintro ⟨_,bA,au,am⟩;rw [ht] at au
      cases au
      rw [UJ] at am
      cases am
     exact QQ
    have hkl:U j=1:=by rw [TX,if_pos ⟨h4,t,ht,UJ⟩]
    exact QQ
   have hkl:U j=less:=by rw [TX,if_neg (fun e=>by have:=e.1;omega)]
   rw [hkl] at CT;rw [ae] at x0;clear hb TX hkl ae;exact M6
  obtain rfl:j=p.ps.length:=aj;have aX:¬((p.ps.length:Int)<(p.ps.length:Int)):=aj;have bn:(0:Int)<(p.ps.length:Int):=aj;have hF:aQ=pL p.ps.length O:=aL.u.symm;exact DT
theorem DY(i n less:Nat)(X:RV)(p:PV)(nd:List Nat)(ax:pl[n]? =some p)(an:rl[i]? =some X)(au:p.ps=[])(bz:nd.length<=2000000)(Q:∀d∈nd,d<lv.length)(Y:∀x∈lv,x<=10000)(bv:less<=1)(al:∀w,DM w bm kv rv pv kl rl pl l->Calls prog 231 #[.pointer (some ⟨bm,5,none⟩),.string X.kd,.int .i64 n,.int .i64 X.ex] w fun e w'=>∃sv,e=.returned sv/\Below w.heap.size w w'/\w'.ownsRow w.heap.size 3 1 sv nd.length (nd.map fun n:Nat=> .int .i64 n)):NC bm kv rv pv kl rl pl l rN lv i n less (wO (nd.map fun d=>lv.getD d 0+less)):=fun w D Z=>by
 obtain ⟨bM,bL,ga,gc,pa,pc,sa,sc,bh,bj,e0,e1,O,aW,aX,aY,ba,bb⟩:=D.pat n p ax;have bA:(n:Int)<(pl.length:Int):=by have:=(be.1 ax).1;omega
 have bC:=D.pn;have bE:=D.rn;have aD:=D.c7;rw [bh] at aD;obtain ⟨bH,bI,rfl⟩:=ay Z;have J:=(aw w.heap.size w).alloc az (ct p.kind ga p.gs.length gc p.nb p.nr p.pa p.pr pa p.ps.length pc sa p.sg.length sc);have ah:=ai J;have aS:=ai (aB.new w #[.int .i64 p.kind,.slice ga p.gs.length gc,.string p.nb,.string p.nr,.int .i64 p.pa,.int .i64 p.pr,.slice pa p.ps.length pc,.slice sa p.sg.length sc] 255);have V:=ai (D.below J);have aP:=ai (aE Z J);have aL:=ai al;have aM:=ai Q;have aO:=ai Y;have I:p.ps.length=0:=by rw [au];rfl
 have aC:∀d,lv.getD d 0+less<=10001:=fun d=>by
  rw [dQ]
  cases bi:lv[d]? with
  |none=>simp;omega
  |some x=>have:=Y x (bx bi);simp;omega
 have av:∀k,pL k (fun j=>(nd.map fun d=>lv.getD d 0+less).getD j 0)<=10001:=by
  intro k
  induction k with
  |zero=>simp [pL]
  |succ k ih=>
   rw [pL];have:(nd.map fun d=>lv.getD d 0+less).getD k 0<=10001:=by
    rw [dQ,dU]
    cases nd[k]? with
    |none=>simp
    |some d=>exact aC d
   omega
 have aQ:=ai av;have aU:=ai (show pL nd.length (fun j=>(nd.map fun d=>lv.getD d 0+less).getD j 0)=wO (nd.map fun d=>lv.getD d 0+less) from by
  have:=M7 (nd.map fun d=>lv.getD d 0+less) (fun j=>(nd.map fun d=>lv.getD d 0+less).getD j 0) (fun j ar=>by rw [dQ,aG ar];rfl);rw [cK] at this;exact this)
 generalize wO (nd.map fun d=>lv.getD d 0+less)=bp at*;have aT:=ai I;clear D J bj Z al Q Y aC av au I;go_enter func233,ntmps233
 go_upto_region 2 with fail
 clear e0 e1 O aW aX aY ba bb aD;generalize w.alloc (ct p.kind ga p.gs.length gc p.nb p.nr p.pa p.pr pa p.ps.length pc sa p.sg.length sc)=W at*;go_wp2_with fail
 go_loopw [12,13] (fun ae u wr=>u=.int .i64 0/\ae=.int .i64 0/\wr=W) (fun _ u _=>0)
 case atStart=>exact ⟨rfl,rfl,rfl⟩
 case round=>
  obtain ⟨rfl,rfl,ab⟩:=hrel;subst ab;have aJ:wr.cell? ⟨w.heap.size,6,none⟩=some (.slice pa p.ps.length pc):=aS.u.cell rfl;have I:=aT.u;have bg:¬((0:Int)<(p.ps.length:Int)):=aj;rw [I] at aJ bg;obtain ⟨ad,rc,bk,aH,bl,bn,r3⟩:=V.u.rat i X an;have ac:=V.u.c6;rw [bk] at ac;have bD:(i:Int)<(rl.length:Int):=by have:=(be.1 an).1;omega
  clear I bl bn
  go_upto_region 12 with fail
  have ag:=ai (fun (w':af) (bc:Below wr.heap.size wr w')=>aL.u w' (V.u.below bc));have U:=ai (aw wr.heap.size wr);have c0:=ac;have c1:=aH;have c2:=r3;clear aJ ac aH r3
  go_region_held3 (fun w'=>w'.cell? ⟨bm,6,none⟩=some (.slice (some ⟨ad,0,none⟩) rl.length rc)/\w'.cell? ⟨ad,i*4,none⟩=some (.string X.kd)/\w'.cell? ⟨ad,i*4+3,none⟩=some (.int .i64 X.ex)) (go_keep)
   ((go_at_call 231;refine (ag.u _ (show Below wr.heap.size wr _ from (bB U))).mono ?_;rintro e w5 ⟨sv,rfl,ap,aA⟩;have C:=ai (gQ (a:=wr) (B:=wr.heap.size) (show Below wr.heap.size wr _ from (bB U)) (ap.mono rA));have ak:=ai aA;have d0:=am c0 C.u;have d1:=am c1 C.u;have d2:=am c2 C.u;clear ap aA))
  obtain ⟨da,bq,rfl⟩:=ay ak.u;have aK:=ai (ah.u.trans (C.u.mono ah.u.size));have aN:=ai (aE aP.u C.u);clear c0 c1 c2 d0 d1 d2 ag U C;go_wp2_with fail
  go_loopw [12,16] (fun ae u bo=>∃j:Nat,j<=nd.length/\u=.int .i64 j/\ae=.int .i64 (pL j (fun j=>(nd.map fun d=>lv.getD d 0+less).getD j 0))/\bo=w5) (fun _ u _=>nd.length-(intOf u).toNat)
  case atStart=>exact ⟨0,aj,rfl,rfl,rfl⟩
  case round=>
   obtain ⟨j,ar,rfl,rfl,ab⟩:=hrel;subst ab;have bw:=aQ.u j
   by_cases hlt:j<nd.length
   ·have bf:(j:Int)<(nd.length:Int):=by omega
    obtain ⟨bs,br,e1,d0⟩:=aZ ak.u j (.int .i64 (nd[j]:Nat)) Po;simp only [aI,cz] at e1;obtain ⟨rfl,rfl⟩:=e1;have Q:=aM.u _ (bu hlt);obtain ⟨x,R⟩:∃x,lv[nd[j]]? =some x:=⟨_,aG Q⟩;obtain ⟨bK,bJ,O,bG⟩:=aZ aN.u nd[j] (.int .i64 (x:Nat)) (by rw [dU,R];rfl);simp only [aI,cz] at O;obtain ⟨rfl,rfl⟩:=O;have bF:=aO.u x (bx R);have aR:=ai (show pL (j+1) (fun j=>(nd.map fun d=>lv.getD d 0+less).getD j 0)=max (pL j (fun j=>(nd.map fun d=>lv.getD d 0+less).getD j 0)) (x+less) from by
     have e:(nd.map fun d=>lv.getD d 0+less).getD j 0=x+less:=by
      rw [dQ,dU,aG hlt];simp [R]
     rw [pL,e])
    have bt:((nd[j]:Nat):Int)<(lv.length:Int):=aj;generalize nd[j]=d at*;generalize pL j (fun j=>(nd.map fun d=>lv.getD d 0+less).getD j 0)=o at*;clear R;go_wp2_with fail;exact ⟨⟨j+1,aj,by go_num,by rw [aR.u];first|done|(congr 1;omega),by first|rfl|trivial⟩,by simp [intOf];omega⟩
   obtain rfl:j=nd.length:=aj;have bf:¬((nd.length:Int)<(nd.length:Int)):=aj;have hF:=aU.u;rw [hF] at*;go_wp2;go_ret;exact ⟨rfl,aK.u⟩
end
variable {aF cD:Prop}
def FN (A:aF:=by
 simp [aH,he]):aF:=A
def vl(M:Ex->Nat->Prop)(L:Nat->Nat)(b:Nat):Nat->Ex->Prop
 |less,⟨n,some x,some y⟩=>vl M L b less x/\vl M L b (if n.kind=3\/n.kind=4 then less else 1) y
 |less,⟨n,none,r⟩=>∀d,M ⟨n,none,r⟩ d->L d+less<=b
 |_,⟨_,some _,none⟩=>True
section
variable {M:Ex->Nat->Prop}{L:Nat->Nat}{b:Nat}
theorem FO:∀(rs:List (ae×Nat×Ex)) (less:Nat) (x:Ex),(∀r∈rs,r.1=sg 38\/r.1=sg 45\/r.1=sg 124)->(vl M L b less (dl x rs)↔vl M L b less x/\∀r∈rs,vl M L b (if minus ⟨bW r.1,r.2.1,false⟩=true then 1 else less) r.2.2)
 | [],less,x,_=>by simp [dl]
 |(t,q,y)::rs,less,x,C=>by
  rw [dl,FO rs less _ (fun r D=>C r (gM _ D))];have e1:vl M L b less (fV t q x y)↔vl M L b less x/\vl M L b (if minus ⟨bW t,q,false⟩=true then 1 else less) y:=by
   simp only [fV,vl,pD]
   rcases C (t,q,y) hV with e|e|e
   ·have e':t=sg 38:=e;subst e';rw [show eqs (sg 38) (sg 45)=false from ar,show kindOf (sg 38)=4 from by decide];simp
   ·have e':t=sg 45:=e;subst e';rw [show eqs (sg 45) (sg 45)=true from ar,show kindOf (sg 45)=5 from by decide];simp
   have e':t=sg 124:=e;subst e';rw [show eqs (sg 124) (sg 45)=false from ar,show kindOf (sg 124)=3 from by decide];simp
  rw [e1];simp only [bA,forall_eq_or_imp];exact and_assoc
theorem DZ{c:Nat}(A:∀d,L d<=c):∀(x:Ex)(less:Nat),less<=1->vl M L (c+1) less x
 |⟨n,some x,some y⟩,less,h=>⟨DZ A x less h,DZ A y _ (by split<;>omega)⟩
 |⟨n,none,r⟩,less,h=>fun d _=>by have:=A d;omega
 |⟨_,some _,none⟩,less,h=>trivial
theorem se:∀(x:Ex)(less:Nat),less<=1->vl M L b less x->∀e∈aH x,∀d,M e d->L d+less<=b
 |⟨n,some x,some y⟩,less,hl,h,e,A,d,hd=>by
  simp only [aH,aT] at A
  rcases A with A|A
  ·exact se x less hl h.1 e A d hd
  have:=se y _ (by split<;>omega) h.2 e A d hd
  split at this<;>omega
 |⟨n,none,r⟩,less,hl,h,e,A,d,hd=>by
  simp only [aH,aR] at A;subst A;exact h d hd
 |⟨_,some _,none⟩,less,hl,h,e,A,d,hd=>by simp [aH] at A
theorem yC:∀(x:Ex)(less:Nat),less<=1->vl M L b less x->∀e∈vj x,∀d,M e d->L d+1<=b
 |⟨n,some x,some y⟩,less,hl,h,e,C,d,hd=>by
  unfold vj at C;obtain ⟨h1,h2⟩:=h
  split at C
  ·rename_i D;rw [if_pos D] at h2
   rcases aT.1 C with C|C
   ·exact yC x less hl h1 e C d hd
   exact yC y less hl h2 e C d hd
  rename_i D;rw [if_neg D] at h2
  rcases aT.1 C with C|C
  ·exact yC x less hl h1 e C d hd
  exact se y 1 aj h2 e C d hd
 |⟨n,none,r⟩,less,hl,h,e,C,d,hd=>by simp [vj] at C
 |⟨_,some _,none⟩,less,hl,h,e,C,d,hd=>by simp [vj] at C
theorem D0:∀(x:Ex),(∀e∈aH x,∀d,M e d->L d+1<=b)->vl M L b 1 x
 |⟨n,some x,some y⟩,h=>by
  refine ⟨D0 x (fun e he=>h e FN),?_⟩;rw [ite_self];exact D0 y (fun e he=>h e FN)
 |⟨n,none,r⟩,h=>fun d C=>h _ (by simp [aH]) d C
 |⟨_,some _,none⟩,h=>trivial
theorem D1:∀(x:Ex),(∀e∈aH x,∀d,M e d->L d<=b)->(∀e∈vj x,∀d,M e d->L d+1<=b)->vl M L b 0 x
 |⟨n,some x,some y⟩,h,hn=>by
  unfold vj at hn;refine ⟨D1 x (fun e he=>h e FN) (fun e he=>hn e ?_),?_⟩
  ·split<;>exact m5 _ he
  by_cases C:n.kind=3\/n.kind=4
  ·rw [if_pos C];exact D1 y (fun e he=>h e FN) (fun e he=>hn e (by rw [if_pos C];exact uD _ he))
  rw [if_neg C];exact D0 y (fun e he=>hn e (by rw [if_neg C];exact uD _ he))
 |⟨n,none,r⟩,h,hn=>fun d D=>h _ (by simp [aH]) d D
 |⟨_,some _,none⟩,h,hn=>trivial
end
theorem D2{f b}:∀{k:Nat},pL k f<=b↔∀j,j<k->f j<=b
 |0=>by simp [pL]
 |k+1=>by
  rw [pL]
  constructor
  ·intro C j D
   by_cases e:j=k
   ·subst e;omega
   exact D2.1 (show pL k f<=b by omega) j aj
  intro C;have h1:pL k f<=b:=D2.2 (fun j D=>C j aj);have:=C k aj;omega
section
variable (bm:Nat)(kv rv pv:ag)(kl:List (ae×Nat))(rl:List RV)(pl:List PV)(l:List PX)(rN:ag)(lv:List Nat)
def NdK(M:Ex->Nat->Prop)(X:RV)(body:Ex)(L:List Nat):Prop:=∀m e,m∈L->Tr pl 1 m e->e∈aH body->∃nd:List Nat,nd.length<=2000000/\(∀d∈nd,d<lv.length)/\(∀d,d∈nd↔M e d)/\∀w,DM w bm kv rv pv kl rl pl l->Calls prog 231 #[.pointer (some ⟨bm,5,none⟩),.string X.kd,.int .i64 m,.int .i64 X.ex] w fun e w'=>∃sv,e=.returned sv/\Below w.heap.size w w'/\w'.ownsRow w.heap.size 3 1 sv nd.length (nd.map fun n:Nat=> .int .i64 n)
theorem uO(Z:Ex->Nat->Prop)(i:Nat)(X:RV)(body:Ex)(ai:List Nat)(aA:rl[i]? =some X)(az:NdK bm kv rv pv kl rl pl l lv Z X body ai)(av:∀x∈lv,x<=10000):∀(f n:Nat)(x:Ex),Tr pl f n x->(aH x).length<=1000->(∀e∈aH x,e∈aH body)->(∀m∈aD pl f n,m∈ai)->∀less,less<=1->∃J,NC bm kv rv pv kl rl pl l rN lv i n less J/\∀b,J<=b↔vl Z (fun d=>lv.getD d 0) b less x
 |0,_,_,Q,_,_,_,_,_=>Q.elim
 |f+1,n,x,⟨p,hp,Q⟩,hl,ho,hL,less,hls=>by
  have a2:=uO Z i X body ai aA az av f;have aP:∀d,lv.getD d 0<=10000:=fun d=>by
   rw [dQ]
   cases af:lv[d]? with
   |none=>simp
   |some x=>exact av x (bx af)
  have leaf:¬(p.kind=4\/p.kind=5)->(∃m e,m=n/\Tr pl 1 m e/\x=e)->p.ps=[]->x.l=none->∃J,NC bm kv rv pv kl rl pl l rN lv i n less J/\∀b,J<=b↔vl Z (fun d=>lv.getD d 0) b less x:=by
   rintro ad ⟨m,e,rfl,Y,rfl⟩ aX am;have aR:m∈ai:=hL m (by rw [aD];simp only [hp];rw [if_neg ad];simp);have aS:x∈aH x:=by
    obtain ⟨a4,a3,a6⟩:=x;simp only at am;subst am;simp [aH]
   obtain ⟨nd,h1,h2,I,V⟩:=az m x aR Y (ho x aS);refine ⟨_,DY bm kv rv pv kl rl pl l rN lv i m less X p nd hp aA aX h1 h2 av hls V,fun b=> ?_⟩;rw [SF];obtain ⟨a4,a3,a6⟩:=x;simp only at am;subst am;simp only [aY,forall_exists_index,and_imp,forall_apply_eq_imp_iff₂,vl];exact ⟨fun Q d ar=>Q d ((I d).2 ar),fun Q d ar=>Q d ((I d).1 ar)⟩
  have parts:∀(D:Ex) (rs:List (ae×Nat×Ex)) (ad:p.kind=4\/p.kind=5),cf (Tr pl f) p.ps (D::rs.map fun r=>r.2.2)->x=dl D rs->(∀r∈rs,r.1=sg 38\/r.1=sg 45\/r.1=sg 124)->(p.kind=4->p.sg=⟨[],0,false⟩::rs.map (fun r=>⟨bW r.1,r.2.1,false⟩))->(p.kind=5->∀r∈rs,r.1=sg 124)->∃J,NC bm kv rv pv kl rl pl l rN lv i n less J/\∀b,J<=b↔vl Z (fun d=>lv.getD d 0) b less x:=by
   intro D rs ad an a0 aZ V ag;subst a0;have ab:p.ps.length=(D::rs.map fun r=>r.2.2).length:=cf.len _ _ an;have a1:∀y∈D::rs.map (fun r=>r.2.2),∀e∈aH y,e∈aH (dl D rs):=fun y hy e he=>by
    exact DX
   have aQ:∀y∈D::rs.map (fun r=>r.2.2),(aH y).length<=(aH (dl D rs)).length:=fun y hy=>by
    exact DW
   have aW:p.ps.length<=1000:=by
    rw [ab];refine aL (uN _ (fun y hy=> ?_)) ?_
    ·obtain ⟨m,_,O⟩:=cf.memr _ _ an y hy;exact yA pl f m y O
    rw [dB] at hl
    simpa using hl
   have aN:∃U:Nat->Nat,∀j,U j=if p.kind=4/\(∃t,p.sg[j]? =some t/\minus t=true) then 1 else less:=by
    exact ⟨fun j=>if p.kind=4/\(∃t,p.sg[j]? =some t/\minus t=true) then 1 else less,fun j=>rfl⟩
   obtain ⟨U,al⟩:=aN;have aB:∀j,U j<=1:=fun j=>by rw [al];split<;>omega
   have aU:∀j,∃J:Nat,(∀m,p.ps[j]? =some m->NC bm kv rv pv kl rl pl l rN lv i m (U j) J)/\J<=100000/\∀y,(D::rs.map fun r=>r.2.2)[j]? =some y->∀b,J<=b↔vl Z (fun d=>lv.getD d 0) b (U j) y:=fun j=>by
    cases af:p.ps[j]? with
    |none=>
     refine ⟨0,fun m O=>(by cases O),aj,fun y hy=> ?_⟩;have:=(be.1 hy).1;rw [<-ab] at this;rw [aG this] at af
     cases af
    |some m=>
     obtain ⟨y,hy,Y⟩:=sd an af;have aE:=bx hy;obtain ⟨J,a7,aJ⟩:=a2 m y Y (aL (aQ y aE) hl) (fun e he=>ho e (a1 y aE e he)) (fun aI ah=>hL aI (by rw [aD];simp only [hp];rw [if_pos ad];exact cb.2 ⟨m,bx af,ah⟩)) (U j) (aB j);refine ⟨J,fun aI ah=>(by cases ah;exact a7),aL ((aJ 10001).2 (DZ aP y _ (aB j))) aj,fun ba aC=> ?_⟩;rw [hy] at aC
     cases aC
     exact aJ
   obtain ⟨aK,aw⟩:=Classical.axiomOfChoice aU;refine ⟨_,Bu bm kv rv pv kl rl pl l rN lv i n less p aK U hp ad aW (by rw [ab];simp) (fun e=>by rw [ab,V e];simp) al (fun j m O=>(aw j).1 m O) (fun j=>(aw j).2.1) hls,fun b=> ?_⟩;rw [D2,FO rs less D aZ];have key:∀j y,(D::rs.map fun r=>r.2.2)[j]? =some y->(aK j<=b↔vl Z (fun d=>lv.getD d 0) b (U j) y):=fun j y hy=>(aw j).2.2 y hy b
   have k0:U 0=less:=by
    rw [al,if_neg];rintro ⟨e,t,Y,O⟩;rw [V e] at Y
    cases Y
    rw [wM] at O
    cases O
   have ks:∀j r,rs[j]? =some r->U (j+1)=if minus ⟨bW r.1,r.2.1,false⟩=true then 1 else less:=fun j r R=>by
    rw [al]
    rcases ad with ax|aM
    ·have:p.sg[j+1]? =some ⟨bW r.1,r.2.1,false⟩:=by rw [V ax,s8,dU,R];rfl
     by_cases O:minus ⟨bW r.1,r.2.1,false⟩=true
     ·rw [if_pos ⟨ax,_,this,O⟩,if_pos O]
     rw [if_neg O,if_neg];rintro ⟨_,t,Y,ah⟩;rw [this] at Y
     cases Y
     exact O ah
    have aO:=ag aM r (bx R);rw [if_neg (fun e=>by have:=e.1;omega),pD,aO,show eqs (sg 124) (sg 45)=false from by decide];simp
   constructor
   ·intro Q;refine ⟨?_,fun r R=> ?_⟩
    ·have:=(key 0 D rfl).1 (Q 0 (by rw [ab];simp));rw [k0] at this;exact this
    obtain ⟨j,ac⟩:=iw.1 R;have:=(key (j+1) r.2.2 (by rw [s8,dU,ac];rfl)).1 (Q (j+1) (by have:=(be.1 ac).1;rw [ab];simp;omega));rw [ks j r ac] at this;exact this
   rintro ⟨h0,R⟩ j ac
   rcases j with _|j
   ·refine (key 0 D rfl).2 ?_;rw [k0];exact h0
   have au:j<rs.length:=by rw [ab] at ac;simp at ac;omega
   refine (key (j+1) rs[j].2.2 (by rw [s8,dU,aG au];rfl)).2 ?_;rw [ks j rs[j] (aG au)];exact R _ (bu au)
  rcases Q with ⟨h1,h2,I⟩|⟨h1,h0,h2,I⟩|⟨h1,h0,h2,I⟩|⟨h1,h0,a5,ns,D,rs,I,V,ag,ak,⟨ay,a9⟩,ap⟩|⟨h1,h0,a8,a5,ns,D,rs,I,V,ag,ak,ay,ap⟩
  ·exact leaf aj ⟨n,x,rfl,⟨p,hp,.inl ⟨h1,h2,I⟩⟩,rfl⟩ h2.1 (by rw [I])
  ·exact leaf aj ⟨n,x,rfl,⟨p,hp,.inr (.inl ⟨h1,h0,h2,I⟩)⟩,rfl⟩ h2.1 (by rw [I])
  ·exact leaf aj ⟨n,x,rfl,⟨p,hp,.inr (.inr (.inl ⟨h1,h0,h2,I⟩))⟩,rfl⟩ h2.1 (by rw [I])
  ·exact parts D rs (.inl h1) (by rw [I];exact ⟨V,ag⟩) ap (fun r R=>(ay r R).elim .inl (fun e=> .inr (.inl e))) (fun _=>ak) (fun e=>aj)
  exact parts D rs (.inr h1) (by rw [I];exact ⟨V,ag⟩) ap (fun r R=> .inr (.inr (ak r R))) (fun e=>aj) (fun _=>ak)
end
theorem wQ{f g:Nat->Nat}:∀(l:List Nat),(∀x∈l,f x<=g x)->(l.map f).sum<=(l.map g).sum
 | [],_=>an
 |x::l,h=>by
  have:=wQ l (fun y C=>h y (gM _ C));have:=h x hV;exact x9
theorem wR{f g:Nat->Nat}:∀(l:List Nat)(x:Nat),(∀x∈l,f x<=g x)->x∈l->f x<g x->(l.map f).sum<(l.map g).sum
 | [],x,_,A,_=>by simp at A
 |y::l,x,h,A,hlt=>by
  simp only [cj,List.sum_cons]
  rcases bA.1 A with rfl|A
  ·have:=wQ l (fun z C=>h z (gM _ C));omega
  have:=wR l x (fun z C=>h z (gM _ C)) A hlt;have:=h y hV;omega
def SG(ρ:Nat->Nat)(h:Nat)(lv:List Nat):Nat:=((List.range h).map fun i=>ρ i-lv.getD i 0).sum
variable {i:Nat}
theorem uP{lv:List Nat}{v:Nat}(hi:i<lv.length)(d:Nat):(lv.set i v).getD d 0=if d=i then v else lv.getD d 0:=by
 rw [dQ,dQ,List.getElem?_set]
 by_cases e:i=d
 ·subst e;rw [if_pos rfl,if_pos rfl,if_pos hi]
  rfl
 rw [if_neg e,if_neg (fun e'=>e e'.symm)]
variable {w:af} {g:Nat} {xs:List ag} {e:TypeId}
theorem uQ(C:aB w g xs.toArray e)(D:xs.length<=maxLen):w.ownsRow 0 e 1 (.slice (some ⟨g,0,none⟩) xs.length xs.length) xs.length xs:=
 ⟨an,.inr ⟨g,xs.length,xs.toArray,rfl,gZ _,C,cm _,D,an,an⟩⟩
def yN(l:List Nat):List ag:=l.map fun n:Nat=> .int .i64 n
structure SH(ρ:Nat->Nat)(R:Nat)(Bd:List Nat->Nat->Nat->Prop)(ND lv:List Nat)(again:Bool)(i:Nat):Prop where
 len:lv.length=R
 le:∀j,lv.getD j 0<=ρ j
 no:again=false->lv=ND/\∀j,j<i->Bd ND j (ND.getD j 0)
 yes:again=true->SG ρ R lv<SG ρ R ND
variable {again:Bool}
theorem SH.same{ρ R Bd ND lv}(C:SH ρ R Bd ND lv again i)(D:Bd lv i (lv.getD i 0)):SH ρ R Bd ND lv again (i+1):=
 ⟨C.len,C.le,fun e=>⟨(C.no e).1,fun j I=>by
  by_cases e':j=i
  ·subst e';rw [(C.no e).1] at D;exact D
  exact (C.no e).2 j aj⟩,C.yes⟩
theorem SH.up{ρ R Bd ND lv again i v}(h:SH ρ R Bd ND lv again i)(hi:i<R)(I:lv.getD i 0<v)(D:v<=ρ i):SH ρ R Bd ND (lv.set i v) true (i+1):=by
 have A:i<lv.length:=by rw [h.len];exact hi
 refine ⟨by rw [gK];exact h.len,fun j=> ?_,fun e=>Bool.noConfusion e,fun _=> ?_⟩
 ·rw [uP A]
  split
  ·rename_i e;subst e;exact D
  exact h.le j
 have h1:SG ρ R (lv.set i v)<SG ρ R lv:=wR _ i (fun j _=>by
  rw [uP A]
  split
  ·rename_i e;subst e;omega
  ·omega) (List.mem_range.2 hi) (by
  rw [uP A,if_pos rfl];omega)
 cases C:again
 ·rw [(h.no C).1] at h1 ⊢;exact h1
 exact Nat.lt_trans h1 (h.yes C)
def SI(ρ:Nat->Nat)(A:List Nat->Nat->Nat->Prop)(h:Nat)(w:af)(e:Ending)(w':af):Prop:=∃b lv,e=.returned (.slice (some ⟨b,0,none⟩) h h)/\Below w.heap.size w w'/\lv.length=h/\w'.ownsRow 0 3 1 (.slice (some ⟨b,0,none⟩) h h) h (yN lv)/\(∀j,lv.getD j 0<=ρ j)/\∀j,j<h->A lv j (lv.getD j 0)
section
variable (bm:Nat)(kv rv pv:ag)(kl:List (ae×Nat))(rl:List RV)(pl:List PV)(l:List PX)
theorem D3(Q:Nat->Nat)(Y:List Nat->Nat->Nat->Prop)(aQ:∀j,Q j<=10000)(aM:∀(rN:ag)(lv:List Nat)(i:Nat)(X:RV),lv.length=rl.length->(∀j,lv.getD j 0<=Q j)->rl[i]? =some X->∃I,NC bm kv rv pv kl rl pl l rN lv i X.ex 0 I/\I<=Q i/\∀b,I<=b↔Y lv i b)(w:af)(V:DM w bm kv rv pv kl rl pl l)(h0:0<rl.length):
  Calls prog 198 #[.pointer (some ⟨bm,5,none⟩)] w (SI Q Y rl.length w):=by
 obtain ⟨ba,rc,a3⟩:=ay V.rt;have U:=V.c6;rw [a3] at U;have a8:=V.rn;have a1:∀w,(Instr.makeSlice 29 (.int .i64 (rl.length:Int)) (.int .i64 (rl.length:Int))).run prog w=.ok (.slice (some ⟨w.heap.size,0,none⟩) rl.length rl.length) (w.alloc (.cells (madeCells #[.int .i64 0] rl.length) 3)):=fun w=>run_make_row' 29 3 (.int .i64 0) 8 underlying29 Tryz.infoInt rfl .i64 .i64 rl.length aj aj w
 have aI:=ai (show aB (w.alloc (.cells (madeCells #[.int .i64 0] rl.length) 3)) w.heap.size (yN (List.replicate rl.length 0)).toArray 3 from by
  have e:madeCells #[.int .i64 0] rl.length=(yN (List.replicate rl.length 0)).toArray:=by
   apply Array.ext_getElem?;intro i
   by_cases hi:i<rl.length
   ·simp [madeCells,yN,hi,Nat.mod_one]
   simp [madeCells,yN,hi]
  rw [e];exact aB.new w _ _)
 have aE:=ai ((aw w.heap.size w).alloc az (.cells (madeCells #[.int .i64 0] rl.length) 3));have ah:=ai V;have aS:=ai aM;have aW:=ai aQ;clear V aM aQ;go_enter func198,ntmps198;go_wp2_with fail;clear a1 U;generalize w.alloc (.cells (madeCells #[.int .i64 0] rl.length) 3)=W at*
 go_loopg [4] (2*SG Q rl.length (List.replicate rl.length 0)+2) (fun k aC wr=>∃(b:Bool)(lv:List Nat),aC=.bool b/\Below w.heap.size w wr/\aB wr w.heap.size (yN lv).toArray 3/\Hid (lv.length=rl.length/\(∀j,lv.getD j 0<=Q j)/\(b=false->∀j,j<rl.length->Y lv j (lv.getD j 0))/\2*SG Q rl.length lv+(if b then 1 else 0)<k))
 case atStart=>exact ⟨true,_,rfl,aE.u,aI.u,ai ⟨an,(fun j=>by
  rw [dQ,List.getElem?_replicate]
  split<;>simp),(fun e=>by cases e),an⟩⟩
 case round=>
  obtain ⟨b,lv,rfl,J,O,R⟩:=hrel
  cases b with
  |false=>
   have ad:=ai J;have al:=ai (uQ O (by unfold yN maxLen;rw [cK,(ak R).1];omega));clear J O;go_wp2;go_ret;refine ⟨w.heap.size,lv,rfl,ad.u,(ak R).1,?_,(ak R).2.1,(ak R).2.2.1 (by first|rfl|trivial)⟩;have:=al.u;have e:(yN lv).length=rl.length:=by unfold yN;rw [cK,(ak R).1]
   rw [e] at this;exact this
  |true=>
   have ad:=ai J;have al:=ai O;clear J O aE aI;go_wp2_with fail
   go_loopw [4,5] (fun aC aD aR=>∃(b:Bool)(i:Nat)(C:List Nat),aC=.bool b/\aD=.int .i64 i/\i<=rl.length/\Below w.heap.size w aR/\aB aR w.heap.size (yN C).toArray 3/\Hid (SH Q rl.length Y lv C b i)) (fun _ aD _=>rl.length-(intOf aD).toNat)
   case atStart=>exact ⟨false,0,lv,rfl,rfl,aj,ad.u,al.u,ai ⟨(ak R).1,(ak R).2.1,(fun _=>⟨rfl,fun j aP=>aj⟩),(fun e=>by cases e)⟩⟩
   case round=>
    obtain ⟨b,i,C,rfl,rfl,hi,J,O,D⟩:=hrel;have ae:=ai J;have aJ:=ai O
    by_cases ax:i<rl.length
    ·have a0:(i:Int)<(rl.length:Int):=by omega
     obtain ⟨X,ar⟩:∃X,rl[i]? =some X:=⟨_,aG ax⟩;obtain ⟨I,aN,ap,aO⟩:=aS.u (.slice (some ⟨w.heap.size,0,none⟩) rl.length rl.length) C i X (ak D).len (ak D).le ar;have aA:=uQ O (by unfold yN maxLen;rw [cK,(ak D).len];omega);have aK:(yN C).length=rl.length:=by unfold yN;rw [cK,(ak D).len]
     rw [aK] at aA;have ac:=ai (aN wr (ah.u.below J) (by rw [(ak D).len];exact aA));obtain ⟨bb,bc,a2,a4,a5,a6,r3⟩:=(ah.u.below J).rat i X ar;have U:=(ah.u.below J).c6;rw [a2] at U;have a7:=aL ap (aW.u i);have aU:=ai aO;have aT:=ai ap;clear aN ap aO aA aK a4 a5 a6 J O ar;go_wp2_with fail;refine ac.u.mono ?_;rintro e w1 ⟨rfl,ab⟩;have aH:=ai (ae.u.trans (ab.mono ae.u.size));have Z:=ai (aJ.u.below ab);have av:i<C.length:=by rw [(ak D).len];exact ax
     have a9:w1.cell? ⟨w.heap.size,i,none⟩=some (.int .i64 (C.getD i 0:Nat)):=Z.u.cell (by
      unfold yN;simp [dQ,av])
     have fz:=Z.u.fz;have aY:=ai (show aB (w1.setCell ⟨w.heap.size,i,none⟩ (.int .i64 (I:Nat))) w.heap.size (yN (C.set i I)).toArray 3 from by
      have:=Z.u.set i (.int .i64 (I:Nat));unfold yN at this ⊢;rw [oF]
      simpa using this)
     have aX:=ai (aH.u.setCell (p:=⟨w.heap.size,i,none⟩) az (.int .i64 (I:Nat)))
     by_cases au:C.getD i 0<I
     ·have am:=ai ((ak D).up ax au aT.u);have aZ:((C.getD i 0:Nat):Int)<(I:Int):=aj;generalize C.getD i 0=lo at*;clear ab ac au av D U r3;go_wp2_with fail;exact ⟨⟨true,i+1,_,rfl,by go_num,aj,aX.u,aY.u,am⟩,by simp [intOf];omega⟩
     have am:=ai ((ak D).same ((aU.u _).1 aj));have aZ:¬(((C.getD i 0:Nat):Int)<(I:Int)):=aj;generalize C.getD i 0=lo at*;clear ab ac au av D U r3;go_wp2_with fail;exact ⟨⟨b,i+1,C,rfl,by go_num,aj,aH.u,Z.u,am⟩,by simp [intOf];omega⟩
    obtain rfl:i=rl.length:=aj;have a0:¬((rl.length:Int)<(rl.length:Int)):=aj;clear J O;go_wp2
    go_roundg (2*SG Q rl.length C+(if b then 1 else 0)+1)
    case measure=>
     have h1:=(ak R).2.2.2;have h2:=ak D
     cases b with
     |false=>simp at h1 ⊢;rw [(h2.no rfl).1];omega
     |true=>have:=h2.yes rfl;simp at h1 ⊢;omega
    case rel=>exact ⟨b,C,rfl,ae.u,aJ.u,ai ⟨(ak D).len,(ak D).le,(fun e j aP=>by rw [((ak D).no e).1];exact ((ak D).no e).2 j aP),aj⟩⟩
end
theorem Tryz.info2s:(Tryz.prog.info? 382).map (fun i=>(i.zero,i.size,i.bytes))=some (some (.agg #[.string ⟨#[]⟩,.string ⟨#[]⟩]),2,32):=by kernel_rfl
def ew(th:List (ae×ae))(x n:ae):List (ae×ae):=if uK th x n<0 then th++[(x,n)] else th
theorem ie{th x n}:(uK th x n= -1/\(x,n)∉th)\/∃m:Nat,uK th x n=m/\th[m]? =some (x,n):=by
 unfold uK
 cases A:th.findIdx? (fun p=>eqs p.1 x&&eqs p.2 n) with
 |none=>
  rw [n9] at A;refine .inl ⟨rfl,fun C=> ?_⟩;have:=A _ C;rw [(bn _ _).2 rfl,(bn _ _).2 rfl] at this
  cases this
 |some i=>
  obtain ⟨hi,h,_⟩:=kg.1 A;rw [bO,bn,bn] at h;exact .inr ⟨i,rfl,by rw [aG hi];congr 1;exact Prod.ext h.1 h.2⟩
theorem kZ{th x n}:(x,n)∈ew th x n/\∀p∈th,p∈ew th x n:=by
 unfold ew
 rcases ie (th:=th) (x:=x) (n:=n) with ⟨e,_⟩|⟨m,e,D⟩
 ·rw [if_pos aj];exact ⟨an,fun p C=>m5 _ C⟩
 rw [if_neg aj];exact ⟨bx D,fun p C=>C⟩
theorem m9{th x n}:(ew th x n).length<=th.length+1:=by
 unfold ew
 split<;>simp
theorem yD{th x n}(C:th.Nodup):(ew th x n).Nodup:=by
 unfold ew
 rcases ie (th:=th) (x:=x) (n:=n) with ⟨e,I⟩|⟨m,e,I⟩
 ·rw [if_pos aj,xX];exact ⟨C,an,fun a ha b D e=>by rw [aR] at D;subst D;subst e;exact I ha⟩
 rw [if_neg aj];exact C
def M8(B b:Nat)(c0 c1 c2 h:ag)(th:List (ae×ae))(w:af)(e:Ending)(w':af):Prop:=e=.returned (.tuple #[])/\∃gv,aB w' b #[c0,c1,c2,gv,h] 351/\w'.ownsRow B 382 2 gv th.length (th.flatMap Im)/\Below B w w'
theorem uR(B b c0 c1 c2 c4 gv th x n w)(D:aB w b #[c0,c1,c2,gv,c4] 351)(Q:w.ownsRow B 382 2 gv th.length (th.flatMap Im))(aL:th.length<=900)(aE:B<=b):
  Calls prog 197 #[.pointer (some ⟨b,0,none⟩),.string x,.string n] w (M8 B b c0 c1 c2 c4 (ew th x n) w):=by
 have C:=ai (pK b c0 c1 c2 c4 gv th x n w D (aX Q (gZ _)) aj);obtain ⟨ga,gc,rfl⟩:=ay Q;have aK:w.cell? ⟨b,3,none⟩=some (.slice ga th.length gc):=D.cell rfl;have U:=ai Q;have ae:=ai D;have fz:=D.fz;have aN:=D.lt;have aI:=ai (ie (th:=th) (x:=x) (n:=n));have O:=ai (show ew th x n=if uK th x n<0 then th++[(x,n)] else th from rfl);generalize ew th x n=Y at*;generalize uK th x n=tn at*;clear Q D;go_enter func197,ntmps197;go_wp2_with fail;refine C.u.mono ?_;rintro e w1 ⟨rfl,al⟩;rw [al];clear al w1 C
 by_cases ag:tn<0
 ·have R:Y=th++[(x,n)]:=by rw [O.u,if_pos ag]
  have ax:=ai R;obtain ⟨i0,af,am,an,ap⟩:=bH Tryz.info2s;have av:=ai af;have az:=ai am;have aA:=ai an;have aC:=ai ap;clear af am an ap R O;go_wp2_with (at_builtin;go_must (refine bD _ rfl _ _ 348 rfl B 382 i0 _ 2 32 underlying348 av.u az.u aA.u aC.u rfl ar (.slice ga th.length gc) th.length (th.flatMap Im) rfl ?sP ⟨w.heap.size,0,none⟩ 1 1 [.string x,.string n] rfl rfl ?lg ?o5 ar ?xk ?jo ?lh (w.heap.size+1) ?N3 ?pZ))
  case sP=>exact U.u.alloc _
  case lg=>exact bE (B:=w.heap.size) (cs:=#[.string x,.string n]) (t:=382) (fr:=(0,0)) (aB.new _ _ _)
  case o5=>
   intro u ak;simp at ak
   rcases ak with rfl|rfl<;>rfl
  case xk=>unfold maxLen;omega
  case jo=>omega
  case lh=>simp;omega
  case N3=>simp
  case pZ=>
   intro ab Z ad ah ac aD aG;have V:=U.u.alloc (.cells #[.string x,.string n] 382);have J:=ae.u.alloc (.cells #[.string x,.string n] 382);have I:aB ad b #[c0,c1,c2,.slice ga th.length gc,c4] 351:=(ac.block b J.lt (own_ne V J ar)).trans J;have aJ:=I.fz;have k3:ad.cell? ⟨b,3,none⟩=some (.slice ga th.length gc):=I.cell rfl;have au:=ai (show M8 B b c0 c1 c2 c4 Y w (.returned (.tuple #[])) (ad.setCell ⟨b,3,none⟩ (.slice (some ⟨ab,0,none⟩) (th.length+1) Z)) from by
    refine ⟨rfl,.slice (some ⟨ab,0,none⟩) (th.length+1) Z,I.set 3 _,?_,?_⟩
    ·rw [ax.u];have:=lV ah I ar 3 (.slice (some ⟨ab,0,none⟩) (th.length+1) Z)
     simpa [Im] using this
    exact (dc ((aw B w).alloc aj (.cells #[.string x,.string n] 382)) ac aM (fun q aH=>(V.lt q aH).1)).setCell (p:=⟨b,3,none⟩) aE _)
   clear V J ah ac aD aG I;go_wp2;go_end0;exact au.u
 ·have R:Y=th:=by rw [O.u,if_neg ag]
  subst R;clear O;go_wp2;go_end0;exact ⟨rfl,_,ae.u,U.u,aw _ _⟩
variable {aF cD:Prop}
abbrev lW(a0:Option Addr)(a1:Nat):Obj:=.cells #[.slice a0 a1 a1] 353
abbrev D4(a0:Option Addr)(a1:ae)(a2:ae):Obj:=.cells #[.pointer a0,.string a1,.string a2,.slice none 0 0,.slice none 0 0] 351
def oT(th:List (ae×ae))(ss:List ae):List (ae×ae):=ss.foldl (fun th s=>ew (ew th (tt s).kind (tt s).id) (tt s).sub (tt s).who) th
theorem yE:∀(ss:List ae) (th:List (ae×ae)),(oT th ss).length<=th.length+2*ss.length
 | [],th=>by simp [oT]
 |s::ss,th=>by
  have:=yE ss (ew (ew th (tt s).kind (tt s).id) (tt s).sub (tt s).who);have h1:=m9 (th:=th) (x:=(tt s).kind) (n:=(tt s).id);have h2:=m9 (th:=ew th (tt s).kind (tt s).id) (x:=(tt s).sub) (n:=(tt s).who);unfold oT at this ⊢;rw [qv];simp only [List.length_cons];omega
theorem M9(th ss s):oT th (ss++[s])=ew (ew (oT th ss) (tt s).kind (tt s).id) (tt s).sub (tt s).who:=by simp [oT]
structure UK(B:Nat)(W wr:af)(b y:Nat)(kd who:ae)(yv:ag)(th:List (ae×ae)):Prop where
 ex:∃gv,aB wr b #[.pointer (some ⟨y,0,none⟩),.string kd,.string who,gv,yv] 351/\wr.ownsRow B 382 2 gv th.length (th.flatMap Im)
 low:Below B W wr
theorem Tryz.infoBo:(Tryz.prog.info? 4).map (fun i=>(i.zero,i.size,i.bytes))=some (some (.bool false),1,1):=by kernel_rfl
theorem Tryz.infoBs:(Tryz.prog.info? 353).map (fun i=>(i.zero,i.size,i.bytes))=some (some (.slice none 0 0),1,24):=by kernel_rfl
def Uj(B:Nat)(W wr:af)(b y:Nat)(kd who:ae)(th:List (ae×ae))(r:Nat):Prop:=∃(gv yv:ag)(bs:List Nat),aB wr b #[.pointer (some ⟨y,0,none⟩),.string kd,.string who,gv,yv] 351/\wr.ownsRow B 382 2 gv th.length (th.flatMap Im)/\wr.ownsRow B 353 1 yv r (bs.map fun q=> .slice (some ⟨q,0,none⟩) th.length th.length)/\bs.length=r/\(∀q∈bs,B<=q/\vk wr q th.length (fun _=>false) 4)/\bs.Nodup/\Below B W wr
variable {B b g5 aV:Nat} {W w5:af} {gv:ag}
theorem Na{C:af}{y:Nat}{kd who:ae}{th:List (ae×ae)}{r:Nat}{yv:ag}{bs:List Nat}{mc:Array ag}(ap:aB C b #[.pointer (some ⟨y,0,none⟩),.string kd,.string who,gv,yv] 351)(V:C.ownsRow B 382 2 gv th.length (th.flatMap Im))(aG:C.ownsRow B 353 1 yv r (bs.map fun q=> .slice (some ⟨q,0,none⟩) th.length th.length))(au:bs.length=r)(ad:∀q∈bs,B<=q/\vk C q th.length (fun _=>false) 4)(aC:bs.Nodup)(ay:Below B W C)(am:B<=b)(ab:B<=C.heap.size)(aA:madeCells #[.bool false] th.length=mc)
  (O:((C.alloc (.cells mc 4)).alloc (lW (some ⟨C.heap.size,0,none⟩) th.length)).drew.grownBy w5 yv.ownBlock) (aD:w5.ownsRow B 353 1 (.slice (some ⟨g5,0,none⟩) (r+1) aV) (r+1) ((bs.map fun q=> .slice (some ⟨q,0,none⟩) th.length th.length)++[.slice (some ⟨C.heap.size,0,none⟩) th.length th.length])):
  Uj B W (w5.setCell ⟨b,4,none⟩ (.slice (some ⟨g5,0,none⟩) (r+1) aV)) b y kd who th (r+1):=by
 have A:=((aw C.heap.size C).alloc az (.cells mc 4)).alloc an (lW (some ⟨C.heap.size,0,none⟩) th.length) |>.drew;have I:=bX ((aG.alloc (.cells mc 4)).alloc (lW (some ⟨C.heap.size,0,none⟩) th.length));have Q:=ap.below A;have J:aB w5 b _ 351:=(O.block b Q.lt (own_ne I Q ar)).trans Q;have R:aB ((C.alloc (.cells mc 4)).alloc (lW (some ⟨C.heap.size,0,none⟩) th.length)).drew C.heap.size mc 4:=((aB.new C mc 4).alloc _).drew;have Y:aB w5 C.heap.size mc 4:=(O.block _ R.lt (own_ne I R ar)).trans R;have e:mc=((DS th.length (fun _=>false)).map Value.bool).toArray:=by
  rw [<-aA];apply Array.ext_getElem?;intro i
  by_cases hi:i<th.length
  ·simp [madeCells,DS,hi,Nat.mod_one]
  simp [madeCells,DS,hi]
 have aj:Below B C w5:=dc (A.mono ab) O aM (fun q D=>(I.lt q D).1);refine ⟨gv,.slice (some ⟨g5,0,none⟩) (r+1) aV,bs++[C.heap.size],J.set 4 _,?_,?_,by simp [au],fun q D=> ?_,?_,(ay.trans aj).setCell (p:=⟨b,4,none⟩) am _⟩
 ·exact lV (cA (aE V A) (fun g cs f av ax=>O.block g (lt_of_some ax) (fun e=>by
   obtain ⟨m,c,e1⟩:=qQ (aE V A) av;obtain ⟨aK,aH,al⟩:=qQ I e.symm;have ah:=aE V A;rw [e1] at ah;obtain ⟨aI,b1,_⟩:=eD ah;have ai:=I;rw [al] at ai;obtain ⟨aJ,ak,_⟩:=eD ai;exact qT b1 ak ar rfl))) J ar 4 _
 ·rw [de];exact lV aD J ar 4 _
 ·rcases aT.1 D with D|D
  ·obtain ⟨h1,h2⟩:=ad q D;have U:aB _ q _ 4:=(h2.below A);have Z:aB w5 q _ 4:=(O.block q U.lt (own_ne I U ar)).trans U;exact ⟨h1,aB.other Z (qT Z J ar) _⟩
  rw [aR] at D;subst D;refine ⟨ab,aB.other (show aB w5 C.heap.size ((DS th.length (fun _=>false)).map Value.bool).toArray 4 from by rw [<-e];exact Y) (qT Y J ar) _⟩
 ·rw [xX];refine ⟨aC,an,fun a ha b ac e=> ?_⟩;rw [aR] at ac;subst ac;subst e;have:=(ad _ ha).2.lt;omega
theorem sf:∀(ss:List ae) (th:List (ae×ae)) (p:ae×ae),p∈th->p∈oT th ss
 | [],th,p,h=>h
 |s::ss,th,p,h=>sf ss _ p (kZ.2 _ (kZ.2 _ h))
def l9(g:GP)(lv:List Nat)(bd:Nat->Ex)(n:Nat)(K0 K:Nat->Nat->Bool):Prop:=∀P:(Nat->Nat->Bool)->Prop,P K0->(∀K r k X (q:ae×ae),P K->g.rl[r]? =some X->g.th[k]? =some q->lv[r]? =some n->q.1=X.kd->kE g K X k q.2 (bd r)=true->P (yx K r k))->P K
def l9.nil{g lv bd n K0}:l9 g lv bd n K0 K0:=fun _ a _=>a
def l9.up{g lv bd n K0 K r k X}{q:ae×ae}(h:l9 g lv bd n K0 K)(a:g.rl[r]? =some X)(b:g.th[k]? =some q)(c:lv[r]? =some n)(d:q.1=X.kd)(e:kE g K X k q.2 (bd r)=true):l9 g lv bd n K0 (yx K r k):=fun P x y=>y K r k X q (h P x y) a b c d e
def l9.ind{g lv bd n K0}{motive:∀K,l9 g lv bd n K0 K->Prop}(nil:motive K0 .nil)(up:∀{K r k X}{q:ae×ae}(h:l9 g lv bd n K0 K)(a:g.rl[r]? =some X)(b:g.th[k]? =some q)(c:lv[r]? =some n)(d:q.1=X.kd)(e:kE g K X k q.2 (bd r)=true),motive K h->motive _ (h.up a b c d e)){K}(h:l9 g lv bd n K0 K):motive K h:=
 (h (fun K=>∃h,motive K h) ⟨_,nil⟩ (fun K r k X q ⟨h,i⟩ a b c d e=>⟨_,up h a b c d e i⟩)).elim fun _ i=>i
def rO(g:GP)(lv:List Nat)(bd:Nat->Ex)(n:Nat)(K:Nat->Nat->Bool):Prop:=∀P:Nat->(Nat->Nat->Bool)->Prop,P 0 (fun _ _=>false)->(∀n K0 K,P n K0->l9 g lv bd n K0 K->SE g lv bd n K->P (n+1) K)->P n K
def rO.zero{g lv bd}:rO g lv bd 0 fun _ _=>false:=fun _ a _=>a
def rO.succ{g lv bd n K0 K}(h:rO g lv bd n K0)(a:l9 g lv bd n K0 K)(b:SE g lv bd n K):rO g lv bd (n+1) K:=fun P x y=>y n K0 K (h P x y) a b
def rO.ind{g lv bd}{motive:∀n K,rO g lv bd n K->Prop}(zero:motive 0 _ .zero)(succ:∀{n K0 K}(h:rO g lv bd n K0)(a:l9 g lv bd n K0 K)(b:SE g lv bd n K),motive n K0 h->motive _ K (h.succ a b)){n K}(h:rO g lv bd n K):motive n K h:=
 (h (fun n K=>∃h,motive n K h) ⟨_,zero⟩ (fun n K0 K ⟨h,i⟩ a b=>⟨_,succ h a b i⟩)).elim fun _ i=>i
variable {w w':af} {n:Nat} {xs:List ag}
theorem Pr{g K rN}(D:GI w g K)(C:w.ownsRow 0 3 1 rN n xs)(I:bI (fun k=>k∈g.bs) w w'):w'.ownsRow 0 3 1 rN n xs:=
 cA C (fun q cs f Q J=>I.block q (lt_of_some J) (fun O=>by
  obtain ⟨m,c,e1⟩:=qQ C Q;rw [e1] at C;obtain ⟨U,b1,_⟩:=eD C;obtain ⟨r,R,e⟩:=dn O;exact qT b1 (D.yb r q (by rw [<-e];exact aG R)) ar rfl))
structure QS(g:GP)(b y bm:Nat)(kl:List (ae×Nat))(rl:List RV)(pl:List PV)(l:List PX)(ss:List ae)(th:List (ae×ae))(kd who:ae):Prop where
 b:g.b=b
 y:g.y=y
 bm:g.bm=bm
 kl:g.kl=kl
 rl:g.rl=rl
 pl:g.pl=pl
 l:g.l=l
 ss:g.ss=ss
 th:g.th=th
 kd:g.kd=kd
 who:g.who=who
def SJ(ρ:Nat->Nat)(h:List Nat->Nat->Nat->Prop)(bd:Nat->Ex)(y bm:Nat)(kl:List (ae×Nat))(rl:List RV)(pl:List PV)(l:List PX)(ss:List ae)(kd who id:ae)(rel:Nat)(X:RV)(w:af)(e:Ending)(w':af):Prop:=∃g lv K m,e=.returned (.bool (K rel m))/\Below w.heap.size w w'/\QS g (w.heap.size+1) y bm kl rl pl l ss (oT (ew [] X.kd id) ss) kd who/\uK (oT (ew [] X.kd id) ss) X.kd id=(m:Nat)/\m<(oT (ew [] X.kd id) ss).length/\lv.length=rl.length/\(∀j,lv.getD j 0<=ρ j)/\(∀j,j<rl.length->h lv j (lv.getD j 0))/\rO g lv bd (rl.length+1) K
theorem D5(ρ Bd bd)(y bm:Nat)(tv kv rv pv kl rl pl l ss kd who id)(rel:Nat)(X w)(aT:DU w y (.pointer (some ⟨bm,5,none⟩)) tv ss)(aU:DM w bm kv rv pv kl rl pl l)(cL:∃cs,aB w bm cs 252)(bA:rl[rel]? =some X)(dO:ss.length<=24)(cY:∀j,ρ j<=10000)(cy:∀(rN:ag)(lv:List Nat)(i:Nat)(X:RV),lv.length=rl.length->(∀j,lv.getD j 0<=ρ j)->rl[i]? =some X->∃br,NC bm kv rv pv kl rl pl l rN lv i X.ex 0 br/\br<=ρ i/\∀b,br<=b↔Bd lv i b)(cB:∀g,QS g (w.heap.size+1) y bm kl rl pl l ss (oT (ew [] X.kd id) ss) kd who->∀aD r k X q,g.rl[r]? =some X->g.th[k]? =some q->MZ g aD r k X.ex (kE g aD X k q.2 (bd r))):
  Calls prog 138 #[.pointer (some ⟨y,0,none⟩),.string kd,.string who,.agg #[.int .i64 rel,.string id]] w (SJ ρ Bd bd y bm kl rl pl l ss kd who id rel X w):=by
 have bZ:=ai cy;have ck:=ai cY;have co:=ai cB;have b0:=ai aT;have a5:=ai aU;have da:=ai cL;have dv:=ai bA;clear cy cY cB;have a1:=(aw w.heap.size w).alloc az (.cells #[.int .i64 rel,.string id] 270);have a2:=a1.alloc a1.size (D4 (some ⟨y,0,none⟩) kd who);have a7:=ai ((aB.new w #[.int .i64 rel,.string id] 270).alloc (D4 (some ⟨y,0,none⟩) kd who));have b2:=ai (aB.new' (w.alloc (.cells #[.int .i64 rel,.string id] 270)) #[.pointer (some ⟨y,0,none⟩),.string kd,.string who,.slice none 0 0,.slice none 0 0] 351 (w.heap.size+1) an);have bY:=ai a2;have aL:=ai (aT.below a2);have cf:=ai (aU.below a2);have ej:=aU.rn;have dN:=(be.1 bA).1;have eh:(rel:Int)<(rl.length:Int):=aj;have ep:=aT.blk.lt;have dr:=ai (show ∀(J n c:Nat),tv=.slice (some ⟨J,0,none⟩) n c->J<w.heap.size from fun J n c e=>by
  have bK:=aT.row;rw [e] at bK;obtain ⟨dZ,Y,_⟩:=eD bK;exact Y.lt)
 have ed:bm<w.heap.size:=by obtain ⟨cs,au⟩:=cL;exact au.lt
 obtain ⟨av,rc,bL,a3,bQ,cZ,dW⟩:=aU.rat rel X bA;have ef:av<w.heap.size:=World.block_lt_of_cell? w ⟨av,rel*4,none⟩ a3;have c2:=am a3 a2;clear a1 a2 aT aU a3 bQ cZ dW;go_enter func138,ntmps138
 go_upto_region 2 with fail
 generalize (w.alloc (.cells #[.int .i64 rel,.string id] 270)).alloc (D4 (some ⟨y,0,none⟩) kd who)=W at*;obtain ⟨B,d7⟩:∃B,B=w.heap.size+1:=⟨_,rfl⟩;have d8:B<=W.heap.size:=by have:=b2.u.lt;omega
 have c0:W.cell? ⟨y,0,none⟩=some (.pointer (some ⟨bm,5,none⟩)):=aL.u.blk.cell rfl;have c1:=cf.u.c6;rw [bL] at c1;have c3:W.cell? ⟨w.heap.size,0,none⟩=some (.int .i64 rel):=a7.u.cell rfl;have bb:W.cell? ⟨w.heap.size,1,none⟩=some (.string id):=a7.u.cell rfl;have aK:=ai (fun (w':af) (Y:Below W.heap.size W w')=>uR B (w.heap.size+1) (.pointer (some ⟨y,0,none⟩)) (.string kd) (.string who) (.slice none 0 0) (.slice none 0 0) [] X.kd id w' (b2.u.below Y) (bN) an aj);have ap:=ai (aw W.heap.size W)
 go_region_held3 (fun w'=>w'.cell? ⟨y,0,none⟩=some (.pointer (some ⟨bm,5,none⟩))/\w'.cell? ⟨bm,6,none⟩=some (.slice (some ⟨av,0,none⟩) rl.length rc)/\w'.cell? ⟨av,rel*4,none⟩=some (.string X.kd)/\w'.cell? ⟨w.heap.size,0,none⟩=some (.int .i64 rel)/\w'.cell? ⟨w.heap.size,1,none⟩=some (.string id)) (go_keep)
  ((go_at_call 197;refine (aK.u _ (show Below W.heap.size W _ from (bB ap))).mono ?_;rintro e w1 ⟨rfl,al⟩;have cu:=ai al;obtain ⟨_,_,_,ah⟩:=al;have Q:=ai (show Below B W w1 from gQ (show Below B W _ from (show Below W.heap.size W _ from (bB ap)).mono aj) ah);have d0:=(Q.u.cell (p:=⟨y,0,none⟩) (show y<B by omega)).trans c0;have d1:=(Q.u.cell (p:=⟨bm,6,none⟩) (show bm<B by omega)).trans c1;have d2:=(Q.u.cell (p:=⟨av,rel*4,none⟩) (show av<B by omega)).trans c2;have d3:=(Q.u.cell (p:=⟨w.heap.size,0,none⟩) (show w.heap.size<B by omega)).trans c3;have d4:=(Q.u.cell (p:=⟨w.heap.size,1,none⟩) (show w.heap.size<B by omega)).trans bb;clear ah))
 have cp:=ai (show UK B W w1 (w.heap.size+1) y kd who (.slice none 0 0) (oT (ew [] X.kd id) (ss.take 0)) from by
  obtain ⟨gv,bt,bu,_⟩:=cu.u;exact ⟨⟨gv,by simpa using bt,by simpa [oT] using bu⟩,Q.u⟩)
 have ek:=dO;clear c0 c1 c2 c3 bb d0 d1 d2 d3 d4 aK ap Q cu;go_wp2_with fail
 go_loopw [10] (fun u wr=>∃i:Nat,i<=ss.length/\u=.int .i64 i/\UK B W wr (w.heap.size+1) y kd who (.slice none 0 0) (oT (ew [] X.kd id) (ss.take i))) (fun u _=>ss.length-(intOf u).toNat)
 case atStart=>exact ⟨0,aj,rfl,cp.u⟩
 case round=>
  obtain ⟨i,hi,rfl,dD⟩:=hrel;clear cp;obtain ⟨⟨gv,Z,ac⟩,O⟩:=dD;obtain ⟨ta,c4,bM⟩:=ay aL.u.row;have bR:W.cell? ⟨y,1,none⟩=some tv:=aL.u.blk.cell rfl;have c0:wr.cell? ⟨y,1,none⟩=some tv:=(O.cell (p:=⟨y,1,none⟩) (show y<B by omega)).trans bR;rw [bM] at c0
  by_cases cK:i<ss.length
  ·have dJ:(i:Int)<(ss.length:Int):=by omega
   obtain ⟨J,tc,e1,hc⟩:=bi BE 7 (fun _=>rfl) aL.u.row i ss[i] (aG cK);rw [bM] at e1;simp only [aI,cz] at e1;obtain ⟨rfl,rfl⟩:=e1;have el:J<w.heap.size:=dr.u J _ _ bM;have bo:=ai (show oT (ew [] X.kd id) (ss.take (i+1))=ew (ew (oT (ew [] X.kd id) (ss.take i)) (tt ss[i]).kind (tt ss[i]).id) (tt ss[i]).sub (tt ss[i]).who from by rw [dS cK,M9]);have dQ:=yE (ss.take i) (ew [] X.kd id);have cS:=m9 (th:=[]) (x:=X.kd) (n:=id);have dR:(ss.take i).length<=24:=by rw [gj];omega
   have f0:=(O.cell (p:=⟨J,i*7+0,none⟩) (show J<B by omega)).trans (hc 0 _ aj rfl);have f1:=(O.cell (p:=⟨J,i*7+1,none⟩) (show J<B by omega)).trans (hc 1 _ aj rfl);have f3:=(O.cell (p:=⟨J,i*7+3,none⟩) (show J<B by omega)).trans (hc 3 _ aj rfl);have f4:=(O.cell (p:=⟨J,i*7+4,none⟩) (show J<B by omega)).trans (hc 4 _ aj rfl);rw [qS] at f0;unfold tt at bo;generalize oT (ew [] X.kd id) (ss.take i)=C at*;simp only [List.length_nil] at cS;have dF:C.length<=60:=aj;generalize (bU ss[i]).1=T at*;obtain ⟨D,bz⟩:∃z,z=wr:=⟨_,rfl⟩;subst bz;have cU:=O.size;have aK:=ai (fun (w':af) (Y:Below D.heap.size D w')=>uR B (w.heap.size+1) (.pointer (some ⟨y,0,none⟩)) (.string kd) (.string who) (.slice none 0 0) gv C T.kind T.id w' (Z.below Y) (aE ac Y) aj aj);have ap:=ai (aw D.heap.size D);have a4:=ai O;have c1:=f0;have c2:=f1;have bO:B<=D.heap.size:=aj;clear Z ac O hc dQ cS dR f0 f1 bR
   go_upto_region 6 with fail
   go_region_held3 (fun w'=>w'.cell? ⟨y,1,none⟩=some (.slice (some ⟨J,0,none⟩) ss.length c4)/\w'.cell? ⟨J,i*7,none⟩=some (.string T.kind)/\w'.cell? ⟨J,i*7+1,none⟩=some (.string T.id)) (go_keep)
    ((go_at_call 197;refine (aK.u _ (show Below D.heap.size D _ from (bB ap))).mono ?_;rintro e U ⟨rfl,al⟩;have cw:=ai al;obtain ⟨_,_,_,ah⟩:=al;have Q:=ai (show Below B D U from gQ (show Below B D _ from (show Below D.heap.size D _ from (bB ap)).mono aj) ah);have d0:=(Q.u.cell (p:=⟨y,1,none⟩) (show y<B by omega)).trans c0;have d1:=(Q.u.cell (p:=⟨J,i*7,none⟩) (show J<B by omega)).trans c1;have d2:=(Q.u.cell (p:=⟨J,i*7+1,none⟩) (show J<B by omega)).trans c2;clear ah))
   obtain ⟨dB,cF,cQ,_⟩:=cw.u;have em:=Q.u.size;have cd:=ai (a4.u.trans Q.u);have d3:=(Q.u.cell (p:=⟨J,i*7+3,none⟩) (show J<B by omega)).trans f3;have d4:=(Q.u.cell (p:=⟨J,i*7+4,none⟩) (show J<B by omega)).trans f4;have d9:=m9 (th:=C) (x:=T.kind) (n:=T.id);have dt:=ai (show ∃dz,dz=ew C T.kind T.id from ⟨_,rfl⟩);generalize dE:ew C T.kind T.id=dA at*;have bT:=ai (fun (w':af) (Y:Below U.heap.size U w')=>uR B (w.heap.size+1) (.pointer (some ⟨y,0,none⟩)) (.string kd) (.string who) (.slice none 0 0) dB dA T.sub T.who w' (cF.below Y) (aE cQ Y) aj aj);have bj:=ai (aw U.heap.size U);have en:B<=U.heap.size:=aj;clear c0 c1 c2 d1 d2 f3 f4 aK ap Q cw dE cF cQ dt;have c0:=d0;have c1:=d3;have c2:=d4;clear d0 d3 d4
   go_upto_region 7 with fail
   go_region_held3 (fun w'=>w'.cell? ⟨y,1,none⟩=some (.slice (some ⟨J,0,none⟩) ss.length c4)/\w'.cell? ⟨J,i*7+3,none⟩=some (.string T.sub)/\w'.cell? ⟨J,i*7+4,none⟩=some (.string T.who)) (go_keep)
    ((go_at_call 197;refine (bT.u _ (show Below U.heap.size U _ from (bB bj))).mono ?_;rintro e c8 ⟨rfl,al⟩;have cx:=ai al;obtain ⟨_,_,_,ah⟩:=al;have Q:=ai (show Below B U c8 from gQ (show Below B U _ from (show Below U.heap.size U _ from (bB bj)).mono aj) ah);have d0:=(Q.u.cell (p:=⟨y,1,none⟩) (show y<B by omega)).trans c0;have d1:=(Q.u.cell (p:=⟨J,i*7+3,none⟩) (show J<B by omega)).trans c1;have d2:=(Q.u.cell (p:=⟨J,i*7+4,none⟩) (show J<B by omega)).trans c2;clear ah))
   have du:=ai (show UK B W c8 (w.heap.size+1) y kd who (.slice none 0 0) (oT (ew [] X.kd id) (ss.take (i+1))) from by
    obtain ⟨dC,bt,bu,_⟩:=cx.u;rw [ak bo];exact ⟨⟨dC,bt,bu⟩,cd.u.trans Q.u⟩)
   clear c0 c1 c2 d0 d1 d2 bT bj Q cx a4 cd bo;go_wp2_with fail;exact ⟨⟨i+1,aj,by go_num,du.u⟩,by simp [intOf];omega⟩
  obtain rfl:i=ss.length:=aj;have dJ:¬((ss.length:Int)<(ss.length:Int)):=aj;have dK:=yE ss (ew [] X.kd id);have cI:=m9 (th:=[]) (x:=X.kd) (n:=id);simp only [List.length_nil] at cI;rw [ti] at ac;have cm:=ai (show ∃m:Nat,uK (oT (ew [] X.kd id) ss) X.kd id=m/\m<(oT (ew [] X.kd id) ss).length from by
   rcases ie (th:=oT (ew [] X.kd id) ss) (x:=X.kd) (n:=id) with au|⟨m,h1,h2⟩
   ·exact (au.2 (sf _ _ _ kZ.1)).elim
   exact ⟨m,h1,(be.1 h2).1⟩)
  generalize cC:oT (ew [] X.kd id) ss=C at*;have ds:=ai cC;clear cC;have dF:C.length<=60:=aj;have cU:=O.size;have bO:B<=wr.heap.size:=aj;have cq:=ai (show Uj B W wr (w.heap.size+1) y kd who C 0 from ⟨gv,.slice none 0 0,[],Z,ac,bN,rfl,(fun q aW=>by cases aW),List.nodup_nil,O⟩);clear Z ac O dK cI bR;go_wp2_with fail;clear c0
  go_loopw [11] (fun u ae=>∃r:Nat,r<=rl.length/\u=.int .i64 r/\Uj B W ae (w.heap.size+1) y kd who C r) (fun u _=>rl.length-(intOf u).toNat)
  case atStart=>exact ⟨0,aj,rfl,cq.u⟩
  case round=>
   obtain ⟨r,bK,rfl,dG⟩:=hrel;obtain ⟨gv,yv,bs,Z,ac,aY,aQ,aS,bg,O⟩:=dG;have c0:wr.cell? ⟨y,0,none⟩=some (.pointer (some ⟨bm,5,none⟩)):=(O.cell (p:=⟨y,0,none⟩) (show y<B by omega)).trans (aL.u.blk.cell rfl);have c1:wr.cell? ⟨bm,6,none⟩=some (.slice (some ⟨av,0,none⟩) rl.length rc):=(O.cell (p:=⟨bm,6,none⟩) (show bm<B by omega)).trans (by have:=cf.u.c6;rw [bL] at this;exact this);have cU:=O.size;have bO:B<=wr.heap.size:=aj;obtain ⟨ga,gc,dI⟩:=ay ac;obtain ⟨aH,aJ,bh⟩:=ay aY;subst dI;subst bh
   by_cases ei:r<rl.length
   ·have dM:(r:Int)<(rl.length:Int):=by omega
    obtain ⟨D,bz⟩:∃z,z=wr:=⟨_,rfl⟩;subst bz;have dX:D.cell? ⟨w.heap.size+1,3,none⟩=some (.slice ga C.length gc):=Z.cell rfl;have dY:D.cell? ⟨w.heap.size+1,4,none⟩=some (.slice aH r aJ):=Z.cell rfl;have ec:∀w,(Instr.makeSlice 353 (.int .i64 (C.length:Int)) (.int .i64 (C.length:Int))).run prog w=.ok (.slice (some ⟨w.heap.size,0,none⟩) C.length C.length) (w.alloc (.cells (madeCells #[.bool false] C.length) 4)):=fun w=>run_make_row' 353 4 (.bool false) 1 underlying353 Tryz.infoBo rfl .i64 .i64 C.length aj aj w
    have aA:=ai Z;have dp:=ai ac;have bp:=ai aY;have dc:=ai aS;have dl:=ai bg;have db:=ai aQ;have a4:=ai O;clear Z ac aY aS bg aQ O
    go_upto_region 11 with fail
    generalize cM:madeCells #[.bool false] C.length=mc at*;have dk:=ai cM;clear cM;obtain ⟨i0,cG,cV,cW,cX⟩:=bH Tryz.infoBs;have dh:=ai cG;have dw:=ai cV;have dx:=ai cW;have dy:=ai cX;clear cG cV cW cX;have aQ:=aA.u.lt;have es:¬(w.heap.size+1=D.heap.size):=aj;have d5:(D.alloc (.cells mc 4)).cell? ⟨w.heap.size+1,3,none⟩=some (.slice ga C.length gc):=(aA.u.alloc _).cell rfl;have d6:(D.alloc (.cells mc 4)).cell? ⟨w.heap.size+1,4,none⟩=some (.slice aH r aJ):=(aA.u.alloc _).cell rfl;have f4:((D.alloc (.cells mc 4)).alloc (lW (some ⟨D.heap.size,0,none⟩) C.length)).cell? ⟨w.heap.size+1,4,none⟩=some (.slice aH r aJ):=((aA.u.alloc _).alloc _).cell rfl;have et:¬(w.heap.size+1=D.heap.size+1):=aj;have dn:=ai (show ∀u∈ [Value.slice (some ⟨D.heap.size,0,none⟩) C.length C.length],u.oneCell'=true from by
     intro u cT;rw [aR] at cT;subst cT
     rfl)
    have c9:=ai (show r+1<=maxLen from by unfold maxLen;omega);have de:=ai (show (r+1)*24<=140737488355328 from aj);have dq:=ai (show B<=((D.alloc (.cells mc 4)).alloc (lW (some ⟨D.heap.size,0,none⟩) C.length)).drew.heap.size from aM);have dg:=ai (show ((D.alloc (.cells mc 4)).alloc (lW (some ⟨D.heap.size,0,none⟩) C.length)).drew.heap.size=D.heap.size+2 from an);have dm:=ai (aB.new' (D.alloc (.cells mc 4)) #[.slice (some ⟨D.heap.size,0,none⟩) C.length C.length] 353 (D.heap.size+1) an)
    go_region_law (refine iZ _ rfl (.tmp 96) (.tmp 103) 349 rfl B 353 i0 _ 1 24 underlying349 dh.u dw.u dx.u dy.u rfl ar (.slice aH r aJ) r (bs.map fun q=> .slice (some ⟨q,0,none⟩) C.length C.length) eW (bX ((bp.u.alloc _).alloc _)) ⟨D.heap.size+1,0,none⟩ 1 1 [.slice (some ⟨D.heap.size,0,none⟩) C.length C.length] eW rfl (bE (B:=D.heap.size+1) (cs:=#[.slice (some ⟨D.heap.size,0,none⟩) C.length C.length]) (t:=353) (fr:=(0,0)) dm.u.drew) dn.u ar c9.u de.u dq.u (D.heap.size+2) dg.u ?_;intro g5 aV w5 cP bF dH ea;have cr:=bX ((bp.u.alloc (.cells mc 4)).alloc (lW (some ⟨D.heap.size,0,none⟩) C.length));have a8:=((aA.u.alloc (.cells mc 4)).alloc (lW (some ⟨D.heap.size,0,none⟩) C.length)).drew;have aP:aB w5 (w.heap.size+1) _ 351:=(bF.block (w.heap.size+1) a8.lt (own_ne cr a8 ar)).trans a8;have cZ:w5.cell? ⟨w.heap.size+1,4,none⟩=some (.slice aH r aJ):=aP.cell rfl;have zq:=aP.fz;have di:=ai aP;have bW:=ai bF;have ct:=ai cP;have er:=aP.lt;clear cr a8 aP bF cP dH)
    all_goals (
     have df:=ai (show Uj B W (w5.setCell ⟨w.heap.size+1,4,none⟩ (.slice (some ⟨g5,0,none⟩) (r+1) aV)) (w.heap.size+1) y kd who C (r+1) from Na aA.u dp.u bp.u db.u dc.u dl.u a4.u aj aj dk.u bW.u ct.u);clear bW ct di;go_wp2_with fail;exact ⟨⟨r+1,aj,by go_num,df.u⟩,by simp [intOf];omega⟩)
   obtain rfl:r=rl.length:=aj;have dM:¬((rl.length:Int)<(rl.length:Int)):=aj;have ab:Below w.heap.size w wr:=bY.u.trans (O.mono aj);obtain ⟨g,bf⟩:∃g:GP,g=⟨w.heap.size+1,y,bm,tv,.slice ga C.length gc,.slice aH rl.length aJ,kv,rv,pv,kl,rl,pl,l,ss,C,bs,kd,who⟩:=⟨_,rfl⟩;have b5:=ai (show GI wr g (fun _ _=>false) from by
    rw [bf];exact ⟨Z,b0.u.below ab,a5.u.below ab,aX ac (gZ _),(by show C.length<=1000;omega),aX aY (gZ _),aQ,(fun r q aW=>(aS q (bx aW)).2),(by obtain ⟨cs,au⟩:=da.u;exact ⟨cs,au.below ab⟩),bg⟩)
   have V:=ai (show QS g (w.heap.size+1) y bm kl rl pl l ss C kd who from by rw [bf];exact ⟨rfl,rfl,rfl,rfl,rfl,rfl,rfl,rfl,rfl,rfl,rfl⟩);have b4:=ai (show ∀q∈g.bs,B<=q from by rw [bf];exact fun q aW=>(aS q aW).1);have b6:=ai (co.u g V.u);have aC:=ai O;have bS:=ai (D3 bm kv rv pv kl rl pl l ρ Bd ck.u bZ.u wr (a5.u.below ab) aj);clear bf Z ac aY aQ aS bg O ab cq co bZ ck;go_wp2_with fail;refine bS.u.mono ?_;rintro e ey ⟨lb,lv,rfl,bC,cJ,ad,cH,cE⟩;have b3:=ai (b5.u.below bC);have aN:=ai (aC.u.trans (bC.mono bO));have ce:=ai ad;have aO:=ai (show lv.length=rl.length/\(∀j,lv.getD j 0<=ρ j)/\(∀j,j<rl.length->Bd lv j (lv.getD j 0)) from ⟨cJ,cH,cE⟩);clear bC ad cH cE cJ bS aC b5 c0 c1;go_wp2_with fail
   go_loopw [13] (fun u ae=>∃(n:Nat)(K:Nat->Nat->Bool),n<=rl.length+1/\u=.int .i64 n/\GI ae g K/\ae.ownsRow 0 3 1 (.slice (some ⟨lb,0,none⟩) rl.length rl.length) rl.length (yN lv)/\Below B W ae/\Hid (rO g lv bd n K)) (fun u _=>rl.length+1-(intOf u).toNat)
   case atStart=>exact ⟨0,_,aj,rfl,b3.u,ce.u,aN.u,ai .zero⟩
   case round=>
    obtain ⟨n,K,hn,rfl,R,ad,O,cj⟩:=hrel;clear b3 aN ce
    by_cases ee:n<=rl.length
    ·have dL:(n:Int)<=(rl.length:Int):=by omega
     have b7:=ai R;have ch:=ai ad;have cb:=ai O;clear R ad O;go_wp2_with fail
     go_loopg [] (yB g K+1) (fun k ae=>∃(aD:Nat->Nat->Bool),GI ae g aD/\ae.ownsRow 0 3 1 (.slice (some ⟨lb,0,none⟩) rl.length rl.length) rl.length (yN lv)/\Below B W ae/\Hid (l9 g lv bd n K aD/\yB g aD<k))
     case atStart=>exact ⟨K,b7.u,ch.u,cb.u,ai ⟨.nil,aj⟩⟩
     case round=>
      obtain ⟨K1,R,ad,O,cl⟩:=hrel;clear b7 ch cb;have ax:=Bt g K1 (.slice (some ⟨lb,0,none⟩) rl.length rl.length) lv bd n (l9 g lv bd n K) wr R (by rw [aO.u.1];exact ad) (by rw [aO.u.1,V.u.rl]) b6.u (fun K r k X q au a b c d e=> .up au a b c d e) (ak cl).1;rw [V.u.b] at ax;have eo:=O.size;have bk:=ai R;have bn:=ai ad;have aC:=ai O;clear R ad O;have ax:=ai ax;go_wp2_with fail;refine (ak ax).mono ?_;rintro e w5 ⟨bq,more,rfl,bv,bw,bc,cO,bJ,bP⟩;have b8:=ai bv;have ci:=ai (Pr bk.u bn.u bc);have aN:=ai (aC.u.trans (bc.below (B:=B) aj b4.u));have b9:=ai bw
      cases more with
      |false=>
       have a6:=ai (bJ rfl);clear bv bw bc cO bJ bP ax bk bn aC;go_wp2_with fail;exact ⟨⟨n+1,bq,aj,by go_num,b8.u,ci.u,aN.u,ai (.succ (ak cj) b9.u (by rw [a6.u.1];exact a6.u.2))⟩,by simp [intOf];omega⟩
      |true=>
       have a6:=ai (bP rfl);clear bv bw bc cO bJ bP ax bk bn aC;go_wp2
       go_roundg (yB g bq+1)
       case measure=>have:=(ak cl).2;have:=a6.u;omega
       case rel=>exact ⟨bq,b8.u,ci.u,aN.u,ai ⟨b9.u,aj⟩⟩
    obtain rfl:n=rl.length+1:=aj;have dL:¬(((rl.length+1:Nat):Int)<=(rl.length:Int)):=aj;obtain ⟨m,bG,bI⟩:=cm.u;have ab:Below w.heap.size w wr:=bY.u.trans (O.mono aj);obtain ⟨a9,bD⟩:∃a9,g.bs[rel]? =some a9:=⟨_,aG (by rw [R.bl,V.u.rl];exact dN)⟩;obtain ⟨eA,ez,bh,c1⟩:=aZ R.yr rel (.slice (some ⟨a9,0,none⟩) g.th.length g.th.length) (by rw [dU,bD];rfl);have c2:=(R.yb rel a9 bD).cell (i:=m) (by rw [V.u.th];exact bI);obtain ⟨dT,dV,a3,bQ,c0⟩:=R.five;rw [bh,V.u.b,V.u.rl] at c0;rw [V.u.th] at c1;have c3:wr.cell? ⟨w.heap.size,0,none⟩=some (.int .i64 rel):=(O.cell (p:=⟨w.heap.size,0,none⟩) (show w.heap.size<B by omega)).trans (a7.u.cell rfl);have bb:wr.cell? ⟨w.heap.size,1,none⟩=some (.string id):=(O.cell (p:=⟨w.heap.size,1,none⟩) (show w.heap.size<B by omega)).trans (a7.u.cell rfl);have c5:wr.cell? ⟨y,0,none⟩=some (.pointer (some ⟨bm,5,none⟩)):=(b0.u.below ab).blk.cell rfl;obtain ⟨eu,ev,cR,c7,_,_,_⟩:=(a5.u.below ab).rat rel X dv.u;have c6:=(a5.u.below ab).c6;rw [cR] at c6;have eb:(m:Int)<(C.length:Int):=aj;have bV:=ai (fun (w':af) (Y:Below wr.heap.size wr w')=>show Calls prog 200 #[.pointer (some ⟨w.heap.size+1,0,none⟩),.string X.kd,.string id] w' (fun e w''=>e=.returned (.int .i64 (m:Int))/\w''=w') from by
     have I:=R.below Y;have:=pK g.b _ _ _ _ _ g.th X.kd id w' I.blk I.th I.few;rw [V.u.th,bG,V.u.b] at this;exact this)
    have dd:=ai ab;have cg:=ai (show uK C X.kd id=(m:Nat)/\m<C.length from ⟨bG,bI⟩);generalize cA:K rel m=eq at*;have dj:=ai cA;clear dT dV a3 bQ R ad O ab bG bI cA bD cm b4 b6 bh bL cR
    go_upto_region 17 with fail
    go_quiet ((go_at_call 200;exact Calls.quiet_of_same (bV.u _ TV)))
    clear c0 c1 c2 c3 bb c5 c6 c7 bV;go_wp2;go_ret;have dP:=ds.u;subst dP;exact ⟨g,lv,K,m,by rw [dj.u];rfl,cN dd.u _,V.u,cg.u.1,cg.u.2,aO.u.1,aO.u.2.1,aO.u.2.2,ak cj⟩
def oU(g:GP)(K:Nat->Nat->Bool)(s:Sj):Bool:=decide (0<=aU s.kind s.rel g.rl 0)&&(decide (0<=uK g.th s.kind s.id)&&K (aU s.kind s.rel g.rl 0).toNat (uK g.th s.kind s.id).toNat)
def uS(g:GP):List Tu:=g.ss.map tt
structure D6(g:GP)(ts:List Ty)(F:Nat)(bd:Nat->Ex)(lv:List Nat):Prop where
 m:Bo ts
 k:Kn g.pl g.rl ts F
 gd:∀t∈uS g,Bp ts t
 nd:g.th.Nodup
 th:∀t∈uS g,(t.kind,t.id)∈g.th/\(t.sub,t.who)∈g.th
 sub:∀t∈uS g,MW g t
 bdy:∀(i:Nat)(p:ae×Rl),(bh ts)[i]? =some p->bd i=p.2.body
 own:∀(i:Nat)(X:RV)(p:ae×Rl),g.rl[i]? =some X->(bh ts)[i]? =some p->∀e∈aH p.2.body,e.nd.kind=1->0<=aU X.kd e.nd.n1 g.rl 0
 len:lv.length=g.rl.length
 lvk:QM ts (fun d=>lv.getD (aU d.1 d.2 g.rl 0).toNat 0)
 top:∀j,lv.getD j 0<=g.rl.length
variable {k:Nat}
theorem yF{th}(A:th.Nodup){x n}(h:th[k]? =some (x,n)):uK th x n=k:=by
 rcases ie (th:=th) (x:=x) (n:=n) with ⟨_,h2⟩|⟨m,h1,h2⟩
 ·exact absurd (bx h) h2
 rw [h1];have:m=k:=(List.getElem?_inj (be.1 h2).1 A).1 (h2.trans h.symm);rw [this]
theorem SK{th x n}(h:(x,n)∈th):0<=uK th x n:=by
 rcases ie (th:=th) (x:=x) (n:=n) with ⟨_,h2⟩|⟨m,h1,h2⟩
 ·exact absurd h h2
 rw [h1];omega
theorem Bv{a}:a.size=0↔eqs a Ip=true:=by
 rw [bn]
 constructor
 ·intro h;apply ByteArray.ext;exact Array.eq_empty_of_size_eq_zero h
 intro h;rw [h];rfl
section
variable {g:GP}{ts:List Ty}{F:Nat}{bd:Nat->Ex}{lv:List Nat}{K:Nat->Nat->Bool}
variable {gs:List Tu} {id:ae}
theorem Nb{kd f}:(kB gs kd id).any f=gs.any fun t=>(eqs t.kind kd&&eqs t.id id)&&f t:=by
 unfold kB;rw [List.any_filter];refine jv (fun t _=> ?_)
 congr 1
 rw [mz,fi,bO,bn,bn];exact ⟨fun h=>⟨h.1.symm,h.2.symm⟩,fun h=>⟨h.1.symm,h.2.symm⟩⟩
theorem Nc{a b}:decide (a=b)=eqs a b:=by rw [mz,bn,mA]
theorem pM(A:D6 g ts F bd lv)(I:∀s,kY (uS g) s->oU g K s=false){X:RV}{k:Nat}{id:ae}(J:g.th[k]? =some (X.kd,id)):∀e,(∀l∈aH e,l.nd.kind=1->0<=aU X.kd l.nd.n1 g.rl 0)->kE g K X k id e=cH (oU g K) ⟨g.kd,g.who⟩ X.kd id (kB (uS g) X.kd id) X.nm e
 |⟨n,some x,some y⟩,ho=>by
  rw [kE,cH,pM A I J x (fun l hl=>ho l (by simp [aH,hl])),pM A I J y (fun l hl=>ho l (by simp [aH,hl]))]
 |⟨n,none,r⟩,ho=>by
  rw [kE,cH]
  split
  ·rw [Nb];unfold rD uS;rw [oB];refine jv (fun s hs=> ?_);have D:tt s∈uS g:=aY.2 ⟨s,hs,rfl⟩;have Q:=(A.th _ D).2;have V:=A.sub _ D;simp only [Function.comp_apply];unfold Iq QP oQ;rw [Nc,qp,qp,qp]
   congr 1
   congr 1
   congr 1
   show (Ny g (tt s)||TU g K (tt s))=if (tt s).of.size=0 then _ else _
   unfold Ny TU
   by_cases ho:(tt s).of.size=0
   ·rw [if_pos ho];have C:=Bv.1 ho;rw [C];unfold lQ AW gx;simp only [fE,lE,dR,lz];rw [<-m8,<-aJ,<-aJ];rw [mz];simp only [bO,oE,bn]
    constructor
    ·rintro ⟨e1,h|h⟩
     ·exact .inl ⟨e1.symm,h.symm⟩
     exact .inr ⟨h,e1.symm⟩
    rintro (⟨e1,h⟩|⟨e1,h⟩)
    ·exact ⟨e1.symm,.inl h.symm⟩
    exact ⟨h.symm,.inr e1⟩
   rw [if_neg ho];have C:eqs (tt s).of Ip=false:=by
    cases O:eqs (tt s).of Ip
    ·rfl
    exact absurd (Bv.2 O) ho
   obtain ⟨n1,ac,R,Z,U,ab⟩:=V C;rw [C];unfold oU gx;simp only [dR,mK,fE,sT];rw [R,U];simp
  split
  ·rename_i h0 h1;unfold oU;have f1:=ho ⟨n,none,r⟩ (by simp [aH]) h1;simp only;rw [yF A.nd J];simp only at f1;simp [f1]
  rw [Nb];unfold UH uL uS;rw [oB];refine jv (fun s hs=> ?_);have D:tt s∈uS g:=aY.2 ⟨s,hs,rfl⟩;have Q:=(A.th _ D).2;simp only [Function.comp_apply];unfold MX IH DF gx;rw [Nc];simp only [qp]
  congr 1
  congr 1
  congr 1
  by_cases ho:(tt s).of.size=0
  ·rw [if_pos ho,Bv.1 ho];simp only [fE]
   cases Y:eqs (tt s).who wL
   ·unfold oU;simp only [mK,fE]
    congr 1
    have:=SK Q;simp [this]
   rw [I ⟨(tt s).sub,(tt s).who,n.n2⟩ (jX A.gd (by
    show bp (tt s).who=false
    rw [(bn _ _).1 Y];exact wI))]
   simp
  rw [if_neg ho];have C:eqs (tt s).of Ip=false:=by
   cases O:eqs (tt s).of Ip
   ·rfl
   exact absurd (Bv.2 O) ho
  rw [C];simp
 |⟨_,some _,none⟩,ho=>by rw [kE,cH]
end
variable {aF cD:Prop}
def FP (A:aF:=by
 rw [hv];simp;omega):aF:=A
theorem yG{pl:List PV}:∀(rl:List RV) (ps:List (ae×Rl)) (i:Nat) (X:RV),cO pl rl ps->rl[i]? =some X->∃p,ps[i]? =some p/\X.kd=p.1/\X.nm=p.2.name
 | [],[],i,X,_,h=>by simp at h
 |x::xs,p::ps,0,X,h,e=>by
  simp only [List.getElem?_cons_zero,aK] at e;subst e;exact ⟨p,rfl,h.1.1,h.1.2.1⟩
 |x::xs,p::ps,i+1,X,h,e=>yG xs ps i X h.2 (by simpa using e)
 | [],_::_,_,_,h,_=>h.elim
 |_::_,[],_,_,h,_=>h.elim
section
variable {g:GP}{ts:List Ty}{F:Nat}{bd:Nat->Ex}{lv:List Nat}{K K0 K1:Nat->Nat->Bool}{n:Nat}
theorem iU(h:l9 g lv bd n K0 K):(∀r k,K0 r k=true->K r k=true)/\∀r k,lv[r]? ≠some n->K r k=K0 r k:=by
 induction h using l9.ind with
 |nil=>exact ⟨fun _ _ h=>h,fun _ _ _=>rfl⟩
 |up _ h1 h2 h3 h4 h5 ih=>
  refine ⟨fun r k h=>FM (ih.1 r k h),fun r k h=> ?_⟩;unfold yx
  split
  ·rename_i e;rw [e.1] at h;exact absurd h3 h
  exact ih.2 r k h
theorem Ps(C:rO g lv bd n K):∀r k,K r k=true->∃v,lv[r]? =some v/\v<n:=by
 induction C using rO.ind with
 |zero=>intro r k C;cases C
 |@succ n K0 K h1 h2 h3 ih=>
  intro r k C
  by_cases e:lv[r]? =some n
  ·exact ⟨n,e,aj⟩
  rw [(iU h2).2 r k e] at C;obtain ⟨v,hv,hl⟩:=ih r k C;exact ⟨v,hv,aj⟩
variable {N:Nat}
theorem D7(C:rO g lv bd N K):∀n,n<N->∃K0 K1,rO g lv bd n K0/\l9 g lv bd n K0 K1/\SE g lv bd n K1/\(∀r v,lv[r]? =some v->v<=n->∀k,K r k=K1 r k)/\(∀r v,lv[r]? =some v->v<n->∀k,K r k=K0 r k)/\∀r k,K1 r k=true->K r k=true:=by
 induction C using rO.ind with
 |zero=>intro n C;omega
 |@succ n' K' K h1 h2 h3 ih=>
  intro n hn
  by_cases e:n=n'
  ·subst e;exact ⟨K',K,h1,h2,h3,fun _ _ _ _ _=>rfl,fun r v hv hl k=>(iU h2).2 r k FP,fun _ _ C=>C⟩
  obtain ⟨K0,K1,D,I,J,O,Q,R⟩:=ih n aj;exact ⟨K0,K1,D,I,J,fun r v hv hl k=>((iU h2).2 r k FP).trans (O r v hv hl k),fun r v hv hl k=>((iU h2).2 r k FP).trans (Q r v hv hl k),fun r k C=>(iU h2).1 r k (R r k C)⟩
variable {k:Nat}
theorem Pt(A:l9 g lv bd n K0 K1){r}(h1:K1 r k=true):K0 r k=true\/∃h X q,l9 g lv bd n K0 h/\(∀a b,h a b=true->K1 a b=true)/\g.rl[r]? =some X/\g.th[k]? =some q/\lv[r]? =some n/\q.1=X.kd/\kE g h X k q.2 (bd r)=true:=by
 induction A using l9.ind with
 |nil=>exact .inl h1
 |@up K r' k' X q h0 a1 a2 a3 a4 a5 ih=>
  by_cases e:r=r'/\k=k'
  ·obtain ⟨rfl,rfl⟩:=e;exact .inr ⟨K,X,q,h0,fun a b=>FM,a1,a2,a3,a4,a5⟩
  have:K r k=true:=by
   unfold yx at h1;rw [if_neg e] at h1;exact h1
  rcases ih this with A|⟨h,C,O,b1,D,I⟩
  ·exact .inl A
  exact .inr ⟨h,C,O,b1,fun a b J=>FM (D a b J),I⟩
def Ix(g:GP)(K:Nat->Nat->Bool):Prop:=∀s,kY (uS g) s->oU g K s=false
variable {i:Nat} {X:RV}
theorem D6.rel(C:D6 g ts F bd lv)(J:g.rl[i]? =some X):∃t r,t∈ts/\r∈t.rels/\X.kd=t.name/\X.nm=r.name/\(bh ts)[i]? =some (t.name,r)/\bd i=r.body/\aU t.name r.name g.rl 0=i:=by
 obtain ⟨p,h,e1,D⟩:=yG _ _ i X C.k.b J;obtain ⟨t,Q,A,O⟩:=dv.1 (bx h);have I:p=(t.name,p.2):=by rw [A]
 refine ⟨t,p.2,Q,O,by rw [e1,A],D,by rw [<-I];exact h,C.bdy i p h,?_⟩;rw [A];exact C.k.num h
variable {t:Ty} {r:Rl}
theorem D6.idx(h:D6 g ts F bd lv)(I:t∈ts)(D:r∈t.rels):∃i X n,aU t.name r.name g.rl 0=(i:Nat)/\g.rl[i]? =some X/\X.kd=t.name/\X.nm=r.name/\bd i=r.body/\(bh ts)[i]? =some (t.name,r)/\lv[i]? =some n/\lv.getD i 0=n/\n<=g.rl.length:=by
 obtain ⟨i,hi⟩:=iw.1 (dv.2 ⟨t,I,rfl,D⟩:(t.name,r)∈bh ts);obtain ⟨X,A,e1,C,_⟩:=cP.get g.rl _ i _ h.k.f hi;have hl:i<lv.length:=by rw [h.len];exact (be.1 A).1
 refine ⟨i,X,lv.getD i 0,h.k.num hi,A,e1,C,h.bdy i _ hi,hi,?_,rfl,h.top i⟩;rw [dQ,aG hl]
 rfl
theorem QT{s}(J:lv.length=g.rl.length)(C:∀r:Nat,aU s.kind s.rel g.rl 0=r->lv[r]? =some (lv.getD r 0)->∀k,K r k=K1 r k):oU g K s=oU g K1 s:=by
 unfold oU
 rcases uM s.kind s.rel g.rl 0 with e|⟨j,e,_,I⟩
 ·rw [e];rfl
 rw [e];have D:j<lv.length:=aj;simp only [Int.toNat_natCast];rw [C j e (by rw [dQ,aG D];rfl)]
theorem pN(A:D6 g ts F bd lv)(C:Ix g K){s}(h:eY ts s=false):oU g K s=false:=by
 unfold eY at h;rw [xm] at h
 rcases h with h|h
 ·rcases cS A.k.d A.k.b s.kind s.rel with ⟨e,_⟩|⟨j,t,r,_,h1,h2,_⟩
  ·unfold oU;rw [e];rfl
  unfold rB at h;rw [h1] at h;simp [h2] at h
 exact C s (jX A.gd h)
variable {id:ae}
theorem QU(h:D6 g ts F bd lv)(e:aU t.name r.name g.rl 0=(i:Nat))(A:g.th[k]? =some (t.name,id)):oU g K ⟨t.name,id,r.name⟩=K i k:=by
 unfold oU;simp only;rw [e,yF h.nd A];simp
theorem Nf{s}(C:oU g K s=true):∃i k:Nat,aU s.kind s.rel g.rl 0=i/\g.th[k]? =some (s.kind,s.id)/\K i k=true:=by
 unfold oU at C;simp only [bO,mA] at C;obtain ⟨h1,h2,D⟩:=C
 rcases ie (th:=g.th) (x:=s.kind) (n:=s.id) with ⟨e,_⟩|⟨m,e1,I⟩
 ·omega
 rw [e1] at D;exact ⟨(aU s.kind s.rel g.rl 0).toNat,m,aj,I,D⟩
theorem D6.own2(h:D6 g ts F bd lv)(A:g.rl[i]? =some X)(C:(bh ts)[i]? =some (t.name,r)):∀l∈aH r.body,l.nd.kind=1->0<=aU X.kd l.nd.n1 g.rl 0:=h.own i X _ A C
theorem pO(A:D6 g ts F bd lv)(h0:Ix g K0)(hs:l9 g lv bd n K0 K):Ix g K:=by
 induction hs using l9.ind with
 |nil=>exact h0
 |@up K r k X q _ a1 a2 a3 a4 a5 ih=>
  intro s J
  cases hv:oU g (yx K r k) s
  ·rfl
  exfalso;obtain ⟨i,m,e1,h,C⟩:=Nf hv;unfold yx at C
  split at C
  ·rename_i e;obtain ⟨rfl,rfl⟩:=e;rw [h] at a2
   cases a2
   obtain ⟨t,r,Z,Y,c1,c2,c3,Q,c5⟩:=A.rel a1;have D:s.kind=X.kd:=a4;have R:g.th[m]? =some (X.kd,s.id):=by rw [<-D];exact h
   rw [Q,pM A ih R _ (A.own2 a1 c3)] at a5;have O:kB (uS g) X.kd s.id=[]:=by rw [<-D];exact J
   rw [O,iT (fun m=>ih ⟨X.kd,s.id,m⟩ O)] at a5
   cases a5
  have:oU g K s=true:=by
   unfold oU
   rcases ie (th:=g.th) (x:=s.kind) (n:=s.id) with ⟨e,h2⟩|⟨V,U,I⟩
   ·exact absurd (bx h) h2
   have:V=m:=(List.getElem?_inj (be.1 I).1 A.nd).1 (I.trans h.symm);rw [e1,U,this];simp [C]
  rw [ih s J] at this
  cases this
theorem uT(h:D6 g ts F bd lv)(A:rO g lv bd n K):Ix g K:=by
 induction A using rO.ind with
 |zero=>intro s _;unfold oU;simp
 |succ _ h2 _ ih=>exact pO h ih h2
end
section
variable {g:GP}{ts:List Ty}{F:Nat}{bd:Nat->Ex}{lv:List Nat}{K Kc:Nat->Nat->Bool}{n:Nat}
variable {t:Ty} {r:Rl} {i k:Nat} {X:RV} {id:ae}
theorem Ng(C:D6 g ts F bd lv)(Y:Ix g K)(O:Ix g Kc)(af:∀r v,lv[r]? =some v->v<n->∀k,Kc r k=K r k)(ak:t∈ts)(ah:r∈t.rels)(e:aU t.name r.name g.rl 0=(i:Nat))(Z:g.rl[i]? =some X)(e1:X.kd=t.name)(U:X.nm=r.name)(ab:bd i=r.body)(ac:(bh ts)[i]? =some (t.name,r))(ae:lv.getD i 0=n)(ad:g.th[k]? =some (t.name,id))(I:kE g Kc X k id (bd i)=true):
  bp id=true/\h6 (oU g Kc) (oU g K) ⟨g.kd,g.who⟩ t.name id (kB (uS g) t.name id) r.name r.body=true:=by
 rw [ab,pM C O (by rw [e1];exact ad) _ (C.own2 Z ac),e1,U] at I;refine ⟨?_,?_⟩
 ·cases ag:bp id
  ·have J:kY (uS g) ⟨t.name,id,r.name⟩:=jX (s:=⟨t.name,id,r.name⟩) C.gd ag;have Q:kB (uS g) t.name id=[]:=J;rw [Q,iT (fun m=>O ⟨t.name,id,m⟩ Q)] at I
   cases I
  rfl
 ·rw [<-fQ] at I;rw [<-fS _ (fun _ _=>rfl) (fun s hs=> ?_)]
  ·exact I
  have D:=FD C.m C.lvk C.gd ak ah hs;simp only at D;rw [e,jF,ae] at D
  by_cases R:eY ts s=true
  ·unfold IG at D;rw [if_pos R] at D;exact QT (lv:=lv) C.len (fun am V ai al=>by
    simp only at D;rw [V,jF] at D;exact af am _ ai aj al)
  have J:eY ts s=false:=by simpa using R
  rw [pN C O J,pN C Y J]
theorem Bw(C:D6 g ts F bd lv)(ap:rO g lv bd (g.rl.length+1) K):qJ (fJ ts (uS g) ⟨g.kd,g.who⟩) (oU g K):=by
 have U:=uT C ap;refine ⟨fun s=> ?_,fun au aM=> ?_⟩
 ·rcases m6 (ts:=ts) (gs:=uS g) (who:=⟨g.kd,g.who⟩) s with ⟨t,O,r,J,id,aO,rfl⟩|⟨h1,h2⟩
  ·rw [uI C.m O J aO,fQ];obtain ⟨i,X,n,e,af,e1,ae,ag,ah,hl,ai,hn⟩:=C.idx O J
   by_cases aE:(t.name,id)∈g.th
   ·obtain ⟨k,ab⟩:=iw.1 aE;obtain ⟨K0,K1,Y,Z,al,ad,am,aH⟩:=D7 ap n aj;have d0:=uT C Y;have d1:=pO C d0 Z;rw [QU C e ab]
    cases hv:cH (oU g K) ⟨g.kd,g.who⟩ t.name id (kB (uS g) t.name id) r.name r.body
    ·cases ak:K i k
     ·rfl
     exfalso;rw [ad i n hl az k] at ak
     rcases Pt Z ak with ak|⟨aU,aW,q,b1,aI,av,aw,aX,aY,aJ⟩
     ·obtain ⟨v,D,ac⟩:=Ps Y i k ak;rw [hl] at D
      cases D
      omega
     rw [af] at av
     cases av
     rw [ab] at aw
     cases aw
     have:=(Ng C U (pO C d0 b1) (fun Q v D ac I=>by
      rw [am Q v D ac I];exact (iU b1).2 Q I (by rw [D];simp;omega)) O J e af e1 ae ag ah ai ab aJ).2
     have:=gP (BH:=oU g K) (fun s hs=>by
      obtain ⟨i',I,c1,c2,c3⟩:=Nf hs;unfold oU;rw [c1,yF C.nd c2];simp only [Int.toNat_natCast];rw [aH i' I (aI i' I c3)];simp) _ this
     rw [fQ,hv] at this
     cases this
    have aR:cH (oU g K1) ⟨g.kd,g.who⟩ t.name id (kB (uS g) t.name id) r.name r.body=true:=by
     rw [<-hv];refine fR _ (fun s hs=> ?_);have V:=MM C.m C.lvk C.gd O J hs;simp only at V;rw [e,jF,ai] at V
     by_cases aB:eY ts s=true
     ·unfold IG at V;rw [if_pos aB] at V;exact QT (lv:=lv) C.len (fun Q aK aP I=>by
       simp only at V;rw [aK,jF] at V;exact (ad Q _ aP aj I).symm)
     have aA:eY ts s=false:=by simpa using aB
     rw [pN C d1 aA,pN C U aA]
    rw [ad i n hl az k];refine al i k X (t.name,id) af ab hl e1.symm ?_;rw [ag,pM C d1 (by rw [e1];exact ab) _ (C.own2 af ah),e1,ae];exact aR
   have an:kB (uS g) t.name id=[]:=by
    rw [DQ];intro u aQ;obtain ⟨h1,h2,ax⟩:=kX.1 aQ;exact aE (by rw [<-h2,<-ax];exact (C.th u h1).1)
   rw [an,iT (fun m=>U ⟨t.name,id,m⟩ an)];exact U ⟨t.name,id,r.name⟩ an
  rw [h2,pN C U h1]
 have key:∀N R,rO g lv bd N R->(∀r v,lv[r]? =some v->v<N->∀k,K r k=R r k)->∀s,oU g R s=true->au s=true:=by
  intro N R aN
  induction aN using rO.ind with
  |zero=>intro _ s hs;unfold oU at hs;simp at hs
  |@succ n K0 R h1 h2 ax ih=>
   intro aL;have ay:∀r v,lv[r]? =some v->v<n->∀k,K r k=K0 r k:=fun r v hv ac k=>(aL r v hv aj k).trans ((iU h2).2 r k FP)
   have aS:=ih ay;have d0:=uT C h1;have aT:∀Kc,l9 g lv bd n K0 Kc->∀s,oU g Kc s=true->au s=true:=by
    intro Kc hs
    induction hs using l9.ind with
    |nil=>exact aS
    |@up Kc r k X q hst Y Z al ad am ih2=>
     intro s hv;obtain ⟨i',I,c1,c2,c3⟩:=Nf hv;unfold yx at c3
     split at c3
     ·rename_i ee;obtain ⟨rfl,rfl⟩:=ee;rw [c2] at Z
      cases Z
      obtain ⟨t,r,O,J,e1,ae,ah,ag,e⟩:=C.rel Y;have aD:(s.kind,s.rel)=(t.name,r.name):=C.k.inj (s:=(s.kind,s.rel)) (s':=(t.name,r.name)) c1 e;simp only [hA] at aD;obtain ⟨ar,aC⟩:=aD;have ai:lv.getD i' 0=n:=by rw [dQ,al];rfl
      obtain ⟨f1,f2⟩:=Ng C U (pO C d0 hst) (fun Q v D ac aG=>by
       rw [ay Q v D ac aG];exact (iU hst).2 Q aG (by rw [D];simp;omega)) O J e Y e1 ae ag ah ai (by rw [<-ar];exact c2) am
      refine aM s ?_;obtain ⟨sk,aZ,a0⟩:=s;simp only at ar aC f1 f2 ⊢;subst ar;subst aC;rw [uI C.m O J f1];exact gP (fun s hs=>ih2 s hs) _ f2
     refine ih2 s ?_;unfold oU;rw [c1,yF C.nd c2];simp [c3]
   exact aT R h2
 exact key _ K ap (fun _ _ _ _ _=>rfl)
theorem Nh(h:D6 g ts F bd lv)(C:rO g lv bd (g.rl.length+1) K){kb}(A:nL ⟨g.kd,g.who⟩ (eB (uS g)) ((cZ ts).map (List.map l8)) (fun _=>false) kb)(s):oU g K s=kb s:=
 DG (sys_f h.m h.lvk h.gd) (Bw h C) (DR h.m (MO h.m) h.gd (h9 ts) (DP _) A) s
end
structure oX(pl:List PV)(kl:List (ae×Nat))(rl:List RV)(ts:List Ty)(F:Nat):Prop where
 k:Kn pl rl ts F
 g:mR rl pl (ef rl pl (aD pl F))
 r:jO kl rl pl (ef rl pl (aD pl F)) (aD pl F)=none
 n:eA (gI ts) ts=none
 m:Bo ts
variable {s:ae} {ts:List Ty} {m:Nat} {rl:List RV} {pl:List PV}
theorem kn_of{kl}(hs:s.size<=500)(h:fo s=.ok ts)(A:ej (TT s) (PP s)=.ok (ts,m))(U:Gd s m)(O:tL pl kl rl ts):∃F,oX pl kl rl ts F:=by
 have C:=md_of h;obtain ⟨F,hF⟩:=cO.fuel rl _ O.2;have R:=sized A U hs;have J:=ue A;obtain ⟨rfl,I⟩:=id O;have hn:=rg C.d I hF J;have Q:eA (gI ts) ts=none:=by
  unfold fo at h
  split at h
  ·cases h
  split at h
  ·cases h
  rename_i ts' ac ab
  split at h
  ·cases h
  rename_i hc
  cases h
  unfold gt at hc
  split at hc
  ·cases hc
  split at hc
  ·cases hc
  rename_i h2;exact h2
 rw [Q] at hn;exact ⟨F,⟨C.d,I,hF,J,fun t D r h=>(jR A t D r h).1,fun t D r h=>(((ir (TT s) (PP s) ts m A).1 t D).1 r h).wf,R,fun x Z n V p Y=>pz _ _ _ hn x Z n V p Y⟩,xZ hF R,hn,Q,C⟩
section
variable {pl:List PV}{kl:List (ae×Nat)}{rl:List RV}{ts:List Ty}{F:Nat}{t:Ty}{r:Rl}{e:Ex}{d:Sp}
theorem oX.nm(h:oX pl kl rl ts F)(I:t∈ts)(D:r∈t.rels)(C:e∈aA r.body):fW ts t e=none:=by
 have h1:=h.n;unfold eA at h1;have h2:=(jI.1 h1) t I;have A:=(jI.1 h2) r D;exact (jI.1 A) e C
theorem oX.grant(A:oX pl kl rl ts F)(O:t∈ts)(J:r∈t.rels){g}(h:g∈bZ r.body):∃u,bL ts g.ty=some u/\(g.reach=2->∃q,bP u g.rel=some q):=by
 rw [dG] at h;obtain ⟨e,C,h⟩:=cb.1 h;obtain ⟨h1,h2⟩:=(e9 _ e).1 C;rw [kT h2] at h
 split at h
 ·rename_i D;have:=A.nm O J h1;unfold fW at this;rw [h2] at this;simp only [if_pos D] at this;have:=(jI.1 this) g h;unfold k8 at this
  split at this
  ·cases this
  rename_i u Q;refine ⟨u,Q,fun h2=> ?_⟩;rw [if_pos h2] at this
  split at this
  ·cases this
  rename_i q I;exact ⟨q,I⟩
 cases h
theorem oX.need(J:oX pl kl rl ts F)(I:t∈ts)(R:r∈t.rels)(O:e∈aH r.body)(h:d∈dq ts t r e):∃u∈ts,∃q∈u.rels,d=(u.name,q.name):=by
 rw [fP (iy O)] at h;obtain ⟨Y,hl⟩:=(e9 _ e).1 O
 split at h
 ·unfold lm at h;obtain ⟨g,Q,e1⟩:=lN.1 h;obtain ⟨u,A,h2⟩:=J.grant I R Q;unfold ll at e1
  split at e1
  ·rename_i Z;obtain ⟨q,D⟩:=h2 Z
   cases e1
   obtain ⟨U,V⟩:=cV A;obtain ⟨b1,C⟩:=cB D;exact ⟨u,U,q,b1,by rw [V,C]⟩
  cases e1
 rename_i h0;unfold rK at h;rw [if_neg h0] at h
 split at h
 ·rename_i h1;rw [aR] at h;have:=J.nm I R Y;unfold fW at this;rw [hl] at this;simp only [if_neg h0,if_pos h1] at this
  split at this
  ·cases this
  rename_i q D;obtain ⟨b1,C⟩:=cB D;exact ⟨t,I,q,b1,by rw [h,C]⟩
 obtain ⟨u,A,rfl⟩:=aY.1 h;unfold mC at A
 split at A
 ·cases A
 obtain ⟨g,Q,e1⟩:=lN.1 A;unfold ip at e1
 split at e1
 ·split at e1
  ·cases e1
  rename_i v hv
  split at e1
  ·rename_i ab
   cases e1
   obtain ⟨q,D⟩:=Option.isSome_iff_exists.1 ab;obtain ⟨b1,C⟩:=cB D;exact ⟨u,(cV hv).1,q,b1,by rw [C]⟩
  cases e1
 cases e1
theorem oX.own(h:oX pl kl rl ts F)(C:t∈ts)(Q:r∈t.rels)(I:e∈aH r.body)(J:e.nd.kind=1):∃j:Nat,aU t.name e.nd.n1 rl 0=j/\j<rl.length:=by
 obtain ⟨O,hl⟩:=(e9 _ e).1 I;have:=h.nm C Q O;unfold fW at this;rw [hl] at this;simp only [show ¬e.nd.kind=0 by omega,aP,if_pos J] at this
 split at this
 ·cases this
 rename_i q A
 rcases cS h.k.d h.k.b t.name e.nd.n1 with ⟨_,h2⟩|⟨j,V,U,e1,_,_,D⟩
 ·rw [h2 t (h.m.k.fnd t C)] at A
  cases A
 obtain ⟨x,R,_⟩:=cP.get rl _ j _ h.k.f D;exact ⟨j,e1,(be.1 R).1⟩
theorem oX.num(h:oX pl kl rl ts F)(J:t∈ts)(I:r∈t.rels):∃(j:Nat)(X:RV),aU t.name r.name rl 0=j/\(bh ts)[j]? =some (t.name,r)/\rl[j]? =some X/\X.kd=t.name/\X.nm=r.name/\Tr pl F X.ex r.body:=by
 obtain ⟨i,hi⟩:=iw.1 (dv.2 ⟨t,J,rfl,I⟩:(t.name,r)∈bh ts);obtain ⟨X,D,e1,A,_,C⟩:=cP.get rl _ i _ h.k.f hi;exact ⟨i,X,h.k.num hi,hi,D,e1,A,C⟩
variable {i:Nat} {X:RV}
theorem oX.at_(C:oX pl kl rl ts F)(D:rl[i]? =some X):∃t r,t∈ts/\r∈t.rels/\(bh ts)[i]? =some (t.name,r)/\X.kd=t.name/\X.nm=r.name/\Tr pl F X.ex r.body/\aU t.name r.name rl 0=i:=by
 obtain ⟨p,h,e1,J⟩:=yG _ _ i X C.k.b D;obtain ⟨t,U,A,R⟩:=dv.1 (bx h);obtain ⟨V,I,_,_,_,Q⟩:=cP.get rl _ i _ C.k.f h;rw [D] at I
 cases I
 have O:p=(t.name,p.2):=by rw [A]
 refine ⟨t,p.2,U,R,by rw [<-O];exact h,by rw [e1,A],J,Q,?_⟩;rw [A];exact C.k.num h
theorem Bx:∀(rl:List RV) (ps:List (ae×Rl)),cO pl rl ps->ps.length=rl.length
 | [],[],_=>rfl
 |x::xs,p::ps,h=>by simp [Bx xs ps h.2]
 | [],_::_,h=>h.elim
 |_::_,[],h=>h.elim
theorem oX.rk(I:oX pl kl rl ts F)(U:t∈ts)(R:r∈t.rels):Bc ts (t.name,r.name)<=rl.length:=by
 unfold Bc;have:=nD (cF ts [(t.name,r.name)]) ((bh ts).map fun p=>(p.1,p.2.name)) (h7 _ _ _ _ an) (fun z J=>by
  rw [e8] at J;have key:∃u∈ts,∃q∈u.rels,z=(u.name,q.name):=by
   induction J using yc.ind with
   |base hx=>rw [aR] at hx;exact ⟨t,U,r,R,hx⟩
   |step _ hy ih=>
    obtain ⟨u,D,q,C,rfl⟩:=ih;rw [I.m.k.need D C,eu] at hy;obtain ⟨e,Q,O⟩:=hy;exact I.need D C Q O
  obtain ⟨u,D,q,C,rfl⟩:=key;exact aY.2 ⟨(u.name,q),dv.2 ⟨u,D,rfl,C⟩,rfl⟩)
 rw [cK,Bx rl _ I.k.b] at this;exact this
end
def exN:Ex:=⟨⟨0,0,em,0,em,0,[]⟩,none,none⟩
def Iy(ts:List Ty)(i:Nat):Ex:=match (bh ts)[i]? with
 |some p=>p.2.body
 |none=>exN
def IJ(ts:List Ty)(j:Nat):Nat:=match (bh ts)[j]? with
 |some p=>Bc ts (p.1,p.2.name)
 |none=>0
def TY(ts:List Ty)(rl:List RV)(i:Nat)(e:Ex)(d:Nat):Prop:=∃t r,t∈ts/\r∈t.rels/\(bh ts)[i]? =some (t.name,r)/\∃s∈dq ts t r e,aU s.1 s.2 rl 0=d
def SL(ts:List Ty)(rl:List RV)(lv:List Nat)(i b:Nat):Prop:=vl (TY ts rl i) (fun d=>lv.getD d 0) b 0 (Iy ts i)
section
variable {pl:List PV}{kl:List (ae×Nat)}{rl:List RV}{ts:List Ty}{F:Nat}{t:Ty}{r:Rl}
variable {i d:Nat}
theorem oX.mn(A:oX pl kl rl ts F)(C:t∈ts)(I:r∈t.rels)(hi:(bh ts)[i]? =some (t.name,r)){e}:TY ts rl i e d↔∃s∈dq ts t r e,aU s.1 s.2 rl 0=d:=by
 constructor
 ·rintro ⟨O,R,J,Q,h,hs⟩;rw [hi] at h;simp only [aK,hA] at h;obtain ⟨e1,D⟩:=h;subst D;have f1:=A.m.k.fnd t C;have f2:=A.m.k.fnd O J;rw [e1,f2] at f1
  cases f1
  exact hs
 exact fun hs=>⟨t,r,C,I,hi,hs⟩
variable {f m:Nat}
theorem Ni{e}(C:Tr pl 1 m e):aD pl (f+1) m=[m]/\Tr pl (f+1) m e:=by
 obtain ⟨p,D,C⟩:=C
 rcases C with C|C|C|⟨_,_,J,ns,O,rs,_,I,_⟩|⟨_,_,_,J,ns,O,rs,_,I,_⟩
 ·exact ⟨by rw [aD];simp only [D];rw [if_neg aj],⟨p,D,.inl C⟩⟩
 ·exact ⟨by rw [aD];simp only [D];rw [if_neg aj],⟨p,D,.inr (.inl C)⟩⟩
 ·exact ⟨by rw [aD];simp only [D];rw [if_neg aj],⟨p,D,.inr (.inr (.inl C))⟩⟩
 ·exact I.elim
 exact I.elim
variable {X:RV}
theorem oX.ndk(C:oX pl kl rl ts F)(bm kv rv pv l lv)(af:lv.length=rl.length)(ab:rl[i]? =some X)(U:t∈ts)(R:r∈t.rels)(hi:(bh ts)[i]? =some (t.name,r))(ad:X.kd=t.name)(J:Tr pl F X.ex r.body):NdK bm kv rv pv kl rl pl l lv (TY ts rl i) X r.body (aD pl F X.ex):=by
 intro m e O ai ac;obtain ⟨f,rfl⟩:∃f,F=f+1:=by
  cases F with
  |zero=>exact J.elim
  |succ f=>exact ⟨f,rfl⟩
 obtain ⟨l1,t1⟩:=Ni (f:=f) ai;have I:=bx ab;have ae:aH e=[e]:=by
  have:=iy ac;obtain ⟨av,au,aw⟩:=e;simp only at this;subst this;simp [aH]
 have ah:RI pl (f+1) X t r m e:=⟨t1,J,by rw [l1];intro n hn;rw [aR] at hn;rw [hn];exact O,ad⟩;have ag:=(jq C.k.f C.k.z X I).1;obtain ⟨V,al,Y,_,_⟩:=mV C.k.f C.k.z kl C.r X I [m] (fun n hn=>by rw [aR] at hn;rw [hn];exact O) an;obtain ⟨b1,am,ap,ar,Z⟩:=mV C.k.f C.k.z kl C.r X I (aD pl (f+1) X.ex) (fun n hn=>hn) ag;have Q:=fun j=>C.k.need I U R ah j
 rw [l1] at Q;refine ⟨fp rl pl (ef rl pl (aD pl (f+1))) X.kd [m] (aD pl (f+1) X.ex),?_,fun d D=> ?_,fun d=> ?_,fun w ak=> ?_⟩
 ·unfold fp;rw [bo]
  split
  ·omega
  simp only [List.length_nil];omega
 ·rw [af];unfold fp at D
  rcases aT.1 D with D|D
  ·exact Y d D
  split at D
  ·exact Z d D
  cases D
 ·rw [Q d,C.mn U R hi];simp only [eu,ae,aR,exists_eq_left]
 exact tQ bm kv rv pv kl rl pl l (ef rl pl (aD pl (f+1))) X.kd m X.ex [m] (aD pl (f+1) X.ex) w ak C.g ⟨by rw [<-l1];exact gU pl (f+1) m e t1 (by rw [l1];simp),an,V⟩ ⟨gU pl (f+1) X.ex r.body J aj,aj,b1⟩ aj aj
theorem oX.lev(C:oX pl kl rl ts F)(aw:rl.length<=500)(bm kv rv pv l rN lv i X)(ah:lv.length=rl.length)(V:∀j,lv.getD j 0<=IJ ts j)(U:rl[i]? =some X):∃I,NC bm kv rv pv kl rl pl l rN lv i X.ex 0 I/\I<=IJ ts i/\∀b,I<=b↔SL ts rl lv i b:=by
 obtain ⟨t,r,R,Q,hi,e1,au,ab,av⟩:=C.at_ U;have ap:=bx U;have ae:Iy ts i=r.body:=by unfold Iy;rw [hi]
 have al:IJ ts i=Bc ts (t.name,r.name):=by unfold IJ;rw [hi]
 have am:∀j,IJ ts j<=500:=fun j=>by
  unfold IJ
  cases Y:(bh ts)[j]? with
  |none=>simp
  |some p=>
   obtain ⟨u,Z,J,ak⟩:=dv.1 (bx Y);have:=C.rk Z ak;simp only;rw [<-J];omega
 have ag:(aH r.body).length<=1000:=by
  rw [<-cf.len _ _ (dJ pl F _ _ ab)];have:=(jq C.k.f C.k.z X ap).1;omega
 obtain ⟨I,h1,h2⟩:=uO bm kv rv pv kl rl pl l rN lv (TY ts rl i) i X r.body (aD pl F X.ex) U (C.ndk bm kv rv pv l lv ah U R Q hi e1 ab) (fun x an=>by
  obtain ⟨j,af⟩:=iw.1 an;have:=V j;rw [dQ,af] at this;have:=am j;simp only [Option.getD_some] at*;omega) F X.ex r.body ab ag (fun e D=>D) (fun m ai=>ai) 0 aj
 have key:∀e d,e∈aH r.body->TY ts rl i e d->∃s∈dq ts t r e,IJ ts d=Bc ts s:=fun e d D O=>by
  obtain ⟨s,hs,ac⟩:=(C.mn R Q hi).1 O;obtain ⟨u,Z,q,Y,rfl⟩:=C.need R Q D hs;obtain ⟨j,ar,J,ad,_⟩:=C.num Z Y;have:j=d:=by rw [J] at ac;exact Int.ofNat.inj ac
  subst this;exact ⟨_,hs,by unfold IJ;rw [ad]⟩
 refine ⟨I,h1,?_,fun b=>by rw [h2];unfold SL;rw [ae]⟩;rw [h2,al];refine D1 _ (fun e D d O=> ?_) (fun e D d O=> ?_)
 ·obtain ⟨s,hs,J⟩:=key e d D O;have:=V d;have:=C.m.k.rkp R Q D hs;omega
 obtain ⟨s,hs,J⟩:=key e d (nH _ _ D) O;have:=V d;have:=C.m.k.rkn R Q D hs;omega
theorem oX.lvk(C:oX pl kl rl ts F){lv:List Nat}(Y:∀j,j<rl.length->SL ts rl lv j (lv.getD j 0)):QM ts (fun d=>lv.getD (aU d.1 d.2 rl 0).toNat 0) where
 pos:=fun t I r D e Q d O=>by
  obtain ⟨i,X,e1,hi,R,_⟩:=C.num I D;have:=Y i (be.1 R).1;unfold SL at this;rw [show Iy ts i=r.body from by unfold Iy;rw [hi]] at this;obtain ⟨u,V,q,U,rfl⟩:=C.need I D Q O;obtain ⟨j,_,J,_⟩:=C.num V U;have:=se _ 0 aj this e Q j ((C.mn I D hi).2 ⟨_,O,J⟩);simp only [e1,J,Int.toNat_natCast];omega
 neg:=fun t I r D e Q d O=>by
  obtain ⟨i,X,e1,hi,R,_⟩:=C.num I D;have:=Y i (be.1 R).1;unfold SL at this;rw [show Iy ts i=r.body from by unfold Iy;rw [hi]] at this;obtain ⟨u,V,q,U,rfl⟩:=C.need I D (nH _ _ Q) O;obtain ⟨j,_,J,_⟩:=C.num V U;have:=yC _ 0 aj this e Q j ((C.mn I D hi).2 ⟨_,O,J⟩);simp only [e1,J,Int.toNat_natCast];omega
end
def kD(rl:List RV)(s rel:ae):Int×ae×Nat:=if !(cJ s).2.2|| !bp rel then (0,⟨#[]⟩,2) else if aU (cJ s).1 rel rl 0<0 then (0,⟨#[]⟩,5) else (aU (cJ s).1 rel rl 0,(cJ s).2.1,0)
theorem D8(y bm tv kv rv pv kl rl pl l ss s rel w)(Y:DU w y (.pointer (some ⟨bm,5,none⟩)) tv ss)(ah:DM w bm kv rv pv kl rl pl l)(hs:s.size<=maxLen):
  Calls prog 135 #[.pointer (some ⟨y,0,none⟩),.string s,.string rel] w fun e w'=>e=.returned (.tuple #[.agg #[.int .i64 (kD rl s rel).1,.string (kD rl s rel).2.1],.int .i64 (kD rl s rel).2.2])/\Below w.heap.size w w':=by
 have ae:Below w.heap.size w (w.alloc (.cells #[.int .i64 0,.string ⟨#[]⟩] 270)):=(aw _ w).alloc az _;have Q:=ai (lk s (w.alloc (.cells #[.int .i64 0,.string ⟨#[]⟩] 270)) hs);have Z:=ai (fun w=>io rel w);have R:=ai (fun (w':af) (k:Below w.heap.size w w')=>dI bm kv rv pv kl rl pl l (cJ s).1 rel w' (ah.below k));have ac:=ai (aB.new w #[.int .i64 0,.string ⟨#[]⟩] 270);have O:=ai ae;have c0:w.cell? ⟨y,0,none⟩=some (.pointer (some ⟨bm,5,none⟩)):=Y.blk.cell rfl;have ap:=Y.blk.lt;obtain ⟨ab,C⟩:∃ab,ab=kD rl s rel:=⟨_,rfl⟩;rw [<-C];unfold kD at C;have D:=ai C;generalize cJ s=X at*;obtain ⟨al,id,ok⟩:=X;simp only at Q R D;generalize aU al rel rl 0=N at*;generalize bp rel=an at*;clear ae Y ah hs C;go_enter func135,ntmps135;go_wp2_with fail;refine (ak Q).mono ?_;rintro e w1 ⟨rfl,U⟩;have I:=ai (O.u.trans (U.mono O.u.size));have ad:=ai (ac.u.below U);clear U Q O ac;go_wp2_with fail;refine (Z.u _).mono ?_;rintro e ay ⟨rfl,rfl⟩;have c1:=am c0 I.u;go_wp2_with fail;refine (ak R _ I.u).mono ?_;rintro e aj ⟨rfl,V⟩;have J:=ai (I.u.trans (V.mono I.u.size));have R3:=ai (ad.u.below V);have ax:=R3.u.fz;have ar:aj.cell? ⟨w.heap.size,0,none⟩=some (.int .i64 0):=R3.u.cell rfl;have av:aj.cell? ⟨w.heap.size,1,none⟩=some (.string ⟨#[]⟩):=R3.u.cell rfl;clear V I ad R Z c0 c1
 cases ok
 ·have C:=ak D;simp only [mK,Bool.true_or,if_true] at C;subst C;clear D;go_wp2;refine bc (v:=.tuple #[.agg #[.int .i64 0,.string ⟨#[]⟩],.int .i64 2]) (bC results135 _ _ w.heap.size _ 270 _ _ rfl rfl ?hB underlying270 rfl au) rfl ?post
  case hB=>exact ⟨_,(b4 R3),aS⟩
  case post=>exact ⟨rfl,(bB J)⟩
 ·cases an
  ·have C:=ak D;simp only [mK,lE,Bool.or_true,if_true] at C;subst C;clear D;go_wp2;refine bc (v:=.tuple #[.agg #[.int .i64 0,.string ⟨#[]⟩],.int .i64 2]) (bC results135 _ _ w.heap.size _ 270 _ _ rfl rfl ?hB underlying270 rfl au) rfl ?post
   case hB=>exact ⟨_,(b4 R3),aS⟩
   case post=>exact ⟨rfl,(bB J)⟩
  by_cases ag:N<0
  ·have C:=ak D;simp only [lE,lz,bz,aP,if_pos ag] at C;subst C;clear D;go_wp2;refine bc (v:=.tuple #[.agg #[.int .i64 0,.string ⟨#[]⟩],.int .i64 5]) (bC results135 _ _ w.heap.size _ 270 _ _ rfl rfl ?hB underlying270 rfl au) rfl ?post
   case hB=>exact ⟨_,(b4 R3),aS⟩
   case post=>exact ⟨rfl,(bB J)⟩
  have C:=ak D;simp only [lE,lz,bz,aP,if_neg ag] at C;subst C;clear D;go_wp2;refine bc (v:=.tuple #[.agg #[.int .i64 N,.string id],.int .i64 0]) (bC results135 _ _ w.heap.size _ 270 _ _ rfl rfl ?hB underlying270 rfl au) rfl ?post
  case hB=>exact ⟨_,(b4 R3),aS⟩
  case post=>exact ⟨rfl,(bB J)⟩
variable {aF cD:Prop}
def Nj (A:aF:=by
 simp only [mK,if_true] at QV;subst QV;clear HE Ta;go_wp2;go_ret2;exact ⟨rfl,B4.u⟩):aF:=A
def js(kl:List (ae×Nat))(rl:List RV)(s rel who:ae):Nat:=if !(cJ who).2.2 then 2 else if (kD rl s rel).2.2≠0 then (kD rl s rel).2.2 else if !(kl.any fun k=>eqs k.1 (cJ who).1) then 5 else 0
theorem FQ(rl s rel):(kD rl s rel).2.2<=5:=by
 unfold kD
 split
 ·decide
 split
 ·exact cm _
 exact gZ _
theorem D9(y bm tv kv rv pv kl rl pl l ss s rel who ans w)(J:DU w y (.pointer (some ⟨bm,5,none⟩)) tv ss)(ad:DM w bm kv rv pv kl rl pl l)(hs:s.size<=maxLen)(av:who.size<=maxLen)(an:js kl rl s rel who=0->∀w',Below w.heap.size w w'->Calls prog 138 #[.pointer (some ⟨y,0,none⟩),.string (cJ who).1,.string (cJ who).2.1,.agg #[.int .i64 (kD rl s rel).1,.string (kD rl s rel).2.1]] w' fun e w''=>e=.returned (.bool ans)/\Below w'.heap.size w' w''):
  Calls prog 86 #[.pointer (some ⟨y,0,none⟩),.string s,.string rel,.string who] w fun e w'=>e=.returned (.tuple #[.bool (js kl rl s rel who==0&&ans),.int .i64 (js kl rl s rel who)])/\Below w.heap.size w w':=by
 have R:=ai (fun (w':af) (k:Below w.heap.size w w')=>D8 y bm tv kv rv pv kl rl pl l ss s rel w' (J.below k) (ad.below k) hs);have U:=ai (fun w'=>lk who w' av);have CK:=ai (fun (w':af) (k:Below w.heap.size w w')=>q4 bm kv rv pv kl rl pl l (cJ who).1 w' (ad.below k));have c0:w.cell? ⟨y,0,none⟩=some (.pointer (some ⟨bm,5,none⟩)):=J.blk.cell rfl;have aM:=J.blk.lt;have aC:=FQ rl s rel;have Ta:=ai an;obtain ⟨E,I⟩:∃E,E=js kl rl s rel who:=⟨_,rfl⟩;rw [<-I] at Ta ⊢;unfold js at I;have HE:=ai I;generalize kD rl s rel=az at*;obtain ⟨Z,Y,aA⟩:=az;generalize cJ who=X at*;obtain ⟨aG,id,ok⟩:=X;simp only at R CK U HE Ta aC;generalize (kl.any fun k=>eqs k.1 aG)=aE at*;clear J ad hs av an I;have O:=ai (aw w.heap.size w);go_enter func86,ntmps86;go_wp2_with fail;refine (ak R _ O.u).mono ?_;rintro e w1 ⟨rfl,ap⟩;have D:=ai (O.u.trans ap);have al:=D.u.alloc D.u.size (.cells #[.int .i64 Z,.string Y] 270);have Q:=ai al;have ag:=ai (aB.new w1 #[.int .i64 Z,.string Y] 270);have aL:=D.u.size;have aN:¬(y=w1.heap.size):=aj;clear ap R O al D;go_wp2_with fail;refine (ak U _).mono ?_;rintro e aO ⟨rfl,ab⟩;have C:=ai (Q.u.trans (ab.mono Q.u.size));have ah:=ai (ag.u.below ab);have c1:=am c0 C.u;clear ab U ag Q;go_wp2_with fail;refine (ak CK _ C.u).mono ?_;rintro e ax ⟨rfl,ac⟩;have B4:=ai (C.u.trans (ac.mono C.u.size));have V:=ai (ah.u.below ac);have aH:ax.cell? ⟨w1.heap.size,0,none⟩=some (.int .i64 Z):=V.u.cell rfl;have aI:ax.cell? ⟨w1.heap.size,1,none⟩=some (.string Y):=V.u.cell rfl;clear ac CK c0 c1 ah C V;have QV:=ak HE
 cases ok
 ·exact Nj
 ·simp only [lE,bz,aP] at QV
  by_cases au:aA=0
  ·subst au;simp only [ne_eq,not_true,aP] at QV
   cases aE
   ·exact Nj
   simp only [lE,bz,aP] at QV;subst QV;have ae:=ai (ak Ta rfl);clear HE Ta;go_wp2_with fail;refine (ae.u _ B4.u).mono ?_;rintro e w5 ⟨rfl,ar⟩;have ay:=ai (B4.u.trans (ar.mono B4.u.size));clear ar ae B4 aH aI;go_wp2;go_ret2;exact ⟨rfl,ay.u⟩
  simp only [ne_eq,au,not_false_eq_true,if_true] at QV;subst QV;have aK:((E:Int) != 0)=true:=by rw [g8];omega
  have aD:(E==0)=false:=by rw [bG];omega
  have aJ:((E:Int)==0)=false:=by rw [bG];omega
  clear HE Ta;go_wp2;go_ret2;exact ⟨by rw [aD];rfl,B4.u⟩
theorem Nk:∀(ss:List ae) (th:List (ae×ae)),th.Nodup->(oT th ss).Nodup
 | [],th,h=>h
 |s::ss,th,h=>Nk ss _ (yD (yD h))
theorem FR:∀(ss:List ae) (th:List (ae×ae)),∀s∈ss,((tt s).kind,(tt s).id)∈oT th ss/\((tt s).sub,(tt s).who)∈oT th ss
 | [],th,s,h=>by cases h
 |a::ss,th,s,h=>by
  rcases bA.1 h with rfl|h
  ·exact ⟨sf ss _ _ (kZ.2 _ kZ.1),sf ss _ _ kZ.1⟩
  exact FR ss _ s h
section
variable {pl:List PV}{kl:List (ae×Nat)}{rl:List RV}{l:List PX}{ts:List Ty}{F:Nat}{ss:List ae}{g:GP}{b y bm:Nat}{k0 i0 kd who:ae}
variable {s:ae}
theorem Ea(h:QS g b y bm kl rl pl l ss (oT (ew [] k0 i0) ss) kd who)(hs:s∈g.ss):((tt s).kind,(tt s).id)∈g.th/\((tt s).sub,(tt s).who)∈g.th:=by
 rw [h.ss] at hs;rw [h.th];exact FR ss _ s hs
theorem FT(C:oX pl kl rl ts F)(h:QS g b y bm kl rl pl l ss (oT (ew [] k0 i0) ss) kd who)(R:∀t∈ss.map tt,Bp ts t)(hs:s∈g.ss):MW g (tt s):=fun D=>by
 have Z:=(Ea h hs).2;have I:=hs;rw [h.ss] at I;obtain ⟨y,q,g0,f1,f2,U,e1,A,O⟩:=oS R (aY.2 ⟨s,I,rfl⟩);obtain ⟨J,ad⟩:=cV f1;obtain ⟨b1,ae⟩:=cB f2;obtain ⟨u,ab,V⟩:=C.grant J b1 U;have ac:¬(tt s).of.size=0:=fun e=>by rw [Bv.1 e] at D;cases D
 unfold hQ at A;rw [if_neg ac] at A;obtain ⟨af,Y⟩:=V A;obtain ⟨c1,c2⟩:=cV ab;obtain ⟨d1,d2⟩:=cB Y;obtain ⟨j,X,n1,_,Q,_⟩:=C.num c1 d1;rw [c2,d2,e1,O] at n1
 rcases ie (th:=g.th) (x:=(tt s).sub) (n:=(tt s).who) with ⟨_,h2⟩|⟨m,h1,h2⟩
 ·exact absurd Z h2
 exact ⟨j,m,by rw [h.rl];exact n1,by rw [h.rl];exact (be.1 Q).1,h1,(be.1 h2).1⟩
theorem Pu(h:QS g b y bm kl rl pl l ss (oT (ew [] k0 i0) ss) kd who)(hs:s∈g.ss):Ui g (tt s):=by
 rcases ie (th:=g.th) (x:=(tt s).sub) (n:=(tt s).who) with ⟨_,h2⟩|⟨m,h1,h2⟩
 ·exact absurd (Ea h hs).2 h2
 exact ⟨m,h1,(be.1 h2).1⟩
theorem Nl(A:oX pl kl rl ts F)(j):IJ ts j<=rl.length:=by
 unfold IJ
 cases C:(bh ts)[j]? with
 |none=>simp
 |some p=>
  obtain ⟨u,I,h,D⟩:=dv.1 (bx C);have:=A.rk I D;simp only;rw [<-h];exact this
theorem SM(D:oX pl kl rl ts F)(C:QS g b y bm kl rl pl l ss (oT (ew [] k0 i0) ss) kd who)(Q:∀t∈ss.map tt,Bp ts t){lv:List Nat}(ab:lv.length=rl.length)(Z:∀j,lv.getD j 0<=IJ ts j)(U:∀j,j<rl.length->SL ts rl lv j (lv.getD j 0)):D6 g ts F (Iy ts) lv where
 m:=D.m
 k:=by rw [C.pl,C.rl];exact D.k
 gd:=by unfold uS;rw [C.ss];exact Q
 nd:=by rw [C.th];exact Nk ss _ (yD an)
 th:=fun t I=>by
  obtain ⟨s,hs,rfl⟩:=aY.1 I;exact Ea C hs
 sub:=fun t I=>by
  obtain ⟨s,hs,rfl⟩:=aY.1 I;exact FT D C Q hs
 bdy:=fun i p J=>by unfold Iy;rw [J]
 own:=fun i X p O J e V Y=>by
  rw [C.rl] at O ⊢;obtain ⟨t,r,I,ac,hi,e1,_⟩:=D.at_ O;rw [hi] at J
  cases J
  obtain ⟨j,R,_⟩:=D.own I ac V Y;rw [e1,R];omega
 len:=by rw [C.rl];exact ab
 lvk:=by rw [C.rl];exact D.lvk U
 top:=fun j=>by
  rw [C.rl];have:=Z j;have:=Nl D j;omega
theorem SN(h:oX pl kl rl ts F)(A:QS g b y bm kl rl pl l ss (oT (ew [] k0 i0) ss) kd who)(U:∀t∈ss.map tt,Bp ts t):∀C r k X q,g.rl[r]? =some X->g.th[k]? =some q->MZ g C r k X.ex (kE g C X k q.2 (Iy ts r)):=fun C r k X q I Y=>by
 have D:=I;rw [A.rl] at D;obtain ⟨t,O,ab,Z,hi,e1,_,J,_⟩:=h.at_ D;have Q:Iy ts r=O.body:=by unfold Iy;rw [hi]
 rw [Q];refine wN g C r k X q I Y (fun s hs=>FT h A U hs) (fun s hs=>Pu A hs) F X.ex O.body (by rw [A.pl];exact J) ?_ (fun e R V=> ?_)
 ·rw [<-cf.len _ _ (dJ pl F _ _ J)];have:=(jq h.k.f h.k.z X (bx D)).1;omega
 rw [A.rl,e1];exact h.own ab Z R V
end
theorem Eb(y bm:Nat)(tv kv rv pv kl rl pl l ss kd who id)(rel F:Nat)(X ts kb w)(af:DU w y (.pointer (some ⟨bm,5,none⟩)) tv ss)(U:DM w bm kv rv pv kl rl pl l)(ah:∃cs,aB w bm cs 252)(I:rl[rel]? =some X)(ak:ss.length<=24)(D:oX pl kl rl ts F)(R:∀t∈ss.map tt,Bp ts t)(ac:nL ⟨kd,who⟩ (eB (ss.map tt)) ((cZ ts).map (List.map l8)) (fun _=>false) kb):
  Calls prog 138 #[.pointer (some ⟨y,0,none⟩),.string kd,.string who,.agg #[.int .i64 rel,.string id]] w fun e w'=>e=.returned (.bool (kb ⟨X.kd,id,X.nm⟩))/\Below w.heap.size w w':=by
 have ai:=U.rn;refine (D5 (IJ ts) (SL ts rl) (Iy ts) y bm tv kv rv pv kl rl pl l ss kd who id rel X w af U ah I ak (fun j=>by have:=Nl D j;omega) (fun rN lv i X O J I=>D.lev ai bm kv rv pv l rN lv i X O J I) (fun g C=>SN D C R)).mono ?_;rintro e w' ⟨g,lv,K,m,rfl,ae,C,V,am,O,J,ad,Y⟩;refine ⟨?_,ae⟩;have Q:=SM D C R O J ad;rw [<-C.rl] at Y;have ag:uS g=ss.map tt:=by unfold uS;rw [C.ss]
 have key:=Nh Q Y (kb:=kb) (by rw [ag,C.kd,C.who];exact ac) ⟨X.kd,id,X.nm⟩;obtain ⟨t,r,ap,an,hi,e1,Z,_,ab⟩:=D.at_ I;rw [<-key,e1,Z];rw [QU Q (i:=rel) (k:=m) (by rw [C.rl];exact ab) (by
  rw [C.th]
  rcases ie (th:=oT (ew [] X.kd id) ss) (x:=X.kd) (n:=id) with ⟨c1,_⟩|⟨al,c1,c2⟩
  ·rw [c1] at V;omega
  rw [c1] at V;have:al=m:=aj;rw [<-this,<-e1];exact c2)]
section
def Nn(ts:List Ty)(gs:List Tu)(E:Nat)(s:Sj)(who:Tg)(w:af)(e:Ending)(w':af):Prop:=∃b,e=.returned (.tuple #[.bool b,.int .i64 E])/\Below w.heap.size w w'/\(E≠0->b=false)/\(E=0->∃kb,b=kb s/\nL who (eB gs) ((cZ ts).map (List.map l8)) (fun _=>false) kb)
variable {rl:List RV} {s rel:ae}
theorem Bz(h:(bQ s&&bp rel)=false):kD rl s rel=(0,⟨#[]⟩,2):=by
 unfold kD;rw [fK];have:(!bQ s|| !bp rel)=true:=by
  cases h1:bQ s<;>cases h2:bp rel<;>simp_all
 rw [if_pos this]
theorem FU(h:(bQ s&&bp rel)=true)(A:aU (aC s 58).1 rel rl 0= -1):kD rl s rel=(0,⟨#[]⟩,5):=by
 unfold kD;rw [fK];simp only [bO] at h;have e:aU (cJ s).1 rel rl 0= -1:=A;rw [h.1,h.2,e];simp
variable {j:Nat}
theorem BC(C:(bQ s&&bp rel)=true)(D:aU (aC s 58).1 rel rl 0=j):kD rl s rel=((j:Int),(aC s 58).2.1,0):=by
 unfold kD;rw [fK];simp only [bO] at C;have e:aU (cJ s).1 rel rl 0=j:=D;rw [C.1,C.2,e];simp only [lE,lz,bz,aP];rw [if_neg aj]
 rfl
theorem Eg(x mv lv gv ts gs w)(Q:UQ w x mv lv gv ts gs)(ap:UG ts gs)(kl rl pl F)(ag:oX pl kl rl ts F)(am:kl=ts.map fun t=>(t.name,t.place))(th rel who)(hs:th.size<=maxLen)(ad:rel.size<=maxLen)(au:who.size<=maxLen)(O:kO w)(I:1<w.heap.size)(af:Laid w):
  Calls prog 26 #[.pointer (some ⟨x,0,none⟩),.string th,.string rel,.string who] w (Nn ts gs (js kl rl th rel who) ⟨(aC th 58).1,(aC th 58).2.1,rel⟩ ⟨(aC who 58).1,(aC who 58).2.1⟩ w):=by
 obtain ⟨bm,tl,ac⟩:=Q.m;have V:∀E,E≠0->js kl rl th rel who=E->Calls prog 26 #[.pointer (some ⟨x,0,none⟩),.string th,.string rel,.string who] w (fun e w'=>e=.returned (.tuple #[.bool false,.int .i64 E])/\Below w.heap.size w w')->Calls prog 26 #[.pointer (some ⟨x,0,none⟩),.string th,.string rel,.string who] w (Nn ts gs (js kl rl th rel who) ⟨(aC th 58).1,(aC th 58).2.1,rel⟩ ⟨(aC who 58).1,(aC who 58).2.1⟩ w):=fun E R e C=>C.mono fun e' w' ⟨h1,h2⟩=>⟨false,by rw [e];exact h1,h2,fun _=>rfl,fun h0=>absurd (e.symm.trans h0) R⟩
 cases J:bQ who with
 |false=>
  refine V 2 aj ?_ (Ee x th rel who w au J);unfold js;rw [fK,J]
  rfl
 |true=>
  have ab:=rE J;have R:js kl rl th rel who=if (kD rl th rel).2.2≠0 then (kD rl th rel).2.2 else if !(kl.any fun k=>eqs k.1 (cJ who).1) then 5 else 0:=by
   unfold js;rw [fK,J]
   rfl
  cases U:bQ th&&bp rel with
  |false=>
   refine V 2 aj (by rw [R,Bz U];rfl) (rF x 2 _ _ _ th rel who w ab J O I (.inl rfl) (fun w' k=>Ed x th rel w' hs ad U))
  |true=>
   have D:=U;simp only [bO] at D;have hs:=rE D.1;have ar:rel.size<=1000:=by have:=c8 D.2;omega
   rcases cS ag.k.d ag.k.b (aC th 58).1 rel with ⟨e,an⟩|⟨j,t,r,e,h1,h2,_⟩
   ·exact V 5 aj (by rw [R,FU U e];rfl) (rF x 5 _ _ _ th rel who w ab J O I (.inr rfl) (fun w' k=>Ec x bm mv lv gv ts gs tl w' (Q.p.below k) (ac.below k) th rel hs D.1 ad D.2 an (af.below k aj) (O.below k I) (cg I k.size)))
   have al:=fun w' (k:Below w.heap.size w w')=>Bh x bm mv lv gv ts gs tl w' (Q.p.below k) (ac.below k) th rel hs D.1 ad D.2 t h1 r h2 (O.below k I) (cg I k.size)
   have Y:js kl rl th rel who=if !(bL ts (aC who 58).1).isSome then 5 else 0:=by
    rw [R,BC U e,am,wo]
    rfl
   cases Z:bL ts (aC who 58).1 with
   |none=>
    rw [Z] at Y;exact V 5 aj Y (Ef x bm mv lv gv ts gs tl _ _ th rel who w Q.p ac ab J O I af Z al)
   |some t'=>
    rw [Z] at Y;have ae:js kl rl th rel who=0:=Y;refine (MJ x mv lv gv ts gs w Q ap th rel who hs D.1 ar D.2 t h1 r h2 ab J t' Z O I).mono ?_;rintro e' w' ⟨kb,ah,ai,ak⟩;exact ⟨_,by rw [ae];exact ah,ai,fun h0=>absurd ae h0,fun _=>⟨kb,rfl,ak⟩⟩
theorem Iz(y bm tv kv rv pv kl rl pl l ss ts F s rel who b w)(C:DU w y (.pointer (some ⟨bm,5,none⟩)) tv ss)(D:DM w bm kv rv pv kl rl pl l)(V:∃cs,aB w bm cs 252)(Z:ss.length<=24)(h:oX pl kl rl ts F)(U:∀t∈ss.map tt,Bp ts t)(hs:s.size<=maxLen)(ab:who.size<=maxLen)(R:js kl rl s rel who≠0->b=false)(Q:js kl rl s rel who=0->∃kb:Sj->Bool,b=kb ⟨(aC s 58).1,(aC s 58).2.1,rel⟩/\nL ⟨(aC who 58).1,(aC who 58).2.1⟩ (eB (ss.map tt)) ((cZ ts).map (List.map l8)) (fun _=>false) kb):
  Calls prog 86 #[.pointer (some ⟨y,0,none⟩),.string s,.string rel,.string who] w fun e w'=>e=.returned (.tuple #[.bool b,.int .i64 (js kl rl s rel who)])/\Below w.heap.size w w':=by
 have e:b=(js kl rl s rel who==0&&b):=by
  by_cases h0:js kl rl s rel who=0
  ·rw [h0];simp
  rw [R h0];simp
 rw [e];refine D9 y bm tv kv rv pv kl rl pl l ss s rel who b w C D hs ab (fun h0 w' k=> ?_);obtain ⟨kb,e1,Y⟩:=Q h0;have ha:(kD rl s rel).2.2=0:=by
  unfold js at h0
  split at h0
  ·cases h0
  split at h0
  ·rename_i I;exact h0
  rename_i I
  simpa using I
 cases A:bQ s&&bp rel with
 |false=>rw [Bz A] at ha;cases ha
 |true=>
  rcases cS h.k.d h.k.b (aC s 58).1 rel with ⟨e',ae⟩|⟨j,t,r,e',h1,h2,J⟩
  ·rw [FU A e'] at ha;cases ha
  rw [BC A e'];obtain ⟨X,O,ac,ad,_⟩:=cP.get rl _ j _ h.k.f J;have:=Eb y bm tv kv rv pv kl rl pl l ss (cJ who).1 (cJ who).2.1 (aC s 58).2.1 j F X ts kb w' (C.below k) (D.below k) (by obtain ⟨cs,hc⟩:=V;exact ⟨cs,hc.below k⟩) O Z h U Y;rw [ac,ad,(cB h2).2] at this;rw [e1];exact this
end
variable {aF cD:Prop}
def Np (C:aF:=by
 go_wp2;go_ret;exact ⟨rfl,lv,ju,jl,us,ms,HS.u.below B2.u,(HB.u.mono mE).trans (B2.u.mono hbase),aj,hus,aj⟩):aF:=C
variable {ts:List Ty} {gs:List Tu} {ss:List ae}
theorem gd_of(h:rL gs ss)(J:rj ts gs):gs=ss.map tt/\∀t∈gs,Bp ts t:=by
 refine ⟨h.eq,fun t C=> ?_⟩;have D:=C;rw [h.eq] at D;obtain ⟨s,hs,rfl⟩:=aY.1 D;have ho:=h.ok s hs;have A:=AH ho;have V:=(nt ho).1;have h1:bQ (aC (aC s 64).1 35).1=true:=by
  unfold di at ho;simp only [bO] at ho;exact ho.1.1
 unfold bQ at h1;simp only [bO] at h1;have h2:=c8 h1.1;have U:=c8 h1.2;have hid:bp (ul s).id=true:=h1.2;refine ⟨J _ C,hid,?_,?_,?_,?_,?_⟩
 ·show (aC (aC (aC s 64).1 35).1 58).1.size<=maxLen
  unfold maxLen;omega
 ·show (aC (aC (aC s 64).1 35).1 58).2.1.size<=maxLen
  unfold maxLen;omega
 ·show (mB (aC (aC s 64).2.1 35).1 (aC (aC s 64).2.1 35).2.2).1.size<=maxLen
  have O:=(eb s 64).2;have Q:=(eb (aC s 64).2.1 35).1;have I:=(eb (aC (aC s 64).2.1 35).1 58).1;have R:(mB (aC (aC s 64).2.1 35).1 (aC (aC s 64).2.1 35).2.2).1.size<=(aC (aC s 64).2.1 35).1.size:=by
   unfold mB cJ
   split<;>first|exact I|(simp only;omega)
  unfold maxLen;omega
 ·show (bU s).1.who.size<=maxLen
  rcases A with ⟨e,_⟩|⟨e,_⟩|⟨e,_⟩
  ·rw [e];decide
  ·have:=c8 e;unfold maxLen;omega
  have:=c8 e;unfold maxLen;omega
 show (bU s).1.of.size<=maxLen
 rcases A with ⟨_,e⟩|⟨_,e⟩|⟨_,e⟩
 ·rw [e];unfold maxLen;omega
 ·rw [e];unfold maxLen;omega
 have:=c8 e;unfold maxLen;omega
variable {w:af} {mv lv gv:ag}
theorem uq_of{x}(h:IE w x mv lv gv ts gs):UQ w x mv lv gv ts gs:=⟨h.p,h.m,h.l⟩
variable {base b:Nat} {ju jl:ag} {us:List fq} {u:fq}
theorem Eh{ms}(O:WS base w b lv ju jl us ms)(ag:u∈us)(ee s rr ww)(hs:s.size<=maxLen)(aA:rr.size<=maxLen)(ah:ww.size<=maxLen)(Q:Env w):
  Calls prog 47 #[.pointer (some ⟨b,0,none⟩),.agg #[.pointer (some ⟨u.x,0,none⟩),.pointer (some ⟨u.y,0,none⟩)],.agg #[.int .i64 7,.int .i64 ee,.string s,.string rr,.string ww]] w (hZ base b us.length ms.length w):=by
 have bw:Below w.heap.size w ((w.alloc (jT (some ⟨u.x,0,none⟩) (some ⟨u.y,0,none⟩))).alloc (.cells #[.int .i64 7,.int .i64 ee,.string s,.string rr,.string ww] 34)):=((aw _ w).alloc az _).alloc an _;have mE:base<=w.heap.size:=by have:=O.low;have:=O.blk.lt;omega
 have hus:1<=us.length:=List.length_pos_of_mem ag;obtain ⟨W,ac⟩:∃W,((w.alloc (jT (some ⟨u.x,0,none⟩) (some ⟨u.y,0,none⟩))).alloc (.cells #[.int .i64 7,.int .i64 ee,.string s,.string rr,.string ww] 34))=W:=⟨_,rfl⟩;have Y:=(aB.new w #[.pointer (some ⟨u.x,0,none⟩),.pointer (some ⟨u.y,0,none⟩)] 86).alloc (.cells #[.int .i64 7,.int .i64 ee,.string s,.string rr,.string ww] 34);have Z:=aB.new' (w.alloc (jT (some ⟨u.x,0,none⟩) (some ⟨u.y,0,none⟩))) #[.int .i64 7,.int .i64 ee,.string s,.string rr,.string ww] 34 (w.heap.size+1) an;rw [ac] at bw Y Z;have J:=O.below bw;have D:=J.ur u ag;obtain ⟨R,ae⟩:=gd_of D.both D.lets;obtain ⟨kv,rv,pv,kl,rl,pl,l,aQ,ad,aK,⟨aI,src,m,aE,aD,ay,au,ab⟩,_⟩:=D.ud.r;obtain ⟨F,U⟩:=kn_of aE aD ay au ab;obtain ⟨bm,tl,ax⟩:=D.up.m;have aL:=D.ud.most;have aJ:u.gs.length<=1000:=by rw [R,cK];omega
 have aS:=Q.lt;have al:=ai (Eg u.x u.mv u.lv u.gv u.ts u.gs W (uq_of D.up) (Sx ax U.m ae aJ) kl rl pl F U ab.1 s rr ww hs aA ah (Q.max.below bw aj) Fm (Q.laid.below bw aj));have am:=ai (fun (w':af) (k:Below W.heap.size W w') (b:Bool) (h0:js kl rl s rr ww≠0->b=false) (h1:js kl rl s rr ww=0->∃kb:Sj->Bool,b=kb ⟨(aC s 58).1,(aC s 58).2.1,rr⟩/\nL ⟨(aC ww 58).1,(aC ww 58).2.1⟩ (eB u.gs) ((cZ u.ts).map (List.map l8)) (fun _=>false) kb)=>Iz u.y u.bm u.tv kv rv pv kl rl pl l u.ss u.ts F s rr ww b w' (D.ud.d.below k) (ad.dm.below k) (by obtain ⟨cs,hc⟩:=ad.blk;exact ⟨cs,hc.below k⟩) aL U (by rw [<-R];exact ae) hs ah h0 (by rw [<-R];exact h1));have aR:js kl rl s rr ww<=5:=by
  unfold js;have:=FQ rl s rr
  split
  ·omega
  split
  ·exact this
  split<;>omega
 generalize js kl rl s rr ww=E at*;have HS:=ai J;have HB:=ai bw;have aG:=ai Y;have V:=ai Z;have aH:=ai ac;have aT:=bw.size;have hbase:base<=W.heap.size:=by have:=J.low;have:=J.blk.lt;omega
 clear O J D ag bw Y Z ac R ae ad aK aI aE aD ay au ab U ax Q hs aA ah;go_enter func47,ntmps47;go_wp2_with fail;rw [aH.u];refine al.u.mono ?_;rintro e w1 ⟨ar,rfl,I,h0,h1⟩;have ap:=ai (am.u w1 I ar h0 h1);obtain ⟨aM,p1⟩:=hS (aG.u.below I);have aN:w1.cell? ⟨w.heap.size+1,2,none⟩=some (.string s):=(V.u.below I).cell rfl;have aO:w1.cell? ⟨w.heap.size+1,3,none⟩=some (.string rr):=(V.u.below I).cell rfl;have aP:w1.cell? ⟨w.heap.size+1,4,none⟩=some (.string ww):=(V.u.below I).cell rfl;have ak:=ai I;clear I al am h0 h1;go_wp2_with fail;refine ap.u.mono ?_;rintro e aU ⟨rfl,av⟩;have B2:=ai (ak.u.trans (av.mono ak.u.size));clear av ap aM p1 aN aO aP
 cases ar
 ·exact Np
 ·exact Np
theorem BD:QA [2,3,4,5,7]:=by
 intro base b lv ju jl us Y w x D J I U O ho C R;have V:=C.lt;simp only [List.any_cons,List.any_nil,lz,oE,dL] at O;obtain ⟨kd,ee,s,rr,ww⟩:=x;simp only at O
 rcases O with rfl|rfl|rfl|rfl|rfl
 ·exact L8 D J ee s rr ww I C.laid
 ·exact mZ D J 3 ee s rr ww (.inl rfl) ho.s ho.e0 ho.e1 I C.laid C.max aj
 ·exact mZ D J 4 ee s rr ww (.inr (.inl rfl)) ho.s ho.e0 ho.e1 I C.laid C.max aj
 ·exact mZ D J 5 ee s rr ww (.inr (.inr rfl)) ho.s ho.e0 ho.e1 I C.laid C.max aj
 exact Ma D J 7 ee s rr ww (.inr (.inl rfl)) ho.e0 ho.e1 I (fun W' k u Q=>Eh (D.below k) Q ee s rr ww ho.s ho.r ho.w (C.below k aj))
theorem Ei(v n w)(J:HH w v n)(V:n<=2199023255488)(D:Env w):
  Calls prog 5 #[v] w fun e w'=>e=.returned (.bool true)/\Below w.heap.size w w':=by
 have I:=(aw w.heap.size w).alloc az (.cells #[.int .i64 2,.int .i64 3,.int .i64 4,.int .i64 5,.int .i64 7] 3);have O:=aB.new w #[.int .i64 2,.int .i64 3,.int .i64 4,.int .i64 5,.int .i64 7] 3;have C:=ai (HV [2,3,4,5,7] BD v n w _ J V w.heap.size 5 an (fun k U=>O.cell (by
  match k,U with
  |0,_=>rfl
  |1,_=>rfl
  |2,_=>rfl
  |3,_=>rfl
  |4,_=>rfl)) I (D.below I D.lt) D.lt)
 have hv:∃a c,v=.slice a n c:=by
  rcases J with ⟨rfl,rfl⟩|⟨Y,c,z,rfl,h1,_⟩
  ·exact ⟨_,_,rfl⟩
  exact ⟨_,_,rfl⟩
 obtain ⟨Z,rc,rfl⟩:=hv;clear J D I O;go_enter func5,ntmps5;go_wp2_with fail;refine C.u.mono ?_;rintro e w1 ⟨rfl,Q⟩;have R:=ai Q;clear Q C;go_wp2;go_ret;exact ⟨rfl,R.u⟩
end Go.Proofs.YtlbpnlngckgcbaaGreatDoor
namespace Go.Proofs.YtlbpnlngckgcbaaGreatDoor
open Go.ChangeShapes Go.WideShapes Go.RowKit Go.Proofs.Tryz
theorem Ej(v n w)(h:HH w v n)(C:n<=2199023255488)(A:Env w):
  Calls Tryz.prog 5 #[v] w fun e w'=>e=.returned (.bool true)/\Below w.heap.size w w':=Ei v n w h C A
variable {W:World}
theorem Ek(U:laidMetH Tryz.prog Rows.checksRow.laid W)(hs:W.ShapedOpen Tryz.prog):Env W:=by
 obtain ⟨V,C⟩:=laidMetH_iff.1 U;refine ⟨?_,?_,?_,?_⟩
 ·obtain ⟨name,u,ty,e1,J,O,Q,D⟩:=C ("errors.errorType",Rows.laid_errors_errorType) (List.mem_filter.2 ⟨.tail _ (.tail _ (.tail _ (.head _))),au⟩);have R:name=[101,114,114,111,114]:=(gu e1).symm;subst R;obtain rfl:=gu (gRt.symm.trans J);have I:ty∈(List.range 445).filter fun t=>Tryz.prog.rowNamed t [101,114,114,111,114]:=List.mem_filter.2 ⟨List.mem_range.2 (by rw [<-gSize];exact O),Q⟩
  rw [gOne] at I;obtain rfl:=aR.1 I;have C:typeHandle Tryz.prog 77=.pointer (some ⟨5,77,none⟩):=au;rw [C] at D;unfold Laid
  simpa using World.var?_cell gVar D 0
 ·exact cell_of_shapedOpen_int (t:=3) (zero:=#[.int .i64 0]) (k:=.i64) hs (by rw [QB];decide) au rfl au au Tryz.underlying3
 ·exact RZ (show laidMet Tryz.prog [("math/bits.deBruijn32tab",Rows.laid_math_bits_deBruijn32tab),("math/bits.deBruijn64tab",Rows.laid_math_bits_deBruijn64tab),("internal/strconv.uint64pow10",Rows.laid_internal_strconv_uint64pow10)] W from V)
 obtain ⟨cs,hc,_⟩:=hs.1 4 _ _ (by rw [QB];decide) gFour;exact lt_of_some hc
theorem El(os args):laidMetH Tryz.prog Rows.checksRow.laid ((World.doorLaid Tryz.prog 31 os).forCall (fun _ _=>0) ⟨#[],args,[]⟩).memory:=
 laidMetH_of_parts3 (fuel:=8) (laidMet_of_run' 8 au au) au au
theorem vm(os)(ar:os.Started)(H:Type)(enc:TypeId×Value->H):
  ReturnsInHanded {} Tryz.checked os 5 .any (fun w args=>(Rows.checksSpec.pre enc Tryz.prog Tryz.f5 [] false w args/\laidMetH Tryz.prog Rows.checksRow.laid w)/\sizedMet enc Tryz.prog Tryz.f5 (OpenSpec.ofChange Rows.checksSpec) false w args)
   (Rows.checksSpec.post enc Tryz.prog Tryz.f5 false true false false):=by
 refine AV (C:=Tryz.checked) (X:=fun w _=>laidMetH Tryz.prog Rows.checksRow.laid w) (fun _ _ _ ai D=>D.of_heap ai) gOwn ar au Tryz.func5
  (ChangeSpec.witness_shaped (enc:=enc) (C:=Tryz.checked) (os:=os) (X:=fun w _=>laidMetH Tryz.prog Rows.checksRow.laid w) false (World.doorLaid Tryz.prog 31 os) #[.slice none 0 0] 8 rfl (World.shaped_of_RefB au au) au au au (El os _)) ?_
 intro W base args ds gs aw Y R _ Z al ad _;have V:∀(j:Nat) t v,Tryz.f5.params[j]? =some t->args[j]? =some v->Value.okWide Tryz.prog W .any base t v:=Y;have U:=R;obtain ⟨p,q,O,ae,rfl,az,aA⟩:=R;have J:DataW.TrodAll enc Tryz.prog W 0 (fun _=>true) true Tryz.f5.params.toList args.toList ds p:=O;have Q:DataW.TrodVars enc Tryz.prog W (fun _=>true) [] gs q:=ae;rw [Tryz.params5] at J V;obtain ⟨ab,aC,d0,ax,am,aB,ay,rfl,rfl,h0,an⟩:=trodAll_cons J;obtain ⟨rfl,rfl,rfl⟩:=trodAll_nil an;obtain rfl:args=#[ab]:=by cases args;simp_all
 have ac:=Ek ad al;obtain ⟨rfl,rfl⟩:gs=[]/\q=[]:=by
  cases gs with
  |nil=>exact ⟨rfl,Q⟩
  |cons g r=>exact absurd Q (by intro D;cases D)
 obtain ⟨av,len,cap,rfl⟩:=okWide_slice Tryz.underlying36 (V 0 36 ab rfl rfl);clear O Y;simp only [gl] at U Z;obtain ⟨n,ak,aj,af⟩:=RX h0;have hn:n<=2199023255488:=by
  rcases af with ⟨_,rfl⟩|⟨el,ap,rfl,rfl⟩
  ·omega
  have I:(el.length+ap.length)*Tryz.prog.bytesOf 34<=reachBytes:=sized_slice (j:=0) (t:=36) Z (by
   show (Tryz.f5.params.toList++[])[0]? =_
   rw [Tryz.params5]
   rfl) rfl Tryz.underlying36
  rw [OY] at I;have:reachBytes=140737488351232:=rfl;omega
 refine (Ej _ n W ak hn ac).mono fun e W' ⟨ah,I⟩=> ?_
 subst ah;exact ⟨_,rfl,_,_,_,[],am,[],U,trodAll_mk1 (shut_bool Tryz.underlying4 true),by
  have:=trodAll_cons_mk (Below.trod gLaid au (of_decide_eq_true au) h0 I aj) trodAll_mk0;simp only [gl] at this;exact this,rfl,I.frame _,fun D=>by cases D⟩
end Go.Proofs.YtlbpnlngckgcbaaGreatDoor
