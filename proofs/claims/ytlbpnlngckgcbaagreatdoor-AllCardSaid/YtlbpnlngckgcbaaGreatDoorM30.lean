import Derived.Test.YtlbpnlngckgcbaaGreatDoorM24
set_option linter.all false
set_option maxHeartbeats 4000000
set_option maxRecDepth 100000
namespace Go.Proofs.YtlbpnlngckgcbaaGreatDoor
open Go.RowKit Go.PlainAid Go.Proofs.Tryz
variable {aD bq:Prop} {w wr:af} {cn cc n N:Nat}
def SV (h:aD:=by
 go_wp2;go_roundw
 ·exact ⟨b,i+1,n3,_,rfl,by go_num,ai,M2.u,L2.u,R2.u⟩
 simp [intOf];omega):aD:=h
structure Wp(w wr:af)(ca ha:Option Addr)(cn cc hn hc mb n:Nat)(K:Sj->Nat):Prop where
 but:bK (fun k=>k=mb) w wr
 box:aL wr w.heap.size #[aA ca cn cc,aA ha hn hc,.map (some mb)] 189
 kn:rR wr mb n K
def ZD(K:Sj->Nat)(cs:List Tg)(p:It×ag)(h:Hd):Prop:=h.kd=p.1.1.1.name->uf K cs p h=K (j0 p h)
def SW(cs:List Tg)(C:It×ag->Hd->Prop)(Inv:(Sj->Nat)->Prop)(A:(Sj->Nat)->Nat)(N n:Nat)(K1 K:Sj->Nat)(b:Bool):Prop:=
 Inv K/\n+A K<=N/\(b=false->K=K1/\∀p h,C p h->ZD K1 cs p h)/\(b=true->A K<A K1)
def aba(ls:List (It×ag))(hl:List Hd)(j:Nat)(p:It×ag)(h:Hd):Prop:=∃i,i<j/\ls[i]? =some p/\h∈hl
def Wq(ls:List (It×ag))(hl:List Hd)(j i:Nat)(p:It×ag)(h:Hd):Prop:=aba ls hl j p h\/(ls[j]? =some p/\∃k,k<i/\hl[k]? =some h)
def I3(cs:List Tg)(ls:List (It×ag))(hl:List Hd)(K:Sj->Nat):Prop:=∀p∈ls,∀h∈hl,ZD K cs p h
def Wp.below{wx ca ha hn hc mb K}(h:Wp w wr ca ha cn cc hn hc mb n K)(k:am wr wx):Wp w wx ca ha cn cc hn hc mb n K:=
 ⟨h.but.trans (.of_below k),h.box.below k,h.kn.block (k.block mb h.kn.lt)⟩
def SW.same{cs}{C D:It×ag->Hd->Prop}{Inv:(Sj->Nat)->Prop}{I:(Sj->Nat)->Nat}{K1 K b}(h:SW cs C Inv I N n K1 K b)(J:∀p x,D p x->C p x\/ZD K cs p x):SW cs D Inv I N n K1 K b:=
 ⟨h.1,h.2.1,fun e=>⟨(h.2.2.1 e).1,fun p x A=>by
  rcases J p x A with A|A
  ·exact (h.2.2.1 e).2 p x A
  rw [<-(h.2.2.1 e).1];exact A⟩,h.2.2.2⟩
def SW.grow{cs}{D I:It×ag->Hd->Prop}{Inv:(Sj->Nat)->Prop}{A:(Sj->Nat)->Nat}{K1 K K' b}(h:SW cs D Inv A N n K1 K b)(J:Inv K')(C:A K'<A K):SW cs I Inv A N (n+1) K1 K' true:=
 ⟨J,by have:=h.2.1;omega,(fun e=>by cases e),fun _=>by
  cases b with
  |false=>rw [<-(h.2.2.1 rfl).1];exact C
  |true=>exact Nat.lt_trans C (h.2.2.2 rfl)⟩
def I4(w:af)(U ha bv:Option Addr)(Y V aG R a9 bw mb n N:Nat)(K:Sj->Nat)(cs:List Tg)(A:List Hd)(ls:List (It×ag))(Inv:(Sj->Nat)->Prop)(Z:(Sj->Nat)->Nat)
  (ay:SeG w (.slice U Y V) (.slice ha aG R) (.slice bv a9 bw) cs A ls) (C:SeC cs A ls Inv Z) (al:rR w mb n K) (hi:Inv K) (br:n+Z K<=N) (b3:N<maxLen):
  Calls prog 99 #[.agg #[.slice U Y V,.slice ha aG R,.map (some mb)],.slice bv a9 bw] w fun e w'=>e=.returned (.tuple #[])/\bK (fun k=>k=mb) w w'/\∃aT ac,rR w' mb aT ac/\Inv ac/\aT+Z ac<=N/\I3 cs ls A ac:=by
 have bQ:=al.lt;have b1:=(az w.heap.size w).alloc aH (.cells #[.slice U Y V,.slice ha aG R,.map (some mb)] 189);have bj:=aj (⟨.of_below b1,aL.new w #[.slice U Y V,.slice ha aG R,.map (some mb)] 189,al.block (b1.block mb bQ)⟩:Wp w _ U ha Y V aG R mb n K);have bS:a9=ls.length:=by obtain ⟨a,c,e⟩:=aw ay.ln.row;simp only [aK] at e;exact e.2.1
 have bL:aG=A.length:=by obtain ⟨a,c,e⟩:=aw ay.hs.row;simp only [aK] at e;exact e.2.1
 subst bS;subst bL;have a1:=aj ay;have a0:=aj C;have bh:=aj al;have a2:=aj (And.intro hi br);have bZ:=ay.few;have b0:=ay.hs.most;clear b1 ay C al hi br;go_enter func99,ntmps99;go_wp2_with fail
 go_loopg [4] (2*Z K+2) (fun k aU wr=>∃(b:Bool)(aT:Nat)(ac:Sj->Nat),aU=.bool b/\Wp w wr U ha Y V A.length R mb aT ac/\Hid (Inv ac/\aT+Z ac<=N/\(b=false->I3 cs ls A ac)/\2*Z ac+(if b then 1 else 0)<k))
 ·exact ⟨true,n,K,rfl,bj.u,aj ⟨a2.u.1,a2.u.2,(fun e=>by cases e),ar⟩⟩
 ·clear bj a2;obtain ⟨b,n1,K1,rfl,D,aB⟩:=hrel
  cases b with
  |false=>
   have aO:=aj D;clear D;go_wp2;go_end0;exact ⟨rfl,aO.u.but,n1,K1,aO.u.kn,(aE aB).1,(aE aB).2.1,(aE aB).2.2.1 (by first|rfl|trivial)⟩
  |true=>
   have aO:=aj D;clear D;go_wp2_with fail
   go_loopw [4,12] (fun aU ba bT=>∃(b:Bool)(j n2:Nat)(aC:Sj->Nat),aU=.bool b/\ba=.int .i64 j/\j<=ls.length/\Wp w bT U ha Y V A.length R mb n2 aC/\Hid (SW cs (aba ls A j) Inv Z N n2 K1 aC b)) (fun _ ba _=>ls.length-(intOf ba).toNat)
   ·exact ⟨false,0,n1,K1,rfl,rfl,ai,aO.u,aj ⟨(aE aB).1,(aE aB).2.1,(fun _=>⟨rfl,fun p h hv=>by obtain ⟨i,hi,_⟩:=hv;omega⟩),(fun e=>by cases e)⟩⟩
   obtain ⟨b,j,n2,aC,rfl,rfl,b2,D,aP⟩:=hrel
   by_cases bP:j<ls.length
   ·have bO:(j:Int)<(ls.length:Int):=by omega
    obtain ⟨ab,bH⟩:∃x,x=wr:=⟨_,rfl⟩;subst bH;obtain ⟨p,aJ⟩:∃p,ls[j]? =some p:=⟨_,aI bP⟩;have a6:=bF aJ;have ae:=a1.u.cellsK (mN bh.u D.but);obtain ⟨g,c,e1,ad⟩:=bn lnC 3 (fun _=>rfl) ae.ln.row j p aJ;simp only [aK] at e1;obtain ⟨rfl,_,rfl⟩:=e1;obtain ⟨il,a5⟩:∃il,il=(gF p.1.2.1.name p.1.2.1.body).length:=⟨_,rfl⟩;have bs:=ae.ln.ins p a6;obtain ⟨av,ax,aZ⟩:=aw bs;rw [<-a5] at aZ;have k0:ab.cell? ⟨g,j*3,none⟩=some (.string p.1.1.1.name):=ad 0 _ ai rfl;have k1:ab.cell? ⟨g,j*3+1,none⟩=some (.string p.1.2.1.name):=ad 1 _ ai rfl;have bt:ab.cell? ⟨g,j*3+2,none⟩=some (aA av il ax):=by rw [<-aZ];exact ad 2 _ ai rfl
    obtain ⟨c0,c1,c2⟩:=three D.box;have bX:=D.box.lt;have b4:¬(w.heap.size=ab.heap.size):=ai;have bl:=(az ab.heap.size ab).alloc aH (.cells #[.string p.1.1.1.name,.string p.1.2.1.name,.slice av il ax] 201);have a3:=aj (D.below bl);have bi:=aj (aL.new ab #[.string p.1.1.1.name,.string p.1.2.1.name,.slice av il ax] 201);have aA:=aj (And.intro aJ a6);have bE:=aj (And.intro aZ a5);have d0:(ab.alloc (.cells #[.string p.1.1.1.name,.string p.1.2.1.name,.slice av il ax] 201)).cell? ⟨w.heap.size,1,none⟩=some (.slice ha A.length R):=a3.u.box.cell rfl;clear ad bs aZ a5 ae D bl aJ a6;go_wp2_with fail
    go_loopw [4,19] (fun aU bb bz=>∃(b:Bool)(i n3:Nat)(Q:Sj->Nat),aU=.bool b/\bb=.int .i64 i/\i<=A.length/\Wp w bz U ha Y V A.length R mb n3 Q/\aL bz ab.heap.size #[.string p.1.1.1.name,.string p.1.2.1.name,.slice av il ax] 201/\Hid (SW cs (Wq ls A j i) Inv Z N n3 K1 Q b)) (fun _ bb _=>A.length-(intOf bb).toNat)
    ·exact ⟨b,0,n2,aC,rfl,rfl,ai,a3.u,bi.u,aj ((aE aP).same (fun p x J=>by
     rcases J with J|⟨_,k,al,_⟩
     ·exact .inl J
     omega))⟩
    clear k0 k1 bt c0 c1 c2 d0 a3 bi aO;obtain ⟨b,i,n3,Q,rfl,rfl,hi,D,ak,am⟩:=hrel
    by_cases bN:i<A.length
    ·have bM:(i:Int)<(A.length:Int):=by omega
     obtain ⟨I,ap⟩:∃I,A[i]? =some I:=⟨_,aI bN⟩;have aQ:=bF ap;have ae:=a1.u.cellsK (mN bh.u D.but);obtain ⟨an,bU,bo,ad⟩:=bn Nc 3 (fun _=>rfl) ae.hs.row i I ap;simp only [aK] at bo;obtain ⟨rfl,_,rfl⟩:=bo;obtain ⟨aX,aF⟩:=ae.hs.tups I aQ;obtain ⟨ta,tc,aS⟩:=aw aX.row;obtain ⟨tn,a7⟩:∃tn,tn=I.ts.length:=⟨_,rfl⟩;rw [<-a7] at aS;have k0:wr.cell? ⟨an,i*3,none⟩=some (.string I.kd):=ad 0 _ ai rfl;have k1:wr.cell? ⟨an,i*3+1,none⟩=some (.string I.id):=ad 1 _ ai rfl;have bt:wr.cell? ⟨an,i*3+2,none⟩=some (YtlbpnlngckgcbaaGreatDoor.aA ta tn tc):=by rw [<-aS];exact ad 2 _ ai rfl
     have ah:=(az wr.heap.size wr).alloc aH (.cells #[.string I.kd,.string I.id,.slice ta tn tc] 282);have aN:=D.below ah;obtain ⟨c0,c1,c2⟩:=three aN.box;obtain ⟨b7,l1,l2⟩:=three (ak.below ah);have b5:¬(ab.heap.size=wr.heap.size):=by have:=ak.lt;omega
     have b6:¬(w.heap.size=wr.heap.size):=by have:=D.box.lt;omega
     have bW:=D.but.size;have bV:=ak.lt;have bY:=D.box.lt;have bg:=aj ap
     by_cases au:I.kd=p.1.1.1.name
     ·have bI:=Ya au;have bB:=aj au;have a4:=ae.cellsK (CA ah);have a8:=(aE am).1;have aM:=a1.u.ok p aA.u.2;have bf:CoI (wr.alloc (.cells #[.string I.kd,.string I.id,.slice ta tn tc] 282)) U av (some ⟨an,0,none⟩) ta Y V il ax A.length R tn tc mb n3 (UN Q cs I) (gF p.1.2.1.name p.1.2.1.body):=⟨aN.kn,a4.cr,by have:=a4.ln.ins p aA.u.2;rw [bE.u.1] at this;exact this,by have:=(aX.below ah);rw [aS] at this;exact this,aF.pos,a0.u.bits Q a8,aF.kd,aF.id,aM.rel,aF.sub,by have:=aM.len;simp [gF];omega⟩;have bc:=aj (Nb _ U av (some ⟨an,0,none⟩) ta Y V il ax A.length R tn tc mb n3 (UN Q cs I) p.1.1.1.name p.1.2.1.name p.1.2.1.body bf aM.wf aM.len aM.name (a0.u.val Q a8 p aA.u.2 I aQ au) (by have:=(aE am).2.1;omega));have bk:=aj aN;have bG:=aj (ak.below ah);have bA:=aj aQ;clear a4 a8 aM bf aN ae aX aF aS a7 ad ah D ak au ap aQ;go_wp2_with fail;refine bc.u.mono ?_;rintro e bx ⟨aY,bJ⟩;have L2:=aj (aY.blk bG.u (by omega:¬(ab.heap.size=mb)));have aW:=aY.blk bk.u.box (by omega:¬(w.heap.size=mb));have aV:=bk.u.but.trans aY;clear bc aY
      rcases bJ with ⟨J,rfl,aR⟩|⟨J,rfl,aR⟩
      ·have M2:=aj (⟨aV,aW,aR⟩:Wp w bx U (some ⟨an,0,none⟩) Y V A.length R mb n3 Q);have R2:=aj (show Hid (SW cs (Wq ls A j (i+1)) Inv Z N n3 K1 Q b) from aj ((aE am).same (fun bu x J=>by
        rcases J with J|⟨h1,k,al,h2⟩
        ·exact .inl (.inl J)
        by_cases e:k=i
        ·subst e;rw [aA.u.1] at h1;rw [bg.u] at h2
         cases h1
         cases h2
         exact .inr (fun _=>J)
        exact .inl (.inr ⟨h1,k,ai,h2⟩))))
       clear aV aW aR J;exact SV
      have M2:=aj (⟨aV,aW,aR⟩:Wp w bx U (some ⟨an,0,none⟩) Y V A.length R mb (n3+1) (m5 Q (j0 p I) (uf Q cs p I)));have st:=a0.u.step Q (aE am).1 p aA.u.2 I bA.u bB.u J;have R2:=aj (aj ((aE am).grow st.1 st.2):Hid (SW cs (Wq ls A j (i+1)) Inv Z N (n3+1) K1 (m5 Q (j0 p I) (uf Q cs p I)) true));clear aV aW aR J st;go_wp2;go_roundw
      ·exact ⟨true,i+1,n3+1,_,rfl,by go_num,ai,M2.u,L2.u,R2.u⟩
      simp [intOf];omega
     have bI:=KO au;have M2:=aj aN;have L2:=aj (ak.below ah);have R2:=aj (show Hid (SW cs (Wq ls A j (i+1)) Inv Z N n3 K1 Q b) from aj ((aE am).same (fun bu x J=>by
      rcases J with J|⟨h1,k,al,h2⟩
      ·exact .inl (.inl J)
      by_cases e:k=i
      ·subst e;rw [aA.u.1] at h1;rw [bg.u] at h2
       cases h1
       cases h2
       exact .inr (fun e=>absurd e au)
      exact .inl (.inr ⟨h1,k,ai,h2⟩))))
     clear ae aX aF aS a7 ad ah D ak aN au ap aQ;exact SV
    have bM:¬((i:Int)<(A.length:Int)):=ai;have bD:=aj D;clear D ak;go_wp2;go_roundw
    ·exact ⟨b,j+1,n3,Q,rfl,by go_num,ai,bD.u,aj ((aE am).same (fun bu x J=>by
     obtain ⟨k,al,h1,h2⟩:=J;left
     by_cases e:k=j
     ·subst e;obtain ⟨q,bR,rfl⟩:=dB h2;exact .inr ⟨h1,q,ai,aI bR⟩
     exact .inl ⟨k,ai,h1,h2⟩))⟩
    simp [intOf];omega
   have bO:¬((j:Int)<(ls.length:Int)):=ai;have bC:=aj D;clear D;go_wp2
   go_roundg (2*Z aC+(if b then 1 else 0)+1)
   case measure=>
    have h1:=(aE aB).2.2.2;have h2:=aE aP
    cases b with
    |false=>simp at h1 ⊢;rw [(h2.2.2.1 rfl).1];omega
    |true=>have:=h2.2.2.2 rfl;simp at h1 ⊢;omega
   case rel=>exact ⟨b,n2,aC,rfl,bC.u,aj ⟨(aE aP).1,(aE aP).2.1,(fun e p aJ h ap=>by
    obtain ⟨i,hi,rfl⟩:=dB aJ;have bp:=(aE aP).2.2.1 e;rw [bp.1];exact bp.2 _ h ⟨i,ai,aI hi,ap⟩),ai⟩⟩
