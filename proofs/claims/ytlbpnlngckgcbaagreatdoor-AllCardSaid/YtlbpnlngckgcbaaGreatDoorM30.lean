import Derived.Test.YtlbpnlngckgcbaaGreatDoorM24
set_option linter.all false
set_option maxHeartbeats 4000000
set_option maxRecDepth 100000
namespace Go.Proofs.YtlbpnlngckgcbaaGreatDoor
open Go.RowKit Go.PlainAid Go.Proofs.Tryz
variable {aD br:Prop} {w wr:af} {cn cc n N:Nat}
def Sn (h:aD:=by
 go_wp2;go_roundw
 ·exact ⟨b,i+1,n3,_,rfl,by go_num,ai,M2.u,L2.u,R2.u⟩
 simp [intOf];omega):aD:=h
structure VX(w wr:af)(ca ha:Option Addr)(cn cc hn hc mb n:Nat)(K:Sj->Nat):Prop where
 but:bK (fun k=>k=mb) w wr
 box:aL wr w.heap.size #[aw ca cn cc,aw ha hn hc,.map (some mb)] 189
 kn:rg wr mb n K
def Zb(K:Sj->Nat)(cs:List Tg)(p:It×ag)(h:Hd):Prop:=h.kd=p.1.1.1.name->tE K cs p h=K (jX p h)
def Sq(cs:List Tg)(C:It×ag->Hd->Prop)(Inv:(Sj->Nat)->Prop)(A:(Sj->Nat)->Nat)(N n:Nat)(K1 K:Sj->Nat)(b:Bool):Prop:=
 Inv K/\n+A K<=N/\(b=false->K=K1/\∀p h,C p h->Zb K1 cs p h)/\(b=true->A K<A K1)
def aaI(ls:List (It×ag))(hl:List Hd)(j:Nat)(p:It×ag)(h:Hd):Prop:=∃i,i<j/\ls[i]? =some p/\h∈hl
def VY(ls:List (It×ag))(hl:List Hd)(j i:Nat)(p:It×ag)(h:Hd):Prop:=aaI ls hl j p h\/(ls[j]? =some p/\∃k,k<i/\hl[k]? =some h)
def Is(cs:List Tg)(ls:List (It×ag))(hl:List Hd)(K:Sj->Nat):Prop:=∀p∈ls,∀h∈hl,Zb K cs p h
def VX.below{wx ca ha hn hc mb K}(h:VX w wr ca ha cn cc hn hc mb n K)(k:an wr wx):VX w wx ca ha cn cc hn hc mb n K:=
 ⟨h.but.trans (.of_below k),h.box.below k,h.kn.block (k.block mb h.kn.lt)⟩
def Sq.same{cs}{C D:It×ag->Hd->Prop}{Inv:(Sj->Nat)->Prop}{I:(Sj->Nat)->Nat}{K1 K b}(h:Sq cs C Inv I N n K1 K b)(J:∀p x,D p x->C p x\/Zb K cs p x):Sq cs D Inv I N n K1 K b:=
 ⟨h.1,h.2.1,fun e=>⟨(h.2.2.1 e).1,fun p x A=>by
  rcases J p x A with A|A
  ·exact (h.2.2.1 e).2 p x A
  rw [<-(h.2.2.1 e).1];exact A⟩,h.2.2.2⟩
def Sq.grow{cs}{D I:It×ag->Hd->Prop}{Inv:(Sj->Nat)->Prop}{A:(Sj->Nat)->Nat}{K1 K K' b}(h:Sq cs D Inv A N n K1 K b)(J:Inv K')(C:A K'<A K):Sq cs I Inv A N (n+1) K1 K' true:=
 ⟨J,by have:=h.2.1;omega,(fun e=>by cases e),fun _=>by
  cases b with
  |false=>rw [<-(h.2.2.1 rfl).1];exact C
  |true=>exact Nat.lt_trans C (h.2.2.2 rfl)⟩
def Iu(w:af)(U ha bC:Option Addr)(Y V aP R bg bD mb n N:Nat)(K:Sj->Nat)(cs:List Tg)(A:List Hd)(ls:List (It×ag))(Inv:(Sj->Nat)->Prop)(Z:(Sj->Nat)->Nat)
  (aF:SeG w (aw U Y V) (aw ha aP R) (aw bC bg bD) cs A ls) (C:SeC cs A ls Inv Z) (am:rg w mb n K) (hi:Inv K) (bx:n+Z K<=N) (b9:N<maxLen):
  Calls prog 99 #[.agg #[aw U Y V,aw ha aP R,.map (some mb)],aw bC bg bD] w fun e w'=>e=bj (.tuple #[])/\bK (fun k=>k=mb) w w'/\∃aY ac,rg w' mb aY ac/\Inv ac/\aY+Z ac<=N/\Is cs ls A ac:=by
 have bW:=am.lt;have b1:=(aA w.heap.size w).alloc aH (.cells #[aw U Y V,aw ha aP R,.map (some mb)] 189);have bt:=ak (⟨.of_below b1,aL.new w #[aw U Y V,aw ha aP R,.map (some mb)] 189,am.block (b1.block mb bW)⟩:VX w _ U ha Y V aP R mb n K);have bY:bg=ls.length:=by obtain ⟨a,c,e⟩:=ax aF.ln.row;simp only [aK] at e;exact e.2.1
 have bR:aP=A.length:=by obtain ⟨a,c,e⟩:=ax aF.hs.row;simp only [aK] at e;exact e.2.1
 subst bY;subst bR;have a6:=ak aF;have a5:=ak C;have bq:=ak am;have a7:=ak (And.intro hi bx);have b6:=aF.few;have b7:=aF.hs.most;clear b1 aF C am hi bx;go_enter func99,ntmps99;go_wp2_with fail
 go_loopg [4] (2*Z K+2) (fun k aZ wr=>∃(b:Bool)(aY:Nat)(ac:Sj->Nat),aZ=.bool b/\VX w wr U ha Y V A.length R mb aY ac/\Hid (Inv ac/\aY+Z ac<=N/\(b=false->Is cs ls A ac)/\2*Z ac+(if b then 1 else 0)<k))
 ·exact ⟨true,n,K,rfl,bt.u,ak ⟨a7.u.1,a7.u.2,(fun e=>by cases e),au⟩⟩
 ·clear bt a7;obtain ⟨b,n1,K1,rfl,D,aJ⟩:=hrel
  cases b with
  |false=>
   have aT:=ak D;clear D;go_wp2;go_end0;exact ⟨rfl,aT.u.but,n1,K1,aT.u.kn,(aE aJ).1,(aE aJ).2.1,(aE aJ).2.2.1 (by first|rfl|trivial)⟩
  |true=>
   have aT:=ak D;clear D;go_wp2_with fail
   go_loopw [4,12] (fun aZ bh bZ=>∃(b:Bool)(j n2:Nat)(aM:Sj->Nat),aZ=.bool b/\bh=ar j/\j<=ls.length/\VX w bZ U ha Y V A.length R mb n2 aM/\Hid (Sq cs (aaI ls A j) Inv Z N n2 K1 aM b)) (fun _ bh _=>ls.length-(intOf bh).toNat)
   ·exact ⟨false,0,n1,K1,rfl,rfl,ai,aT.u,ak ⟨(aE aJ).1,(aE aJ).2.1,(fun _=>⟨rfl,fun p h hv=>by obtain ⟨i,hi,_⟩:=hv;omega⟩),(fun e=>by cases e)⟩⟩
   obtain ⟨b,j,n2,aM,rfl,rfl,b8,D,aU⟩:=hrel
   by_cases bV:j<ls.length
   ·have bU:(j:Int)<(ls.length:Int):=by omega
    obtain ⟨ab,bO⟩:∃x,x=wr:=⟨_,rfl⟩;subst bO;obtain ⟨p,aQ⟩:∃p,ls[j]? =some p:=⟨_,aI bV⟩;have bb:=bG aQ;have ae:=a6.u.cellsK (mE bq.u D.but);obtain ⟨g,c,e1,ad⟩:=bo lnC 3 (fun _=>rfl) ae.ln.row j p aQ;simp only [aK] at e1;obtain ⟨rfl,_,rfl⟩:=e1;obtain ⟨il,ba⟩:∃il,il=(gE p.1.2.1.name p.1.2.1.body).length:=⟨_,rfl⟩;have bz:=ae.ln.ins p bb;obtain ⟨az,aB,a4⟩:=ax bz;rw [<-ba] at a4;have k0:ab.cell? (aC g (j*3))=some (aj p.1.1.1.name):=ad 0 _ ai rfl;have k1:ab.cell? (aC g (j*3+1))=some (aj p.1.2.1.name):=ad 1 _ ai rfl;have bA:ab.cell? (aC g (j*3+2))=some (aw az il aB):=by rw [<-a4];exact ad 2 _ ai rfl
    obtain ⟨c0,c1,c2⟩:=three D.box;have b4:=D.box.lt;have cb:¬(w.heap.size=ab.heap.size):=ai;have bl:=(aA ab.heap.size ab).alloc aH (.cells #[aj p.1.1.1.name,aj p.1.2.1.name,aw az il aB] 201);have a8:=ak (D.below bl);have bs:=ak (aL.new ab #[aj p.1.1.1.name,aj p.1.2.1.name,aw az il aB] 201);have aG:=ak (And.intro aQ bb);have bM:=ak (And.intro a4 ba);have d0:(ab.alloc (.cells #[aj p.1.1.1.name,aj p.1.2.1.name,aw az il aB] 201)).cell? (aC w.heap.size 1)=some (aw ha A.length R):=a8.u.box.cell rfl;clear ad bz a4 ba ae D bl aQ bb;go_wp2_with fail
    go_loopw [4,19] (fun aZ bi bF=>∃(b:Bool)(i n3:Nat)(Q:Sj->Nat),aZ=.bool b/\bi=ar i/\i<=A.length/\VX w bF U ha Y V A.length R mb n3 Q/\aL bF ab.heap.size #[aj p.1.1.1.name,aj p.1.2.1.name,aw az il aB] 201/\Hid (Sq cs (VY ls A j i) Inv Z N n3 K1 Q b)) (fun _ bi _=>A.length-(intOf bi).toNat)
    ·exact ⟨b,0,n2,aM,rfl,rfl,ai,a8.u,bs.u,ak ((aE aU).same (fun p x J=>by
     rcases J with J|⟨_,k,am,_⟩
     ·exact .inl J
     omega))⟩
    clear k0 k1 bA c0 c1 c2 d0 a8 bs aT;obtain ⟨b,i,n3,Q,rfl,rfl,hi,D,al,an⟩:=hrel
    by_cases bT:i<A.length
    ·have bS:(i:Int)<(A.length:Int):=by omega
     obtain ⟨I,av⟩:∃I,A[i]? =some I:=⟨_,aI bT⟩;have aV:=bG av;have ae:=a6.u.cellsK (mE bq.u D.but);obtain ⟨ap,b0,bv,ad⟩:=bo MF 3 (fun _=>rfl) ae.hs.row i I av;simp only [aK] at bv;obtain ⟨rfl,_,rfl⟩:=bv;obtain ⟨a2,aO⟩:=ae.hs.tups I aV;obtain ⟨ta,tc,aX⟩:=ax a2.row;obtain ⟨tn,bc⟩:∃tn,tn=I.ts.length:=⟨_,rfl⟩;rw [<-bc] at aX;have k0:wr.cell? (aC ap (i*3))=some (aj I.kd):=ad 0 _ ai rfl;have k1:wr.cell? (aC ap (i*3+1))=some (aj I.id):=ad 1 _ ai rfl;have bA:wr.cell? (aC ap (i*3+2))=some (aw ta tn tc):=by rw [<-aX];exact ad 2 _ ai rfl
     have ah:=(aA wr.heap.size wr).alloc aH (.cells #[aj I.kd,aj I.id,aw ta tn tc] 282);have aS:=D.below ah;obtain ⟨c0,c1,c2⟩:=three aS.box;obtain ⟨cf,l1,l2⟩:=three (al.below ah);have cd:¬(ab.heap.size=wr.heap.size):=by have:=al.lt;omega
     have ce:¬(w.heap.size=wr.heap.size):=by have:=D.box.lt;omega
     have b3:=D.but.size;have b2:=al.lt;have b5:=D.box.lt;have bp:=ak av
     by_cases ay:I.kd=p.1.1.1.name
     ·have bP:=XG ay;have bI:=ak ay;have a9:=ae.cellsK (BV ah);have be:=(aE an).1;have aR:=a6.u.ok p aG.u.2;have bn:Z3 (wr.alloc (.cells #[aj I.kd,aj I.id,aw ta tn tc] 282)) U az (some (aN ap)) ta Y V il aB A.length R tn tc mb n3 (Ul Q cs I) (gE p.1.2.1.name p.1.2.1.body):=⟨aS.kn,a9.cr,by have:=a9.ln.ins p aG.u.2;rw [bM.u.1] at this;exact this,by have:=(a2.below ah);rw [aX] at this;exact this,aO.pos,a5.u.bits Q be,aO.kd,aO.id,aR.rel,aO.sub,by have:=aR.len;simp [gE];omega⟩;have bk:=ak (ME _ U az (some (aN ap)) ta Y V il aB A.length R tn tc mb n3 (Ul Q cs I) p.1.1.1.name p.1.2.1.name p.1.2.1.body bn aR.wf aR.len aR.name (a5.u.val Q be p aG.u.2 I aV ay) (by have:=(aE an).2.1;omega));have bu:=ak aS;have bN:=ak (al.below ah);have bH:=ak aV;clear a9 be aR bn aS ae a2 aO aX bc ad ah D al ay av aV;go_wp2_with fail;refine bk.u.mono ?_;rintro e bE ⟨a3,bQ⟩;have L2:=ak (a3.blk bN.u (by omega:¬(ab.heap.size=mb)));have a1:=a3.blk bu.u.box (by omega:¬(w.heap.size=mb));have a0:=bu.u.but.trans a3;clear bk a3
      rcases bQ with ⟨J,rfl,aW⟩|⟨J,rfl,aW⟩
      ·have M2:=ak (⟨a0,a1,aW⟩:VX w bE U (some (aN ap)) Y V A.length R mb n3 Q);have R2:=ak (show Hid (Sq cs (VY ls A j (i+1)) Inv Z N n3 K1 Q b) from ak ((aE an).same (fun bB x J=>by
        rcases J with J|⟨h1,k,am,h2⟩
        ·exact .inl (.inl J)
        by_cases e:k=i
        ·subst e;rw [aG.u.1] at h1;rw [bp.u] at h2
         cases h1
         cases h2
         exact .inr (fun _=>J)
        exact .inl (.inr ⟨h1,k,ai,h2⟩))))
       clear a0 a1 aW J;exact Sn
      have M2:=ak (⟨a0,a1,aW⟩:VX w bE U (some (aN ap)) Y V A.length R mb (n3+1) (mU Q (jX p I) (tE Q cs p I)));have st:=a5.u.step Q (aE an).1 p aG.u.2 I bH.u bI.u J;have R2:=ak (ak ((aE an).grow st.1 st.2):Hid (Sq cs (VY ls A j (i+1)) Inv Z N (n3+1) K1 (mU Q (jX p I) (tE Q cs p I)) true));clear a0 a1 aW J st;go_wp2;go_roundw
      ·exact ⟨true,i+1,n3+1,_,rfl,by go_num,ai,M2.u,L2.u,R2.u⟩
      simp [intOf];omega
     have bP:=Kh ay;have M2:=ak aS;have L2:=ak (al.below ah);have R2:=ak (show Hid (Sq cs (VY ls A j (i+1)) Inv Z N n3 K1 Q b) from ak ((aE an).same (fun bB x J=>by
      rcases J with J|⟨h1,k,am,h2⟩
      ·exact .inl (.inl J)
      by_cases e:k=i
      ·subst e;rw [aG.u.1] at h1;rw [bp.u] at h2
       cases h1
       cases h2
       exact .inr (fun e=>absurd e ay)
      exact .inl (.inr ⟨h1,k,ai,h2⟩))))
     clear ae a2 aO aX bc ad ah D al aS ay av aV;exact Sn
    have bS:¬((i:Int)<(A.length:Int)):=ai;have bL:=ak D;clear D al;go_wp2;go_roundw
    ·exact ⟨b,j+1,n3,Q,rfl,by go_num,ai,bL.u,ak ((aE an).same (fun bB x J=>by
     obtain ⟨k,am,h1,h2⟩:=J;left
     by_cases e:k=j
     ·subst e;obtain ⟨q,bX,rfl⟩:=dB h2;exact .inr ⟨h1,q,ai,aI bX⟩
     exact .inl ⟨k,ai,h1,h2⟩))⟩
    simp [intOf];omega
   have bU:¬((j:Int)<(ls.length:Int)):=ai;have bJ:=ak D;clear D;go_wp2
   go_roundg (2*Z aM+(if b then 1 else 0)+1)
   case measure=>
    have h1:=(aE aJ).2.2.2;have h2:=aE aU
    cases b with
    |false=>simp at h1 ⊢;rw [(h2.2.2.1 rfl).1];omega
    |true=>have:=h2.2.2.2 rfl;simp at h1 ⊢;omega
   case rel=>exact ⟨b,n2,aM,rfl,bJ.u,ak ⟨(aE aU).1,(aE aU).2.1,(fun e p aQ h av=>by
    obtain ⟨i,hi,rfl⟩:=dB aQ;have bw:=(aE aU).2.2.1 e;rw [bw.1];exact bw.2 _ h ⟨i,ai,aI hi,av⟩),ai⟩⟩
