import Derived.Test.YtlbpnlngckgcbaaGreatDoorM29
import Derived.Test.YtlbpnlngckgcbaaGreatDoorM28
import Derived.Test.YtlbpnlngckgcbaaGreatDoorM30
import Derived.Test.YtlbpnlngckgcbaaGreatDoorM26
import Derived.KernelRfl
set_option linter.all false
set_option maxHeartbeats 4000000
set_option maxRecDepth 100000
namespace Go.Proofs.YtlbpnlngckgcbaaGreatDoor
open Go.RowKit Go.PlainAid Go.Proofs.Tryz
variable {n a cn cc N k g0 c0 pc n1 j sb base g c B i:Nat} {aF cD:Prop} {w wr W0 w' W W':af} {α:Type} {id:ae} {pa:Option Addr} {o:Obj} {gs:List Tu} {lv gv v':ag} {ts:List Ty} {aq:Sj} {row:Option Nat} {T:TypeId} {xs:List ag} {who:Tg}
structure Hd where
 kd:ae
 id:ae
 ts:List Tu
 tv:ag
def Fx(h:Hd):List ag:=[.string h.kd,.string h.id,h.tv]
structure HdOK(h:Hd):Prop where
 pos:0<h.ts.length
 kd:h.kd.size<=maxLen
 id:h.id.size<=maxLen
 sub:∀t∈h.ts,m0 (gx t)
structure S6(w:af)(hv:ag)(hl:List Hd):Prop where
 row:w.ownsRow 0 282 3 hv hl.length (hl.flatMap Fx)
 tups:∀h∈hl,O7 w h.tv h.ts/\HdOK h
 most:hl.length<=1000
def Nw(K:Sj->Nat)(cs:List Tg)(h:Hd):Ml:=⟨K,cs,h.kd,h.id,h.ts⟩
def jr(p:It×ag)(h:Hd):Sj:=⟨h.kd,h.id,p.1.2.1.name⟩
def ru(K:Sj->Nat)(cs:List Tg)(p:It×ag)(h:Hd):Nat:=dH (Nw K cs h) p.1.2.1.name p.1.2.1.body
structure Sb(p:It×ag):Prop where
 wf:A1 p.1.2.1.body
 len:(aW p.1.2.1.name 0 p.1.2.1.body).length<40000
 name:p.1.2.1.name.size<=maxLen
 rel:∀i∈fZ p.1.2.1.name p.1.2.1.body,i.rel.size<=maxLen
structure TJ(w:af)(cv hv sv:ag)(cs:List Tg)(hl:List Hd)(ls:List (It×ag)):Prop where
 cr:yM w cv cs
 hs:S6 w hv hl
 ln:yK 0 w sv ls
 ok:∀p∈ls,Sb p
 few:ls.length<=1000000
section
variable {w w':af}{cv hv sv tv:ag}{cs:List Tg}{hl:List Hd}{ls:List (It×ag)}{mb n:Nat}{K:Sj->Nat}{ts:List Tu}
def m3(w w':af):Prop:=w.heap.size<=w'.heap.size/\∀(g:Nat)(cs:Array ag)(T:TypeId)(f:Nat×Nat),w.heap[g]? =some (.cells cs T f)->w'.heap[g]? =w.heap[g]?
theorem lR(C:pP w mb n K)(A:bI (fun k=>k=mb) w w'):m3 w w':=⟨A.size,fun g cs T f h=>A.block g (lt_of_some h) (fun e=>by
 subst e;obtain ⟨I,c,D⟩:=C.isMap;rw [D] at h
 cases h)⟩
theorem O7.cellsK(h:O7 w tv ts)(k:m3 w w'):O7 w' tv ts:=⟨ax h.row (fun g cs f _ A=>k.2 g cs _ f A),h.most⟩
theorem S6.cellsK(h:S6 w hv hl)(k:m3 w w'):S6 w' hv hl:=⟨ax h.row (fun g cs f _ C=>k.2 g cs _ f C),fun x A=>⟨(h.tups x A).1.cellsK k,(h.tups x A).2⟩,h.most⟩
theorem rz{a x}(h:w.cell? a=some x)(k:m3 w w'):w'.cell? a=some x:=by
 rw [<-h];apply iV;unfold World.cell? at h
 cases A:w.heap[a.block]? with
 |none=>rw [A] at h;cases h
 |some o=>
  cases o with
  |cells cs T f=>exact (k.2 _ cs T f A).trans A
  |_=>rw [A] at h;cases h
theorem yM.cellsK(A:yM w cv cs)(k:m3 w w'):yM w' cv cs:=by
 obtain ⟨g,o,c,h1,h2,C,h⟩:=A;exact ⟨g,o,c,h1,cg h2 k.1,C,fun i x hi=>⟨rz (h i x hi).1 k,rz (h i x hi).2 k⟩⟩
theorem TJ.cellsK(h:TJ w cv hv sv cs hl ls)(k:m3 w w'):TJ w' cv hv sv cs hl ls:=⟨h.cr.cellsK k,h.hs.cellsK k,h.ln.frame (fun g cs T f A _=>k.2 g cs T f A),h.ok,h.few⟩
theorem yj(k:Below w.heap.size w w'):m3 w w':=⟨k.size,fun g cs T f h=>k.block g (lt_of_some h)⟩
end
structure UC(cs:List Tg)(hl:List Hd)(ls:List (It×ag))(Inv:(Sj->Nat)->Prop)(mu:(Sj->Nat)->Nat):Prop where
 bits:∀K,Inv K->∀s,K s<18446744073709551616
 val:∀K,Inv K->∀p∈ls,∀h∈hl,h.kd=p.1.1.1.name->ru K cs p h<18446744073709551616
 step:∀K,Inv K->∀p∈ls,∀h∈hl,h.kd=p.1.1.1.name->ru K cs p h≠K (jr p h)->Inv (ma K (jr p h) (ru K cs p h))/\mu (ma K (jr p h) (ru K cs p h))<mu K
def nK(n a:Nat):Prop:=∀i,n<=i->a.testBit i=false
theorem oR(D:n<=64)(C:nK n a):a<18446744073709551616:=by
 apply Nat.lt_pow_two_of_testBit (n:=64);intro i hi;exact C i aj
theorem kW(v)(C:∀s,nK v.cs.length (v.K s))(rel):∀e,nK v.cs.length (dH v rel e)
 |⟨n,some x,some y⟩=>fun i hi=>by
  have D:=kW v C rel x i hi;have O:=kW v C rel y i hi;unfold dH
  split
  ·rw [ux,D,O];rfl
  split
  ·simp
  split
  ·rw [uy,D];simp
  unfold pE;rw [Nat.testBit_and,D];simp
 |⟨n,none,r⟩=>fun i hi=>by
  have J:∀t,(jd v.K v.cs (gx t)).testBit i=false:=fun t=>by
   unfold jd
   split
   ·rw [uz];have:¬i<v.cs.length:=aj;simp [this]
   exact C _ i hi
  have I:∀t,(rM v.K (gx t) n.n2).testBit i=false:=fun t=>by
   unfold rM
   split
   ·exact C _ i hi
   simp
  unfold dH
  split
  ·rw [kV];simp [J]
  split
  ·exact C _ i hi
  rw [kV];simp [I]
 |⟨_,some _,none⟩=>fun i hi=>by
  unfold dH;simp
def Sc(ls:List (It×ag))(hl:List Hd)(s:Sj):Prop:=∃p∈ls,∃h∈hl,h.kd=p.1.1.1.name/\s=jr p h
def Ba(ls:List (It×ag))(hl:List Hd):List Sj:=ls.flatMap fun p=>hl.map fun h=>jr p h
structure Ms(ls:List (It×ag))(hl:List Hd):Prop where
 hds:∀h∈hl,∀h'∈hl,h.kd=h'.kd->h.id=h'.id->h=h'
 lns:∀p∈ls,∀q∈ls,p.1.1.1.name=q.1.1.1.name->p.1.2.1.name=q.1.2.1.name->p.1.2.1.body=q.1.2.1.body
 str:∀p∈ls,∀h∈hl,h.kd=p.1.1.1.name->∀s,H4 h.kd h.id h.ts p.1.2.1.name p.1.2.1.body s->¬Sc ls hl s
structure TK(cs:List Tg)(ls:List (It×ag))(hl:List Hd)(K0 K:Sj->Nat):Prop where
 out:∀s,nK cs.length (K s)
 old:∀s,¬Sc ls hl s->K s=K0 s
 sub:∀p∈ls,∀h∈hl,h.kd=p.1.1.1.name->qK (K (jr p h)) (ru K cs p h)
theorem Bb{cs}(A:cs.length<=64){K K'}(h1:∀s,nK cs.length (K s))(h2:∀s,nK cs.length (K' s))(I:∀s,qK (K s) (K' s)){p:It×ag}{h}(J:∀s,H4 h.kd h.id h.ts p.1.2.1.name p.1.2.1.body s->K s=K' s):qK (ru K cs p h) (ru K' cs p h):=by
 intro i hi;unfold ru at hi ⊢
 by_cases C:i<cs.length
 ·have D:cs[i]? =some cs[i]:=aG C;rw [m2 (Nw K cs h) (fun s=>oR A (h1 s)) A D] at hi;rw [m2 (Nw K' cs h) (fun s=>oR A (h2 s)) A D];rw [<-fQ] at hi ⊢;dsimp only [Nw] at hi ⊢;rw [<-fS (kp:=fun s=>(K' s).testBit i) (kn:=fun s=>(K s).testBit i) p.1.2.1.body (fun s _=>rfl) (fun s hs=>by show (K s).testBit i=(K' s).testBit i;rw [J s hs])];exact gP (fun s hs=>I s i hs) _ hi
 rw [kW (Nw K cs h) h1 _ _ i (by simpa [Nw] using C)] at hi
 cases hi
variable {hl:List Hd}
theorem qN{cs:List Tg}{ls:List (It×ag)}(Q:cs.length<=64)(V:Ms ls hl)(ac:Sj->Nat):UC cs hl ls (TK cs ls hl ac) (iR (Ba ls hl)) where
 bits:=fun K I s=>oR Q (I.out s)
 val:=fun K I p O h J _=>oR Q (kW (Nw K cs h) I.out _ _)
 step:=fun K I p O h J Y ai=>by
  have af:nK cs.length (ru K cs p h):=kW (Nw K cs h) I.out _ _;have ab:Sc ls hl (jr p h):=⟨p,O,h,J,Y,rfl⟩;have hs:∀s,qK (K s) (ma K (jr p h) (ru K cs p h) s):=fun s=>by
   unfold ma
   split
   ·rename_i e;rw [e];exact I.sub p O h J Y
   exact fun i hi=>hi
  have ho:∀s,nK cs.length (ma K (jr p h) (ru K cs p h) s):=fun s=>by
   unfold ma
   split
   ·exact af
   exact I.out s
  have R:∀q∈ls,∀A∈hl,A.kd=q.1.1.1.name->qK (ru K cs q A) (ru (ma K (jr p h) (ru K cs p h)) cs q A):=fun q R A C D=>
   Bb Q I.out ho hs (fun s ah=>by
    unfold ma;rw [if_neg (fun e=>V.str q R A C D s ah (by rw [e];exact ab))])
  refine ⟨⟨ho,fun s hn=> ?_,fun q U A C D=> ?_⟩,?_⟩
  ·unfold ma;rw [if_neg (fun e=>hn (by rw [e];exact ab))];exact I.old s hn
  ·by_cases e:jr q A=jr p h
   ·have e1:A=h:=V.hds A C h J (congrArg Sj.kind e) (congrArg Sj.id e);subst e1;have Z:q.1.2.1.name=p.1.2.1.name:=congrArg Sj.rel e;have ad:=V.lns q U p O (by rw [<-D,<-Y]) Z;have ae:ru K cs p A=ru K cs q A:=by unfold ru;rw [Z,ad]
    rw [e,show ma K (jr p A) (ru K cs p A) (jr p A)=ru K cs p A from if_pos rfl];exact fun i hi=>R q U A C D i (by rw [<-ae];exact hi)
   rw [show ma K (jr p h) (ru K cs p h) (jr q A)=K (jr q A) from if_neg e];exact fun i hi=>R q U A C D i (I.sub q U A C D i hi)
  exact Fw hs (s:=jr p h) (oR Q (ho _)) (by rw [show ma K (jr p h) (ru K cs p h) (jr p h)=ru K cs p h from if_pos rfl];exact fun e=>ai e.symm) _ (cb.2 ⟨p,O,aY.2 ⟨h,J,rfl⟩⟩)
def Mt (C:aF:=by
 go_wp2;go_roundw
 case rel=>exact ⟨b,i+1,n3,_,rfl,by go_num,aj,M2.u,L2.u,R2.u⟩
 case measure=>simp [intOf];omega):aF:=C
structure O8(w wr:af)(ca ha:Option Addr)(cn cc hn hc mb n:Nat)(K:Sj->Nat):Prop where
 but:bI (fun k=>k=mb) w wr
 box:aB wr w.heap.size #[.slice ca cn cc,.slice ha hn hc,.map (some mb)] 189
 kn:pP wr mb n K
def Sd(K:Sj->Nat)(cs:List Tg)(p:It×ag)(h:Hd):Prop:=h.kd=p.1.1.1.name->ru K cs p h=K (jr p h)
def Mu(cs:List Tg)(C:It×ag->Hd->Prop)(Inv:(Sj->Nat)->Prop)(h:(Sj->Nat)->Nat)(N n:Nat)(K1 K:Sj->Nat)(b:Bool):Prop:=
 Inv K/\n+h K<=N/\(b=false->K=K1/\∀p A,C p A->Sd K1 cs p A)/\(b=true->h K<h K1)
def TL(ls:List (It×ag))(hl:List Hd)(j:Nat)(p:It×ag)(h:Hd):Prop:=∃i,i<j/\ls[i]? =some p/\h∈hl
def O9(ls:List (It×ag))(hl:List Hd)(j i:Nat)(p:It×ag)(h:Hd):Prop:=TL ls hl j p h\/(ls[j]? =some p/\∃k,k<i/\hl[k]? =some h)
def DH(cs:List Tg)(ls:List (It×ag))(hl:List Hd)(K:Sj->Nat):Prop:=∀p∈ls,∀h∈hl,Sd K cs p h
theorem O8.below{wx ca ha hn hc mb K}(h:O8 w wr ca ha cn cc hn hc mb n K)(k:Below wr.heap.size wr wx):O8 w wx ca ha cn cc hn hc mb n K:=
 ⟨h.but.trans (.of_below k),h.box.below k,h.kn.block (k.block mb h.kn.lt)⟩
theorem Mu.same{cs}{C D:It×ag->Hd->Prop}{Inv:(Sj->Nat)->Prop}{I:(Sj->Nat)->Nat}{K1 K b}(h:Mu cs C Inv I N n K1 K b)(J:∀p x,D p x->C p x\/Sd K cs p x):Mu cs D Inv I N n K1 K b:=
 ⟨h.1,h.2.1,fun e=>⟨(h.2.2.1 e).1,fun p x A=>by
  rcases J p x A with A|A
  ·exact (h.2.2.1 e).2 p x A
  rw [<-(h.2.2.1 e).1];exact A⟩,h.2.2.2⟩
theorem Mu.grow{cs}{D I:It×ag->Hd->Prop}{Inv:(Sj->Nat)->Prop}{h:(Sj->Nat)->Nat}{K1 K K' b}(A:Mu cs D Inv h N n K1 K b)(J:Inv K')(C:h K'<h K):Mu cs I Inv h N (n+1) K1 K' true:=
 ⟨J,by have:=A.2.1;omega,(fun e=>by cases e),fun _=>by
  cases b with
  |false=>rw [<-(A.2.2.1 rfl).1];exact C
  |true=>exact Nat.lt_trans C (A.2.2.2 rfl)⟩
theorem DI(w:af)(U ha bC:Option Addr)(Y V aK R bg bD mb n N:Nat)(K:Sj->Nat)(cs:List Tg)(D:List Hd)(ls:List (It×ag))(Inv:(Sj->Nat)->Prop)(Z:(Sj->Nat)->Nat)
  (aC:TJ w (.slice U Y V) (.slice ha aK R) (.slice bC bg bD) cs D ls) (C:UC cs D ls Inv Z) (am:pP w mb n K) (hi:Inv K) (bw:n+Z K<=N) (b8:N<maxLen):
  Calls prog 99 #[.agg #[.slice U Y V,.slice ha aK R,.map (some mb)],.slice bC bg bD] w fun e w'=>e=.returned (.tuple #[])/\bI (fun k=>k=mb) w w'/\∃aT ac,pP w' mb aT ac/\Inv ac/\aT+Z ac<=N/\DH cs ls D ac:=by
 have bV:=am.lt;have b1:=(aw w.heap.size w).alloc az (.cells #[.slice U Y V,.slice ha aK R,.map (some mb)] 189);have br:=ai (show O8 w _ U ha Y V aK R mb n K from ⟨.of_below b1,aB.new w #[.slice U Y V,.slice ha aK R,.map (some mb)] 189,am.block (b1.block mb bV)⟩);have bX:bg=ls.length:=by obtain ⟨a,c,e⟩:=ay aC.ln.row;simp only [aI] at e;exact e.2.1
 have bQ:aK=D.length:=by obtain ⟨a,c,e⟩:=ay aC.hs.row;simp only [aI] at e;exact e.2.1
 subst bX;subst bQ;have a7:=ai aC;have a6:=ai C;have bp:=ai am;have a8:=ai (And.intro hi bw);have b5:=aC.few;have b6:=aC.hs.most;clear b1 aC C am hi bw;go_enter func99,ntmps99;go_wp2_with fail
 go_loopg [4] (2*Z K+2) (fun k aU wr=>∃(b:Bool)(aT:Nat)(ac:Sj->Nat),aU=.bool b/\O8 w wr U ha Y V D.length R mb aT ac/\Hid (Inv ac/\aT+Z ac<=N/\(b=false->DH cs ls D ac)/\2*Z ac+(if b then 1 else 0)<k))
 case atStart=>exact ⟨true,n,K,rfl,br.u,ai ⟨a8.u.1,a8.u.2,(fun e=>by cases e),an⟩⟩
 case round=>
  clear br a8;obtain ⟨b,n1,K1,rfl,I,aE⟩:=hrel
  cases b with
  |false=>
   have aO:=ai I;clear I;go_wp2;go_end0;exact ⟨rfl,aO.u.but,n1,K1,aO.u.kn,(ak aE).1,(ak aE).2.1,(ak aE).2.2.1 (by first|rfl|trivial)⟩
  |true=>
   have aO:=ai I;clear I;go_wp2_with fail
   go_loopw [4,12] (fun aU bh bY=>∃(b:Bool)(j n2:Nat)(aH:Sj->Nat),aU=.bool b/\bh=.int .i64 j/\j<=ls.length/\O8 w bY U ha Y V D.length R mb n2 aH/\Hid (Mu cs (TL ls D j) Inv Z N n2 K1 aH b)) (fun _ bh _=>ls.length-(intOf bh).toNat)
   case atStart=>exact ⟨false,0,n1,K1,rfl,rfl,aj,aO.u,ai ⟨(ak aE).1,(ak aE).2.1,(fun _=>⟨rfl,fun p bu hv=>by obtain ⟨i,hi,_⟩:=hv;omega⟩),(fun e=>by cases e)⟩⟩
   case round=>
    obtain ⟨b,j,n2,aH,rfl,rfl,b7,I,aP⟩:=hrel
    by_cases bU:j<ls.length
    ·have bT:(j:Int)<(ls.length:Int):=by omega
     obtain ⟨ab,bN⟩:∃x,x=wr:=⟨_,rfl⟩;subst bN;obtain ⟨p,aL⟩:∃p,ls[j]? =some p:=⟨_,aG bU⟩;have bc:=bx aL;have ae:=a7.u.cellsK (lR bp.u I.but);obtain ⟨g,c,e1,ad⟩:=bi TA 3 (fun _=>rfl) ae.ln.row j p aL;simp only [aI] at e1;obtain ⟨rfl,_,rfl⟩:=e1;obtain ⟨il,bb⟩:∃il,il=(fZ p.1.2.1.name p.1.2.1.body).length:=⟨_,rfl⟩;have bz:=ae.ln.ins p bc;obtain ⟨ax,aA,a5⟩:=ay bz;rw [<-bb] at a5;have k0:ab.cell? ⟨g,j*3,none⟩=some (.string p.1.1.1.name):=ad 0 _ aj rfl;have k1:ab.cell? ⟨g,j*3+1,none⟩=some (.string p.1.2.1.name):=ad 1 _ aj rfl;have bA:ab.cell? ⟨g,j*3+2,none⟩=some (.slice ax il aA):=by rw [<-a5];exact ad 2 _ aj rfl
     obtain ⟨c0,c1,c2⟩:=three I.box;have b3:=I.box.lt;have b9:¬(w.heap.size=ab.heap.size):=aj;have bl:=(aw ab.heap.size ab).alloc az (.cells #[.string p.1.1.1.name,.string p.1.2.1.name,.slice ax il aA] 201);have a9:=ai (I.below bl);have bq:=ai (aB.new ab #[.string p.1.1.1.name,.string p.1.2.1.name,.slice ax il aA] 201);have aD:=ai (And.intro aL bc);have bL:=ai (And.intro a5 bb);have d0:(ab.alloc (.cells #[.string p.1.1.1.name,.string p.1.2.1.name,.slice ax il aA] 201)).cell? ⟨w.heap.size,1,none⟩=some (.slice ha D.length R):=a9.u.box.cell rfl;clear ad bz a5 bb ae I bl aL bc;go_wp2_with fail
     go_loopw [4,19] (fun aU bj bF=>∃(b:Bool)(i n3:Nat)(Q:Sj->Nat),aU=.bool b/\bj=.int .i64 i/\i<=D.length/\O8 w bF U ha Y V D.length R mb n3 Q/\aB bF ab.heap.size #[.string p.1.1.1.name,.string p.1.2.1.name,.slice ax il aA] 201/\Hid (Mu cs (O9 ls D j i) Inv Z N n3 K1 Q b)) (fun _ bj _=>D.length-(intOf bj).toNat)
     case atStart=>exact ⟨b,0,n2,aH,rfl,rfl,aj,a9.u,bq.u,ai ((ak aP).same (fun p x O=>by
      rcases O with O|⟨_,k,am,_⟩
      ·exact .inl O
      omega))⟩
     case round=>
      clear k0 k1 bA c0 c1 c2 d0 a9 bq aO;obtain ⟨b,i,n3,Q,rfl,rfl,hi,I,al,ap⟩:=hrel
      by_cases bS:i<D.length
      ·have bR:(i:Int)<(D.length:Int):=by omega
       obtain ⟨J,au⟩:∃J,D[i]? =some J:=⟨_,aG bS⟩;have aQ:=bx au;have ae:=a7.u.cellsK (lR bp.u I.but);obtain ⟨ar,bZ,bt,ad⟩:=bi Fx 3 (fun _=>rfl) ae.hs.row i J au;simp only [aI] at bt;obtain ⟨rfl,_,rfl⟩:=bt;obtain ⟨aY,aJ⟩:=ae.hs.tups J aQ;obtain ⟨ta,tc,aS⟩:=ay aY.row;obtain ⟨tn,be⟩:∃tn,tn=J.ts.length:=⟨_,rfl⟩;rw [<-be] at aS;have k0:wr.cell? ⟨ar,i*3,none⟩=some (.string J.kd):=ad 0 _ aj rfl;have k1:wr.cell? ⟨ar,i*3+1,none⟩=some (.string J.id):=ad 1 _ aj rfl;have bA:wr.cell? ⟨ar,i*3+2,none⟩=some (.slice ta tn tc):=by rw [<-aS];exact ad 2 _ aj rfl
       have ah:=(aw wr.heap.size wr).alloc az (m1 J.kd J.id ta tn tc);have aN:=I.below ah;obtain ⟨c0,c1,c2⟩:=three aN.box;obtain ⟨ce,l1,cf⟩:=three (al.below ah);have cb:¬(ab.heap.size=wr.heap.size):=by have:=al.lt;omega
       have cd:¬(w.heap.size=wr.heap.size):=by have:=I.box.lt;omega
       have b2:=I.but.size;have b0:=al.lt;have b4:=I.box.lt;have bo:=ai au
       by_cases av:J.kd=p.1.1.1.name
       ·have bO:=QD av;have bH:=ai av;have ba:=ae.cellsK (yj ah);have bf:=(ak ap).1;have aM:=a7.u.ok p aD.u.2;have bn:S0 (wr.alloc (m1 J.kd J.id ta tn tc)) U ax (some ⟨ar,0,none⟩) ta Y V il aA D.length R tn tc mb n3 (Nw Q cs J) (fZ p.1.2.1.name p.1.2.1.body):=⟨aN.kn,ba.cr,by have:=ba.ln.ins p aD.u.2;rw [bL.u.1] at this;exact this,by have:=(aY.below ah);rw [aS] at this;exact this,aJ.pos,a6.u.bits Q bf,aJ.kd,aJ.id,aM.rel,aJ.sub,by have:=aM.len;simp [fZ];omega⟩;have bk:=ai (H5 _ U ax (some ⟨ar,0,none⟩) ta Y V il aA D.length R tn tc mb n3 (Nw Q cs J) p.1.1.1.name p.1.2.1.name p.1.2.1.body bn aM.wf aM.len aM.name (a6.u.val Q bf p aD.u.2 J aQ av) (by have:=(ak ap).2.1;omega));have bs:=ai aN;have bM:=ai (al.below ah);have bG:=ai aQ;clear ba bf aM bn aN ae aY aJ aS be ad ah I al av au aQ;go_wp2_with fail;refine bk.u.mono ?_;rintro e bE ⟨aZ,bP⟩;have L2:=ai (aZ.blk bM.u (show ¬(ab.heap.size=mb) from aj));have aX:=aZ.blk bs.u.box (show ¬(w.heap.size=mb) from aj);have aW:=bs.u.but.trans aZ;clear bk aZ
        rcases bP with ⟨O,rfl,aR⟩|⟨O,rfl,aR⟩
        ·have M2:=ai (show O8 w bE U (some ⟨ar,0,none⟩) Y V D.length R mb n3 Q from ⟨aW,aX,aR⟩);have R2:=ai (show Hid (Mu cs (O9 ls D j (i+1)) Inv Z N n3 K1 Q b) from ai ((ak ap).same (fun bB x O=>by
          rcases O with O|⟨h1,k,am,h2⟩
          ·exact .inl (.inl O)
          by_cases e:k=i
          ·subst e;rw [aD.u.1] at h1;rw [bo.u] at h2
           cases h1
           cases h2
           exact .inr (fun _=>O)
          exact .inl (.inr ⟨h1,k,aj,h2⟩))))
         clear aW aX aR O;exact Mt
        have M2:=ai (show O8 w bE U (some ⟨ar,0,none⟩) Y V D.length R mb (n3+1) (ma Q (jr p J) (ru Q cs p J)) from ⟨aW,aX,aR⟩);have st:=a6.u.step Q (ak ap).1 p aD.u.2 J bG.u bH.u O;have R2:=ai (show Hid (Mu cs (O9 ls D j (i+1)) Inv Z N (n3+1) K1 (ma Q (jr p J) (ru Q cs p J)) true) from ai ((ak ap).grow st.1 st.2));clear aW aX aR O st;go_wp2;go_roundw
        case rel=>exact ⟨true,i+1,n3+1,_,rfl,by go_num,aj,M2.u,L2.u,R2.u⟩
        case measure=>simp [intOf];omega
       have bO:=QC av;have M2:=ai aN;have L2:=ai (al.below ah);have R2:=ai (show Hid (Mu cs (O9 ls D j (i+1)) Inv Z N n3 K1 Q b) from ai ((ak ap).same (fun bB x O=>by
        rcases O with O|⟨h1,k,am,h2⟩
        ·exact .inl (.inl O)
        by_cases e:k=i
        ·subst e;rw [aD.u.1] at h1;rw [bo.u] at h2
         cases h1
         cases h2
         exact .inr (fun e=>absurd e av)
        exact .inl (.inr ⟨h1,k,aj,h2⟩))))
       clear ae aY aJ aS be ad ah I al aN av au aQ;exact Mt
      have bR:¬((i:Int)<(D.length:Int)):=aj;have bK:=ai I;clear I al;go_wp2;go_roundw
      case rel=>exact ⟨b,j+1,n3,Q,rfl,by go_num,aj,bK.u,ai ((ak ap).same (fun bB x O=>by
       obtain ⟨k,am,h1,h2⟩:=O;left
       by_cases e:k=j
       ·subst e;obtain ⟨q,bW,rfl⟩:=dn h2;exact .inr ⟨h1,q,aj,aG bW⟩
       exact .inl ⟨k,aj,h1,h2⟩))⟩
      case measure=>simp [intOf];omega
    have bT:¬((j:Int)<(ls.length:Int)):=aj;have bJ:=ai I;clear I;go_wp2
    go_roundg (2*Z aH+(if b then 1 else 0)+1)
    case measure=>
     have h1:=(ak aE).2.2.2;have h2:=ak aP
     cases b with
     |false=>simp at h1 ⊢;rw [(h2.2.2.1 rfl).1];omega
     |true=>have:=h2.2.2.2 rfl;simp at h1 ⊢;omega
    case rel=>exact ⟨b,n2,aH,rfl,bJ.u,ai ⟨(ak aP).1,(ak aP).2.1,(fun e p aL bu au=>by
     obtain ⟨i,hi,rfl⟩:=dn aL;have bv:=(ak aP).2.2.1 e;rw [bv.1];exact bv.2 _ bu ⟨i,aj,aG hi,au⟩),aj⟩⟩
def Clo(cs:List Tg)(ls:List (It×ag))(hl:List Hd)(K:Sj->Nat):Prop:=∀p∈ls,∀h∈hl,h.kd=p.1.1.1.name->qK (ru K cs p h) (K (jr p h))
structure Mv(cs:List Tg)(ls:List (It×ag))(hl:List Hd)(K0 K:Sj->Nat):Prop where
 g:TK cs ls hl K0 K
 least:∀K',(∀s,nK cs.length (K' s))->(∀s,¬Sc ls hl s->K' s=K0 s)->Clo cs ls hl K'->∀s,qK (K s) (K' s)
theorem H6{cs:List Tg}{ls:List (It×ag)}(C:cs.length<=64)(h:Ms ls hl)(A:Sj->Nat):UC cs hl ls (Mv cs ls hl A) (iR (Ba ls hl)) where
 bits:=fun K I=>(qN C h A).bits K I.g
 val:=fun K I=>(qN C h A).val K I.g
 step:=fun K I p R J O Q Z=>by
  obtain ⟨h1,h2⟩:=(qN C h A).step K I.g p R J O Q Z;refine ⟨⟨h1,fun Y U V D s=> ?_⟩,h2⟩;unfold ma
  split
  ·rename_i e;subst e;refine fun i hi=>D p R J O Q i (Bb C I.g.out U (I.least Y U V D) (fun s hs=> ?_) i hi)
   have hn:=h.str p R J O Q s hs;rw [I.g.old s hn,V s hn]
  exact I.least Y U V D s
structure Hp where
 kd:ae
 id:ae
 ts:List Tu
def ky(h:Hd):Hp:=⟨h.kd,h.id,h.ts⟩
def rX(K:Sj->Nat)(cs:List Tg)(x:TR)(h:Hp):Nat:=dH ⟨K,cs,h.kd,h.id,h.ts⟩ x.2.name x.2.body
def UD(x:TR)(h:Hp):Sj:=⟨h.kd,h.id,x.2.name⟩
def DJ(g:List TR)(hs:List Hp)(s:Sj):Prop:=∃x∈g,∃h∈hs,h.kd=x.1.name/\s=UD x h
structure UE(cs:List Tg)(hs:List Hp)(g:List TR)(K0 K:Sj->Nat):Prop where
 out:∀s,nK cs.length (K s)
 old:∀s,¬DJ g hs s->K s=K0 s
 fix:∀x∈g,∀h∈hs,h.kd=x.1.name->rX K cs x h=K (UD x h)
 least:∀K',(∀s,nK cs.length (K' s))->(∀s,¬DJ g hs s->K' s=K0 s)->(∀x∈g,∀h∈hs,h.kd=x.1.name->qK (rX K' cs x h) (K' (UD x h)))->∀s,qK (K s) (K' s)
theorem Fy{ls s}:DJ (ls.map fun p=>KP p.1) (hl.map ky) s↔Sc ls hl s:=by
 constructor
 ·rintro ⟨x,I,J,D,e1,h⟩;obtain ⟨p,A,rfl⟩:=aY.1 I;obtain ⟨y,C,rfl⟩:=aY.1 D;exact ⟨p,A,y,C,e1,h⟩
 rintro ⟨p,A,y,C,e1,h⟩;exact ⟨_,aY.2 ⟨p,A,rfl⟩,_,aY.2 ⟨y,C,rfl⟩,e1,h⟩
theorem Se{cs:List Tg}{ls:List (It×ag)}{D K:Sj->Nat}(h:Mv cs ls hl D K)(f:DH cs ls hl K):UE cs (hl.map ky) (ls.map fun p=>KP p.1) D K where
 out:=h.g.out
 old:=fun s hs=>h.g.old s (fun e=>hs (Fy.2 e))
 fix:=fun x O y Q e=>by
  obtain ⟨p,A,rfl⟩:=aY.1 O;obtain ⟨z,C,rfl⟩:=aY.1 Q;exact f p A z C e
 least:=fun I R U J=>h.least I R (fun s hs=>U s (fun e=>hs (Fy.1 e))) (fun p A z C e=>J _ (aY.2 ⟨p,A,rfl⟩) _ (aY.2 ⟨z,C,rfl⟩) e)
def Run(cs:List Tg)(hs:List Hp):List (List TR)->(Sj->Nat)->(Sj->Nat)->Prop
 | [],K,K'=>K'=K
 |g::gs,K,K'=>∃K1,UE cs hs g K K1/\Run cs hs gs K1 K'
theorem Fz{cs hs}:∀{gs gs':List (List TR)} {K A B:Sj->Nat},Run cs hs gs K A->Run cs hs gs' A B->Run cs hs (gs++gs') K B
 | [],gs',K,A,B,h,k=>by obtain rfl:=(show A=K from h);exact k
 |g::gs,gs',K,A,B,⟨K1,h1,h2⟩,k=>⟨K1,h1,Fz h2 k⟩
theorem FA{cs hs}:∀{gs:List (List TR)} {K A:Sj->Nat},Run cs hs gs K A->∀s,(∀g∈gs,¬DJ g hs s)->A s=K s
 | [],K,A,h,s,_=>by rw [show A=K from h]
 |g::gs,K,A,⟨K1,h1,h2⟩,s,hn=>by
  rw [FA h2 s (fun g' C=>hn g' (gM _ C)),h1.old s (hn g hV)]
theorem yk{cs hs}:∀{gs:List (List TR)} {K A:Sj->Nat},Run cs hs gs K A->(∀s,nK cs.length (K s))->∀s,nK cs.length (A s)
 | [],K,A,h,ho=>by rw [show A=K from h];exact ho
 |g::gs,K,A,⟨K1,h1,h2⟩,_=>yk h2 h1.out
structure H7(gs:List (List TR))(hs:List Hp):Prop where
 hds:∀h∈hs,∀h'∈hs,h.kd=h'.kd->h.id=h'.id->h=h'
 lns:∀g∈gs,∀x∈g,∀y∈g,x.1.name=y.1.name->x.2.name=y.2.name->x.2.body=y.2.body
 ap:gs.Pairwise fun g g'=>∀x∈g,∀y∈g',¬(x.1.name=y.1.name/\x.2.name=y.2.name)
 str:∀g∈gs,∀x∈g,∀h∈hs,h.kd=x.1.name->∀s,H4 h.kd h.id h.ts x.2.name x.2.body s->¬DJ g hs s
structure TM(x:TR):Prop where
 wf:A1 x.2.body
 len:(aW x.2.name 0 x.2.body).length<40000
 name:x.2.name.size<=maxLen
 rel:∀i∈fZ x.2.name x.2.body,i.rel.size<=maxLen
theorem TM.ok{p:It×ag}(h:TM (KP p.1)):Sb p:=⟨h.wf,h.len,h.name,h.rel⟩
theorem Mw{gs:List (List TR)}{ls:List (It×ag)}(A:H7 gs (hl.map ky))(C:(ls.map fun p=>KP p.1)∈gs)(I:∀x∈hl,∀y∈hl,x.kd=y.kd->x.id=y.id->x=y):Ms ls hl where
 hds:=I
 lns:=fun p h q J e1 D=>A.lns _ C _ (aY.2 ⟨p,h,rfl⟩) _ (aY.2 ⟨q,J,rfl⟩) e1 D
 str:=fun p h y Q e s hs O=>A.str _ C _ (aY.2 ⟨p,h,rfl⟩) _ (aY.2 ⟨y,Q,rfl⟩) e s hs (Fy.2 O)
theorem DK{cs:List Tg}{ls:List (It×ag)}{K:Sj->Nat}(ho:∀s,nK cs.length (K s))(A:∀s,Sc ls hl s->K s=0):Mv cs ls hl K K where
 g:=⟨ho,fun _ _=>rfl,fun p I C D e i hi=>by rw [A _ ⟨p,I,C,D,e,rfl⟩] at hi;simp at hi⟩
 least:=fun O _ J _ s i hi=>by
  by_cases h:Sc ls hl s
  ·rw [A s h] at hi;simp at hi
  rw [J s h];exact hi
variable {hs:List Hp}
theorem Mx{cs pre g K}(O:Run cs hs pre (fun _=>0) K)(I:∀g'∈pre,∀x∈g',∀y∈g,¬(x.1.name=y.1.name/\x.2.name=y.2.name))(s)(Q:DJ g hs s):K s=0:=by
 obtain ⟨y,U,C,V,e1,rfl⟩:=Q;refine FA O _ (fun g' J ⟨x,R,D,Y,A,h⟩=>I g' J x R y U ⟨?_,?_⟩)
 ·have:D.kd=C.kd:=(congrArg Sj.kind h).symm;rw [<-A,<-e1,this]
 exact (congrArg Sj.rel h).symm
def My (h:aF:=by
 obtain ⟨m,a,b,h1,h2⟩:=hx h;exact ⟨m,a,b,up _ (.inl h1),h2⟩):aF:=h
theorem nD{α:Type}:∀(l m:List α),l.Nodup->(∀x∈l,x∈m)->l.length<=m.length
 | [],m,_,_=>an
 |x::l,m,h,hs=>by
  rw [List.nodup_cons] at h;obtain ⟨a,b,rfl⟩:=sV (hs x hV);have:=nD l (a++b) h.2 (fun y C=>by
   have:=hs y (gM _ C);rw [aT,bA] at this;rw [aT]
   rcases this with h1|rfl|h1
   ·exact .inl h1
   ·exact absurd C h.1
   exact .inr h1)
  simp only [bo,List.length_cons] at this ⊢;omega
theorem h7(nd):∀(k:Nat)(q f:List Sp),f.Nodup->(dA nd k q f).Nodup
 |0,_,f,h=>h
 |k+1,[],f,h=>h
 |k+1,x::q,f,h=>by
  rw [dA]
  split
  ·exact h7 nd k q f h
  rename_i D;refine h7 nd k _ _ ?_;rw [xX];refine ⟨h,an,fun a ha b C e=> ?_⟩;rw [aR] at C;subst C;subst e;exact D ((Dp f a).2 ha)
def Bc(ts:List Ty)(s:Sp):Nat:=(cF ts [s]).length
theorem yl{nd:α->List α}{S T:List α}(h:∀x∈S,yc nd T x){y:α}(k:yc nd S y):yc nd T y:=by
 induction k using yc.ind with
 |base hx=>exact h _ hx
 |step _ hy ih=>exact .step ih hy
section
variable {ts:List Ty}{x y:Sp}
theorem Sf(D:yc (aQ ts) [x] y):Bc ts y<=Bc ts x:=
 nD _ _ (h7 _ _ _ _ an) (fun z C=>by
  rw [e8] at C ⊢;exact yl (fun a ha=>by rw [aR] at ha;subst ha;exact D) C)
theorem Sg(D:yc (aQ ts) [x] y)(I:¬yc (aQ ts) [y] x):Bc ts y<Bc ts x:=by
 have:=nD (x::cF ts [y]) (cF ts [x]) (by
  rw [List.nodup_cons];exact ⟨fun e=>I ((e8 _ _ _).1 e),h7 _ _ _ _ an⟩) (fun z C=>by
  rw [e8]
  rcases bA.1 C with rfl|C
  ·exact .bz an
  rw [e8] at C;exact yl (fun a ha=>by rw [aR] at ha;subst ha;exact D) C)
 exact this
theorem FB:0<Bc ts x:=by
 have:x∈cF ts [x]:=(e8 _ _ _).2 (.bz an);exact List.length_pos_of_mem this
end
def vj:Ex->List Ex
 |⟨n,some x,some y⟩=>if n.kind=3\/n.kind=4 then vj x++vj y else vj x++aH y
 |_=>[]
theorem ym:∀(e p:Ex),p∈vj e->∃n x y,(⟨n,some x,some y⟩:Ex)∈aA e/\¬(n.kind=3\/n.kind=4)/\p∈aH y
 |⟨n,some x,some y⟩,p,h=>by
  have hx:=ym x p;have D:=ym y p;unfold vj at h;have up:∀q,q∈aA x\/q∈aA y->q∈aA ⟨n,some x,some y⟩:=fun q A=>by
   simp only [aA,aT,aR]
   rcases A with A|A
   ·exact .inl (.inl A)
   exact .inr A
  split at h
  ·rcases aT.1 h with h|h
   ·exact My
   obtain ⟨m,a,b,h1,h2⟩:=D h;exact ⟨m,a,b,up _ (.inr h1),h2⟩
  rename_i C
  rcases aT.1 h with h|h
  ·exact My
  exact ⟨n,x,y,by simp [aA],C,h⟩
 |⟨n,none,r⟩,p,h=>by simp [vj] at h
 |⟨n,some x,none⟩,p,h=>by simp [vj] at h
theorem qO:∀(e q p:Ex),q∈aA e->p∈aH q->p∈aH e
 |⟨n,some x,some y⟩,q,p,h,hp=>by
  simp only [aA,aT,aR] at h;simp only [aH,aT]
  rcases h with (h|rfl)|h
  ·exact .inl (qO x q p h hp)
  ·simpa [aH] using hp
  exact .inr (qO y q p h hp)
 |⟨n,none,r⟩,q,p,h,hp=>by
  simp only [aA,aR] at h;subst h;exact hp
 |⟨n,some x,none⟩,q,p,h,hp=>by simp [aA] at h
structure Si(ts:List Ty):Prop where
 fnd:∀t∈ts,bL ts t.name=some t
 fnr:∀t∈ts,∀r∈t.rels,bP t r.name=some r
 loops:∀t∈ts,∀r∈t.rels,i6 ts t r=none
 less:∀t∈ts,∀r∈t.rels,∀p∈aA r.body,p.l.isSome=true->¬(p.nd.kind=3\/p.nd.kind=4)->gA p.nd.kind=246
section
variable {ts:List Ty}{t:Ty}{r:Rl}{e:Ex}{d:Sp}
theorem Si.need(h:Si ts)(A:t∈ts)(C:r∈t.rels):aQ ts (t.name,r.name)=cY ts t r r.body:=by
 unfold aQ;simp only [h.fnd t A,h.fnr t A r C]
theorem Si.rkp(h:Si ts)(I:t∈ts)(D:r∈t.rels)(C:e∈aH r.body)(A:d∈dq ts t r e):Bc ts d<=Bc ts (t.name,r.name):=
 Sf (.step (.bz (aR.2 rfl)) (by rw [h.need I D,eu];exact ⟨e,C,A⟩))
theorem Si.rkn(A:Si ts)(I:t∈ts)(D:r∈t.rels)(Q:e∈vj r.body)(J:d∈dq ts t r e):Bc ts d<Bc ts (t.name,r.name):=by
 obtain ⟨n,x,y,C,R,hl⟩:=ym _ _ Q;have U:e∈aH r.body:=qO _ _ _ C (by simp only [aH,aT];exact .inr hl);have h:kP ts t r ⟨n,some x,some y⟩=none:=(jI.1 (A.loops t I r D)) _ C;have O:=A.less t I r D _ C rfl R;unfold kP at h;simp only at h O;rw [if_pos O] at h;have hn:¬hN ts (cY ts t r y) (t.name,r.name)=true:=fun e=>by
  rw [if_pos e] at h
  cases h
 rw [uj] at hn;refine Sg (.step (.bz (aR.2 rfl)) (by rw [A.need I D,eu];exact ⟨e,U,J⟩)) (fun k=>hn ?_);exact yl (fun a ha=>by rw [aR] at ha;subst ha;exact .bz ((eu _ _ _ _ _).2 ⟨e,hl,J⟩)) k
end
def pG(h:Hd)(t:Tu):Bool:=AW ⟨h.kd,h.id⟩ ⟨t.kind,t.id⟩
theorem Sk(h va vn vc t q w)(D:aB w q #[.string t.kind,.string t.id,.string t.rel,.string t.sub,.string t.who,.string t.of] 123):
  Calls prog 148 #[.agg #[.string h.kd,.string h.id,.slice va vn vc],.pointer (some ⟨q,0,none⟩)] w fun e w'=>e=.returned (.bool (pG h t))/\Below w.heap.size w w':=by
 have hl:=D.lt;have C:=(aw w.heap.size w).alloc az (m1 h.kd h.id va vn vc);have I:=ai C;have Q:¬(q=w.heap.size):=aj;have R:¬(w.heap.size=q):=aj;obtain ⟨U,V,Y,Z,ab,ac⟩:=(D.below C).six;have O:=Fq;have J:=fun w'=>Fp ⟨h.kd,h.id⟩ ⟨t.kind,t.id⟩ w'
 dsimp only at J;clear D C;go_enter func148,ntmps148;go_wp2;go_ret;exact ⟨rfl,I.u⟩
def H8(l:List Hd)(t:Tu):Int:=match l.findIdx? (fun h=>pG h t) with
 |some k=>k
 |none=> -1
theorem Pa{l t}(hk:k<l.length)(hn:∀j,(I:j<l.length)->j<k->pG l[j] t=false)(he:pG l[k] t=true):H8 l t=k:=by
 unfold H8;have:l.findIdx? (fun I=>pG I t)=some k:=by
  exact Cs
 rw [this]
theorem H9{l t}(hn:∀j,(I:j<l.length)->pG l[j] t=false):H8 l t= -1:=by
 unfold H8;have:l.findIdx? (fun I=>pG I t)=none:=by
  exact Cr
 rw [this]
theorem DL(base v l t q w)(ap:l.length<=1000)(O:w.ownsRow base 282 3 v l.length (l.flatMap Fx))(hs:∀x∈l,∃a n c,x.tv=.slice a n c)(Y:aB w q #[.string t.kind,.string t.id,.string t.rel,.string t.sub,.string t.who,.string t.of] 123):
  Calls prog 147 #[v,.func (.func 148) #[] #[.pointer (some ⟨q,0,none⟩)]] w fun e w'=>e=.returned (.int .i64 (H8 l t))/\Below w.heap.size w w':=by
 obtain ⟨sa,sc,rfl⟩:=ay O;have H:=ai O;have af:=ai Y;have ae:=ai hs;clear O Y hs;go_enter func147,ntmps147;go_wp2
 go_loopw [5,8] (fun u i wr=>∃k:Nat,k<=l.length/\i=.int .i64 k/\Below w.heap.size w wr/\Hid (∀j,(O:j<l.length)->j<k->pG l[j] t=false)) (fun _ i _=>l.length-(intOf i).toNat)
 case atStart=>exact ⟨0,aj,rfl,aw _ _,ai (fun j e O=>aj)⟩
 case round=>
  obtain ⟨k,an,rfl,R,U⟩:=hrel;have HB:=ai R
  by_cases V:k<l.length
  ·obtain ⟨g,c,e1,hc⟩:=bi Fx 3 (fun _=>rfl) (aE H.u R) k l[k] (aG V);simp only [aI] at e1;obtain ⟨rfl,_,rfl⟩:=e1;obtain ⟨Z,ac,ab,hv⟩:=ae.u l[k] (bu V);have ag:=ai (af.u.below R);have GF:=ai (fun (he:pG l[k] t=true)=>Pa V (ak U) he);have Tt:=ai (fun (he:pG l[k] t=false)=>(show ∀j,(O:j<l.length)->j<k+1->pG l[j] t=false from fun j O am=>by
     by_cases e:j=k
     ·subst e;exact he
     exact ak U j O aj))
   have C:=ai (Sk l[k] Z ac ab t q wr ag.u);generalize l[k]=y at*;have k0:wr.cell? ⟨g,k*3,none⟩=some (.string y.kd):=hc 0 _ aj rfl;have k1:wr.cell? ⟨g,k*3+1,none⟩=some (.string y.id):=hc 1 _ aj rfl;have ar:wr.cell? ⟨g,k*3+2,none⟩=some (.slice Z ac ab):=by rw [<-hv];exact hc 2 _ aj rfl
   have al:(k:Int)<(l.length:Int):=aj;clear R hc hv
   cases he:pG y t
   ·exact Kr
   rw [he] at C;have Q:=ai (GF.u he);clear he GF Tt;go_wp2_with fail;refine (ak C).mono ?_;rintro e au ⟨rfl,hb2⟩;have ad:=ai (HB.u.trans (hb2.mono HB.u.size));clear hb2;go_wp2;go_ret;exact ⟨by first|(rw [Q.u];done)|simp [Q.u],ad.u⟩
  have Q:=ai (H9 (t:=t) (fun j ah=>ak U j ah aj));have al:¬((k:Int)<(l.length:Int)):=aj;clear R;go_wp2;go_ret;exact ⟨by first|(rw [Q.u];done)|simp [Q.u],HB.u⟩
def zc12q (A:aF:=by
 first|exact hfin.2|(rw [<-OB.u];exact hfin.2)):aF:=A
def Mz (C:aF:=by
 have hfin:=hold_close (by first|exact OB.u|rfl) Ug.u QH.u (ak HP) HYN.u G5.u O5.u A5.u;exact ⟨k+1,_,_,rfl,by go_num,aj,hfin.1,zc12q,ai (Ia UA.u HST.u (ak HP) Pb.u rfl)⟩):aF:=C
def m4(h:Hp)(t:Tu):Bool:=AW ⟨h.kd,h.id⟩ ⟨t.kind,t.id⟩
def yo(i:Nat)(t:Tu)(l:List Hp):List Hp:=match l[i]? with
 |some h=>l.set i ⟨h.kd,h.id,h.ts++[t]⟩
 |none=>l
def uB(l:List Hp)(t:Tu):List Hp:=match l.findIdx? (fun h=>m4 h t) with
 |some i=>yo i t l
 |none=>yo l.length t (l++[⟨t.kind,t.id,[]⟩])
def eB(gs:List Tu):List Hp:=gs.foldl uB []
theorem uC(gs t):eB (gs++[t])=uB (eB gs) t:=by simp [eB]
structure FC(base:Nat)(w:af)(hv:ag)(hl:List Hd):Prop where
 row:w.ownsRow base 282 3 hv hl.length (hl.flatMap Fx)
 tup:∀h∈hl,w.ownsRow base 123 6 h.tv h.ts.length (h.ts.flatMap jp)
 ap:hl.Pairwise (fun p q=>∀k,p.tv.ownBlock=some k->q.tv.ownBlock≠some k)
section
variable {base g cap i:Nat}{w w' W w5:af}{hv:ag}{hl:List Hd}{t:Tu}
theorem FC.below(h:FC base w hv hl)(k:Below w.heap.size w w'):FC base w' hv hl:=⟨aE h.row k,fun x A=>aE (h.tup x A) k,h.ap⟩
theorem FC.push{kd}(h:FC base w hv hl)(O:w.grownBy w' hv.ownBlock)(Q:w'.ownsRow base 282 3 (.slice (some ⟨g,0,none⟩) (hl.length+1) cap) (hl.length+1) (hl.flatMap Fx++[.string kd,.string id,.slice none 0 0])):FC base w' (.slice (some ⟨g,0,none⟩) (hl.length+1) cap) (hl++[⟨kd,id,[],.slice none 0 0⟩]):=by
 refine ⟨by simpa [Fx] using Q,fun p I=> ?_,?_⟩
 ·rcases aT.1 I with I|I
  ·exact ax (h.tup p I) (fun g cs f _ J=>O.block g (lt_of_some J) (eo h.row J ar))
  rw [aR] at I;subst I;exact bN
 exact KH
theorem MA(x u ts):∀(l:List Hd)(k:Nat),l[k]? =some x->(l.flatMap Fx).set (k*3+2) u=(l.set k ⟨x.kd,x.id,ts,u⟩).flatMap Fx
 | [],k,h=>by simp at h
 |y::l,0,h=>by
  simp only [List.getElem?_cons_zero,aK] at h;subst h
  rfl
 |y::l,k+1,h=>by
  have A:=MA x u ts l k mw;rw [cq,sM _ _ (by show 3<=_;omega),show (k+1)*3+2-(Fx y).length=k*3+2 by show (k+1)*3+2-3=_;omega,A,List.set_cons_succ,cq]
theorem FC.put{p}(J:FC base w (.slice (some ⟨g0,0,none⟩) hl.length c0) hl)(hi:hl[i]? =some p)(Q:w.grownBy w' p.tv.ownBlock)(hown:w'.ownsRow base 123 6 (.slice (some ⟨g,0,none⟩) (p.ts.length+1) cap) (p.ts.length+1) (p.ts.flatMap jp++jp t))(U:p.tv.ownBlock=some g\/w.heap.size<=g):
  FC base (w'.setCell ⟨g0,i*3+2,none⟩ (.slice (some ⟨g,0,none⟩) (p.ts.length+1) cap)) (.slice (some ⟨g0,0,none⟩) hl.length c0) (hl.set i ⟨p.kd,p.id,p.ts++[t],.slice (some ⟨g,0,none⟩) (p.ts.length+1) cap⟩):=by
 have hil:i<hl.length:=(be.1 hi).1;have Y:p∈hl:=bx hi;have hpe:hl[i]=p:=by rw [aG hil] at hi;exact gu hi
 have R:w'.ownsRow base 282 3 (.slice (some ⟨g0,0,none⟩) hl.length c0) hl.length (hl.flatMap Fx):=ax J.row (fun g cs f _ O=>Q.block g (lt_of_some O) (eo (J.tup p Y) O ar));obtain ⟨ab,V,_⟩:=eD R;have hap:=ja.1 J.ap;refine ⟨?_,fun q Z=> ?_,?_⟩
 ·have:=rP R (i*3+2) (.slice (some ⟨g,0,none⟩) (p.ts.length+1) cap);rw [gK,<-MA p _ _ hl i hi];exact this
 ·obtain ⟨j,hj,rfl⟩:=dn Z;rw [gK] at hj;refine bJ ?_ V ar _ _
  by_cases e:i=j
  ·exact KG
  rw [jb e];refine cA (J.tup _ (bu hj)) (fun k cs f hk O=>Q.block k (lt_of_some O) (fun ek=> ?_));exact KJ
 ·refine ja.2 (fun a b ha hb' hab k hk e=> ?_);rw [gK] at ha hb';have old:∀j (hj:j<hl.length),j≠i->hl[j].tv.ownBlock=some k->g=k->False:=fun j hj hji hk e=>by
   subst e
   rcases U with e|e
   ·exact KI
   have:=((J.tup _ (bu hj)).lt g hk).2;omega
  exact Ql
theorem hold_close{C:Nat}{kd:ae}{ts:List Tu}(Z:n1=hl.length)(D:Below W0.heap.size W0 W)(I:FC W0.heap.size W (.slice (some ⟨g0,0,none⟩) n1 c0) hl)(O:hl[i]? =some ⟨kd,id,ts,.slice pa C pc⟩)(ac:C=ts.length)
  (Q:(W.alloc o).drew.grownBy w5 (Value.slice pa C pc).ownBlock) (ab:w5.ownsRow W0.heap.size 123 6 (.slice (some ⟨g,0,none⟩) (C+1) cap) (C+1) (ts.flatMap jp++jp t)) (U:(Value.slice pa C pc).ownBlock=some g\/g=W.heap.size+1):
  Below W0.heap.size W0 (w5.setCell ⟨g0,i*3+2,none⟩ (.slice (some ⟨g,0,none⟩) (C+1) cap))/\FC W0.heap.size (w5.setCell ⟨g0,i*3+2,none⟩ (.slice (some ⟨g,0,none⟩) (C+1) cap)) (.slice (some ⟨g0,0,none⟩) n1 c0) (hl.set i ⟨kd,id,ts++[t],.slice (some ⟨g,0,none⟩) (C+1) cap⟩):=by
 subst ac;subst Z;have J:Below W.heap.size W ((W.alloc o).drew):=((aw _ W).alloc az o).drew;have R:=I.below J;obtain ⟨ad,af,V⟩:=eD I.row;refine ⟨((D.trans (J.mono D.size)).grown Q (aL D.size J.size) (fun k Y=>((I.tup _ (bx O)).lt k Y).1)).setCell V _,?_⟩;exact R.put O Q ab (U.elim .inl (fun e=> .inr aM))
theorem Ia{p p'}(O:gs.take (k+1)=gs.take k++[t])(J:yo i t (hl.map ky)=eB (gs.take k++[t])/\hl.length<=k+1)(D:hl[i]? =some p)(C:∀h∈hl,h.ts.length<=k)(I:ky p'=⟨p.kd,p.id,p.ts++[t]⟩):
  (hl.set i p').map ky=eB (gs.take (k+1))/\(hl.set i p').length<=k+1/\∀h∈hl.set i p',h.ts.length<=k+1:=by
 refine ⟨?_,by rw [gK];exact J.2,fun h A=> ?_⟩
 ·rw [O,<-J.1,oF,I];unfold yo;rw [dU,D]
  rfl
 ·rcases qq A with A|rfl
  ·have:=C h A;omega
  have h1:h.ts=p.ts++[t]:=congrArg Hp.ts I;have h2:=C p (bx D);rw [h1,bo];simp;omega
end
theorem Be(l:List Hd)(t:Tu):(l.map ky).findIdx? (fun h=>m4 h t)=l.findIdx? (fun h=>pG h t):=by
 rw [List.findIdx?_map]
 rfl
theorem Tryz.infoHo:(Tryz.prog.info? 282).map (fun i=>(i.zero,i.size,i.bytes))=some (some (.agg #[.string ⟨#[]⟩,.string ⟨#[]⟩,.slice none 0 0]),3,56):=by kernel_rfl
def Sl(gs:List Tu)(w:af)(e:Ending)(w':af):Prop:=∃hv hl,e=.returned hv/\Below w.heap.size w w'/\FC w.heap.size w' hv hl/\hl.map ky=eB gs/\hl.length<=gs.length/\∀h∈hl,h.ts.length<=gs.length
theorem Bf(gv gs w)(bc:w.ownsRow 0 123 6 gv gs.length (gs.flatMap jp))(cr:gs.length<=1000):
  Calls prog 98 #[gv] w (Sl gs w):=by
 obtain ⟨ga,gc,rfl⟩:=ay bc;obtain ⟨i0,bn,bs,bt,bv⟩:=bH Tryz.infoTu;obtain ⟨b2,bL,bW,bY,bZ⟩:=bH Tryz.infoHo;have bf:=ai bn;have bh:=ai bs;have bk:=ai bt;have bl:=ai bv;have bz:=ai bc;clear bc bn bs bt bv;go_enter func98,ntmps98;go_wp2_with fail
 go_loopw [3,9] (fun ci be wr=>∃(k:Nat)(hv:ag)(hl:List Hd),ci=hv/\be=.int .i64 k/\k<=gs.length/\Below w.heap.size w wr/\FC w.heap.size wr hv hl/\Hid (hl.map ky=eB (gs.take k)/\hl.length<=k/\∀D∈hl,D.ts.length<=k)) (fun _ be _=>gs.length-(intOf be).toNat)
 case atStart=>exact ⟨0,_,[],rfl,rfl,aj,aw _ _,⟨bN,(fun _ D=>by cases D),List.Pairwise.nil⟩,ai ⟨rfl,an,(fun _ D=>by cases D)⟩⟩
 case round=>
  obtain ⟨k,hv,hl,rfl,rfl,cq,ap,aC,R⟩:=hrel;obtain ⟨ha,hc,rfl⟩:=ay aC.row
  by_cases bp:k<gs.length
  ·have bP:(k:Int)<(gs.length:Int):=by omega
   have UA:=ai (show gs.take (k+1)=gs.take k++[gs[k]] from dS bp);obtain ⟨g,c,e1,I⟩:=bi jp 6 (fun _=>rfl) (aE bz.u ap) k gs[k] (aG bp);simp only [aI] at e1;obtain ⟨rfl,_,rfl⟩:=e1;generalize gs[k]=t at*;have k0:wr.cell? ⟨g,k*6,none⟩=some (.string t.kind):=I 0 _ aj rfl;have k1:wr.cell? ⟨g,k*6+1,none⟩=some (.string t.id):=I 1 _ aj rfl;have b3:wr.cell? ⟨g,k*6+2,none⟩=some (.string t.rel):=I 2 _ aj rfl;have k3:wr.cell? ⟨g,k*6+3,none⟩=some (.string t.sub):=I 3 _ aj rfl;have b4:wr.cell? ⟨g,k*6+4,none⟩=some (.string t.who):=I 4 _ aj rfl;have b5:wr.cell? ⟨g,k*6+5,none⟩=some (.string t.of):=I 5 _ aj rfl;have bg:=ai (show ∀u∈jp t,u.oneCell'=true from by
    intro u br;simp only [jp,bA,fG,fH] at br
    rcases br with rfl|rfl|rfl|rfl|rfl|rfl<;>rfl)
   have ba:=(aw wr.heap.size wr).alloc az (bV t.kind t.id t.rel t.sub t.who t.of);have bG:=ap.size;have aX:=ai (ap.trans (ba.mono bG));have aO:=ai (aC.below ba);have a9:=ai (show aB (wr.alloc (bV t.kind t.id t.rel t.sub t.who t.of)) wr.heap.size #[.string t.kind,.string t.id,.string t.rel,.string t.sub,.string t.who,.string t.of] 123 from aB.new wr _ _);have C:=ai (DL w.heap.size _ hl t wr.heap.size _ (by have:=(ak R).2.1;omega) aO.u.row (fun x bU=>by obtain ⟨a,c,e⟩:=ay (aO.u.tup x bU);exact ⟨a,_,c,e⟩) a9.u);have cp:=(ak R).2.1;clear ap aC I ba;go_wp2_with fail;refine C.u.mono ?_;rintro e av ⟨rfl,aU⟩;have ab:=ai (aX.u.trans (aU.mono aX.u.size));have ac:=ai (aO.u.below aU);have aA:=ai (a9.u.below aU);clear aU C aX aO a9 k0 k1 b3 k3 b4 b5;unfold H8
   cases aH:hl.findIdx? (fun D=>pG D t) with
   |some i=>
    have hi:i<hl.length:=(kg.1 aH).1;have HST:=ai (show yo i t (hl.map ky)=eB (gs.take k++[t])/\hl.length<=k+1 from ⟨by rw [uC,<-(ak R).1];unfold uB;rw [Be,aH],aj⟩);have Pb:=ai (ak R).2.2;have ct:¬((i:Int)<0):=aj;clear R aH;dsimp only;go_wp2_with fail;obtain ⟨Z,bK⟩:∃l,l=hl:=⟨_,rfl⟩;obtain ⟨W,bb⟩:∃W,W=av:=⟨_,rfl⟩;have QH:=ac;have Ug:=ab;have TB:=aA;clear ac ab aA;subst bb;subst bK;obtain ⟨g0,c0,e0,I⟩:=bi Fx 3 (fun _=>rfl) QH.u.row (i) (Z[i]) (aG hi);simp only [aI] at e0
    first
     |obtain ⟨rfl,aJ,rfl⟩:=e0
     |(simp only [aK,cw,gL,cz] at e0;obtain ⟨rfl,aJ,rfl⟩:=e0)
    have Y:W.cell? ⟨g0,i*3+2,none⟩=some Z[i].tv:=I 2 _ aj rfl;have Q:=QH.u.tup _ (bu hi);have HP:=ai (aG hi);have af:=Pb.u _ (bu hi);generalize Z[i]=y at*;obtain ⟨ck,cj,aN,cl⟩:=y;simp only at Y Q af;obtain ⟨pa,pc,rfl⟩:=ay Q;obtain ⟨J,ah⟩:∃n,n=aN.length:=⟨_,rfl⟩;rw [<-ah] at Y Q af HP;have HYN:=ai ah;have ax:=ai Q;obtain ⟨bB,U,bI⟩:=eD QH.u.row;have b0:=U.fz;have bQ:¬(g0=W.heap.size):=by have:=U.lt;omega
    have bR:¬(wr.heap.size=W.heap.size):=by have:=TB.u.lt;omega
    have c7:(W.alloc (bV t.kind t.id t.rel t.sub t.who t.of)).cell? ⟨g0,i*3+2,none⟩=some (.slice pa J pc):=am Y ((aw _ W).alloc az _);obtain ⟨t0,t1,t2,t3,t4,t5⟩:=TB.u.six;obtain ⟨cb,cd,ce,cf,cg,ch⟩:=(TB.u.below ((aw _ W).alloc az (bV t.kind t.id t.rel t.sub t.who t.of))).six;have bM:(0:Int)<=((i:Nat):Int):=aj;have bO:((i:Nat):Int)<((Z.length:Nat):Int):=aj;have aZ:=ai U;have b7:=bj W _ Y;have b8:=bj W _ t0;have aY:=ai (show J+1<=maxLen from by unfold maxLen;omega);have a6:=ai (show (J+1)*96<=140737488355328 from aj);have bF:=Ug.u.size;have a8:=ai (show w.heap.size<=(W.alloc (bV t.kind t.id t.rel t.sub t.who t.of)).drew.heap.size from aM);have a7:=ai (show (W.alloc (bV t.kind t.id t.rel t.sub t.who t.of)).drew.heap.size=W.heap.size+1 from an);have OB:=ai aJ;clear I Q U ah af
    go_region_law (refine iZ _ rfl (.tmp 32) (.tmp 34) 115 rfl w.heap.size 123 i0 _ 6 96 underlying115 bf.u bh.u bk.u bl.u rfl ar (.slice pa J pc) J (aN.flatMap jp) eW (bX (ax.u.alloc _)) ⟨W.heap.size,0,none⟩ 1 1 (jp t) eW rfl (bE (B:=W.heap.size) (cs:=#[.string t.kind,.string t.id,.string t.rel,.string t.sub,.string t.who,.string t.of]) (t:=123) (fr:=(0,0)) (aB.new W _ _).drew) bg.u ar aY.u a6.u a8.u (W.heap.size+1) a7.u ?_;intro g5 aV w5 aL V aD bJ;have ae:=bX (ax.u.alloc (bV t.kind t.id t.rel t.sub t.who t.of));have O:=(aZ.u.alloc (bV t.kind t.id t.rel t.sub t.who t.of)).drew;have ad:aB w5 g0 _ 282:=(V.block g0 O.lt (own_ne ae O ar)).trans O;have b9:w5.cell? ⟨g0,i*3+2,none⟩=some (.slice pa J pc):=V.cell (w:=(W.alloc (bV t.kind t.id t.rel t.sub t.who t.of)).drew) c7 (own_ne ae O ar);have zq:=ad.fz;have G5:=ai V;have O5:=ai aL;have A5:=ai aD;have b6:=ad.lt;clear ae O ad V aL aD)
    all_goals
     go_wp2;go_roundw
     case rel=>
      exact Mz
     case measure=>simp [intOf];omega
   |none=>
    have HST:=ai (show yo hl.length t ((hl++[(⟨t.kind,t.id,[],.slice none 0 0⟩:Hd)]).map ky)=eB (gs.take k++[t])/\(hl++[(⟨t.kind,t.id,[],.slice none 0 0⟩:Hd)]).length<=k+1 from ⟨by rw [uC,<-(ak R).1];unfold uB;rw [Be,aH];simp [ky],aM⟩);have Pb:=ai (show ∀D∈hl++[(⟨t.kind,t.id,[],.slice none 0 0⟩:Hd)],D.ts.length<=k from fun D au=>by
     rcases aT.1 au with au|au
     ·exact (ak R).2.2 D au
     rw [aR] at au;subst au;simp)
    obtain ⟨t0,t1,t2,t3,t4,t5⟩:=aA.u.six;have bT:=ab.u.size;clear R aH;dsimp only;go_wp2_with (at_builtin;go_must (refine bD _ rfl _ _ 185 rfl w.heap.size 282 b2 _ 3 56 underlying185 bL bW bY bZ rfl ar (.slice ha hl.length hc) hl.length (hl.flatMap Fx) rfl ?hown ⟨av.heap.size,0,none⟩ 1 1 [.string t.kind,.string t.id,.slice none 0 0] rfl rfl ?hnews ?hone ar ?h63 ?hbytes ?hbase (av.heap.size+1) ?hH ?hrest))
    case hown=>exact ac.u.row.alloc _
    case hnews=>exact bE (B:=av.heap.size) (cs:=#[.string t.kind,.string t.id,.slice none 0 0]) (t:=282) (fr:=(0,0)) (aB.new _ _ _)
    case hone=>
     exact pX
    case h63=>unfold maxLen;omega
    case hbytes=>omega
    case hbase=>simp;omega
    case hH=>simp
    case hrest=>
     intro al cm bw bq aW bC co;have aS:=(aw av.heap.size av).alloc az (.cells #[.string t.kind,.string t.id,.slice none 0 0] 282);have aP:=ac.u.below aS;have aQ:=aA.u.below aS;have QH:=ai (aP.push aW bq);have Ug:=ai (dc (ab.u.trans (aS.mono bT)) aW aM (fun q bS=>(aP.row.lt q bS).1));have TB:=ai (show aB bw wr.heap.size _ 123 from (aW.block _ aQ.lt (own_ne aP.row aQ ar)).trans aQ);have hi:hl.length<(hl++[(⟨t.kind,t.id,[],.slice none 0 0⟩:Hd)]).length:=an;clear aS aP aQ bq aW bC ac ab aA t0 t1 t2 t3 t4 t5;go_wp2_with fail;obtain ⟨W,bb⟩:∃W,W=bw:=⟨_,rfl⟩;subst bb;generalize hl++[(⟨t.kind,t.id,[],.slice none 0 0⟩:Hd)]=Z at*;obtain ⟨g0,c0,e0,I⟩:=bi Fx 3 (fun _=>rfl) QH.u.row (hl.length) (Z[hl.length]) (aG hi);simp only [aI] at e0
     first
      |obtain ⟨rfl,aJ,rfl⟩:=e0
      |(simp only [aK,cw,gL,cz] at e0;obtain ⟨rfl,aJ,rfl⟩:=e0)
     have Y:W.cell? ⟨al,hl.length*3+2,none⟩=some Z[hl.length].tv:=I 2 _ aj rfl;have Q:=QH.u.tup _ (bu hi);have HP:=ai (aG hi);have af:=Pb.u _ (bu hi);generalize Z[hl.length]=y at*;obtain ⟨ck,cj,aN,cl⟩:=y;simp only at Y Q af;obtain ⟨pa,pc,rfl⟩:=ay Q;obtain ⟨J,ah⟩:∃n,n=aN.length:=⟨_,rfl⟩;rw [<-ah] at Y Q af HP;have HYN:=ai ah;have ax:=ai Q;obtain ⟨bB,U,bI⟩:=eD QH.u.row;have b0:=U.fz;have bQ:¬(al=W.heap.size):=by have:=U.lt;omega
     have bR:¬(wr.heap.size=W.heap.size):=by have:=TB.u.lt;omega
     have c7:(W.alloc (bV t.kind t.id t.rel t.sub t.who t.of)).cell? ⟨al,hl.length*3+2,none⟩=some (.slice pa J pc):=am Y ((aw _ W).alloc az _);obtain ⟨t0,t1,t2,t3,t4,t5⟩:=TB.u.six;obtain ⟨cb,cd,ce,cf,cg,ch⟩:=(TB.u.below ((aw _ W).alloc az (bV t.kind t.id t.rel t.sub t.who t.of))).six;have bM:(0:Int)<=((hl.length:Nat):Int):=aj;have bO:((hl.length:Nat):Int)<((hl.length+1:Nat):Int):=aj;have aZ:=ai U;have b7:=bj W _ Y;have b8:=bj W _ t0;have aY:=ai (show J+1<=maxLen from by unfold maxLen;omega);have a6:=ai (show (J+1)*96<=140737488355328 from aj);have bF:=Ug.u.size;have a8:=ai (show w.heap.size<=(W.alloc (bV t.kind t.id t.rel t.sub t.who t.of)).drew.heap.size from aM);have a7:=ai (show (W.alloc (bV t.kind t.id t.rel t.sub t.who t.of)).drew.heap.size=W.heap.size+1 from an);have OB:=ai aJ;clear I Q U ah af
     go_region_law (refine iZ _ rfl (.tmp 32) (.tmp 34) 115 rfl w.heap.size 123 i0 _ 6 96 underlying115 bf.u bh.u bk.u bl.u rfl ar (.slice pa J pc) J (aN.flatMap jp) eW (bX (ax.u.alloc _)) ⟨W.heap.size,0,none⟩ 1 1 (jp t) eW rfl (bE (B:=W.heap.size) (cs:=#[.string t.kind,.string t.id,.string t.rel,.string t.sub,.string t.who,.string t.of]) (t:=123) (fr:=(0,0)) (aB.new W _ _).drew) bg.u ar aY.u a6.u a8.u (W.heap.size+1) a7.u ?_;intro g5 aV w5 aL V aD bJ;have ae:=bX (ax.u.alloc (bV t.kind t.id t.rel t.sub t.who t.of));have O:=(aZ.u.alloc (bV t.kind t.id t.rel t.sub t.who t.of)).drew;have ad:aB w5 al _ 282:=(V.block al O.lt (own_ne ae O ar)).trans O;have b9:w5.cell? ⟨al,hl.length*3+2,none⟩=some (.slice pa J pc):=V.cell (w:=(W.alloc (bV t.kind t.id t.rel t.sub t.who t.of)).drew) c7 (own_ne ae O ar);have zq:=ad.fz;have G5:=ai V;have O5:=ai aL;have A5:=ai aD;have b6:=ad.lt;clear ae O ad V aL aD)
     all_goals
      go_wp2;go_roundw
      case rel=>
       exact Mz
      case measure=>simp [intOf];omega
  have bP:¬((k:Int)<(gs.length:Int)):=aj;have bo:k=gs.length:=aj;have ac:=ai aC;have ab:=ai ap;have bx:=ai (show hl.map ky=eB gs/\hl.length<=gs.length/\∀D∈hl,D.ts.length<=gs.length from by
   have:=ak R;rw [bo,ti] at this;exact this)
  clear ap aC R bo;go_wp2;go_ret;exact ⟨_,hl,rfl,ab.u,ac.u,bx.u⟩
abbrev m5:=@List.mem_append_left
abbrev uD:=@List.mem_append_right
theorem fi{h t}:m4 h t=true↔h.kd=t.kind/\h.id=t.id:=by
 unfold m4 AW;rw [bO,bn,bn]
structure MB(gs:List Tu)(l:List Hp):Prop where
 ts:∀h∈l,h.ts=gs.filter (fun t=>m4 h t)/\h.ts≠ []
 all:∀t∈gs,∃h∈l,m4 h t=true
 ap:l.Pairwise fun a b=>¬(a.kd=b.kd/\a.id=b.id)
theorem nE{h t}:(gs++[t]).filter (fun t=>m4 h t)=gs.filter (fun t=>m4 h t)++(if m4 h t=true then [t] else []):=by
 rw [List.filter_append]
 congr 1
 cases h1:m4 h t<;>simp [h1]
theorem Ib{l}(H:MB gs l)(t):MB (gs++[t]) (uB l t):=by
 unfold uB
 cases R:l.findIdx? (fun J=>m4 J t) with
 |some i=>
  obtain ⟨hi,Y,_⟩:=kg.1 R;have V:=ja.1 H.ap;unfold yo;dsimp only;rw [aG hi];dsimp only;have ae:=H.ts _ (bu hi);have af:∀j (I:j<l.length),j≠i->m4 l[j] t=false:=fun j I ad=>by
   cases ab:m4 l[j] t with
   |false=>rfl
   |true=>
    have h1:=fi.1 ab;have h2:=fi.1 Y;exfalso
    rcases tF ad with Z|Z
    ·exact V j i I hi Z ⟨by rw [h1.1,h2.1],by rw [h1.2,h2.2]⟩
    exact V i j hi I Z ⟨by rw [h1.1,h2.1],by rw [h1.2,h2.2]⟩
  refine ⟨fun J C=> ?_,fun u D=> ?_,?_⟩
  ·obtain ⟨j,I,rfl⟩:=dn C;rw [gK] at I
   by_cases e:i=j
   ·subst e;rw [jE];refine ⟨?_,an⟩;rw [nE];have e1:m4 ⟨l[i].kd,l[i].id,l[i].ts++[t]⟩ t=true:=Y;rw [if_pos e1];dsimp only;rw [ae.1]
    rfl
   rw [jb e];have Q:=H.ts _ (bu I);refine ⟨?_,Q.2⟩;rw [nE,if_neg (by rw [af j I (fun e'=>e e'.symm)];simp),gl];exact Q.1
  ·rcases aT.1 D with D|D
   ·obtain ⟨J,C,e⟩:=H.all u D;obtain ⟨j,I,rfl⟩:=dn C
    by_cases e':i=j
    ·subst e';exact ⟨⟨l[i].kd,l[i].id,l[i].ts++[t]⟩,List.mem_iff_getElem.2 ⟨i,by simpa using hi,by rw [jE]⟩,e⟩
    exact ⟨l[j],List.mem_iff_getElem.2 ⟨j,by simpa using I,by rw [jb e']⟩,e⟩
   rw [aR] at D;subst D;exact ⟨⟨l[i].kd,l[i].id,l[i].ts++[u]⟩,List.mem_iff_getElem.2 ⟨i,by simpa using hi,by rw [jE]⟩,Y⟩
  refine ja.2 (fun a b ha O ac=> ?_);rw [gK] at ha O;have key:∀j (I:j<l.length),((l.set i ⟨l[i].kd,l[i].id,l[i].ts++[t]⟩)[j]'(by simpa using I)).kd=l[j].kd/\((l.set i ⟨l[i].kd,l[i].id,l[i].ts++[t]⟩)[j]'(by simpa using I)).id=l[j].id:=fun j I=>by
   by_cases e:i=j
   ·subst e;rw [jE];exact ⟨rfl,rfl⟩
   rw [jb e];exact ⟨rfl,rfl⟩
  rw [(key a ha).1,(key a ha).2,(key b O).1,(key b O).2];exact V a b ha O ac
 |none=>
  rw [n9] at R;have e:yo l.length t (l++[⟨t.kind,t.id,[]⟩])=l++[⟨t.kind,t.id,[t]⟩]:=by
   unfold yo;simp
  dsimp only;rw [e];refine ⟨fun J C=> ?_,fun u D=> ?_,?_⟩
  ·rcases aT.1 C with C|C
   ·have Q:=H.ts J C;refine ⟨?_,Q.2⟩;rw [nE,if_neg (by rw [R J C];simp),gl];exact Q.1
   rw [aR] at C;subst C;refine ⟨?_,an⟩;have e1:m4 ⟨t.kind,t.id,[t]⟩ t=true:=fi.2 ⟨rfl,rfl⟩;rw [nE,if_pos e1,List.filter_eq_nil_iff.2 (fun u D=> ?_)]
   ·rfl
   intro ab;obtain ⟨J,C,U⟩:=H.all u D;have h1:=fi.1 ab;have h2:=fi.1 U;have:=R J C;rw [fi.2 ⟨h2.1.trans h1.1.symm,h2.2.trans h1.2.symm⟩] at this
   cases this
  ·rcases aT.1 D with D|D
   ·obtain ⟨J,C,e⟩:=H.all u D;exact ⟨J,m5 _ C,e⟩
   rw [aR] at D;subst D;exact ⟨_,uD _ (aR.2 rfl),fi.2 ⟨rfl,rfl⟩⟩
  refine List.pairwise_append.2 ⟨H.ap,an,fun a ha b O=> ?_⟩;rw [aR] at O;subst O;rintro ⟨e1,U⟩;have:=R a ha;rw [fi.2 ⟨e1,U⟩] at this
  cases this
theorem wD:∀(gs pre:List Tu)(l:List Hp),MB pre l->MB (pre++gs) (gs.foldl uB l)
 | [],pre,l,H=>by simpa using H
 |t::gs,pre,l,H=>by
  have:=wD gs (pre++[t]) _ (Ib H t)
  simpa using this
theorem nF(gs):MB gs (eB gs):=wD gs [] [] ⟨(fun _ h=>by cases h),(fun _ h=>by cases h),List.Pairwise.nil⟩
theorem Sm{l:List Hp}(I:l.Pairwise fun a b=>¬(a.kd=b.kd/\a.id=b.id)){a b:Hp}(ha:a∈l)(J:b∈l)(e1:a.kd=b.kd)(A:a.id=b.id):a=b:=by
 obtain ⟨i,hi,rfl⟩:=dn ha;obtain ⟨j,D,rfl⟩:=dn J;have C:=ja.1 I
 rcases Nat.lt_trichotomy i j with h|rfl|h
 ·exact absurd ⟨e1,A⟩ (C i j hi D h)
 ·rfl
 exact absurd ⟨e1.symm,A.symm⟩ (C j i D hi h)
variable {hl:List Hd}
theorem Sn(J:hl.map ky=eB gs):∀x∈hl,∀y∈hl,x.kd=y.kd->x.id=y.id->x=y:=fun x Q y R e1 A=>by
 obtain ⟨i,hi,rfl⟩:=dn Q;obtain ⟨j,I,rfl⟩:=dn R;have C:=ja.1 (nF gs).ap;rw [<-J] at C;have k:∀a b (ha:a<hl.length) (D:b<hl.length),a<b->¬(hl[a].kd=hl[b].kd/\hl[a].id=hl[b].id):=fun a b ha D O=>by
  have:=C a b (by simpa using ha) (by simpa using D) O
  simpa [ky] using this
 rcases Nat.lt_trichotomy i j with h|rfl|h
 ·exact absurd ⟨e1,A⟩ (k i j hi I h)
 ·rfl
 exact absurd ⟨e1.symm,A.symm⟩ (k j i I hi h)
section
open Go.Shelf
abbrev kz(a0:Option Addr)(a1:Nat)(a2:Nat):Obj:=.cells #[.slice a0 a1 a2] 119
abbrev kA:Obj:=.cells #[.int .i64 64] 3
attribute [local go_sem] Oper.semAt_some
def Nx(h Bn:Nat)(W W':af):Prop:=W.heap.size<=W'.heap.size/\W'.heap[h]? =W.heap[h]? /\W'.heap[Bn]? =W.heap[Bn]?
theorem Nx.trans{h Bn:Nat}{X C D:af}(A:Nx h Bn X C)(k:Nx h Bn C D):Nx h Bn X D:=⟨aL A.1 k.1,k.2.1.trans A.2.1,k.2.2.trans A.2.2⟩
theorem Ic(sa sn sc w):Calls prog 97 #[.slice sa sn sc,.int .i64 64] w fun e w'=>e=.returned (.func (.func 146) #[] #[.pointer (some ⟨w.heap.size,0,none⟩),.pointer (some ⟨w.heap.size+1,0,none⟩)])/\w'=(w.alloc (kz sa sn sc)).alloc kA:=by
 go_enter func97,ntmps97;go_wp2;go_ret;exact ⟨rfl,rfl⟩
theorem Ie(n:Nat)(aM:1<=n)(l D Bn g C O:Nat)(I Z:List Unit->af->Prop)(J:af)(ad:AbidesFrom J.heap.size I)
  (ah:∀pre x U,I pre U->pre.length<1->YieldAt Fence.wide (n-1) prog l #[.slice (some ⟨g,0,none⟩) C C] U fun e W'=>(e=.returned (.bool true)/\I (pre++[x]) W'/\Nx D Bn U W')\/(e=.returned (.bool false)/\Z (pre++[x]) W'))
  (ac:aB J D #[.slice (some ⟨g,0,none⟩) C O] 119) (ab:aB J Bn #[.int .i64 64] 3) (aH:0<C) (aG:C<=64) (aI:C<=O) (aJ:O<=maxLen) (h0:I [] J):
  CallsIn Fence.wide n prog 146 #[.func (.yield l) #[] #[],.pointer (some ⟨D,0,none⟩),.pointer (some ⟨Bn,0,none⟩)] J fun e W'=>(∃v,e=.returned v)/\((∃al,al=[()]/\I al W')\/(∃pre,pre<+: [()]/\Z pre W')):=by
 have av:=ai ah;have am:=ai ad;have au:=ai ac;have Y:=ai ab;clear ah ad ac ab;refine callsIn_of_wp func146 rfl trivial ?_ rfl;simp only [ntmps146,qi,List.length_cons,List.length_nil,Nat.reduceAdd,Nat.reduceSub,qj,Array.replicate_zero,qk,ql,List.nil_append,List.cons_append];gi_wp2
 gi_loopw [4] (fun u wr=>Nx D Bn J wr/\((u=.int .i64 0/\I [] wr)\/(u=.int .i64 64/\I [()] wr))) (fun u _=>64-(intOf u).toNat)
 case atStart=>exact ⟨⟨cm _,rfl,rfl⟩,.inl ⟨rfl,h0⟩⟩
 case round=>
  obtain ⟨Q,az⟩:=hrel;have aD:wr.cell? ⟨D,0,none⟩=some (.slice (some ⟨g,0,none⟩) C O):=(show aB wr D _ _ from Q.2.1.trans au.u).cell rfl;have aC:wr.cell? ⟨Bn,0,none⟩=some (.int .i64 64):=(show aB wr Bn _ _ from Q.2.2.trans Y.u).cell rfl
  rcases az with ⟨rfl,R⟩|⟨rfl,R⟩
  ·have aA:(0:Int)<(C:Int):=by omega
   have ag:=am.u [] wr wr.drew none R ⟨rfl,rfl,rfl,cm _,fun _ _ _=>rfl⟩ (fun r e=>by cases e);obtain ⟨fn,aP,aE,body,aN,ay⟩:=av.u [] () _ ag an;have aK:min (64:Int) (C:Int)=(C:Int):=aj;have aL:min (64:Nat) C=C:=aj;have d0:wr.drew.cell? ⟨D,0,none⟩=some (.slice (some ⟨g,0,none⟩) C O):=aD;have e0:wr.drew.cell? ⟨Bn,0,none⟩=some (.int .i64 64):=aC;have ar:=ai Q;clear ag R Q;gi_wp2
   gi_region
   all_goals gi_wp2
   all_goals (
    refine ay.mono ?_;rintro e V (⟨rfl,ae,ak⟩|⟨rfl,ax⟩)
    ·have ap:=ai ae;have k3:=ar.u.trans (show Nx D Bn wr V from ak);have aO:V.cell? ⟨Bn,0,none⟩=some (.int .i64 64):=(show aB V Bn _ _ from k3.2.2.trans Y.u).cell rfl;have aw:=ai k3;clear ae ak k3;gi_wp2;go_roundw
     case rel=>exact ⟨aw.u,.inr ⟨rfl,ap.u⟩⟩
     case measure=>simp [intOf]
    ·gi_wp2;refine bc (results_none rfl _ _ _) rfl ?_;exact ⟨⟨_,rfl⟩,.inr ⟨[()],List.prefix_refl _,ax⟩⟩)
  have aA:¬((64:Int)<(C:Int)):=aj;clear Q;gi_wp2;go_end0;exact ⟨⟨_,rfl⟩,.inl R⟩
end
structure Sq(w:af)(cv hv lv:ag)(cs:List Tg)(hl:List Hd)(qs:List (ag×List (It×ag))):Prop where
 cr:yM w cv cs
 hs:S6 w hv hl
 ln:CZ 0 w lv qs
 ok:∀q∈qs,∀p∈q.2,Sb p
 few:∀q∈qs,q.2.length<=1000000
section
variable {w w':af}{cv hv lv:ag}{cs:List Tg}{hl:List Hd}{qs:List (ag×List (It×ag))}{mb n:Nat}{K:Sj->Nat}
theorem Sq.grp(A:Sq w cv hv lv cs hl qs){h:ag×List (It×ag)}(C:h∈qs):TJ w cv hv h.1 cs hl h.2:=⟨A.cr,A.hs,A.ln.grp h C,A.ok h C,A.few h C⟩
theorem Sq.cellsK(h:Sq w cv hv lv cs hl qs)(k:m3 w w'):Sq w' cv hv lv cs hl qs:=⟨h.cr.cellsK k,h.hs.cellsK k,h.ln.frame (fun g cs T f A _=>k.2 g cs T f A),h.ok,h.few⟩
end
def Ig(q:ag×List (It×ag)):List TR:=q.2.map fun p=>KP p.1
def qP(qs:List (ag×List (It×ag))):Nat:=(qs.map fun q=>q.2.length).sum
theorem Ih{qs:List (ag×List (It×ag))}{h:ag×List (It×ag)}(A:qs[j]? =some h):qP (qs.take (j+1))=qP (qs.take j)+h.2.length/\(qs.take (j+1)).map Ig=(qs.take j).map Ig++[Ig h]:=by
 have C:=(be.1 A).1;have e:qs.take (j+1)=qs.take j++[h]:=by
  rw [dS C];rw [aG C] at A;rw [gu A]
 rw [e];unfold qP;simp
theorem Pc{qs:List (ag×List (It×ag))}(j):qP (qs.take j)<=qP qs:=by
 have:qP qs=qP (qs.take j)+qP (qs.drop j):=by
  unfold qP;rw [<-List.sum_append,<-de,og]
 omega
theorem ME(ls hl):(Ba ls hl).length=ls.length*hl.length:=by
 unfold Ba
 induction ls with
 |nil=>simp
 |cons p ls ih=>rw [cq,bo,ih,cK,lj,Nat.add_mul,Nat.one_mul,Nat.add_comm]
structure UF(cs:List Tg)(hl:List Hd)(qs:List (ag×List (It×ag)))(j n:Nat)(K:Sj->Nat):Prop where
 run:Run cs (hl.map ky) ((qs.take j).map Ig) (fun _=>0) K
 few:n<=64000*qP (qs.take j)
theorem Ii(w ca ha cn cc hn hc mb n j lv K cs hl)(qs:List (ag×List (It×ag)))(D:ag×List (It×ag))(R:Sq w (.slice ca cn cc) (.slice ha hn hc) lv cs hl qs)(ar:pP w mb n K)(O:UF cs hl qs j n K)(J:qs[j]? =some D)(V:H7 (qs.map Ig) (hl.map ky))(ai:∀x∈hl,∀y∈hl,x.kd=y.kd->x.id=y.id->x=y)(hs:qP qs<=1000000):
  Calls prog 99 #[.agg #[.slice ca cn cc,.slice ha hn hc,.map (some mb)],D.1] w fun e w'=>e=.returned (.tuple #[])/\bI (fun k=>k=mb) w w'/\∃Q I,pP w' mb Q I/\UF cs hl qs (j+1) Q I:=by
 have Z:=bx J;have Y:=(be.1 J).1;have U:=R.grp Z;obtain ⟨sa,sc,hv⟩:=ay U.ln.row;have ah:=R.cr.most;have am:Ig D∈qs.map Ig:=aY.2 ⟨D,Z,rfl⟩;have C:=H6 ah (Mw V am ai) K;have ae:∀g'∈(qs.take j).map Ig,∀x∈g',∀y∈Ig D,¬(x.1.name=y.1.name/\x.2.name=y.2.name):=fun g' al=>by
  have av:=ja.1 V.ap;obtain ⟨i,hi,rfl⟩:=dn al;rw [cK,gj] at hi;have:=av i j aM (by simpa using Y) aj;rw [aG Y] at J;have e:=gu J;simp only [List.getElem_map,List.getElem_take,e] at this ⊢;exact this
 have ab:Mv cs D.2 hl K K:=DK (yk O.run (fun s i _=>an)) (fun s aw=>Mx O.run ae s (Fy.2 aw));have aB:iR (Ba D.2 hl) K<=64000*D.2.length:=by
  have h1:=wC K (Ba D.2 hl);rw [ME] at h1;have h2:D.2.length*hl.length<=D.2.length*1000:=Nat.mul_le_mul_left _ R.hs.most;omega
 obtain ⟨e1,ac⟩:=Ih J;have ax:=Pc (qs:=qs) (j+1);have aA:=O.few;rw [hv] at U ⊢;refine (DI w ca ha sa cn cc hn hc _ sc mb n (n+iR (Ba D.2 hl) K) K cs hl D.2 (Mv cs D.2 hl K) (iR (Ba D.2 hl)) U C ar ab az ey).mono ?_;rintro e w' ⟨rfl,af,Q,I,au,ad,aC,ak⟩;refine ⟨rfl,af,Q,I,au,⟨?_,?_⟩⟩
 ·rw [ac];exact Fz O.run ⟨I,Se ad ak,rfl⟩
 ·rw [e1];omega
def Uh(t:Tg):List ag:=[.string t.kind,.string t.id]
def eP(X:Nat)(cs:List Tg):Nat->List Tg
 |0=>[]
 |j+1=>eP X cs j++(match cs[j]? with
  |some t=>if X.testBit j then [t] else []
  |none=>[])
theorem wE{X cs t}(h:cs[j]? =some t)(A:X.testBit j=true):eP X cs (j+1)=eP X cs j++[t]:=by
 rw [eP,h];simp [A]
theorem Bg{X cs t}(h:cs[j]? =some t)(A:X.testBit j=false):eP X cs (j+1)=eP X cs j:=by
 rw [eP,h];simp [A]
theorem wF(X cs):∀j,(eP X cs j).length<=j
 |0=>by simp [eP]
 |j+1=>by
  have h:=wF X cs j;rw [eP,bo]
  cases cs[j]? with
  |none=>simp;omega
  |some t=>
   simp only
   split<;>simp<;>omega
theorem Pd{X:Nat}(J:X<18446744073709551616)(O:j<64):(bits .and .u64 (X:Int) (IntKind.u64.wrap (2 ^ j)) != 0)=X.testBit j:=by
 have h2:2 ^ j<18446744073709551616:=Nat.pow_lt_pow_right aj (show j<64 by omega);have e:IntKind.u64.wrap ((2:Int) ^ j)=((2 ^ j:Nat):Int):=by
  exact Mh
 rw [e,u64_and_nat _ _ J h2]
 cases D:X.testBit j with
 |true=>
  have C:(X&&& 2 ^ j).testBit j=true:=by rw [uy,D,DD];rfl
  rw [g8];intro h0;have I:X&&& 2 ^ j=0:=aj;rw [I] at C;simp at C
 |false=>
  have C:X&&& 2 ^ j=0:=by
   apply Nat.eq_of_testBit_eq;intro i;rw [uy]
   by_cases hi:i=j
   ·subst hi;rw [D];simp
   rw [DE (fun e=>hi e.symm)];simp
  rw [C]
  rfl
section
open Go.Shelf
abbrev h8(a0:Option Addr)(a1:Nat)(a2:Nat):Obj:=.cells #[.slice a0 a1 a2] 114
abbrev je(a0:Option Addr)(a1:Nat)(a2:Nat):Obj:=.cells #[.slice a0 a1 a2] 115
abbrev jW:Obj:=.cells #[.slice none 0 0] 119
attribute [local go_sem] Oper.semAt_some
structure Sr(w:af)(lv cv gv:ag)(ts:List Ty)(gs:List Tu)(cs:List Tg)(aq:Sj):Prop where
 lx:Rt ts lv w
 cr:yM w cv cs
 row:w.ownsRow 0 123 6 gv gs.length (gs.flatMap jp)
 few:gs.length<=1000
 low:∀t∈gs,t.kind.size<=maxLen/\t.id.size<=maxLen/\m0 (gx t)
 ask:m0 aq
 ln:∀g∈cZ ts,∀x∈g,TM x
 ok:H7 (cZ ts) (eB gs)
 sum:((cZ ts).map List.length).sum<=1000000
theorem Sr.below{cv cs}(h:Sr w lv cv gv ts gs cs aq)(k:Below w.heap.size w w'):Sr w' lv cv gv ts gs cs aq:=
 ⟨xN.below _ _ _ _ h.lx k,h.cr.below k,aE h.row k,h.few,h.low,h.ask,h.ln,h.ok,h.sum⟩
def Ss(ts:List Ty)(gs:List Tu)(cs:List Tg)(aq:Sj)(w:af)(e:Ending)(w':af):Prop:=∃v K,e=.returned v/\Below w.heap.size w w'/\Run cs (eB gs) (cZ ts) (fun _=>0) K/\w'.ownsRow w.heap.size 98 2 v (eP (K aq) cs cs.length).length ((eP (K aq) cs cs.length).flatMap Uh)
theorem Tryz.infoTh:(Tryz.prog.info? 98).map (fun i=>(i.zero,i.size,i.bytes))=some (some (.agg #[.string ⟨#[]⟩,.string ⟨#[]⟩]),2,32):=by kernel_rfl
structure TN(ts:List Ty)(gs:List Tu)(cs:List Tg)(aq:Sj)(sb:Nat)(W0:af)(pre:List Unit)(W:af)(av:ag):Prop where
 but:bI (fun k=>k=sb) W0 W
 blk:aB W sb #[av] 119
 fst:pre=[]->av=.slice none 0 0
 all:pre≠ []->∃K,Run cs (eB gs) (cZ ts) (fun _=>0) K/\W.ownsRow W0.heap.size 98 2 av (eP (K aq) cs cs.length).length ((eP (K aq) cs cs.length).flatMap Uh)
theorem TN.oth{cs pre av}(h:TN ts gs cs aq sb W0 pre W av)(A:W.grownBy W' row)(C:∀r,row=some r->W0.heap.size<=r/\∃o:Obj,W.heap[r]? =some o/\o.isCells=false):TN ts gs cs aq sb W0 pre W' av:=
 ⟨⟨A.os.trans h.but.os,A.tape.trans h.but.tape,A.output.trans h.but.output,aL h.but.size A.size,fun k I hs=>(A.block k (cg I h.but.size) (fun e=>by have:=(C k e.symm).1;omega)).trans (h.but.block k I hs)⟩,
  dF (β:=Unit) W0.heap.size _ _ _ () W W' row h.blk A C,h.fst,fun J=>by
   obtain ⟨K,h1,h2⟩:=h.all J;exact ⟨K,h1,ax h2 (fun g cs f _ D=>A.block g (lt_of_some D) (fun e=>by
    obtain ⟨o,ho,hc⟩:=(C g e.symm).2;rw [D] at ho
    cases ho
    cases hc))⟩⟩
variable {hl:List Hd}
theorem hl_hs{hv}(J:FC base w hv hl)(Y:hl.map ky=eB gs)(ad:hl.length<=gs.length)(Z:∀x∈hl,x.ts.length<=gs.length)(ae:gs.length<=1000)(D:∀t∈gs,t.kind.size<=maxLen/\t.id.size<=maxLen/\m0 (gx t)):S6 w hv hl:=by
 refine ⟨aX J.row (gZ _),fun x I=>⟨⟨aX (J.tup x I) (gZ _),by have:=Z x I;omega⟩,?_⟩,aj⟩;have ac:ky x∈eB gs:=by rw [<-Y];exact aY.2 ⟨x,I,rfl⟩
 obtain ⟨e1,U⟩:=(nF gs).ts _ ac;have R:x.ts=gs.filter (fun t=>m4 (ky x) t):=e1;have O:∀t∈x.ts,t∈gs/\x.kd=t.kind/\x.id=t.id:=fun t C=>by
  rw [R,List.mem_filter] at C;exact ⟨C.1,fi.1 C.2⟩
 have Q:x.ts≠ []:=U;obtain ⟨t,C⟩:=List.exists_mem_of_ne_nil _ Q;obtain ⟨h1,h2,V⟩:=O t C;refine ⟨mg.2 Q,by rw [h2];exact (D t h1).1,by rw [V];exact (D t h1).2.1,fun u ab=>(D u (O u ab).1).2.2⟩
theorem yM.but{S o cs}(C:yM w (.slice (some ⟨g,o,none⟩) n c) cs)(k:bI S w w')(A:¬S g)(c'):yM w' (.slice (some ⟨g,o,none⟩) n c') cs:=by
 obtain ⟨g',J,I,e,h2,D,h⟩:=C;simp only [aI,aK,cw,gL] at e;obtain ⟨⟨rfl,rfl⟩,rfl,_⟩:=e;exact ⟨g,o,c',rfl,cg h2 k.size,D,fun i x hi=>⟨(iV (w:=w) (k.block g h2 A)).trans (h i x hi).1,(iV (w:=w) (k.block g h2 A)).trans (h i x hi).2⟩⟩
theorem Sr.but{cs bs}(C:Sr w lv (.slice (some ⟨g,0,none⟩) cn cc) gv ts gs cs aq)(k:bI (fun k=>k=sb) w w')(J:aB w sb bs 119)(O:g≠sb):Sr w' lv (.slice (some ⟨g,0,none⟩) cn cc) gv ts gs cs aq:=by
 have key:∀(i:Nat)(xs:Array ag)(T:TypeId)(f:Nat×Nat),w.heap[i]? =some (Obj.cells xs T f)->T≠119->w'.heap[i]? =w.heap[i]? :=fun i xs T f D I=>k.block i (lt_of_some D) (fun e=>by
  subst e;unfold aB at J;rw [J] at D
  cases D
  exact I rfl)
 obtain ⟨qs,h1,h2⟩:=C.lx;exact ⟨⟨qs,h1.frame (fun i xs T f D I=>key i xs T f D (by rcases I with rfl|rfl|rfl<;>decide)),h2⟩,C.cr.but k O cc,ax C.row (fun i xs f _ D=>key i xs _ f D ar),C.few,C.low,C.ask,C.ln,C.ok,C.sum⟩
theorem Ij{bs}(k:bI (fun k=>k=sb) W W')(h:aB W sb bs T):KeepsFrom B W W':=⟨k.size,fun i o _ hi ho=>(k.block i (lt_of_some hi) (fun e=>by
 subst e;unfold aB at h;rw [h] at hi
 cases hi
 cases ho)).trans hi⟩
theorem Su{W2 w7 o2 av ys}(R:bI (fun k=>k=sb) W2 wr)(Q:aB wr sb #[av] 119)(V:wr.ownsRow W2.heap.size 98 2 av n xs)(C:((wr.alloc o).drew.alloc o2).grownBy w7 av.ownBlock)(U:w7.ownsRow W2.heap.size 98 2 v' (n+1) ys):
  bI (fun k=>k=sb) W2 (w7.setCell ⟨sb,0,none⟩ v')/\aB (w7.setCell ⟨sb,0,none⟩ v') sb #[v'] 119/\(w7.setCell ⟨sb,0,none⟩ v').ownsRow W2.heap.size 98 2 v' (n+1) ys:=by
 have b:Below wr.heap.size wr ((wr.alloc o).drew.alloc o2):=(((aw _ wr).alloc az o).drew).alloc an o2;have O:=aE V b;have D:=Q.below b;have I:aB w7 sb #[av] 119:=(C.block sb D.lt (own_ne O D ar)).trans D;have Y:bI (fun k=>k=sb) W2 w7:=by
  have h1:=R.trans (bI.of_below b);exact ⟨C.os.trans h1.os,C.tape.trans h1.tape,C.output.trans h1.output,aL h1.size C.size,fun k J hs=>(C.block k (cg J h1.size) (fun e=>by have:=(O.lt k e.symm).1;omega)).trans (h1.block k J hs)⟩
 exact ⟨Y.set rfl _,I.set 0 _,bJ U I ar 0 _⟩
theorem Ik(la ga ln lc g D cc gn gc w ts gs cs aq)(I:Sr w (.slice la ln lc) (.slice (some ⟨g,0,none⟩) D cc) (.slice ga gn gc) ts gs cs aq)(dA:0<cs.length)(cY:D<=cc)(c3:cc<=maxLen):
  Calls prog 58 #[.agg #[.slice la ln lc],.slice (some ⟨g,0,none⟩) D cc,.agg #[.string aq.kind,.string aq.id,.string aq.rel],.slice ga gn gc] w (Ss ts gs cs aq w):=by
 obtain ⟨i0,c6,dm,dn,dp⟩:=bH Tryz.infoTh;have bp:D=cs.length:=by
  obtain ⟨g',a5,bk,e,_⟩:=I.cr;exact CF
 have c5:g<w.heap.size:=by
  obtain ⟨g',a5,bk,e,h2,_⟩:=I.cr;simp only [aI,aK,cw] at e;rw [e.1.1];exact h2
 have bV:D<=64:=by rw [bp];exact I.cr.most
 have cW:0<D:=aj;have a8:=ai bp;clear bp;refine (hP (n:=8)).1 ?_;refine xA func58 rfl trivial ?_ rfl;simp only [ntmps58,qi,List.length_cons,List.length_nil,Nat.reduceAdd,Nat.reduceSub,qj,Array.replicate_zero,qk,ql,List.nil_append,List.cons_append];gi_wp2_with fail;refine ⟨trivial,(hP.2 (Ic _ _ _ _)).mono ?_⟩;rintro e w' ⟨rfl,rfl⟩;gi_wp2_with fail;have bn:Below w.heap.size w ((((w.alloc (h8 la ln lc)).alloc (b8 aq.kind aq.id aq.rel)).alloc (je ga gn gc)).alloc jW):=((((aw _ w).alloc az _).alloc an _).alloc aM _).alloc aM _;have ae:Below w.heap.size w ((((((w.alloc (h8 la ln lc)).alloc (b8 aq.kind aq.id aq.rel)).alloc (je ga gn gc)).alloc jW).alloc (kz (some ⟨g,0,none⟩) D cc)).alloc kA):=(bn.alloc bn.size _).alloc aM _;have bR:aB ((((((w.alloc (h8 la ln lc)).alloc (b8 aq.kind aq.id aq.rel)).alloc (je ga gn gc)).alloc jW).alloc (kz (some ⟨g,0,none⟩) D cc)).alloc kA) w.heap.size #[.slice la ln lc] 114:=(((((aB.new w _ _).alloc _).alloc _).alloc _).alloc _).alloc _;have bM:aB ((((((w.alloc (h8 la ln lc)).alloc (b8 aq.kind aq.id aq.rel)).alloc (je ga gn gc)).alloc jW).alloc (kz (some ⟨g,0,none⟩) D cc)).alloc kA) (w.heap.size+1) #[.string aq.kind,.string aq.id,.string aq.rel] 102:=((((aB.new' (w.alloc (h8 la ln lc)) _ _ (w.heap.size+1) an).alloc _).alloc _).alloc _).alloc _;have bQ:aB ((((((w.alloc (h8 la ln lc)).alloc (b8 aq.kind aq.id aq.rel)).alloc (je ga gn gc)).alloc jW).alloc (kz (some ⟨g,0,none⟩) D cc)).alloc kA) (w.heap.size+1+1) #[.slice ga gn gc] 115:=(((aB.new' ((w.alloc (h8 la ln lc)).alloc (b8 aq.kind aq.id aq.rel)) _ _ (w.heap.size+1+1) an).alloc _).alloc _).alloc _;have bh:aB ((((((w.alloc (h8 la ln lc)).alloc (b8 aq.kind aq.id aq.rel)).alloc (je ga gn gc)).alloc jW).alloc (kz (some ⟨g,0,none⟩) D cc)).alloc kA) (w.heap.size+1+1+1) #[.slice none 0 0] 119:=((aB.new' (((w.alloc (h8 la ln lc)).alloc (b8 aq.kind aq.id aq.rel)).alloc (je ga gn gc)) _ _ (w.heap.size+1+1+1) an).alloc _).alloc _;have bP:aB ((((((w.alloc (h8 la ln lc)).alloc (b8 aq.kind aq.id aq.rel)).alloc (je ga gn gc)).alloc jW).alloc (kz (some ⟨g,0,none⟩) D cc)).alloc kA) (w.heap.size+1+1+1+1) #[.slice (some ⟨g,0,none⟩) D cc] 119:=(aB.new' ((((w.alloc (h8 la ln lc)).alloc (b8 aq.kind aq.id aq.rel)).alloc (je ga gn gc)).alloc jW) _ _ (w.heap.size+1+1+1+1) an).alloc _;have bT:aB ((((((w.alloc (h8 la ln lc)).alloc (b8 aq.kind aq.id aq.rel)).alloc (je ga gn gc)).alloc jW).alloc (kz (some ⟨g,0,none⟩) D cc)).alloc kA) (w.heap.size+1+1+1+1+1) #[.int .i64 64] 3:=aB.new' _ _ _ _ an;have bG:=I.below ae;have dk:((((((w.alloc (h8 la ln lc)).alloc (b8 aq.kind aq.id aq.rel)).alloc (je ga gn gc)).alloc jW).alloc (kz (some ⟨g,0,none⟩) D cc)).alloc kA).heap.size=w.heap.size+6:=an;obtain ⟨W0,b0⟩:∃W0,((((((w.alloc (h8 la ln lc)).alloc (b8 aq.kind aq.id aq.rel)).alloc (je ga gn gc)).alloc jW).alloc (kz (some ⟨g,0,none⟩) D cc)).alloc kA)=W0:=⟨_,rfl⟩;rw [b0] at ae bR bM bQ bh bP bT bG dk ⊢;clear b0 bn I;refine wpIn_rangeFunc_ownG (F:=Fence.wide) (α:=Unit) rfl ar (gf:=146) (lb:=#[.pointer (some ⟨w.heap.size+1+1+1+1,0,none⟩),.pointer (some ⟨w.heap.size+1+1+1+1+1,0,none⟩)]) rfl trivial (enters_of func146 au rfl)
  (encs:=fun _=>#[.slice (some ⟨g,0,none⟩) D D]) (Kp:=Nx (w.heap.size+1+1+1+1) (w.heap.size+1+1+1+1+1)) (S:=fun co=>co=[()]) (Sp:=fun pre=>pre<+: [()]) (N:=1) (w0:=W0)
  (fun l cI cJ W bZ cQ _ cU h0=>Ie _ ar l _ _ g D cc cI cJ W cQ cU (bP.below bZ) (bT.below bZ) cW bV cY c3 h0)
  (fun I k=>Nx.trans I k)
  (fun W l o a5 hl ho hc dK=>⟨(tm W l a5).size,World.putObj_heap_other (fun e=>aj),World.putObj_heap_other (fun e=>aj)⟩)
  ba (fun _=>rfl)
  (fun pre W=>∃R,TN ts gs cs aq (w.heap.size+1+1+1) W0 pre W R)
  (fun bU pre W=>False)
  (fun pre X cM row hs b6 ci=>by obtain ⟨R,I⟩:=hs;exact ⟨R,I.oth b6 ci⟩)
  (fun bU s X cM row hs b6 ci=>hs)
  ⟨.slice none 0 0,⟨bI.refl _ _,bh,fun _=>rfl,fun I=>absurd rfl I⟩⟩
  (fun _=>{tmps:=#[.agg #[.slice la ln lc],.slice (some ⟨g,0,none⟩) D cc,.agg #[.string aq.kind,.string aq.id,.string aq.rel],.slice ga gn gc,.pointer (some ⟨w.heap.size,0,none⟩),undef,.pointer (some ⟨w.heap.size+1,0,none⟩),.pointer (some ⟨w.heap.size+1+1,0,none⟩),.slice none 0 0,.pointer (some ⟨w.heap.size+1+1+1,0,none⟩),.slice (some ⟨g,0,none⟩) D D,undef,undef,undef,undef,undef,.slice (some ⟨g,0,none⟩) D cc,.func (.func 146) #[] #[.pointer (some ⟨w.heap.size+1+1+1+1,0,none⟩),.pointer (some ⟨w.heap.size+1+1+1+1+1,0,none⟩)],.slice (some ⟨g,0,none⟩) D D,undef,undef,undef,undef,undef,undef,undef,undef,undef,undef,undef,undef,undef,undef,undef,undef,undef,undef,undef,undef,undef,undef,undef,undef,undef,undef,undef,undef,undef,undef,undef,undef,undef,undef,undef,undef,undef],defers:=[]})
  ?assign ?body ?done ?stop
 case assign=>
  intro l x W K af;gi_wp2;exact af
 case body=>
  rintro l pre x W ⟨R,Q⟩ cd;obtain rfl:pre=[]:=by
   cases pre with
   |nil=>rfl
   |cons a b=>simp at cd
  obtain rfl:=Q.fst rfl;have dC:g<w.heap.size:=c5;have av:=bG.but Q.but bh aj;have bl:W.cell? ⟨w.heap.size,0,none⟩=some (.slice la ln lc):=(Q.but.blk bR aj).cell rfl;have bO:=Q.but.blk bM aj;have cN:W.cell? ⟨w.heap.size+1+1,0,none⟩=some (.slice ga gn gc):=(Q.but.blk bQ aj).cell rfl;have C:=ai (Bf _ gs W av.row av.few);have bF:=ai Q;have Z:=ai av;have cS:=Q.but.size;have V:=av.ask;clear Q av cd;gi_wp2_with fail;refine ⟨trivial,(qm l (hP.2 C.u)).mono ?_⟩;rintro e w1 ⟨hv,hl,rfl,ab,hH,aD,a3,hn⟩;obtain ⟨ha,hc,rfl⟩:=ay hH.row;have de:=@run_makeMap prog;obtain ⟨qs,a4,ch,_,cg⟩:=Z.u.lx;have dc:ln=qs.length:=by
   obtain ⟨a',bk,e⟩:=ay a4.row;exact CF
  subst dc;have aJ:qs.map Ig=cZ ts:=ch;have bm:=(aw w1.heap.size w1).alloc az (.map #[] 0);have bj:=bm.alloc bm.size (.cells #[.slice (some ⟨g,0,none⟩) D D,.slice ha hl.length hc,.map (some w1.heap.size)] 189);have ad:=ab.trans (bj.mono ab.size);have bL:Sq ((w1.alloc (.map #[] 0)).alloc (.cells #[.slice (some ⟨g,0,none⟩) D D,.slice ha hl.length hc,.map (some w1.heap.size)] 189)) (.slice (some ⟨g,0,none⟩) D D) (.slice ha hl.length hc) (.slice la qs.length lc) cs hl qs:=
   ⟨Z.u.cr.but (S:=fun _=>False) (.of_below ad) (fun e=>e) D,hl_hs (hH.below bj) aD a3 hn Z.u.few Z.u.low,a4.below ad,(fun q aH p dg=>(TM.ok (Z.u.ln (Ig q) (by rw [<-aJ];exact aY.2 ⟨q,aH,rfl⟩) _ (aY.2 ⟨p,dg,rfl⟩)))),cg⟩
  have bK:pP ((w1.alloc (.map #[] 0)).alloc (.cells #[.slice (some ⟨g,0,none⟩) D D,.slice ha hl.length hc,.map (some w1.heap.size)] 189)) w1.heap.size 0 (fun _=>0):=(Md w1).block (Below.heap_alloc _ _ _ an);have bJ:=aB.new' (w1.alloc (.map #[] 0)) #[.slice (some ⟨g,0,none⟩) D D,.slice ha hl.length hc,.map (some w1.heap.size)] 189 (w1.heap.size+1) an;have bX:H7 (qs.map Ig) (hl.map ky):=by rw [aJ,aD];exact Z.u.ok
  have dj:qP qs<=1000000:=by
   have e:=Z.u.sum;rw [<-aJ,mD] at e;unfold qP;refine aL (Nat.le_of_eq ?_) e
   congr 1
   apply List.map_congr_left;intro q _;simp [Ig]
  have b7:=Sn aD;have cO:w1.cell? ⟨w.heap.size,0,none⟩=some (.slice la qs.length lc):=am bl ab;have cP:=am bl ad;have dF:¬(w.heap.size=w1.heap.size):=by have:=ab.size;omega
  have dG:¬(w.heap.size=w1.heap.size+1):=by have:=ab.size;omega
  have dz:=ab.size;have a7:=ai ad;have be:=ai bL;have ap:=ai bK;have a9:=ai bJ;have cA:=ai bX;have cB:=ai b7;have du:=ai a4;have bC:=ai (And.intro aD aJ);have bw:=ai (bO.below ad);clear C bm bj ad bL bK bJ bX b7 hH aD a3 hn ch aJ ab a4 cg bO;gi_wp2_with fail;obtain ⟨mb,ce⟩:∃b,b=w1.heap.size:=⟨_,rfl⟩;obtain ⟨cL,b2⟩:∃x,x=((w1.alloc (.map #[] 0)).alloc (.cells #[.slice (some ⟨g,0,none⟩) D D,.slice ha hl.length hc,.map (some w1.heap.size)] 189)):=⟨_,rfl⟩;rw [<-b2] at a7 be ap a9 bw ⊢;rw [<-ce] at ap a9 ⊢;have dE:W.heap.size<=mb:=aj;clear b2 de bl cN cO cP ce
  gi_loopw [27] (fun u al=>∃(j n:Nat)(K:Sj->Nat),u=.int .i64 j/\j<=qs.length/\bI (fun k=>k=mb) cL al/\pP al mb n K/\Hid (UF cs hl qs j n K)) (fun u _=>qs.length-(intOf u).toNat)
  case atStart=>exact ⟨0,0,_,rfl,aj,bI.refl _ _,ak ap,ai ⟨rfl,an⟩⟩
  case round=>
   obtain ⟨j,n,K,rfl,c9,Y,aC,aR⟩:=hrel;have aA:=Y.blk (ak a9) aj;obtain ⟨c0,c1,c2⟩:=three aA
   by_cases db:j<qs.length
   ·have da:(j:Int)<(qs.length:Int):=by omega
    obtain ⟨q,aH⟩:∃q,qs[j]? =some q:=⟨_,aG db⟩;have sa:=(ak be).cellsK (lR (ak ap) Y);obtain ⟨dy,dw,e1,c4⟩:=aZ sa.ln.row j q.1 (by rw [dU,aH];rfl);simp only [aI,cz] at e1;obtain ⟨rfl,rfl⟩:=e1;obtain ⟨dW,dX,br⟩:=ay (sa.grp (bx aH)).ln.row;obtain ⟨dY,cl⟩:∃n,n=q.2.length:=⟨_,rfl⟩;rw [<-cl] at br;have a6:=ai (Ii wr _ _ _ _ _ _ mb n j _ K cs hl qs q sa aC (ak aR) aH cA.u cB.u dj);rw [br] at c4 a6;have bz:=ai Y;clear Y aC aR br cl sa aA;gi_wp2_with fail;refine ⟨trivial,(qm l (hP.2 (ak a6))).mono ?_⟩;rintro e dS ⟨rfl,b3,dq,cK,cb,bY⟩;have ct:=ai (bz.u.trans b3);have cC:=ai cb;have cG:=ai bY;clear b3 cb bY a6 bz;gi_wp2;go_roundw
    case rel=>exact ⟨j+1,dq,cK,by go_num,aj,ct.u,cC.u,cG⟩
    case measure=>simp [intOf];omega
   have da:¬((j:Int)<(qs.length:Int)):=aj;have bD:=ai (show Run cs (eB gs) (cZ ts) (fun _=>0) K from by
    have:=(ak aR).run;rw [show j=qs.length by omega,ti,bC.u.1,bC.u.2] at this;exact this)
   have cT:=oR (by rw [<-a8.u];exact bV) (yk bD.u (fun s i _=>an) aq);have sa:=(ak be).cellsK (lR (ak ap) Y);have cx:=ai sa.cr;have aW:Below W.heap.size W wr:=(ak a7).trans (Y.below (B:=W.heap.size) (ak a7).size (fun g e=>aj));have cu:=ai aW;have cH:=ai (bF.u.blk.below aW);have cp:=ai (Y.blk (ak bw) (show ¬(w.heap.size+1=mb) by omega));have cF:=ai aC;have cE:=ai aA;have dd:=aC.lt;have dD:=aA.lt;have dl:=aW.size;clear Y aC aR sa aA aW c0 c1 c2 c9;gi_wp2_with fail;obtain ⟨bg,cR⟩:∃x,x=wr:=⟨_,rfl⟩;subst cR
   gi_loopw [37] (fun u al=>∃(i:Nat)(R:ag),u=.int .i64 i/\i<=D/\bI (fun k=>k=w.heap.size+1+1+1) bg al/\aB al (w.heap.size+1+1+1) #[R] 119/\al.ownsRow bg.heap.size 98 2 R (eP (K aq) cs i).length ((eP (K aq) cs i).flatMap Uh)) (fun u _=>D-(intOf u).toNat)
   case atStart=>exact ⟨0,_,rfl,aj,bI.refl _ _,cH.u,bN⟩
   case round=>
    obtain ⟨i,R,rfl,hi,U,ac,aN⟩:=hrel;obtain ⟨bt,bu,rfl⟩:=ay aN
    by_cases c8:i<D
    ·have c7:(i:Int)<(D:Int):=by omega
     obtain ⟨x,aO⟩:∃x,cs[i]? =some x:=⟨_,aG (by rw [<-a8.u];exact c8)⟩;obtain ⟨g',a5,bk,e1,_,_,b5⟩:=cx.u.but U (show ¬(g=w.heap.size+1+1+1) by omega) D;simp only [aI,aK,cw,gL] at e1;obtain ⟨⟨rfl,rfl⟩,dh,di⟩:=e1;clear dh di;obtain ⟨y0,y1⟩:=b5 i x aO;simp only [Nat.zero_add] at y0 y1;have ax:=(aw wr.heap.size wr).alloc az (df x.kind x.id);obtain ⟨dT,dV,dt⟩:=three ((U.blk cE.u aj).below ax);obtain ⟨a0,a1,a2⟩:=three ((U.blk cp.u aj).below ax);have cm:pP (wr.alloc (df x.kind x.id)).drew mb n K:=cF.u.block ((ax.block mb (by have:=U.size;omega)).trans (U.block mb dd aj));have bA:=ai U;have aQ:=ai ac;have aT:=ai aN;have dr:wr.cell? ⟨w.heap.size+1+1+1,0,none⟩=some (.slice bt (eP (K aq) cs i).length bu):=ac.cell rfl;have dN:=ac.fz;have dJ:=ac.lt;have dL:=U.size;clear b5 U ac aN;gi_wp2_with fail;refine pk (S:=fun w'=>w'.cell? ⟨mb+1,2,none⟩=some (.map (some mb))/\w'.cell? ⟨w.heap.size+1,0,none⟩=some (.string aq.kind)/\w'.cell? ⟨w.heap.size+1,1,none⟩=some (.string aq.id)/\w'.cell? ⟨w.heap.size+1,2,none⟩=some (.string aq.rel)/\pP w' mb n K) au au ⟨dt,a0,a1,a2,cm⟩ (fun hH=> ?_);refine bS (i:=0) (v:= ?v0) rfl au au au (fun _ _ _ I=>by cases I.1) (Or.inl ⟨aS,?y0⟩) hH ?r0
     case y0=>
      intro w' O;obtain ⟨f0,f1,f2,f3,f4⟩:=O;have J:=f4.look V;unfold uW at J
      try dsimp only at J
      go_simp
      all_goals with_reducible rfl
     try simp only [Act.put,List.getElem_toArray,List.getElem_cons_zero,List.getElem_cons_succ,fL,List.set_cons_zero,List.set_cons_succ]
     refine bS (i:=1) (v:= ?v1) rfl au au au (fun _ _ _ I=>by cases I.1) (Or.inl ⟨aS,?y1⟩) hH ?r1
     case y1=>
      intro w' O;obtain ⟨f0,f1,f2,f3,f4⟩:=O;have J:=f4.look V;unfold uW at J
      try dsimp only at J
      go_simp
      all_goals with_reducible rfl
     try simp only [Act.put,List.getElem_toArray,List.getElem_cons_zero,List.getElem_cons_succ,fL,List.set_cons_zero,List.set_cons_succ]
     refine bS (i:=2) (v:= ?v2) rfl au au au (fun _ _ _ I=>by cases I.1) (Or.inl ⟨aS,?y2⟩) hH ?r2
     case y2=>
      intro w' O;obtain ⟨f0,f1,f2,f3,f4⟩:=O;have J:=f4.look V;unfold uW at J
      try dsimp only at J
      go_simp
      all_goals with_reducible rfl
     try simp only [Act.put,List.getElem_toArray,List.getElem_cons_zero,List.getElem_cons_succ,fL,List.set_cons_zero,List.set_cons_succ]
     refine bS (i:=3) (v:= ?v3) rfl au au au (fun _ _ _ I=>by cases I.1) (Or.inl ⟨aS,?y3⟩) hH ?r3
     case y3=>
      intro w' O;obtain ⟨f0,f1,f2,f3,f4⟩:=O;have J:=f4.look V;unfold uW at J
      try dsimp only at J
      go_simp
      all_goals with_reducible rfl
     try simp only [Act.put,List.getElem_toArray,List.getElem_cons_zero,List.getElem_cons_succ,fL,List.set_cons_zero,List.set_cons_succ]
     refine bS (i:=4) (v:= ?v4) rfl au au au (fun _ _ _ I=>by cases I.1) (Or.inl ⟨aS,?y4⟩) hH ?r4
     case y4=>
      intro w' O;obtain ⟨f0,f1,f2,f3,f4⟩:=O;have J:=f4.look V;unfold uW at J
      try dsimp only at J
      go_simp
      all_goals with_reducible rfl
     try simp only [Act.put,List.getElem_toArray,List.getElem_cons_zero,List.getElem_cons_succ,fL,List.set_cons_zero,List.set_cons_succ]
     refine bS (i:=5) (v:= ?v5) rfl au au au (fun _ _ _ I=>by cases I.1) (Or.inl ⟨aS,?y5⟩) hH ?r5
     case y5=>
      intro w' O;obtain ⟨f0,f1,f2,f3,f4⟩:=O;have J:=f4.look V;unfold uW at J
      try dsimp only at J
      go_simp
      all_goals with_reducible rfl
     try simp only [Act.put,List.getElem_toArray,List.getElem_cons_zero,List.getElem_cons_succ,fL,List.set_cons_zero,List.set_cons_succ]
     refine bS (i:=6) (v:= ?v6) rfl au au au (fun _ _ _ I=>by cases I.1) (Or.inl ⟨aS,?y6⟩) hH ?r6
     case y6=>
      intro w' O;obtain ⟨f0,f1,f2,f3,f4⟩:=O;have J:=f4.look V;unfold uW at J
      try dsimp only at J
      go_simp
      all_goals with_reducible rfl
     try simp only [Act.put,List.getElem_toArray,List.getElem_cons_zero,List.getElem_cons_succ,fL,List.set_cons_zero,List.set_cons_succ]
     refine bS (i:=7) (v:= ?v7) rfl au au au (fun _ _ _ I=>by cases I.1) (Or.inl ⟨aS,?y7⟩) hH ?r7
     case y7=>
      intro w' O;obtain ⟨f0,f1,f2,f3,f4⟩:=O;have J:=f4.look V;unfold uW at J
      try dsimp only at J
      go_simp
      all_goals with_reducible rfl
     try simp only [Act.put,List.getElem_toArray,List.getElem_cons_zero,List.getElem_cons_succ,fL,List.set_cons_zero,List.set_cons_succ]
     refine wpAnyH_done au ?_ _;refine ⟨rfl,?_⟩;have b4:=Pd cT (show i<64 by omega);have bd:=ax.drew;have t9:(wr.alloc (df x.kind x.id)).drew.cell? ⟨w.heap.size+1+1+1,0,none⟩=some (.slice bt (eP (K aq) cs i).length bu):=am dr bd;have t8:=(aQ.u.below bd).fz;have bs:=(aB.new wr #[.string x.kind,.string x.id] 98).drew;have dO:(wr.alloc (df x.kind x.id)).drew.cell? ⟨wr.heap.size,0,none⟩=some (.string x.kind):=bs.cell rfl;have dP:(wr.alloc (df x.kind x.id)).drew.cell? ⟨wr.heap.size,1,none⟩=some (.string x.id):=bs.cell rfl;have dH:=wF (K aq) cs i;clear hH cm ax bs
     cases ah:(K aq).testBit i with
     |true=>
      rw [ah] at b4;have bc:=ai (wE aO ah);clear ah aO;gi_wp2_with (gi_at_builtin;go_must (refine j8 rfl _ _ 119 rfl bg.heap.size 98 i0 _ 2 32 underlying119 c6 dm dn dp rfl ar (.slice bt (eP (K aq) cs i).length bu) (eP (K aq) cs i).length ((eP (K aq) cs i).flatMap Uh) rfl ?hown ⟨wr.heap.size+1,0,none⟩ 1 1 [.string x.kind,.string x.id] rfl rfl ?hnews ?hone ar ?h63 ?hbytes ?hbase (wr.heap.size+1+1) ?hH ?hrest))
      case hown=>exact (aE aT.u bd).alloc _
      case hnews=>exact bE (B:=wr.heap.size+1) (cs:=#[.string x.kind,.string x.id]) (t:=98) (fr:=(0,0)) (aB.new' _ _ _ _ an)
      case hone=>
       intro u ck;simp at ck
       rcases ck with rfl|rfl<;>rfl
      case h63=>unfold maxLen;omega
      case hbytes=>omega
      case hbase=>simp;omega
      case hH=>simp
      case hrest=>
       intro dx dv ds cf bq cV dB;have bb:=ai (Su bA.u aQ.u aT.u bq cf);have bi:=bd.alloc bd.size (df x.kind x.id);have aU:=aQ.u.below bi;have bf:aB ds (w.heap.size+1+1+1) _ 119:=(bq.block _ aU.lt (own_ne (aE aT.u bi) aU ar)).trans aU;have dR:=bf.cell (o:=0) rfl;have dQ:=bf.fz;clear cf bq cV bi aU bf;gi_wp2;go_roundw
       case rel=>exact ⟨i+1,_,by go_num,aj,bb.u.1,bb.u.2.1,by
        have:=bb.u.2.2;rw [bc.u,bo,cX];exact this⟩
       case measure=>simp [intOf];omega
     |false=>
      rw [ah] at b4;have bc:=ai (Bg aO ah);clear ah aO;gi_wp2;go_roundw
      case rel=>exact ⟨i+1,_,by go_num,aj,bA.u.trans (.of_below bd),aQ.u.below bd,by
       rw [bc.u];exact aE aT.u bd⟩
      case measure=>simp [intOf];omega
    have c7:¬((i:Int)<(D:Int)):=aj;have b9:i=cs.length:=by have:=a8.u;omega
    have cy:=ai (show KeepsFrom (w.heap.size+6) W wr/\Nx (w.heap.size+1+1+1+1) (w.heap.size+1+1+1+1+1) W wr/\∃R,TN ts gs cs aq (w.heap.size+1+1+1) W0 [x] wr R from by
     have aP:bI (fun k=>k=w.heap.size+1+1+1) W wr:=(bI.of_below cu.u).trans U;have st:=bF.u;refine ⟨Ij aP st.blk,⟨aP.size,aP.block _ aj aj,aP.block _ aj aj⟩,_,⟨st.but.trans aP,ac,(fun e=>by simp at e),fun _=>⟨K,bD.u,?_⟩⟩⟩;rw [<-b9];exact aX aN (aL cS dl))
    clear U ac aN b9;gi_wp2;exact cy.u
 case done=>
  rintro bv co W bW rfl ⟨R,Q⟩ af;obtain ⟨K,cj,hown⟩:=Q.all an;obtain ⟨sa,sc,rfl⟩:=ay hown;have dM:=Q.blk.cell (o:=0) rfl;have cq:=ai (ae.trans (Q.but.below (B:=w.heap.size) ae.size (fun g e=>aj)));have bB:=ai (And.intro cj hown);clear Q cj hown;gi_wp2;refine ⟨an,.inl ⟨_,_,rfl,run_takeDeferred af,?_⟩⟩;refine ⟨.slice sa (eP (K aq) cs cs.length).length sc,?_,_,K,rfl,cq.u.trans (belowK_b (w:=w) az W bv _ _ (aL ae.size bW) af rfl rfl),bB.u.1,?_⟩
  ·simp [results,Tryz.f58,go_sem]
  exact aX (ownsRow_putObj bB.u.2 _ af rfl) ae.size
 case stop=>
  rintro bv bU pre W bW dI a3 af;exact a3.elim
end
structure Sh where
 k:Nat
 n:ae
 m:ae
 l:Option Sh
 r:Option Sh
def DN:Sh:=⟨0,⟨#[]⟩,⟨#[]⟩,none,none⟩
def QI(n:ae):Sh:=⟨1,n,⟨#[]⟩,none,none⟩
def QJ(n m:ae):Sh:=⟨2,n,m,none,none⟩
def Bi(x y:Sh):Sh:=⟨3,⟨#[]⟩,⟨#[]⟩,some x,some y⟩
def MF(x y:Sh):Sh:=⟨4,⟨#[]⟩,⟨#[]⟩,some x,some y⟩
def MG(x y:Sh):Sh:=⟨5,⟨#[]⟩,⟨#[]⟩,some x,some y⟩
def MH:Ex->Sh
 |⟨n,some x,some y⟩=>if n.kind=3 then Bi (MH x) (MH y) else if n.kind=4 then MF (MH x) (MH y) else MG (MH x) (MH y)
 |⟨n,none,_⟩=>if n.kind=0 then DN else if n.kind=1 then QI n.n1 else QJ n.n1 n.n2
 |⟨_,some _,none⟩=>DN
def iS(kb:Sj->Bool)(who:Tg)(kd id:ae)(ts:List Tu)(rel:ae):Sh->Bool
 |⟨k,_,_,some x,some y⟩=>if k=3 then iS kb who kd id ts rel x||iS kb who kd id ts rel y else if k=4 then iS kb who kd id ts rel x&&iS kb who kd id ts rel y else iS kb who kd id ts rel x&& !iS kb who kd id ts rel y
 |⟨k,n,m,none,_⟩=>if k=0 then ts.any (fun t=>decide (t.rel=rel)&&oQ kb who (gx t)) else if k=1 then kb ⟨kd,id,n⟩ else ts.any (fun t=>decide (t.rel=n)&&DF kb (gx t) m)
 |⟨_,_,_,some _,none⟩=>false
theorem nG(kb who kd id ts rel):∀e,A1 e->cH kb who kd id ts rel e=iS kb who kd id ts rel (MH e)
 |⟨n,some x,some y⟩,h=>by
  have A:=nG kb who kd id ts rel x h.1;have C:=nG kb who kd id ts rel y h.2;rw [cH,MH,A,C]
  split
  ·simp [Bi,iS]
  split
  ·simp [MF,iS]
  simp [MG,iS]
 |⟨n,none,r⟩,_=>by
  rw [cH,MH]
  split
  ·simp [DN,iS]
  split
  ·simp [QI,iS]
  simp [QJ,iS]
 |⟨n,some x,none⟩,h=>h.elim
section
variable {kd id:ae}{ts:List Tu}{rel:ae}{s:Sj}
end
structure R3 where
 kd:ae
 nm:ae
 sh:Sh
def l8(x:TR):R3:=⟨x.1.name,x.2.name,MH x.2.body⟩
def lS(g:List R3)(hs:List Hp)(s:Sj):Prop:=∃x∈g,∃h∈hs,h.kd=x.kd/\s=⟨h.kd,h.id,x.nm⟩
def BClo(who:Tg)(hs:List Hp)(g:List R3)(kb:Sj->Bool):Prop:=∀x∈g,∀h∈hs,h.kd=x.kd->iS kb who h.kd h.id h.ts x.nm x.sh=true->kb ⟨h.kd,h.id,x.nm⟩=true
structure Pe(who:Tg)(hs:List Hp)(g:List R3)(k0 kb:Sj->Bool):Prop where
 old:∀s,¬lS g hs s->kb s=k0 s
 fix:∀x∈g,∀h∈hs,h.kd=x.kd->iS kb who h.kd h.id h.ts x.nm x.sh=kb ⟨h.kd,h.id,x.nm⟩
 least:∀k',(∀s,¬lS g hs s->k' s=k0 s)->BClo who hs g k'->∀s,kb s=true->k' s=true
def nL(who:Tg)(hs:List Hp):List (List R3)->(Sj->Bool)->(Sj->Bool)->Prop
 | [],k,k'=>k'=k
 |g::gs,k,k'=>∃k1,Pe who hs g k k1/\nL who hs gs k1 k'
variable {hs:List Hp}
theorem uE{g s}:lS (g.map l8) hs s↔DJ g hs s:=by
 constructor
 ·rintro ⟨x,I,A,C,e1,h⟩;obtain ⟨p,D,rfl⟩:=aY.1 I;exact ⟨p,D,A,C,e1,h⟩
 rintro ⟨p,D,A,C,e1,h⟩;exact ⟨_,aY.2 ⟨p,D,rfl⟩,A,C,e1,h⟩
def yp(K:Sj->Nat)(i:Nat)(k:Sj->Bool):Sj->Nat:=fun s=>if (K s).testBit i=k s then K s else K s ^^^ 2 ^ i
theorem pH(K i k s j):(yp K i k s).testBit j=if j=i then k s else (K s).testBit j:=by
 unfold yp
 by_cases h:(K s).testBit i=k s
 ·rw [if_pos h]
  split
  ·rename_i e;rw [e,h]
  rfl
 rw [if_neg h,Nat.testBit_xor]
 split
 ·rename_i e;subst e;rw [DD]
  revert h
  cases (K s).testBit j<;>cases k s<;>simp
 rename_i e;rw [DE (fun e'=>e e'.symm)];simp
theorem sol_b{cs g K0 K}(D:UE cs hs g K0 K)(ac:cs.length<=64)(ab:cs[i]? =some who)(ah:∀x∈g,A1 x.2.body):Pe who hs (g.map l8) (fun s=>(K0 s).testBit i) (fun s=>(K s).testBit i):=by
 have hi:i<cs.length:=(be.1 ab).1;have Y:∀(K:Sj->Nat),(∀s,nK cs.length (K s))->∀x∈g,∀y:Hp,∀j w',cs[j]? =some w'->(rX K cs x y).testBit j=iS (fun s=>(K s).testBit j) w' y.kd y.id y.ts x.2.name (MH x.2.body):=fun K ho x I y j w' O=>by
  unfold rX;rw [m2 ⟨K,cs,y.kd,y.id,y.ts⟩ (fun s=>oR ac (ho s)) ac O,nG _ _ _ _ _ _ _ (ah x I)]
 refine ⟨fun s R=>congrArg (fun n=>Nat.testBit n i) (D.old s (fun e=>R (uE.2 e))),fun x I y U e=> ?_,fun J ai af s ag=> ?_⟩
 ·obtain ⟨p,ae,rfl⟩:=aY.1 I;have:=D.fix p ae y U e;have Q:=Y K D.out p ae y i who ab;rw [this] at Q;exact Q.symm
 have Z:∀s,nK cs.length (yp K i J s):=fun s j C=>by
  rw [pH,if_neg aj];exact D.out s j C
 have:=D.least (yp K i J) Z (fun s R=> ?_) (fun x I y U e j C=> ?_) s i ag
 ·rw [pH,if_pos rfl] at this;exact this
 ·unfold yp;have e1:=ai s (fun e=>R (uE.1 e));have Q:=D.old s R;rw [if_pos (by rw [e1,Q]),Q]
 rw [pH]
 by_cases ad:j<cs.length
 ·have O:cs[j]? =some cs[j]:=aG ad;rw [Y _ Z x I y j _ O] at C
  by_cases e':j=i
  ·subst e';rw [if_pos rfl];rw [ab] at O;obtain rfl:=gu O;have V:(fun s=>(yp K j J s).testBit j)=J:=by
    funext s
    rw [pH,if_pos rfl]
   rw [V] at C;exact af (l8 x) (aY.2 ⟨x,I,rfl⟩) y U e C
  rw [if_neg e'];have V:(fun s=>(yp K i J s).testBit j)=fun s=>(K s).testBit j:=by
   funext s
   rw [pH,if_neg e']
  rw [V,<-Y K D.out x I y j _ O,D.fix x I y U e] at C;exact C
 have:(rX (yp K i J) cs x y).testBit j=false:=kW ⟨yp K i J,cs,y.kd,y.id,y.ts⟩ Z _ _ j (by simpa using ad);rw [this] at C
 cases C
theorem QK{cs hs i who}(A:cs.length<=64)(C:cs[i]? =some who):∀{gs:List (List TR)} {K0 K:Sj->Nat},(∀g∈gs,∀x∈g,A1 x.2.body)->Run cs hs gs K0 K->nL who hs (gs.map (List.map l8)) (fun s=>(K0 s).testBit i) (fun s=>(K s).testBit i)
 | [],K0,K,_,h=>by rw [show K=K0 from h];rfl
 |g::gs,K0,K,hwf,⟨K1,h1,h2⟩=>⟨_,sol_b h1 A C (hwf g hV),QK A C (fun g' D=>hwf g' (gM _ D)) h2⟩
theorem uF{who:Tg}{hs:List Hp}:∀{gs gs':List (List R3)} {k b:Sj->Bool},nL who hs (gs++gs') k b->∃a,nL who hs gs k a/\nL who hs gs' a b
 | [],gs',k,b,h=>⟨k,rfl,h⟩
 |g::gs,gs',k,b,⟨k1,h1,h2⟩=>by
  obtain ⟨a,A,C⟩:=uF h2;exact ⟨a,⟨k1,h1,A⟩,C⟩
theorem pI{who:Tg}{hs:List Hp}:∀{gs:List (List R3)} {k a:Sj->Bool},nL who hs gs k a->∀s,(∀g∈gs,¬lS g hs s)->a s=k s
 | [],k,a,h,s,_=>by rw [show a=k from h]
 |g::gs,k,a,⟨k1,h1,h2⟩,s,hn=>by
  rw [pI h2 s (fun g' A=>hn g' (gM _ A)),h1.old s (hn g hV)]
def nb(c:UInt8):ae:=⟨#[c]⟩
