import Derived.Test.YtlbpnlngckgcbaaGreatDoorM30
import Derived.Test.YtlbpnlngckgcbaaGreatDoorM29
import Derived.Test.YtlbpnlngckgcbaaGreatDoorM28
import Derived.Deep.Slices
import Derived.Lib.LaidTab
import Derived.DataShut
import Derived.OpenShut
import Derived.LaidMore
import Derived.LaidSub
set_option linter.all false
set_option maxHeartbeats 4000000
set_option maxRecDepth 100000
namespace Go.Proofs.YtlbpnlngckgcbaaGreatDoor
open Go.RowKit Go.PlainAid Go.Proofs.Tryz
section
variable {aA aU:Prop} {α:Type}
def SI (h:aA:=by
 obtain ⟨m,a,b,h1,h2⟩:=hx h;exact ⟨m,a,b,up _ (.inl h1),h2⟩):aA:=h
def oC{α:Type}:∀(l m:List α),l.Nodup->(∀x∈l,x∈m)->l.length<=m.length
 | [],m,_,_=>ar
 |x::l,m,h,hs=>by
  rw [List.nodup_cons] at h;obtain ⟨a,b,rfl⟩:=uP (hs x eb);have:=oC l (a++b) h.2 (fun y A=>by
   have:=hs y (eO _ A);rw [aQ,bi] at this;rw [aQ]
   rcases this with h1|rfl|h1
   ·exact .inl h1
   ·exact absurd A h.1
   exact .inr h1)
  simp only [aZ,List.length_cons] at this ⊢;omega
def im(nd):∀(k:Nat)(q f:List Sp),f.Nodup->(dQ nd k q f).Nodup
 |0,_,f,h=>h
 |k+1,[],f,h=>h
 |k+1,x::q,f,h=>by
  rw [dQ]
  split
  ·exact im nd k q f h
  rename_i C;refine im nd k _ _ ?_;rw [sf];refine ⟨h,ar,fun a ha b A e=> ?_⟩;rw [aR] at A;subst A;subst e;exact C ((GO f a).2 ha)
def Es(ts:List Ty)(s:Sp):Nat:=(cL ts [s]).length
def Br{nd:α->List α}{S T:List α}(h:∀x∈S,Ba nd T x){y:α}(k:Ba nd S y):Ba nd T y:=by
 induction k using Ba.ind with
 |base hx=>exact h _ hx
 |step _ hy ih=>exact .step ih hy
section
variable {ts:List Ty}{x y:Sp}
def ZA(h:Ba (aX ts) [x] y):Es ts y<=Es ts x:=
 oC _ _ (im _ _ _ _ ar) (fun z A=>by
  rw [e8] at A ⊢;exact Br (fun a ha=>by rw [aR] at ha;subst ha;exact h) A)
def ZB(h:Ba (aX ts) [x] y)(C:¬Ba (aX ts) [y] x):Es ts y<Es ts x:=by
 have:=oC (x::cL ts [y]) (cL ts [x]) (by
  rw [List.nodup_cons];exact ⟨fun e=>C ((e8 _ _ _).1 e),im _ _ _ _ ar⟩) (fun z A=>by
  rw [e8]
  rcases bi.1 A with rfl|A
  ·exact .bz ar
  rw [e8] at A;exact Br (fun a ha=>by rw [aR] at ha;subst ha;exact h) A)
 exact this
def JT:0<Es ts x:=by
 have:x∈cL ts [x]:=(e8 _ _ _).2 (.bz ar);exact List.length_pos_of_mem this
end
def xI:Ex->List Ex
 |⟨n,some x,some y⟩=>if n.kind=3\/n.kind=4 then xI x++xI y else xI x++aJ y
 |_=>[]
def Bs:∀(e p:Ex),p∈xI e->∃n x y,(⟨n,some x,some y⟩:Ex)∈aC e/\¬(n.kind=3\/n.kind=4)/\p∈aJ y
 |⟨n,some x,some y⟩,p,h=>by
  have hx:=Bs x p;have D:=Bs y p;unfold xI at h;have up:∀q,q∈aC x\/q∈aC y->q∈aC ⟨n,some x,some y⟩:=fun q A=>by
   simp only [aC,aQ,aR]
   rcases A with A|A
   ·exact .inl (.inl A)
   exact .inr A
  split at h
  ·rcases aQ.1 h with h|h
   ·exact SI
   obtain ⟨m,a,b,h1,h2⟩:=D h;exact ⟨m,a,b,up _ (.inr h1),h2⟩
  rename_i C
  rcases aQ.1 h with h|h
  ·exact SI
  exact ⟨n,x,y,by simp [aC],C,h⟩
 |⟨n,none,r⟩,p,h=>by simp [xI] at h
 |⟨n,some x,none⟩,p,h=>by simp [xI] at h
def sI:∀(e q p:Ex),q∈aC e->p∈aJ q->p∈aJ e
 |⟨n,some x,some y⟩,q,p,h,hp=>by
  simp only [aC,aQ,aR] at h;simp only [aJ,aQ]
  rcases h with (h|rfl)|h
  ·exact .inl (sI x q p h hp)
  ·simpa [aJ] using hp
  exact .inr (sI y q p h hp)
 |⟨n,none,r⟩,q,p,h,hp=>by
  simp only [aC,aR] at h;subst h;exact hp
 |⟨n,some x,none⟩,q,p,h,hp=>by simp [aC] at h
structure ZC(ts:List Ty):Prop where
 fnd:∀t∈ts,bW ts t.name=some t
 fnr:∀t∈ts,∀r∈t.rels,bT t r.name=some r
 loops:∀t∈ts,∀r∈t.rels,jr ts t r=none
 less:∀t∈ts,∀r∈t.rels,∀p∈aC r.body,p.l.isSome=true->¬(p.nd.kind=3\/p.nd.kind=4)->gy p.nd.kind=246
section
variable {ts:List Ty}{t:Ty}{r:Rl}{e:Ex}{d:Sp}
def ZC.need(h:ZC ts)(A:t∈ts)(C:r∈t.rels):aX ts (t.name,r.name)=dd ts t r r.body:=by
 unfold aX;simp only [h.fnd t A,h.fnr t A r C]
def ZC.rkp(h:ZC ts)(I:t∈ts)(D:r∈t.rels)(C:e∈aJ r.body)(A:d∈dJ ts t r e):Es ts d<=Es ts (t.name,r.name):=
 ZA (.step (.bz (aR.2 rfl)) (by rw [h.need I D,eE];exact ⟨e,C,A⟩))
def ZC.rkn(h:ZC ts)(I:t∈ts)(D:r∈t.rels)(R:e∈xI r.body)(J:d∈dJ ts t r e):Es ts d<Es ts (t.name,r.name):=by
 obtain ⟨n,x,y,C,U,hl⟩:=Bs _ _ R;have V:e∈aJ r.body:=sI _ _ _ C (by simp only [aJ,aQ];exact .inr hl);have A:lF ts t r ⟨n,some x,some y⟩=none:=(j7.1 (h.loops t I r D)) _ C;have Q:=h.less t I r D _ C rfl U;unfold lF at A;simp only at A Q;rw [if_pos Q] at A;have hn:¬hU ts (dd ts t r y) (t.name,r.name)=true:=fun e=>by
  rw [if_pos e] at A
  cases A
 rw [wg] at hn;refine ZB (.step (.bz (aR.2 rfl)) (by rw [h.need I D,eE];exact ⟨e,V,J⟩)) (fun k=>hn ?_);exact Br (fun a ha=>by rw [aR] at ha;subst ha;exact .bz ((eE _ _ _ _ _).2 ⟨e,hl,J⟩)) k
end
end
structure PuR(ts:List Ty)(gs:List Tu):Prop where
 few:gs.length<=1000
 low:∀t∈gs,t.kind.size<=maxLen/\t.id.size<=maxLen/\nX (fb t)
 ln:∀g∈cZ ts,∀x∈g,LnR x
 ok:Me (cZ ts) (dG gs)
 sum:((cZ ts).map List.length).sum<=1000000
def tL(t:Tu):List Tg:=[⟨t.kind,t.id⟩,⟨t.sub,t.who⟩]
def je(t:Ty):Tg:=⟨t.name,⟨#[42]⟩⟩
def bP(ts:List Ty)(gs:List Tu):List Tg:=ts.map je++gs.flatMap tL
def JS(gs:List Tu):(gs.flatMap tL).length=gs.length*2:=by
 induction gs with
 |nil=>rfl
 |cons t gs ih=>rw [cq,aZ,ih];simp [tL];omega
def SF(ts:List Ty)(gs:List Tu)(w:af)(e:Ending)(w':af):Prop:=∃cv,e=.returned cv/\an w w'/\w'.ownsRow w.heap.size 98 2 cv (bP ts gs).length ((bP ts gs).flatMap xH)
def Mp(x:Nat)(mv lv gv:ag)(ts:List Ty)(gs:List Tu)(w:af)(h:UQ w x mv lv gv ts gs):
  Calls prog 65 #[.pointer (some ⟨x,0,none⟩)] w (SF ts gs w):=by
 obtain ⟨bm,tl,hM⟩:=h.m;obtain ⟨bE,mn,mc,rfl⟩:=hM.form;obtain ⟨ga,gc,rfl⟩:=ax h.p.row;obtain ⟨i0,aS,aW,aX,aY⟩:=bK Tryz.infoTh;have bk:mn=tl.length:=by
  exact Pa
 have aR:=hM.fst;have bA:tl.length<=1000:=by have:=hM.llen;simpa using this
 have bv:=h.p.most;obtain ⟨c0,c1,c2⟩:=three h.p.blk;subst bk;have aQ:=ai h.p;have aN:=ai hM;have aL:=ai aR;clear h hM aR;go_enter func65,ntmps65;go_wp2_with fail
 go_loopw [3,14] (fun aJ aG wr=>∃k:Nat,aG=.int .i64 k/\k<=tl.length/\an w wr/\wr.ownsRow w.heap.size 98 2 aJ k (((tl.take k).map fun p=>je p.1).flatMap xH)) (fun _ aG _=>tl.length-(intOf aG).toNat)
 case atStart=>exact ⟨0,rfl,aj,az _ _,bL⟩
 case round=>
  obtain ⟨k,rfl,ah,C,D⟩:=hrel;obtain ⟨ac,ad,rfl⟩:=ax D;have a7:=ai C;have aO:=ai D;have bo:=C.size
  by_cases av:k<tl.length
  ·have bj:(k:Int)<(tl.length:Int):=by omega
   obtain ⟨g,be,e1,k0,k1,aF⟩:=(aN.u.below C).row.cell k (by simpa using av);simp only [aI] at e1;obtain ⟨rfl,bp,rfl⟩:=e1;clear bp;simp only [List.getElem_map,t3] at k0 k1 aF;obtain ⟨rl,ay⟩:=(aN.u.below C).rels tl[k] (bn av);have R:=ai (by rw [cJ av,cO,cT,cA,po,cq,mq,eh]:((tl.take (k+1)).map fun p=>je p.1).flatMap xH=((tl.take k).map fun p=>je p.1).flatMap xH++xH (je tl[k].1));generalize tl[k]=p at*;obtain ⟨t,tv⟩:=p;simp only at k0 k1 aF ay;obtain ⟨bq,bs,br,rfl⟩:=ay.form;have ba:=(az wr.heap.size wr).alloc aD (bD t.place t.name bq bs br);have I:=ai (aB D ba);have Q:=ai (C.trans (ba.mono bo));obtain ⟨L,V⟩:∃L,L=((tl.take k).map fun p=>je p.1).flatMap xH:=⟨_,rfl⟩;rw [<-V] at I R;clear C D ay ba V aO;go_wp2_with (at_builtin;go_must (refine bI _ rfl _ _ 119 rfl w.heap.size 98 i0 _ 2 32 underlying119 aS aW aX aY rfl au (.slice ac k ad) k L rfl ?hown ⟨wr.heap.size+1,0,none⟩ 1 1 [.string t.name,.string ⟨#[42]⟩] rfl rfl ?hnews ?hone au ?h63 ?hbytes ?hbase (wr.heap.size+1+1) ?hH ?hrest))
   try (case hown=>exact (ak I).alloc _)
   try (case hnews=>exact bu (B:=wr.heap.size+1) (cs:=#[.string t.name,.string ⟨#[42]⟩]) (t:=98) (fr:=(0,0)) (aE.new' _ _ _ _ ar))
   try (case hone=>first|exact ⟨rfl,rfl⟩|(intro u ab;simp at ab;rcases ab with rfl|rfl<;>rfl))
   try (case h63=>first|omega|(unfold maxLen;omega))
   try (case hbytes=>omega)
   try (case hbase=>first|omega|(simp;omega))
   try (case hH=>simp)
   case hrest=>
    intro g5 aT w5 Z Y ap bh;have U:=(ak I).alloc (nA t.name);have al:=ai (ct (Q.u.alloc Q.u.size (nA t.name)) Y aM (fun k ah=>(U.lt k ah).1));have am:=ai Z;clear U Z Y ap;go_wp2;go_roundw
    case rel=>exact ⟨k+1,by go_num,aj,al.u,by rw [ak R];exact am.u⟩
    case measure=>simp [intOf];omega
  have bj:¬((k:Int)<(tl.length:Int)):=aj;have aP:=ai (show wr.ownsRow w.heap.size 98 2 (.slice ac k ad) (ts.map je).length ((ts.map je).flatMap xH) from by
   have e:ts.map je=(tl.take k).map fun p=>je p.1:=by
    rw [dy aj,<-aL.u,gq]
    rfl
   rw [e,bX,dO,show min k tl.length=k by omega];exact D)
  have aC:k=(ts.map je).length:=by rw [bX,<-aL.u,bX];omega
  obtain ⟨d0,d1,d2⟩:=three (aQ.u.below C).blk;have bz:k<=1000:=aj;have bb:=ai aC;rw [<-aC] at aP;clear D C aO c0 c1 c2 aC;go_wp2_with fail;obtain ⟨bt,bg⟩:∃x,x=wr:=⟨_,rfl⟩;subst bg
  go_loopw [3,31] (fun aJ aK a6=>∃j:Nat,aK=.int .i64 j/\j<=gs.length/\an w a6/\a6.ownsRow w.heap.size 98 2 aJ (k+j*2) ((ts.map je++(gs.take j).flatMap tL).flatMap xH)) (fun _ aK _=>gs.length-(intOf aK).toNat)
  case atStart=>exact ⟨0,rfl,aj,a7.u,by simpa using ak aP⟩
  case round=>
   obtain ⟨j,rfl,bw,C,D⟩:=hrel;obtain ⟨ac,ad,rfl⟩:=ax D;have bl:=C.size
   by_cases aV:j<gs.length
   ·have bi:(j:Int)<(gs.length:Int):=by omega
    obtain ⟨g,be,e1,J⟩:=bf jD 6 (fun _=>rfl) (aQ.u.below C).row j gs[j] (aH aV);simp only [aI,bU] at e1;obtain ⟨rfl,rfl⟩:=e1;have R:=ai (by rw [cJ aV];simp only [cT,cq,mq,eh,dc]:(ts.map je++(gs.take (j+1)).flatMap tL).flatMap xH=(ts.map je++(gs.take j).flatMap tL).flatMap xH++(tL gs[j]).flatMap xH);generalize gs[j]=t at*;have k0:wr.cell? ⟨g,j*6,none⟩=some (.string t.kind):=J 0 _ aj rfl;have k1:=J 1 _ aj rfl;have aF:=J 2 _ aj rfl;have k3:=J 3 _ aj rfl;have bB:=J 4 _ aj rfl;have bC:=J 5 _ aj rfl;refine Sr ?_;intro ba;have I:=ai (aB D ba);have Q:=ai (C.trans (ba.mono bl));clear C D J ba;obtain ⟨ae,aw⟩:∃n,n=k+j*2:=⟨_,rfl⟩;have bc:=ai aw;have bx:ae<=3000:=aj;obtain ⟨L,V⟩:∃L,L=(ts.map je++(gs.take j).flatMap tL).flatMap xH:=⟨_,rfl⟩;rw [<-V] at I R;clear V;rw [<-aw] at I ⊢;clear aw;go_wp2_with (at_builtin;go_must (refine bI _ rfl _ _ 119 rfl w.heap.size 98 i0 _ 2 32 underlying119 aS aW aX aY rfl au (.slice ac ae ad) ae L rfl ?hown2 ⟨wr.heap.size+1,0,none⟩ 2 2 [.string t.kind,.string t.id,.string t.sub,.string t.who] rfl rfl ?P3 ?P4 au ?YO ?AK ?Ge (wr.heap.size+1+1) ?hH2 ?Gf))
    try (case hown2=>exact (ak I).alloc _)
    try (case P3=>exact bu (B:=wr.heap.size+1) (cs:=#[.string t.kind,.string t.id,.string t.sub,.string t.who]) (t:=98) (fr:=(0,0)) (aE.new' _ _ _ _ ar))
    try (case P4=>first|exact ⟨rfl,rfl,rfl,rfl⟩|(intro u ab;simp at ab;rcases ab with rfl|rfl|rfl|rfl<;>rfl))
    try (case YO=>first|omega|(unfold maxLen;omega))
    try (case AK=>omega)
    try (case Ge=>first|omega|(simp;omega))
    try (case hH2=>simp)
    case Gf=>
     intro g5 aT w5 Z Y ap bh;have U:=(ak I).alloc (.cells #[.string t.kind,.string t.id,.string t.sub,.string t.who] 98);have al:=ai (ct (Q.u.alloc Q.u.size (.cells #[.string t.kind,.string t.id,.string t.sub,.string t.who] 98)) Y aM (fun k ah=>(U.lt k ah).1));have am:=ai (show w5.ownsRow w.heap.size 98 2 (.slice (some ⟨g5,0,none⟩) (ae+2) aT) (k+(j+1)*2) ((ts.map je++(gs.take (j+1)).flatMap tL).flatMap xH) from by
      rw [ak R,show k+(j+1)*2=ae+2 by rw [bc.u];omega];exact Z)
     clear U Z Y ap;go_wp2;go_roundw
     case rel=>exact ⟨j+1,by go_num,aj,al.u,am.u⟩
     case measure=>simp [intOf];omega
   have bi:¬((j:Int)<(gs.length:Int)):=aj;have a9:=ai (show wr.ownsRow w.heap.size 98 2 (.slice ac (k+j*2) ad) (bP ts gs).length ((bP ts gs).flatMap xH) from by
    rw [dy aj] at D;unfold bP;rw [aZ,JS,show gs.length=j by omega,<-bb.u];exact D)
   have a8:=ai C;clear D C;go_wp2;go_ret;exact ⟨_,rfl,a8.u,a9.u⟩
def qQ(t:Tg):ae:=(t.kind++sg 58)++t.id
def oK(X:Nat)(cs:List Tg):List ae:=ik (g9 ((dU X cs cs.length).map qQ))
def SH(ts:List Ty)(gs:List Tu)(aq:Sj)(w:af)(e:Ending)(w':af):Prop:=∃v K,e=.returned (.tuple #[v,.int .i64 0])/\an w w'/\Run (bP ts gs) (dG gs) (cZ ts) (fun _=>0) K/\w'.ownsRow w.heap.size 9 1 v (oK (K aq) (bP ts gs)).length (dF (oK (K aq) (bP ts gs)))
variable {base size n:Nat} {w:af} {T:TypeId} {v:ag} {xs:List ag}
def qR(h:w.ownsRow base T size v n xs)(R:0<n):∃g c,v=.slice (some ⟨g,0,none⟩) n c/\n<=c/\c<=maxLen:=by
 rcases h.2 with ⟨_,h0⟩|⟨g',A,C,e1,J,Q,h1,h2,D,I⟩
 ·omega
 exact ⟨g',A,e1,h1,h2⟩
variable {g c:Nat}
def cr_of{cs:List Tg}(h:w.ownsRow base 98 2 (.slice (some ⟨g,0,none⟩) cs.length c) cs.length (cs.flatMap xH))(C:cs.length<=64):BU w (.slice (some ⟨g,0,none⟩) cs.length c) cs:=by
 obtain ⟨J,A,_⟩:=dx h;refine ⟨g,0,c,rfl,A.lt,C,fun i x D=> ?_⟩;obtain ⟨g',I,e,hc⟩:=bf xH 2 (fun _=>rfl) h i x D;simp only [aI,aL,ce,fI,bU] at e;obtain ⟨rfl,rfl⟩:=e;simp only [pE];exact ⟨hc 0 _ aj rfl,hc 1 _ aj rfl⟩
def zx(X:Nat)(cs:List Tg):∀j,∀t∈dU X cs j,t∈cs
 |0,t,h=>by simp [dU] at h
 |j+1,t,h=>by
  rw [dU] at h
  rcases aQ.1 h with h|h
  ·exact zx X cs j t h
  cases hc:cs[j]? with
  |none=>rw [hc] at h;cases h
  |some u=>
   rw [hc] at h;dsimp only at h
   split at h
   ·rw [aR] at h;subst h;exact bA hc
   cases h
def Ep(w:af):Calls prog 67 #[.slice none 0 0] w fun e w'=>e=.returned (.slice none 0 0)/\w'=w:=by
 go_enter func67,ntmps67;go_wp2;go_ret;exact ⟨rfl,rfl⟩
def WhF(W w:af)(l:List ae)(v:ag):Prop:=an W w/\w.ownsRow W.heap.size 9 1 v l.length (dF l)
def Zz(x:Nat)(mv lv gv:ag)(ts:List Ty)(gs:List Tu)(w:af)(h:UQ w x mv lv gv ts gs)(Q:PuR ts gs)(th rel:ae)(hs:th.size<=1000)(b3:cg th=true)(cz:rel.size<=1000)(bZ:bz rel=true)(t:Ty)(bM:bW ts (aG th 58).1=some t)(r:Rl)(R:bT t rel=some r)
  (bH:0<(bP ts gs).length) (co:(bP ts gs).length<=64) (bJ:∀t∈bP ts gs,t.kind.size+t.id.size<=1000) (bS:mT w) (b5:1<w.heap.size):
  Calls prog 31 #[.pointer (some ⟨x,0,none⟩),.string th,.string rel] w (SH ts gs ⟨(aG th 58).1,(aG th 58).2.1,rel⟩ w):=by
 obtain ⟨bm,tl,bC⟩:=h.m;have cM:=eM th 58;have aw:=ai (Sy x bm mv lv gv ts gs tl w h.p bC th rel hs b3 gz bZ t bM r R bS b5);have ay:=ai (fun w' (k:an w w')=>Mp x mv lv gv ts gs w' (h.below k));obtain ⟨ga,gc,rfl⟩:=ax h.p.row;obtain ⟨qs,bR,_⟩:=h.l;obtain ⟨b9,cb,rfl⟩:=ax bR.row;obtain ⟨ln,bQ⟩:∃n,n=qs.length:=⟨_,rfl⟩;rw [<-bQ] at h;obtain ⟨bA,bN⟩:∃n,n=gs.length:=⟨_,rfl⟩;rw [<-bN] at h;have ap:=ai (fun w' g c (k:an w w') (cr:BU w' (.slice (some ⟨g,0,none⟩) (bP ts gs).length c) (bP ts gs)) (cp:(bP ts gs).length<=c) (aO:c<=maxLen)=>Mo b9 ga ln cb g (bP ts gs).length c bA gc w' ts gs (bP ts gs) ⟨(aG th 58).1,(aG th 58).2.1,rel⟩ ⟨AJ.below _ _ _ _ h.l k,cr,aB h.p.row k,Q.few,Q.low,⟨by unfold maxLen;show (aG th 58).1.size<=_;omega,by unfold maxLen;show (aG th 58).2.1.size<=_;omega,by unfold maxLen;show rel.size<=_;omega⟩,Q.ln,Q.ok,Q.sum⟩ bH cp aO);have H:=ai h.p;obtain ⟨i0,cu,cD,cE,cF⟩:=bK Tryz.infoStr;unfold SH;unfold SF at ay;unfold Sx at ap;generalize bP ts gs=cs at*;generalize aG th 58=X at*;obtain ⟨k,i,ok⟩:=X;simp only at aw ap ⊢;have cf:=ai bJ;clear bS b5 hs b3 cz bZ bM R bC h Q cM bQ bN bR bJ;go_enter func31,ntmps31;go_wp2_with fail;refine (ak aw).mono ?_;rintro e w1 ⟨rfl,aL⟩;have V:=ai (aL.alloc aL.size (cB k i rel));have br:=ai (aE.new w1 (rK k i rel) 102);clear aL aw;go_wp2_with fail;generalize (w1.alloc (cB k i rel))=W at*;have bs:=(H.u.below V.u).blk;obtain ⟨cG,aZ,a3⟩:=three bs;obtain ⟨aW,aX,aY⟩:=three br.u;have b8:=V.u.size;have bb:=ai (ak ay W.drew V.u.drew);clear bs ay
 go_region_held3 (fun w'=>w'.cell? ⟨x,1,none⟩=some (.slice b9 ln cb)/\w'.cell? ⟨x,2,none⟩=some (.slice ga bA gc)/\w'.cell? ⟨w1.heap.size,0,none⟩=some (.string k)/\w'.cell? ⟨w1.heap.size,1,none⟩=some (.string i)/\w'.cell? ⟨w1.heap.size,2,none⟩=some (.string rel)) (go_keep)
  (first
   |(have cI:=A;go_at_call 58;refine bc.u.mono ?_;rintro e cH ⟨cT,K,rfl,bD,b0,hown⟩;obtain ⟨pa,pc,rfl⟩:=ax hown;have D:=ai (A.u.trans (bD.mono A.u.size));have bk:=ai b0;have ci:=ai hown;have f0:=am aZ D.u;have f1:=am a3 D.u;have f2:=am aW D.u;have f3:=am aX D.u;have f4:=am aY D.u;clear bD hown b0 cI)
   |(go_at_call 65;refine bb.u.mono ?_;rintro e w3 ⟨cv,rfl,hb3,aS⟩;obtain ⟨g,c,rfl,cq,aO⟩:=qR aS bH;have A:=ai (show an W w3 from (az _ W).drew.trans hb3);have bc:=ai (ak ap w3 g c (V.u.trans (A.u.mono b8)) (cr_of aS co) cq aO);have d0:=am aZ A.u;have d1:=am a3 A.u;have d2:=am aW A.u;have d3:=am aX A.u;have d4:=am aY A.u;clear hb3 aS))
 have ch:=ai (fun t cC=>cf.u t (zx (K ⟨k,i,rel⟩) cs cs.length t cC));have cN:=oz (K ⟨k,i,rel⟩) cs cs.length;have Z:=ai (V.u.trans (D.u.mono b8));have bi:=ai (show oK (K ⟨k,i,rel⟩) cs=ik (g9 ((dU (K ⟨k,i,rel⟩) cs cs.length).map qQ)) from rfl);generalize dU (K ⟨k,i,rel⟩) cs cs.length=L at*;clear d0 d1 d2 d3 d4 f0 f1 f2 f3 f4 aW aX aY cG aZ a3 bb bc ap A D br;go_wp2_with fail;obtain ⟨I,cl⟩:∃x,x=cH:=⟨_,rfl⟩;subst cl
 go_loopw [10,36] (fun cd a4 wr=>∃j:Nat,a4=.int .i64 j/\j<=L.length/\an I wr/\wr.ownsRow I.heap.size 9 1 cd j (dF ((L.take j).map qQ))/\Hid (j=0->cd=.slice none 0 0)) (fun _ a4 _=>L.length-(intOf a4).toNat)
 case atStart=>exact ⟨0,rfl,aj,az _ _,bL,ai (fun _=>rfl)⟩
 case round=>
  obtain ⟨j,rfl,cS,J,U,bo⟩:=hrel;obtain ⟨a5,ad,rfl⟩:=ax U;have aV:=J.size
  by_cases aQ:j<L.length
  ·have cw:(j:Int)<(L.length:Int):=by omega
   obtain ⟨bw,c2,bt,aN⟩:=bf xH 2 (fun _=>rfl) (aB ci.u J) j L[j] (aH aQ);simp only [aI,bU] at bt;obtain ⟨rfl,rfl⟩:=bt;have b2:=ch.u L[j] (bn aQ);have bj:=ai (show dF ((L.take (j+1)).map qQ)=dF ((L.take j).map qQ)++[.string (qQ L[j])] from by rw [cJ aQ,dF,cO,cO];rfl);generalize L[j]=y at*;have cK:wr.cell? ⟨bw,j*2,none⟩=some (.string y.kind):=aN 0 _ aj rfl;have cL:wr.cell? ⟨bw,j*2+1,none⟩=some (.string y.id):=aN 1 _ aj rfl;have aK:=(az wr.heap.size wr).alloc aD (en y.kind y.id);have C:=ai (fun w'=>GX y.kind y.id w' b2);change Hid (∀w',Calls _ _ _ w' fun e w''=>e=.returned (.string (qQ y))/\_) at C;generalize qQ y=av at*;have B2:=ai (J.trans (aK.mono aV));have aJ:=ai (aB U aK);obtain ⟨aF,bB⟩:∃aF,aF=dF ((L.take j).map qQ):=⟨_,rfl⟩;rw [<-bB] at aJ bj;clear J U aN b2 aK bB bo;go_wp2_with fail;refine (ak C _).mono ?_;refine Ar ?_;intro a6 bE a9;have bq:=ai (aB (ak aJ) bE);have cA:=a9.u.size;clear bE C cK cL B2 aJ;go_wp2_with (at_builtin;go_must (refine bI _ rfl _ _ 22 rfl I.heap.size 9 i0 _ 1 16 underlying22 cu cD cE cF rfl au (.slice a5 j ad) j aF rfl ?hown ⟨a6.heap.size,0,none⟩ 1 1 [.string av] rfl rfl ?hnews ?hone au ?h63 ?hbytes ?hbase (a6.heap.size+1) ?hH ?hrest))
   try (case hown=>exact bq.u.alloc _)
   try (case hnews=>exact bu (B:=a6.heap.size) (cs:=#[.string av]) (t:=9) (fr:=(0,0)) (aE.new _ _ _))
   try (case hone=>first|rfl|(intro u b4;simp at b4;subst b4;rfl))
   try (case h63=>first|omega|(unfold maxLen;omega))
   try (case hbytes=>omega)
   try (case hbase=>first|omega|(simp;omega))
   try (case hH=>simp)
   case hrest=>
    intro g5 aT cU bV bO cm cR;have bp:=bq.u.alloc (dn av);have ce:=ai (ct (a9.u.alloc cA (dn av)) bO aM (fun k cx=>(bp.lt k cx).1));have ck:=ai bV;clear bp bV bO cm;go_wp2;go_roundw
    case rel=>exact ⟨j+1,by go_num,aj,ce.u,by rw [ak bj];exact ck.u,ai (fun e=>aj)⟩
    case measure=>simp [intOf];omega
  have cw:¬((j:Int)<(L.length:Int)):=aj;have aP:j=(L.map qQ).length:=by rw [bX];omega
  have aR:wr.ownsRow I.heap.size 9 1 (.slice a5 j ad) (L.map qQ).length (dF (L.map qQ)):=by
   rw [dy aj] at U;rw [<-aP];exact U
  have al:=ai (Rt I.heap.size (.slice a5 j ad) (L.map qQ) wr aR (by rw [bX];omega));have bl:=ai (sr (L.map qQ));have aC:=ai aR;have be:=ai J;have Y:=ai aP;clear U aR aP J;generalize L.map qQ=M at*;generalize g9 M=ar at*
  by_cases h0:j=0
  ·have b7:=ak bo h0;simp only [aI] at b7;obtain ⟨rfl,_,rfl⟩:=b7;subst h0;have cj:=ai (show ar=[] from jP (by rw [bl.u,<-Y.u]));go_wp2_with fail;refine al.u.mono ?_;rintro e a7 ⟨rfl,ac,ab⟩;have ah:=ai (be.u.trans (ab.below aV (fun q R=>by cases R)));clear ac ab al;go_wp2_with fail;refine (Ep a7).mono ?_;rintro e a8 ⟨rfl,b6⟩;rw [b6];clear b6 a8;go_wp2;go_ret2;exact ⟨_,K,rfl,Z.u.trans (ah.u.mono Z.u.size),bk.u,by rw [bi.u,cj.u];exact bL⟩
  obtain ⟨bx,c3,bv,cQ,cP⟩:=qR aC.u (by have:=Y.u;omega);simp only [aI] at bv;obtain ⟨rfl,cy,rfl⟩:=bv;clear cy;go_wp2_with fail;refine al.u.mono ?_;rintro e a7 ⟨rfl,ac,ab⟩;have ba:=ai (Eo I.heap.size bx j ad ar a7 (by rw [<-Y.u] at ac;exact ac) (by rw [bl.u,Y.u]) aj (by have:=Y.u;omega));have ah:=ai (be.u.trans (ab.below aV (fun q R=>(aC.u.lt q R).1)));clear ac ab al;go_wp2_with fail;refine ba.u.mono ?_;rintro e a8 ⟨rfl,bY,bG⟩;have bh:=ai (show WhF I a8 (ik ar) (.slice (some ⟨bx,0,none⟩) (ik ar).length ad) from ⟨ah.u.trans (bG.below (by have:=ah.u.size;omega) (fun q e=>by subst e;exact (aC.u.lt _ rfl).1)),bY⟩);clear bY bG ba;go_wp2;go_ret2;exact ⟨_,K,rfl,Z.u.trans (bh.u.1.mono Z.u.size),bk.u,by rw [bi.u];exact bg bh.u.2 Z.u.size⟩
variable {aA aU:Prop}
def H3 (h:aA:=by
 simp at h;obtain ⟨rfl,rfl⟩:=h;exact ha):aA:=h
def H4 (h:aA:=by
 show (⟨#[]⟩:ae).size<=500;decide):aA:=h
def MZ:Ex->Prop
 |⟨n,some x,some y⟩=>(n.kind=3\/n.kind=4\/n.kind=5)/\MZ x/\MZ y
 |⟨n,none,_⟩=>(n.kind=0\/n.kind=1\/n.kind=2)/\n.n1.size<=8/\n.n2.size<=8
 |⟨_,some _,none⟩=>False
def X0(r:Nat->eI Ex):Prop:=∀i x j,r i=.ok (x,j)->MZ x
variable {i j:Nat}
def mH{T u}(h:dh T i=.ok (u,j)):(T i).size<=8:=by
 unfold dh at h
 split at h
 ·split at h
  ·cases h
  omega
 cases h
def Wf(t p){x y}(A:MZ x)(C:MZ y):MZ (fU t p x y):=by
 refine ⟨?_,A,C⟩
 show kindOf t=3\/kindOf t=4\/kindOf t=5
 unfold kindOf;exact NH
section
variable (T:Nat->ae)(P:Nat->Nat)
def SJ:X0 (lw T P):=by
 intro i x j h;unfold lw at h
 split at h
 ·simp at h
 simp at h;obtain ⟨rfl,rfl⟩:=h;exact ⟨.inl rfl,by show em.size<=8;decide,by show em.size<=8;decide⟩
def Mt:X0 (jl T P):=by
 intro i x j h;unfold jl at h
 split at h
 ·simp at h
 rename_i h1
 split at h
 ·split at h
  ·simp at h
  rename_i h2;simp at h;obtain ⟨rfl,rfl⟩:=h;exact ⟨.inr (.inr rfl),mH h1,mH h2⟩
 simp at h;obtain ⟨rfl,rfl⟩:=h;exact ⟨.inr (.inl rfl),mH h1,by show em.size<=8;decide⟩
def Et(D:Bool)(A:Nat->eI Ex)(hi:X0 A):X0 (eR T P D A):=by
 intro i x j h;unfold eR at h
 split at h
 ·exact SJ T P _ _ _ h
 split at h
 ·split at h
  ·split at h
   ·simp at h
   rename_i C;have:=hi _ _ _ C
   split at h<;>simp at h
   obtain ⟨rfl,rfl⟩:=h;exact this
  simp at h
 exact Mt T P _ _ _ h
def Eu(l:List ae)(part:Nat->eI Ex)(A:X0 part):∀f y i x j,MZ y->joinL T P l part f y i=.ok (x,j)->MZ x
 |0,_,i,x,j,hb,h=>by simp [joinL] at h
 |f+1,y,i,x,j,hb,h=>by
  unfold joinL at h
  split at h
  ·split at h
   ·simp at h
   rename_i C;exact Eu l part A f _ _ _ _ (Wf _ _ hb (A _ _ _ C)) h
  simp at h;obtain ⟨rfl,rfl⟩:=h;exact hb
def qS(l:List ae)(part:Nat->eI Ex)(A:X0 part):X0 (fe T P l part):=by
 intro i x j h;unfold fe at h
 split at h
 ·simp at h
 rename_i C;exact Eu T P l part A _ _ _ _ _ (A _ _ _ C) h
def Ev:∀n,X0 (fp T P n)
 |0=>qS T P _ _ (qS T P _ _ (Et T P false _ (fun i x j h=>by simp at h)))
 |n+1=>qS T P _ _ (qS T P _ _ (Et T P true _ (Ev n)))
end
def zy:∀e,MZ e->Bj e
 |⟨n,some x,some y⟩,h=>⟨zy x h.2.1,zy y h.2.2⟩
 |⟨n,none,r⟩,_=>trivial
 |⟨n,some x,none⟩,h=>h.elim
def wL(rel):∀(e:Ex)(m:Nat),MZ e->(be rel m e).length<=6*(aC e).length
 |⟨n,some x,some y⟩,m,h=>by
  have A:=wL rel x;have C:=wL rel y;rw [be];simp only [aC,aZ,List.length_cons,List.length_nil]
  split
  ·have:=A m h.2.1;have:=C (m+(be rel m x).length) h.2.2;simp only [aZ,List.length_cons,List.length_nil];omega
  have:=A m h.2.1;have:=C (m+(be rel m x).length+1) h.2.2;simp only [aZ,List.length_cons,List.length_nil];omega
 |⟨n,none,r⟩,m,h=>by
  rw [be];simp only [aC,List.length_cons,List.length_nil]
  split
  ·simp [gC]
  split
  ·simp
  simp [gC]
 |⟨n,some x,none⟩,m,h=>h.elim
def wM(rel)(A:rel.size<=500):∀(e:Ex)(m:Nat),MZ e->∀i∈be rel m e,i.rel.size<=500
 |⟨n,some x,some y⟩,m,h,i,hi=>by
  have C:=wM rel A x;have D:=wM rel A y;rw [be] at hi
  split at hi
  ·simp only [aQ,aR] at hi
   rcases hi with (hi|hi)|rfl
   ·exact C _ h.2.1 i hi
   ·exact D _ h.2.2 i hi
   exact H4
  simp only [aQ,aR] at hi
  rcases hi with ((hi|rfl)|hi)|rfl
  ·exact C _ h.2.1 i hi
  ·exact H4
  ·exact D _ h.2.2 i hi
  exact H4
 |⟨n,none,r⟩,m,h,i,hi=>by
  obtain ⟨_,h1,h2⟩:=h;rw [be] at hi;have z:(⟨#[]⟩:ae).size<=500:=au
  split at hi
  ·simp only [gC,bi,dK,dP] at hi
   rcases hi with rfl|rfl|rfl|rfl|rfl<;>first|exact A|exact z
  split at hi
  ·rw [aR] at hi;subst hi
   show n.n1.size<=500
   omega
  simp only [gC,bi,dK,dP] at hi
  rcases hi with rfl|rfl|rfl|rfl|rfl<;>first|exact z|(show n.n1.size<=500;omega)|(show n.n2.size<=500;omega)
 |⟨n,some x,none⟩,m,h,i,hi=>h.elim
section
variable (T:Nat->ae)(P:Nat->Nat)
variable {x:ae} {i j:Nat}
def oX{T u}(h:bZ T x i=.ok (u,j)):(T i).size<=8:=by
 unfold bZ at h
 split at h
 ·cases h
 rename_i h1;exact mH h1
variable {r:Rl}
def Wg(h:lW T P i=.ok (r,j)):r.name.size<=8:=by
 unfold lW at h
 split at h
 ·simp at h
 rename_i h1
 split at h
 ·simp at h
 split at h<;>simp at h
 obtain ⟨rfl,rfl⟩:=h;exact oX h1
def Ew:∀f acc i rs j,(∀r∈acc,r.name.size<=8)->dv T P f acc i=.ok (rs,j)->∀r∈rs,r.name.size<=8
 |0,_,i,x,j,_,h=>by simp [dv] at h
 |f+1,acc,i,x,j,ha,h=>by
  unfold dv at h
  split at h
  ·exact H3
  split at h
  ·simp at h
  split at h
  ·simp at h
  rename_i C;refine Ew f _ _ _ _ (fun r A=> ?_) h;rw [aQ,aR] at A
  rcases A with A|rfl
  ·exact ha r A
  exact Wg T P C
variable {t:Ty}
def SK(h:ly T P i=.ok (t,j)):t.name.size<=8/\∀r∈t.rels,r.name.size<=8:=by
 unfold ly at h
 split at h
 ·split at h
  ·simp at h
  rename_i h1
  split at h
  ·simp at h
  rename_i A;simp at h;obtain ⟨rfl,rfl⟩:=h;exact ⟨oX h1,Ew T P _ _ _ _ _ ar A⟩
 simp at h
def zz:∀f acc i ts j,(∀t∈acc,t.name.size<=8/\∀r∈t.rels,r.name.size<=8)->cS T P f acc i=.ok (ts,j)->∀t∈ts,t.name.size<=8/\∀r∈t.rels,r.name.size<=8
 |0,_,i,x,j,_,h=>by simp [cS] at h
 |f+1,acc,i,x,j,ha,h=>by
  unfold cS at h
  split at h
  ·exact H3
  split at h
  ·simp at h
  split at h
  ·simp at h
  rename_i C;refine zz f _ _ _ _ (fun t A=> ?_) h;rw [aQ,aR] at A
  rcases A with A|rfl
  ·exact ha t A
  exact SK T P C
end
structure Ey(ts:List Ty):Prop where
 k:ZC ts
 d:eP ts
 g:vU ts
 e:∀t∈ts,∀r∈t.rels,MZ r.body
 n:∀t∈ts,t.name.size<=8/\∀r∈t.rels,r.name.size<=8
variable {s:ae} {ts:List Ty}
def md_of(h:fq s=.ok ts):Ey ts:=by
 unfold fq at h
 split at h
 ·cases h
 rename_i hs
 split at h
 ·cases h
 rename_i ts' m I
 split at h
 ·cases h
 rename_i hc
 cases h
 unfold gt at hc
 split at hc
 ·cases hc
 rename_i h1
 split at hc
 ·cases hc
 rename_i h2
 split at hc
 ·cases hc
 rename_i J;have D:=(nR _ _ h1).2;refine ⟨⟨fun t A=>c8 D A,fun t A r C=> ?_,fun t A r C=> ?_,fun t A r C p U _ Q=> ?_⟩,D,vZ I,fun t A r C=> ?_,zz _ _ _ _ _ _ _ ar I⟩
 ·exact pR (D.2 t A) C
 ·unfold eT at J;have:=(j7.1 J) t A;exact (j7.1 this) r C
 ·unfold gy;rw [if_neg (fun e=>Q (.inl e)),if_neg (fun e=>Q (.inr e))]
 obtain ⟨_,i0,V,R,_⟩:=kj I t A r C;exact Ev _ _ _ _ _ _ R
structure BV(ts:List Ty)(t:Tu):Prop where
 lets:mQ ts t=0
 id:bz t.id=true
 low:t.kind.size<=maxLen/\t.id.size<=maxLen/\nX (fb t)
def tB(ts:List Ty)(k n:ae):Bool:=((bW ts k).bind fun t=>bT t n).isSome
def sJ:bz (⟨#[42]⟩:ae)=false:=by kernel_rfl
def eV(ts:List Ty)(s:Sj):Bool:=tB ts s.kind s.rel&&bz s.id
def M0(ts:List Ty)(ρ:Sp->Nat)(s:Sj):Nat:=if eV ts s then ρ (s.kind,s.rel)+1 else 0
def lq(gs:List Tu)(kd id:ae):List Tu:=gs.filter fun t=>lP ⟨kd,id,[]⟩ t
variable {gs:List Tu} {kd id:ae}
def lR{t}:t∈lq gs kd id↔t∈gs/\t.kind=kd/\t.id=id:=by
 unfold lq;rw [sH,eA];exact ⟨fun ⟨h,e1,A⟩=>⟨h,e1.symm,A.symm⟩,fun ⟨h,e1,A⟩=>⟨h,e1.symm,A.symm⟩⟩
section
variable {ts:List Ty}{gs:List Tu}{t:Ty}{r:Rl}{e:Ex}{id:ae}{s:Sj}
def kw(C:∀t∈gs,BV ts t){u}(I:u∈gs):∃y q g,bW ts u.kind=some y/\bT y u.rel=some q/\g∈b9 q.body/\g.ty=u.sub/\g.reach=hX u.who u.of/\g.rel=u.of:=by
 have h:=(C u I).lets;unfold mQ at h
 cases h1:bW ts u.kind with
 |none=>rw [h1] at h;simp at h
 |some y=>
  rw [h1] at h;simp only at h
  cases h2:bT y u.rel with
  |none=>rw [h2] at h;simp at h
  |some q=>
   rw [h2] at h;simp only at h
   split at h
   ·rename_i D;obtain ⟨g,C,A⟩:=cX.1 D;unfold fX at A;simp only [bM,bo,dA] at A;exact ⟨y,q,g,rfl,h2,C,A.1,A.2.1,A.2.2⟩
   cases h
def zA(h:Ey ts)(ac:∀t∈gs,BV ts t)(R:t∈ts)(ae:r∈t.rels)(ad:e∈aJ r.body)(af:EY t.name id (lq gs t.name id) r.name e s)(A:eV ts s=true):(s.kind,s.rel)∈dJ ts t r e:=by
 have ab:=iM ad;obtain ⟨n,ai,rr⟩:=e;simp only at ab;subst ab;rw [fN rfl];have Q:=h.k
 rcases af with ⟨h0,u,U,e1,D,rfl⟩|⟨h1,rfl⟩|⟨h0,h1,u,U,e1,D,rfl⟩
 ·rw [if_pos h0];obtain ⟨V,Y,ag⟩:=lR.1 U;obtain ⟨y,q,g,f1,f2,J,I,C,Z⟩:=kw ac V;rw [Y,Q.fnd t R] at f1
  cases f1
  rw [e1,Q.fnr t R r ae] at f2
  cases f2
  unfold hX at C;rw [if_neg D] at C;unfold mh;rw [mD];exact ⟨g,J,by unfold mg;rw [if_pos C,I,Z];rfl⟩
 ·rw [if_neg (by show ¬n.kind=0;omega)];unfold tI;rw [if_neg (by show ¬n.kind=0;omega),if_pos h1];simp
 rw [if_neg h0];unfold tI;rw [if_neg h0,if_neg h1];obtain ⟨V,Y,ag⟩:=lR.1 U;obtain ⟨y,q,g,f1,f2,J,I,C,Z⟩:=kw ac V;rw [Y,Q.fnd t R] at f1
 cases f1
 rw [e1] at f2;have ah:¬eqs u.who dB=true:=fun e=>by
  unfold eV at A;simp only [bM] at A;rw [show u.who=⟨#[42]⟩ from (bo _ _).1 e,sJ] at A
  cases A.2
 unfold hX at C;rw [if_pos D,if_neg ah] at C;unfold eV tB at A;simp only [bM] at A;rw [aN]
 cases f3:bW ts u.sub with
 |none=>rw [f3] at A;cases A.1
 |some v=>
  rw [f3] at A;refine ⟨v,?_,by rw [(cb f3).2]⟩;unfold nt;rw [f2];rw [mD];refine ⟨g,J,?_⟩;unfold iE;rw [if_pos C,I,f3];simp only;rw [if_pos (by simpa using A.1)]
end
structure X1(ts:List Ty)(ρ:Sp->Nat):Prop where
 pos:∀t∈ts,∀r∈t.rels,∀e∈aJ r.body,∀d∈dJ ts t r e,ρ d<=ρ (t.name,r.name)
 neg:∀t∈ts,∀r∈t.rels,∀e∈xI r.body,∀d∈dJ ts t r e,ρ d<ρ (t.name,r.name)
variable {ts:List Ty}
def X2(h:Ey ts):X1 ts (Es ts):=⟨fun t I r D e C d A=>h.k.rkp I D C A,fun t I r D e C d A=>h.k.rkn I D C A⟩
section
variable {kd id:ae}{tu:List Tu}{rel:ae}{s:Sj}
def tY:∀x,EY kd id tu rel x s->∃e∈aJ x,EY kd id tu rel e s
 |⟨n,some x,some y⟩,h=>by
  simp only [aJ,aQ]
  rcases h with h|h
  ·obtain ⟨e,A,h⟩:=tY x h;exact ⟨e,.inl A,h⟩
  obtain ⟨e,A,h⟩:=tY y h;exact ⟨e,.inr A,h⟩
 |⟨n,none,r⟩,h=>⟨_,by simp [aJ],h⟩
 |⟨n,some x,none⟩,h=>h.elim
def Bt:∀x,Mc kd id tu rel x s->∃e∈xI x,EY kd id tu rel e s
 |⟨n,some x,some y⟩,h=>by
  unfold Mc at h;unfold xI
  rcases h with h|h
  ·obtain ⟨e,A,h⟩:=Bt x h
   split
   ·exact ⟨e,mG _ A,h⟩
   exact ⟨e,mG _ A,h⟩
  split at h
  ·rename_i C;obtain ⟨e,A,h⟩:=Bt y h;rw [if_pos C];exact ⟨e,pZ _ A,h⟩
  rename_i C;obtain ⟨e,A,h⟩:=tY y h;rw [if_neg C];exact ⟨e,pZ _ A,h⟩
 |⟨n,none,r⟩,h=>h.elim
 |⟨n,some x,none⟩,h=>h.elim
end
def oD:∀(x e:Ex),e∈xI x->e∈aJ x
 |⟨n,some x,some y⟩,e,h=>by
  unfold xI at h;simp only [aJ,aQ]
  split at h
  ·rcases aQ.1 h with h|h
   ·exact .inl (oD x e h)
   exact .inr (oD y e h)
  rcases aQ.1 h with h|h
  ·exact .inl (oD x e h)
  exact .inr h
 |⟨n,none,r⟩,e,h=>by simp [xI] at h
 |⟨n,some x,none⟩,e,h=>by simp [xI] at h
section
variable {ts:List Ty}{gs:List Tu}{ρ:Sp->Nat}{t:Ty}{r:Rl}{id:ae}{s:Sj}
def SL(h:Ey ts)(Q:X1 ts ρ)(I:∀t∈gs,BV ts t)(D:t∈ts)(C:r∈t.rels)(J:EY t.name id (lq gs t.name id) r.name r.body s):M0 ts ρ s<=ρ (t.name,r.name)+1:=by
 unfold M0
 split
 ·rename_i hl;obtain ⟨e,A,h1⟩:=tY _ J;have:=Q.pos t D r C e A _ (zA h I D C A h1 hl);omega
 omega
def JU(h:Ey ts)(Q:X1 ts ρ)(I:∀t∈gs,BV ts t)(D:t∈ts)(C:r∈t.rels)(J:Mc t.name id (lq gs t.name id) r.name r.body s):M0 ts ρ s<ρ (t.name,r.name)+1:=by
 unfold M0
 split
 ·rename_i hl;obtain ⟨e,A,h1⟩:=Bt _ J;have:=Q.neg t D r C e A _ (zA h I D C (oD _ _ A) h1 hl);omega
 omega
end
def fJ(ts:List Ty)(gs:List Tu)(who:Tg)(kp kn:Sj->Bool)(s:Sj):Bool:=
 if bz s.id then (match bW ts s.kind with
  |none=>false
  |some t=>match bT t s.rel with
   |none=>false
   |some r=>ii kp kn who s.kind s.id (lq gs s.kind s.id) s.rel r.body) else false
section
variable {ts:List Ty}{gs:List Tu}{who:Tg}{ρ:Sp->Nat}{kp kn:Sj->Bool}
variable {t:Ty} {r:Rl} {id:ae}
def wN(h:Ey ts)(A:t∈ts)(D:r∈t.rels)(C:bz id=true):fJ ts gs who kp kn ⟨t.name,id,r.name⟩=ii kp kn who t.name id (lq gs t.name id) r.name r.body:=by
 unfold fJ;rw [if_pos C];simp only [h.k.fnd t A,h.k.fnr t A r D]
def n5(s):(∃t∈ts,∃r∈t.rels,∃id,bz id=true/\s=⟨t.name,id,r.name⟩)\/(eV ts s=false/\∀kp kn,fJ ts gs who kp kn s=false):=by
 obtain ⟨k,id,n⟩:=s
 cases h:bz id
 ·exact .inr ⟨by simp [eV,h],fun kp kn=>by unfold fJ;rw [if_neg (by simp [h])]⟩
 cases h1:bW ts k with
 |none=>exact .inr ⟨by simp [eV,tB,h1],fun kp kn=>by unfold fJ;rw [if_pos h];simp only [h1]⟩
 |some t=>
  cases h2:bT t n with
  |none=>exact .inr ⟨by simp [eV,tB,h1,h2],fun kp kn=>by unfold fJ;rw [if_pos h];simp only [h1,h2]⟩
  |some r=>
   obtain ⟨A,C⟩:=cb h1;obtain ⟨b1,D⟩:=cH h2;exact .inl ⟨t,A,r,b1,id,h,by rw [C,D]⟩
def Wh(h:Ey ts)(A:t∈ts)(D:r∈t.rels)(C:bz id=true):eV ts ⟨t.name,id,r.name⟩=true:=by
 unfold eV tB;simp [h.k.fnd t A,h.k.fnr t A r D,C]
def sys_f(h:Ey ts)(Q:X1 ts ρ)(J:∀t∈gs,BV ts t):Sys (fJ ts gs who) (M0 ts ρ) where
 mono:=fun kp EX kn s R hs=>by
  rcases n5 (ts:=ts) (gs:=gs) (who:=who) s with ⟨t,C,r,A,id,D,rfl⟩|⟨_,h2⟩
  ·rw [wN h C A D] at hs ⊢;exact gS R _ hs
  rw [h2] at hs;cases hs
 dep:=fun kp EX kn kn' s h1 h2=>by
  rcases n5 (ts:=ts) (gs:=gs) (who:=who) s with ⟨t,C,r,A,id,D,rfl⟩|⟨_,I⟩
  ·rw [wN h C A D,wN h C A D];have e:M0 ts ρ ⟨t.name,id,r.name⟩=ρ (t.name,r.name)+1:=by unfold M0;rw [if_pos (Wh h C A D)]
   refine fQ _ (fun s hs=>h1 s ?_) (fun s hs=>h2 s ?_)
   ·rw [e];exact SL h Q J C A hs
   rw [e];exact JU h Q J C A hs
  rw [I,I]
end
structure GrL(ts:List Ty)(G:List (List TR))(ρ:Sp->Nat):Prop where
 mem:∀i g,G[i]? =some g->∀x∈g,x.1∈ts/\x.2∈x.1.rels/\ρ (x.1.name,x.2.name)=i
 cov:∀t∈ts,∀r∈t.rels,∃g,G[ρ (t.name,r.name)]? =some g/\(t,r)∈g
structure HsK(gs:List Tu)(hs:List Hp):Prop where
 ts:∀h∈hs,h.ts=lq gs h.kd h.id
 all:∀t∈gs,∃h∈hs,h.kd=t.kind/\h.id=t.id
def H5(gs:List Tu):HsK gs (dG gs) where
 ts:=fun h A=>((iU gs).ts h A).1
 all:=fun t C=>by
  obtain ⟨h,A,e⟩:=(iU gs).all t C;exact ⟨h,A,eA.1 e⟩
def jg{K who kd id rel}(h:∀n,K ⟨kd,id,n⟩=false):∀e,cN K who kd id [] rel e=false
 |⟨n,some x,some y⟩=>by
  have A:=jg (who:=who) (rel:=rel) h x;have C:=jg (who:=who) (rel:=rel) h y;rw [cN,A,C];simp
 |⟨n,none,_⟩=>by
  rw [cN];simp [h]
 |⟨_,some _,none⟩=>by rw [cN]
def lS(gs:List Tu)(s:Sj):Prop:=lq gs s.kind s.id=[]
section
variable {ts:List Ty}{gs:List Tu}{who:Tg}{hs:List Hp}{g:List TR}{k0 k1 k:Sj->Bool}
def JV(U:HsK gs hs)(ab:∀x∈g,Bj x.2.body)(h:El who hs (g.map mW) k0 k1)(h0:∀s,lS gs s->k0 s=false):∀s,lS gs s->k1 s=false:=by
 classical
 intro s C
 by_cases J:lQ (g.map mW) hs s
 ·cases V:k1 s
  ·rfl
  have:=h.least (fun s=>if lQ (g.map mW) hs s then decide (¬lS gs s) else k0 s) (fun s hs=>by rw [if_neg hs]) (fun x Q y R e A=>by
   have Z:lQ (g.map mW) hs ⟨y.kd,y.id,x.nm⟩:=⟨x,Q,y,R,e,rfl⟩
   show (if lQ (g.map mW) hs ⟨y.kd,y.id,x.nm⟩ then decide (¬lS gs ⟨y.kd,y.id,x.nm⟩) else _)=true
   rw [if_pos Z,jo];intro I;obtain ⟨p,Y,rfl⟩:=aN.1 Q;have e1:y.ts=[]:=(U.ts y R).trans I;rw [e1] at A;have:=jg (K:=fun s=>if lQ (g.map mW) hs s then decide (¬lS gs s) else k0 s) (who:=who) (kd:=y.kd) (id:=y.id) (rel:=p.2.name) (fun n=>by
    have D:lS gs ⟨y.kd,y.id,n⟩:=I
    show (if lQ (g.map mW) hs ⟨y.kd,y.id,n⟩ then decide (¬lS gs ⟨y.kd,y.id,n⟩) else k0 ⟨y.kd,y.id,n⟩)=false
    split
    ·simp [D]
    exact h0 _ D) p.2.body
   rw [oB _ _ _ _ _ _ _ (ab p Y)] at this;rw [show hu (fun s=>if lQ (g.map mW) hs s then decide (¬lS gs s) else k0 s) who y.kd y.id [] (mW p).nm (mW p).sh=false from this] at A
   cases A) s V
  rw [if_pos J,jo] at this;exact absurd C this
 rw [h.old s J];exact h0 s C
def tZ(C:HsK gs hs):∀{A:List (List TR)} {k a:Sj->Bool},(∀g∈A,∀x∈g,Bj x.2.body)->oI who hs (A.map (List.map mW)) k a->(∀s,lS gs s->k s=false)->∀s,lS gs s->a s=false
 | [],k,a,_,h,h0=>by rw [show a=k from h];exact h0
 |g::A,k,a,hw,⟨k1,h1,h2⟩,h0=>tZ C (fun g' D=>hw g' (eO _ D)) h2 (JV C (hw g eb) h1 h0)
end
variable {aA aU:Prop}
abbrev H7:=@List.eq_nil_iff_forall_not_mem
def SM (h:aA:=by
 obtain ⟨j,A⟩:=h8.1 hg;obtain ⟨h1,h2,_⟩:=hG.mem j g A x hx;exact zy _ (hm.e _ h1 _ h2)):aA:=h
section
variable {ts:List Ty}{gs:List Tu}{who:Tg}{ρ:Sp->Nat}{G:List (List TR)}{hs:List Hp}{kb:Sj->Bool}
variable {i:Nat}
def sK(A:GrL ts G ρ){g}(hi:G[i]? =some g){s}(h:lQ (g.map mW) hs s):ρ (s.kind,s.rel)=i:=by
 obtain ⟨x,C,y,D,e,rfl⟩:=wI.1 h;have:=(A.mem i g hi x C).2.2
 show ρ (y.kd,x.2.name)=i
 rw [e];exact this
def ub(A:Ey ts)(C:GrL ts G ρ){g}(hi:G[i]? =some g){s}(h:lQ (g.map mW) hs s):tB ts s.kind s.rel=true:=by
 obtain ⟨x,D,y,I,e,rfl⟩:=wI.1 h;obtain ⟨h1,h2,_⟩:=C.mem i g hi x D;unfold tB
 show ((bW ts y.kd).bind fun t=>bT t x.2.name).isSome=true
 rw [e,A.k.fnd _ h1];simp [A.k.fnr _ h1 _ h2]
def ky(C:∀t∈gs,BV ts t){s}(h:bz s.id=false):lS gs s:=by
 unfold lS;rw [H7];intro t D;obtain ⟨h1,h2,A⟩:=lR.1 D;have:=(C t h1).id;rw [A,h] at this
 cases this
structure ZD(G:List (List TR))(gs:List Tu)(who:Tg)(hs:List Hp)(ρ:Sp->Nat)(i:Nat)(g:List TR)(kb k0 k1:Sj->Bool):Prop where
 sol:El who hs (g.map mW) k0 k1
 lt:∀s,ρ (s.kind,s.rel)<i->kb s=k0 s
 le:∀s,ρ (s.kind,s.rel)<=i->kb s=k1 s
 ge:∀s,i<=ρ (s.kind,s.rel)->k0 s=false
 dry:∀s,lS gs s->k0 s=false/\k1 s=false/\kb s=false
 no:∀s,(∀(j:Nat)(g':List TR),G[j]? =some g'->¬lQ (g'.map mW) hs s)->k0 s=false/\k1 s=false/\kb s=false
def JW(hm:Ey ts)(hG:GrL ts G ρ)(J:HsK gs hs)(ab:oI who hs (G.map (List.map mW)) (fun _=>false) kb){g}(hi:G[i]? =some g):∃k0 k1,ZD G gs who hs ρ i g kb k0 k1:=by
 have R:∀g∈G,∀x∈g,Bj x.2.body:=fun g hg x hx=>by
  exact SM
 obtain ⟨hl,e0⟩:=br.1 hi;have ag:G=G.take i++g::G.drop (i+1):=by
  rw [<-e0,<-dI hl,o9]
 have ac:=ab;rw [ag,cO,cA] at ac;obtain ⟨a,Z,k1,h1,ah⟩:=wJ ac;have ak:∀g'∈G.take i,∃j,j<i/\G[j]? =some g':=fun g' D=>by
  obtain ⟨j,C⟩:=h8.1 D;rw [vb] at C
  split at C
  ·rename_i ai;exact ⟨j,ai,C⟩
  cases C
 have al:∀g'∈G.drop (i+1),∃j,i<j/\G[j]? =some g':=fun g' D=>by
  obtain ⟨j,C⟩:=h8.1 D;rw [rb] at C;exact ⟨_,aj,C⟩
 have ae:∀s,(∀j g',j<i->G[j]? =some g'->¬lQ (g'.map mW) hs s)->a s=false:=fun s h=>qP Z s (fun g' D=>by
  obtain ⟨x,hx,rfl⟩:=aN.1 D;obtain ⟨j,C,e⟩:=ak x hx;exact h j x C e)
 have U:∀s,(∀j g',i<j->G[j]? =some g'->¬lQ (g'.map mW) hs s)->kb s=k1 s:=fun s h=>qP ah s (fun g' D=>by
  obtain ⟨x,hx,rfl⟩:=aN.1 D;obtain ⟨j,C,e⟩:=al x hx;exact h j x C e)
 have V:=tZ J (fun g' D=>R g' (List.mem_of_mem_take D)) Z (fun _ _=>rfl);have af:=JV J (R g (bA hi)) h1 V;refine ⟨a,k1,h1,fun s ad=> ?_,fun s ad=> ?_,fun s ad=> ?_,fun s Q=>⟨V s Q,af s Q,tZ J R ab (fun _ _=>rfl) s Q⟩,fun s hn=> ?_⟩
 ·rw [U s (fun j g' C e I=>by have:=sK hG e I;omega),h1.old s (fun I=>by have:=sK hG hi I;omega)]
 ·exact U s (fun j g' C e I=>by have:=sK hG e I;omega)
 ·exact ae s (fun j g' C e I=>by have:=sK hG e I;omega)
 have e1:=ae s (fun j g' _ e=>hn j g' e);have Y:k1 s=false:=by rw [h1.old s (hn i g hi),e1]
 exact ⟨e1,Y,by rw [U s (fun j g' _ e=>hn j g' e),Y]⟩
def ZD.dead(I:Ey ts)(C:GrL ts G ρ)(D:∀t∈gs,BV ts t){g k0 k1}(h:ZD G gs who hs ρ i g kb k0 k1){s}(A:eV ts s=false):k0 s=false/\k1 s=false/\kb s=false:=by
 unfold eV at A;rw [z6] at A
 rcases A with A|A
 ·exact h.no s (fun j g' e J=>by rw [ub I C e J] at A;cases A)
 exact h.dry s (ky D A)
def H8(hm:Ey ts)(au:X1 ts ρ)(hg:∀t∈gs,BV ts t)(hG:GrL ts G ρ)(R:HsK gs hs)(ag:oI who hs (G.map (List.map mW)) (fun _=>false) kb):sB (fJ ts gs who) kb:=by
 have aK:∀g∈G,∀x∈g,Bj x.2.body:=fun g hg x hx=>by
  exact SM
 have ak:=tZ R aK ag (fun _ _=>rfl);have dead:∀s,eV ts s=false->kb s=false:=fun s C=>by
  unfold eV at C;rw [z6] at C
  rcases C with C|C
  ·exact qP ag s (fun g' ax I=>by
    obtain ⟨x,hx,rfl⟩:=aN.1 ax;obtain ⟨j,aE⟩:=h8.1 hx;rw [ub hm hG aE I] at C
    cases C)
  exact ak s (ky hg C)
 refine ⟨fun s=> ?_,fun ab az=> ?_⟩
 ·rcases n5 (ts:=ts) (gs:=gs) (who:=who) s with ⟨t,I,r,Z,id,an,rfl⟩|⟨h1,h2⟩
  ·obtain ⟨g,Y,ar⟩:=hG.cov t I r Z;obtain ⟨k0,k1,N⟩:=JW hm hG R ag Y;rw [wN hm I Z an,fO]
   by_cases ap:∃y∈hs,y.kd=t.name/\y.id=id
   ·obtain ⟨y,Q,e1,af⟩:=ap;have f:=N.sol.fix (mW (t,r)) (aN.2 ⟨_,ar,rfl⟩) y Q e1;rw [e1,af,R.ts y Q,e1,af] at f;have f':cN k1 who t.name id (lq gs t.name id) r.name r.body=k1 ⟨t.name,id,r.name⟩:=by
     rw [oB _ _ _ _ _ _ _ (zy _ (hm.e t I r Z))];exact f
    rw [N.le _ aD,<-f'];refine (fP _ (fun s D=> ?_)).symm;have ad:=SL hm au hg I Z D
    by_cases hl:eV ts s=true
    ·unfold M0 at ad;rw [if_pos hl] at ad;exact N.le s aj
    have C:eV ts s=false:=by simpa using hl
    obtain ⟨_,ai,ah⟩:=N.dead hm hG hg C;rw [ai,ah]
   have U:lq gs t.name id=[]:=by
    rw [H7];intro u aJ;obtain ⟨h1,h2,ay⟩:=lR.1 aJ;obtain ⟨y,Q,e1,af⟩:=R.all u h1;exact ap ⟨y,Q,e1.trans h2,af.trans ay⟩
   have av:∀n,kb ⟨t.name,id,n⟩=false:=fun n=>ak _ U
   rw [U,jg av];exact av r.name
  rw [h2,dead s h1]
 have key:∀n s,ρ (s.kind,s.rel)<n->kb s=true->ab s=true:=by
  intro n
  induction n with
  |zero=>intro s h;omega
  |succ n ih=>
   intro s hn ac
   rcases n5 (ts:=ts) (gs:=gs) (who:=who) s with ⟨t,I,r,Z,id,an,rfl⟩|⟨h1,h2⟩
   ·obtain ⟨g,Y,ar⟩:=hG.cov t I r Z;obtain ⟨k0,k1,N⟩:=JW hm hG R ag Y;have aO:ρ (t.name,r.name)<n+1:=hn;generalize hi:ρ (t.name,r.name)=i at*
    classical
    obtain ⟨ae,J⟩:∃ae:Sj->Bool,∀s,ae s=if lQ (g.map mW) hs s/\¬lS gs s then ab s else k0 s:=⟨fun s=>if lQ (g.map mW) hs s/\¬lS gs s then ab s else k0 s,fun _=>rfl⟩
    have aL:∀s,ae s=true->ab s=true:=fun s D=>by
     rw [J] at D
     split at D
     ·exact D
     by_cases aF:ρ (s.kind,s.rel)<i
     ·exact ih s aj (by rw [N.lt s aF];exact D)
     rw [N.ge s aj] at D;cases D
    have:=N.sol.least ae (fun s D=>by rw [J,if_neg (fun e=>D e.1)]) (fun x hx y Q e aB=>by
     obtain ⟨p,aG,rfl⟩:=aN.1 hx;obtain ⟨p1,p2,aM⟩:=hG.mem i g Y p aG;have aI:lQ (g.map mW) hs ⟨y.kd,y.id,(mW p).nm⟩:=⟨mW p,hx,y,Q,e,rfl⟩;have e':y.kd=p.1.name:=e;have V:cN ae who y.kd y.id y.ts p.2.name p.2.body=true:=by
      rw [oB _ _ _ _ _ _ _ (zy _ (hm.e _ p1 _ p2))];exact aB
     rw [R.ts y Q] at V
     by_cases U:lS gs ⟨y.kd,y.id,(mW p).nm⟩
     ·exfalso;have C:lq gs y.kd y.id=[]:=U;rw [C,jg (fun m=>by
       have am:lS gs ⟨y.kd,y.id,m⟩:=C;rw [J,if_neg (fun e=>e.2 am)];exact (N.dry _ am).1)] at V
      cases V
     rw [J,if_pos ⟨aI,U⟩];have aC:bz y.id=true:=by
      cases aH:bz y.id
      ·exact absurd (ky (s:=⟨y.kd,y.id,(mW p).nm⟩) hg aH) U
      rfl
     refine az _ ?_
     show fJ ts gs who ab kb ⟨y.kd,y.id,p.2.name⟩=true
     rw [e'] at V ⊢;rw [wN hm p1 p2 aC];rw [<-fO] at V;refine gS aL _ ?_;rw [<-fQ _ (fun _ _=>rfl) (fun s D=> ?_)]
     ·exact V
     have ad:=JU hm au hg p1 p2 D
     by_cases hl:eV ts s=true
     ·unfold M0 at ad;rw [if_pos hl,aM] at ad;rw [J,if_neg (fun e=>by have:=sK hG Y e.1;omega)];exact (N.lt s aj).symm
     have C:eV ts s=false:=by simpa using hl
     obtain ⟨aw,ai,ah⟩:=N.dead hm hG hg C;rw [J,ah]
     split
     ·rename_i al;unfold eV at C;rw [ub hm hG Y al.1,fE] at C;exact absurd (ky hg C) al.2
     exact aw) _ (show k1 ⟨t.name,id,r.name⟩=true by rw [<-N.le _ (by show ρ (t.name,r.name)<=i;omega)];exact ac)
    rw [J] at this
    split at this
    ·exact this
    rw [N.ge _ (by show i<=ρ (t.name,r.name);omega)] at this
    cases this
   rw [dead s h1] at ac;cases ac
 exact fun s ac=>key _ s (Nat.lt_succ_self _) ac
end
structure SpG{α:Type}(rk:α->Nat)(l:List α)(G:List (List α)):Prop where
 mem:∀(i:Nat)(g:List α),G[i]? =some g->∀x∈g,x∈l/\rk x=i+1
 cov:∀x∈l,∃g,G[rk x-1]? =some g/\x∈g
 sum:(G.map List.length).sum=l.length
variable {α:Type}
def Bu(n)(A:List (List α))(i):(fK n A)[i]? =if i<A.length then A[i]? else if i<n then some [] else none:=by
 unfold fK
 by_cases h:i<A.length
 ·rw [ny h,if_pos h]
 rw [nz aj,if_neg h,List.getElem?_replicate]
 by_cases h2:i<n
 ·rw [if_pos h2,if_pos aj]
 rw [if_neg h2,if_neg aj]
def JX:∀(l:List Nat)(i v:Nat),i<l.length->(l.set i v).sum+l.getD i 0=l.sum+v
 | [],i,v,h=>by simp at h
 |a::l,0,v,h=>aM
 |a::l,i+1,v,h=>by
  have:=JX l i v ni;simp only [List.set_cons_succ,List.sum_cons,List.getD_cons_succ];omega
def Wi{rk:α->Nat}{l:List α}{C:List (List α)}(h:SpG rk l C){x:α}(Y:1<=rk x):SpG rk (l++[x]) (fL (rk x) x C):=by
 have Q:rk x-1<(fK (rk x) C).length:=by unfold fK;simp;omega
 obtain ⟨q,D⟩:∃q,(fK (rk x) C)[rk x-1]? =some q:=⟨_,aH Q⟩;have J:(fK (rk x) C).getD (rk x-1) []=q:=by rw [ef,D];rfl
 have V:∀y∈q,y∈l/\rk y=rk x:=fun y A=>by
  rw [Bu] at D
  split at D
  ·obtain ⟨h1,h2⟩:=h.mem _ _ D y A;exact ⟨h1,aj⟩
  split at D
  ·cases D;cases A
  cases D
 have at_:∀i,(fL (rk x) x C)[i]? =if i=rk x-1 then some (q++[x]) else (fK (rk x) C)[i]? :=fun i=>by
  unfold fL;rw [J,List.getElem?_set]
  by_cases e:rk x-1=i
  ·rw [if_pos e,if_pos e.symm,if_pos aj]
  rw [if_neg e,if_neg (fun e'=>e e'.symm)]
 refine ⟨fun i g hi y A=> ?_,fun y A=> ?_,?_⟩
 ·rw [at_] at hi
  split at hi
  ·rename_i e
   cases hi
   rcases aQ.1 A with A|A
   ·obtain ⟨h1,h2⟩:=V y A;exact ⟨mG _ h1,aj⟩
   rw [aR] at A;subst A;exact ⟨ar,aj⟩
  rw [Bu] at hi
  split at hi
  ·obtain ⟨h1,h2⟩:=h.mem _ _ hi y A;exact ⟨mG _ h1,h2⟩
  split at hi
  ·cases hi;cases A
  cases hi
 ·rcases aQ.1 A with A|A
  ·obtain ⟨g,I,R⟩:=h.cov y A;rw [at_]
   split
   ·rename_i e;refine ⟨_,rfl,mG _ ?_⟩;rw [e] at I;rw [Bu,if_pos (br.1 I).1,I] at D
    cases D
    exact R
   rw [Bu,if_pos (br.1 I).1];exact ⟨g,I,R⟩
  rw [aR] at A;subst A;rw [at_,if_pos rfl];exact ⟨_,rfl,ar⟩
 unfold fL;rw [J,pO];have h1:((fK (rk x) C).map List.length).sum=l.length:=by
  unfold fK;rw [cO,List.sum_append,h.sum];simp
 have h2:=JX ((fK (rk x) C).map List.length) (rk x-1) (q++[x]).length (by simpa using Q);have U:((fK (rk x) C).map List.length).getD (rk x-1) 0=q.length:=by
  rw [ef,eo,D]
  rfl
 rw [h1,U] at h2;simp only [aZ,List.length_cons,List.length_nil] at h2 ⊢;omega
def JY{α:Type}{rk:α->Nat}:∀(m l:List α) (G:List (List α)),(∀x∈m,1<=rk x)->SpG rk l G->SpG rk (l++m) (m.foldl (fun g x=>fL (rk x) x g) G)
 | [],l,G,_,h=>by simpa using h
 |x::m,l,G,hx,h=>by
  have:=JY m (l++[x]) _ (fun y A=>hx y (eO _ A)) (Wi h (hx x eb));rw [dc] at this;exact this
variable {ts:List Ty}
def zB{x}:x∈nK ts↔x.1∈ts/\x.2∈x.1.rels:=by
 unfold nK;rw [bS]
 constructor
 ·rintro ⟨t,C,h⟩;obtain ⟨r,A,rfl⟩:=aN.1 h;exact ⟨C,A⟩
 rintro ⟨h1,h2⟩;exact ⟨x.1,h1,aN.2 ⟨x.2,h2,rfl⟩⟩
def wO(ts):SpG (rkR ts) (nK ts) (cZ ts):=by
 have:=JY (rk:=rkR ts) (nK ts) [] [] (fun x _=>JT) ⟨ar,ar,ar⟩;rw [List.nil_append] at this;exact this
def rk1(ts:List Ty)(d:Sp):Nat:=Es ts d-1
def SN(h:Ey ts):X1 ts (rk1 ts) where
 pos:=fun t I r D e C d A=>by
  have:=(X2 h).pos t I r D e C d A;unfold rk1;omega
 neg:=fun t I r D e C d A=>by
  have:=(X2 h).neg t I r D e C d A;have:=JT (ts:=ts) (x:=d);unfold rk1;omega
def io(ts:List Ty):GrL ts (cZ ts) (rk1 ts) where
 mem:=fun i g hi x I=>by
  obtain ⟨h1,h2⟩:=(wO ts).mem i g hi x I;obtain ⟨h,A⟩:=zB.1 h1;have J:Es ts (x.1.name,x.2.name)=i+1:=h2;exact ⟨h,A,by unfold rk1;omega⟩
 cov:=fun t D r C=>by
  obtain ⟨g,h1,h2⟩:=(wO ts).cov (t,r) (zB.2 ⟨D,C⟩);exact ⟨g,h1,h2⟩
section
variable {ts:List Ty}{gs:List Tu}
def Wj(h:Ey ts)(J:∀t∈gs,BV ts t):Me (cZ ts) (dG gs) where
 hds:=fun a ha b af e1 A=>Zu (iU gs).ap ha af e1 A
 lns:=fun g J x C y D e1 A=>by
  obtain ⟨i,hi⟩:=h8.1 J;obtain ⟨I,Q,_⟩:=(io ts).mem i g hi x C;obtain ⟨b1,ac,_⟩:=(io ts).mem i g hi y D;have f1:=h.k.fnd _ I;rw [e1,h.k.fnd _ b1] at f1;have ad:y.1=x.1:=gu f1;have f2:=h.k.fnr _ I _ Q;rw [<-ad,A,h.k.fnr _ b1 _ ac] at f2;rw [gu f2]
 ap:=by
  rw [iK];intro i j hi ah ak x C y D ⟨e1,A⟩;obtain ⟨_,_,a⟩:=(io ts).mem i _ (aH hi) x C;obtain ⟨_,_,b⟩:=(io ts).mem j _ (aH ah) y D;rw [e1,A,b] at a;omega
 str:=fun g ag x C y D e s hs V=>by
  obtain ⟨i,hi⟩:=h8.1 ag;obtain ⟨I,Q,aj⟩:=(io ts).mem i g hi x C;rw [(H5 gs).ts y D,e] at hs;have U:=JU h (SN h) J I Q hs;have Y:=wI.2 V;have am:=sK (io ts) hi Y;unfold M0 at U
  split at U
  ·omega
  rename_i hl;apply hl;unfold eV;rw [ub h (io ts) hi Y,fE];obtain ⟨z,al,R,ab,e',rfl⟩:=V
  show bz R.id=true
  have ai:=((iU gs).ts R ab).2;obtain ⟨u,Z⟩:=List.exists_mem_of_ne_nil _ ai;rw [(H5 gs).ts R ab] at Z;obtain ⟨h1,h2,ae⟩:=lR.1 Z;rw [<-ae];exact (J u h1).id
variable {b:Nat} {w:af} {mv:ag}
def ZE{tl}(I:MC b w mv ts tl)(h:Ey ts)(Q:∀t∈gs,BV ts t)(Z:gs.length<=1000):PuR ts gs:=by
 have V:∀t∈ts,t.rels.length<=1000/\∀r∈t.rels,(aC r.body).length<=1000:=fun t A=>by
  rw [<-I.fst] at A;obtain ⟨p,ab,rfl⟩:=aN.1 A;obtain ⟨rl,U⟩:=I.rels p ab;exact ⟨U.len,U.okp⟩
 refine ⟨Z,fun t A=>(Q t A).low,fun g Y x ad=> ?_,Wj h Q,?_⟩
 ·obtain ⟨i,hi⟩:=h8.1 Y;obtain ⟨C,D,_⟩:=(io ts).mem i g hi x ad;have J:=h.e _ C _ D;have hn:=(h.n _ C).2 _ D;refine ⟨zy _ J,?_,?_,fun i hi=> ?_⟩
  ·have:=wL x.2.name x.2.body 0 J;have:=(V _ C).2 _ D;omega
  ·unfold maxLen;omega
  unfold fY at hi
  rcases aQ.1 hi with hi|hi
  ·have:=wM x.2.name aj x.2.body 0 J i hi;unfold maxLen;omega
  rw [aR] at hi;subst hi
  show (⟨#[]⟩:ae).size<=maxLen
  decide
 rw [(wO ts).sum];unfold nK;rw [List.length_flatMap];have key:∀l:List Ty,(∀t∈l,t.rels.length<=1000)->(l.map fun t=>(t.rels.map fun r=>((t,r):TR)).length).sum<=l.length*1000:=by
  intro l
  induction l with
  |nil=>intro _;simp
  |cons t l ih=>
   intro R;have:=ih (fun u ac=>R u (eO _ ac));have:=R t eb;simp only [cA,List.sum_cons,bX,List.length_cons] at*;omega
 have:=key ts (fun t A=>(V t A).1);have:=I.len;omega
end
def Ez(a:List ae)(x s:ae):s∈oJ a x↔s∈a\/s=x:=by
 unfold oJ
 split
 ·rename_i h
  constructor
  ·exact .inl
  rintro (h1|rfl)
  ·exact h1
  exact List.mem_of_getLast? h
 simp
def Wk(l:List ae)(s:ae):∀a:List ae,s∈l.foldl oJ a↔s∈a\/s∈l:=by
 induction l with
 |nil=>intro a;simp
 |cons x l ih=>
  intro a;rw [nJ,ih,Ez,bi,or_assoc]
def zC(l:List ae)(s:ae):s∈g9 l↔s∈l:=by
 unfold g9
 constructor
 ·intro h;obtain ⟨x,A,rfl⟩:=aN.1 h;rw [List.mem_mergeSort] at A;obtain ⟨y,C,rfl⟩:=aN.1 A;rw [show mk (bJ y)=y from by cases y;simp [bJ,mk]];exact C
 intro h;refine aN.2 ⟨bJ s,?_,by cases s;simp [bJ,mk]⟩;rw [List.mem_mergeSort];exact aN.2 ⟨s,h,rfl⟩
def sL(X:Nat)(cs:List Tg)(t:Tg):∀j,t∈dU X cs j↔∃i,i<j/\cs[i]? =some t/\X.testBit i=true
 |0=>by simp [dU]
 |j+1=>by
  rw [dU,aQ,sL X cs t j]
  constructor
  ·rintro (⟨i,hi,h⟩|h)
   ·exact ⟨i,aj,h⟩
   cases hc:cs[j]? with
   |none=>rw [hc] at h;cases h
   |some u=>
    rw [hc] at h;dsimp only at h
    split at h
    ·rename_i A;rw [aR] at h;subst h;exact ⟨j,aj,hc,A⟩
    cases h
  rintro ⟨i,hi,h1,h2⟩
  by_cases e:i=j
  ·subst e;right;rw [h1];simp [h2]
  exact .inl ⟨i,aj,h1,h2⟩
def EA(X:Nat)(cs:List Tg)(s:ae):s∈oK X cs↔∃i t,cs[i]? =some t/\X.testBit i=true/\qQ t=s:=by
 unfold oK ik;rw [Wk];simp only [dK,false_or];rw [zC,aN]
 constructor
 ·rintro ⟨t,h,rfl⟩;obtain ⟨i,_,h1,h2⟩:=(sL X cs t _).1 h;exact ⟨i,t,h1,h2,rfl⟩
 rintro ⟨i,t,h1,h2,rfl⟩;exact ⟨t,(sL X cs t _).2 ⟨i,(br.1 h1).1,h1,h2⟩,rfl⟩
def tC:ae:=⟨#[117,115,101,114]⟩
def gT:ae:=⟨#[103,114,111,117,112]⟩
def tM:ae:=⟨#[100,111,99]⟩
def fd:ae:=⟨#[109,101,109,98,101,114]⟩
def JZ:ae:=⟨#[112,97,114,101,110,116]⟩
def SO:ae:=⟨#[111,119,110,101,114]⟩
def Bv:ae:=⟨#[98,97,110,110,101,100]⟩
def J0:ae:=⟨#[101,100,105,116,111,114]⟩
def Wl:ae:=⟨#[118,105,101,119,101,114]⟩
def ZF(n:Nat):ae:=(⟨#[48,49,50,51,52,53,54,55,56,57]⟩:ae).extract n (n+1)
def EB(n:Nat):ae:=(⟨#[117,115,101,114,58,117]⟩:ae)++ZF n
def wP(n:Nat):ae:=(⟨#[103,114,111,117,112,58,103]⟩:ae)++ZF n
def Bw(n:Nat):ae:=(⟨#[100,111,99,58,100]⟩:ae)++ZF n
def grB(k a b:Nat):ae:=match k with
 |0=>(wP a++⟨#[35,109,101,109,98,101,114,64]⟩)++EB b
 |1=>((wP a++⟨#[35,109,101,109,98,101,114,64]⟩)++wP b)++⟨#[35,109,101,109,98,101,114]⟩
 |2=>(Bw a++⟨#[35,112,97,114,101,110,116,64]⟩)++Bw b
 |3=>(Bw a++⟨#[35,111,119,110,101,114,64]⟩)++EB b
 |4=>(Bw a++⟨#[35,101,100,105,116,111,114,64]⟩)++EB b
 |5=>((Bw a++⟨#[35,101,100,105,116,111,114,64]⟩)++wP b)++⟨#[35,109,101,109,98,101,114]⟩
 |6=>Bw a++⟨#[35,118,105,101,119,101,114,64,117,115,101,114,58,42]⟩
 |7=>Bw a++⟨#[35,98,97,110,110,101,100,64,117,115,101,114,58,42]⟩
 |_=>(Bw a++⟨#[35,98,97,110,110,101,100,64]⟩)++EB b
def J3:List ae:=(List.range 9).flatMap fun k=>(List.range 4).flatMap fun a=>(List.range 4).map fun b=>grB k a b
end Go.Proofs.YtlbpnlngckgcbaaGreatDoor
namespace Go.Proofs.YtlbpnlngckgcbaaGreatDoor
open Go.ChangeShapes Go.WideShapes Go.RowKit Go.Proofs.Tryz
end Go.Proofs.YtlbpnlngckgcbaaGreatDoor
namespace Go.Proofs.YtlbpnlngckgcbaaGreatDoor
open Go.RowKit Go.PlainAid Go.Proofs.Tryz
section
variable {B:Nat}{w w':af}{x y:Nat}{ts ts' ts2:List Ty}{gs gs' gs2:List Tu}
end
section
variable {B:Nat}{w w':af}{x:Nat}{ts ts2:List Ty}{gs gs2:List Tu}
end
def X3(d:Nat):ae:=(aG (Bw d) 58).2.1
def unB(d:Nat):ae:=(aG (EB d) 58).2.1
def Mu(l:List ae):Prop:=l.Pairwise fun a b=>leB a b/\a≠b
def EC{a b:ae}(h:leB a b)(k:leB b a):a=b:=by
 have:=List.le_antisymm h k;rw [<-dj a,<-dj b,this]
def J4:∀(l m:List ae),Mu l->Mu m->(∀s,s∈l↔s∈m)->l=m
 | [],[],_,_,_=>rfl
 | [],y::m,_,_,h=>by have:=(h y).2 eb;cases this
 |x::l,[],_,_,h=>by have:=(h x).1 eb;cases this
 |x::l,y::m,hl,hm,h=>by
  have A:=k9.1 hl;have C:=k9.1 hm;have e:x=y:=by
   rcases bi.1 ((h x).1 eb) with e|e
   ·exact e
   rcases bi.1 ((h y).2 eb) with e'|e'
   ·exact e'.symm
   exact EC (A.1 y e').1 (C.1 x e).1
  subst e;rw [J4 l m A.2 C.2 (fun s=>by
   constructor
   ·intro hs
    rcases bi.1 ((h s).1 (eO _ hs)) with e|e
    ·exact absurd e.symm (A.1 s hs).2
    exact e
   intro hs
   rcases bi.1 ((h s).2 (eO _ hs)) with e|e
   ·exact absurd e.symm (C.1 s hs).2
   exact e)]
def J5:∀(l a:List ae),Mu a->(∀s∈a,∀x∈l,leB s x)->l.Pairwise leB->Mu (l.foldl oJ a)
 | [],a,h,_,_=>h
 |x::l,a,h,h1,h2=>by
  rw [nJ];have C:=k9.1 h2;refine J5 l _ ?_ (fun s hs y A=> ?_) C.2
  ·unfold oJ
   split
   ·exact h
   rename_i J;refine AG.2 ⟨h,ar,fun s hs y A=> ?_⟩;rw [aR] at A;subst A;refine ⟨h1 s hs _ eb,fun e=>J ?_⟩;subst e;obtain ⟨i,hi,e⟩:=dk hs;have Q:=iK.1 h;have D:i=a.length-1:=by
    rcases gh i (a.length-1) with I|U
    ·exfalso;have q:=Q i (a.length-1) hi aj I;have R:=h1 (a[a.length-1]'aj) (bn _) s eb;rw [e] at q;exact q.2 (EC q.1 R)
    omega
   rw [List.getLast?_eq_getElem?,<-D,aH hi,e]
  rcases (Ez a x s).1 hs with e|e
  ·exact h1 s e y (eO _ A)
  subst e;exact C.1 y A
def qT(l:List ae):(g9 l).Pairwise leB:=by
 rw [ox];exact (sx l [] List.Pairwise.nil).1
def SP(X:Nat)(cs:List Tg):Mu (oK X cs):=J5 _ [] List.Pairwise.nil (fun _ h=>by cases h) (qT _)
section
variable {B:Nat}{w w':af}{x y:Nat}{ts ts' ts2:List Ty}{gs gs' gs2:List Tu}
end
def tt(s:ae):Tu:=(bQ s).1
section
variable {B:Nat}{w w':af}{x y:Nat}{ts ts':List Ty}{gs':List Tu}{ss:List ae}{s:ae}
end
def ZG:ae:=⟨#[42]⟩
section
variable {B:Nat}{w w':af}{x y:Nat}{ts ts':List Ty}{gs gs':List Tu}
end
section
variable {B:Nat}{w w':af}{x:Nat}{ts:List Ty}{gs:List Tu}{ss:List ae}{s:ae}
end
def H9(l:List ae):(g9 l).Perm l:=by
 rw [ox];have:=(sx l [] List.Pairwise.nil).2;rw [List.nil_append] at this;exact this
variable {l:List ae}
def Mv(h:l.Nodup):Mu (g9 l):=by
 have h1:=qT l;have h2:(g9 l).Nodup:=(H9 l).nodup_iff.2 h;exact h1.and h2
variable {aA aU:Prop}
abbrev p8:=@List.all_eq_true
def Ia(d:Nat):ae:=(aG (wP d) 58).2.1
def jM(M:Nat->Nat->Bool):Nat->Nat->Nat->Bool
 |0,i,j=>M i j
 |k+1,i,j=>jM M k i j||(jM M k i k&&jM M k k j)
def Wm(M:Nat->Nat->Bool)(k i:Nat):jM M (k+1) i k=jM M k i k:=by
 rw [jM]
 cases jM M k i k<;>simp
def Wn(M:Nat->Nat->Bool)(k j:Nat):jM M (k+1) k j=jM M k k j:=by
 rw [jM]
 cases jM M k k j<;>simp
def Ib(M:Nat->Nat->Bool){i j:Nat}(h:M i j=true):∀k,jM M k i j=true
 |0=>h
 |k+1=>by rw [jM,Ib M h k,Bool.true_or]
def zD(M:Nat->Nat->Bool):∀(k i a j:Nat),a<k->jM M k i a=true->jM M k a j=true->jM M k i j=true
 |0,i,a,j,h,_,_=>aj
 |k+1,i,a,j,h,h1,h2=>by
  by_cases e:a=k
  ·subst e;rw [Wm] at h1;rw [Wn] at h2;rw [jM,h1,h2];simp
  have C:=zD M k;rw [jM] at h1 h2 ⊢;simp only [kZ,bM] at h1 h2 ⊢
  rcases h1 with h1|⟨h1,D⟩
  ·rcases h2 with h2|⟨h2,A⟩
   ·exact .inl (C i a j aj h1 h2)
   exact .inr ⟨C i a k aj h1 h2,A⟩
  rcases h2 with h2|⟨h2,A⟩
  ·exact .inr ⟨h1,C k a j aj D h2⟩
  exact .inr ⟨h1,A⟩
def ED(M:Nat->Nat->Bool)(S:Nat->Prop)(h:∀a b,a<4->b<4->M a b=true->S b->S a):∀(k i j:Nat),k<=4->i<4->j<4->jM M k i j=true->S j->S i
 |0,i,j,_,hi,hj,h1,h2=>h i j hi hj h1 h2
 |k+1,i,j,hk,hi,hj,h1,h2=>by
  have A:=ED M S h k;rw [jM] at h1;simp only [kZ,bM] at h1
  rcases h1 with h1|⟨h1,C⟩
  ·exact A i j aj hi hj h1 h2
  exact A i k aj hi aj h1 (A k j aj aj hj C h2)
def Wo(k a b:Nat):Tu:=match k with
 |0=>⟨gT,Ia a,fd,tC,unB b,⟨#[]⟩⟩
 |1=>⟨gT,Ia a,fd,gT,Ia b,fd⟩
 |2=>⟨tM,X3 a,JZ,tM,X3 b,⟨#[]⟩⟩
 |3=>⟨tM,X3 a,SO,tC,unB b,⟨#[]⟩⟩
 |4=>⟨tM,X3 a,J0,tC,unB b,⟨#[]⟩⟩
 |5=>⟨tM,X3 a,J0,gT,Ia b,fd⟩
 |6=>⟨tM,X3 a,Wl,tC,ZG,⟨#[]⟩⟩
 |7=>⟨tM,X3 a,Bv,tC,ZG,⟨#[]⟩⟩
 |_=>⟨tM,X3 a,Bv,tC,unB b,⟨#[]⟩⟩
def ZH:((List.range 9).all fun k=>(List.range 4).all fun a=>(List.range 4).all fun b=>oF (tt (grB k a b)) (Wo k a b))=true:=by kernel_rfl
variable {k a b:Nat}
def SQ(A:k<9)(ha:a<4)(h:b<4):tt (grB k a b)=Wo k a b:=(CB _ _).1 (p8.1 (p8.1 (p8.1 ZH k (List.mem_range.2 A)) a (List.mem_range.2 ha)) b (List.mem_range.2 h))
def SR(ha:a<4)(A:b<4)(h:Ia a=Ia b):a=b:=by
 have k:((List.range 4).all fun a=>(List.range 4).all fun b=> !decide (Ia a=Ia b)||decide (a=b))=true:=aw;have:=p8.1 (p8.1 k a (List.mem_range.2 ha)) b (List.mem_range.2 A)
 simpa [h] using this
def M3(ss:List ae)(k a b:Nat):Bool:=ss.any fun s=>decide (s=grB k a b)
variable {ss:List ae}
def SS:M3 ss k a b=true↔grB k a b∈ss:=by
 unfold M3;rw [cX]
 constructor
 ·rintro ⟨s,hs,e⟩;rw [<-AQ e];exact hs
 intro h;exact ⟨_,h,m4 rfl⟩
def wQ(D:∀s∈ss,s∈J3)(t:Tu):t∈ss.map tt↔∃k a b,k<9/\a<4/\b<4/\M3 ss k a b=true/\t=Wo k a b:=by
 rw [aN]
 constructor
 ·rintro ⟨s,hs,rfl⟩;have:=D s hs;unfold J3 at this;simp only [bS,List.mem_range,aN] at this;obtain ⟨k,C,a,ha,b,A,rfl⟩:=this;exact ⟨k,a,b,C,ha,A,SS.2 hs,SQ C ha A⟩
 rintro ⟨k,a,b,C,ha,A,h,rfl⟩;exact ⟨_,SS.1 h,SQ C ha A⟩
def tN(gs:List Tu)(kd id c:ae)(p:Tu->Bool):Bool:=gs.any fun t=>decide (t.kind=kd/\t.id=id/\t.rel=c)&&p t
variable {gs:List Tu} {kd id:ae}
def n6{c:ae}{p:Tu->Bool}:tN gs kd id c p=true↔∃t∈gs,(t.kind=kd/\t.id=id/\t.rel=c)/\p t=true:=by
 unfold tN;rw [cX];simp only [bM,jo]
def EE(gs:List Tu)(kd id:ae):(∃y∈dG gs,y.kd=kd/\y.id=id/\∀c p,y.ts.any (fun t=>decide (t.rel=c)&&p t)=tN gs kd id c p)\/((∀y∈dG gs,¬(y.kd=kd/\y.id=id))/\∀c p,tN gs kd id c p=false):=by
 by_cases h:∃y∈dG gs,y.kd=kd/\y.id=id
 ·obtain ⟨y,A,e1,J⟩:=h;refine .inl ⟨y,A,e1,J,fun c p=> ?_⟩;rw [gJ,n6,cX,((iU gs).ts y A).1];simp only [sH,bM,jo,eA,e1,J]
  constructor
  ·rintro ⟨t,⟨h1,h2,C⟩,D,I⟩;exact ⟨t,h1,⟨h2.symm,C.symm,D⟩,I⟩
  rintro ⟨t,h1,⟨h2,C,D⟩,I⟩;exact ⟨t,⟨h1,h2.symm,C.symm⟩,D,I⟩
 refine .inr ⟨fun y A e=>h ⟨y,A,e⟩,fun c p=> ?_⟩
 cases e:tN gs kd id c p
 ·rfl
 obtain ⟨t,Q,⟨h1,h2,C⟩,D⟩:=n6.1 e;obtain ⟨y,A,q⟩:=(iU gs).all t Q;obtain ⟨R,U⟩:=eA.1 q;exact absurd ⟨y,A,R.trans h1,U.trans h2⟩ h
variable {hs:List Hp}
def ZI{g:List R3}{c:ae}(h:∀y∈hs,¬(y.kd=kd/\y.id=id)):¬lQ g hs ⟨kd,id,c⟩:=by
 rintro ⟨x,C,y,A,_,e⟩;exact h y A ⟨(congrArg Sj.kind e).symm,(congrArg Sj.id e).symm⟩
section
variable {who:Tg}{gs:List Tu}{g:List R3}{k0 k1 kb:Sj->Bool}
variable {kd:ae}
def Wp{c:ae}(h:El who (dG gs) g k0 k1)(C:(⟨kd,c,jz⟩:R3)∈g)(id:ae)(h0:k0 ⟨kd,id,c⟩=false):k1 ⟨kd,id,c⟩=tN gs kd id c (fun t=>gR k1 who (fb t)):=by
 rcases EE gs kd id with ⟨y,D,rfl,rfl,A⟩|⟨hn,A⟩
 ·rw [<-h.fix _ C y D rfl,<-A];simp [jz,hu]
 rw [A,h.old _ (ZI hn),h0]
end
section
variable {ss:List ae}{i:Nat}{p:Tu->Bool}
def p9(C:∀s∈ss,s∈J3)(hi:i<4):tN (ss.map tt) gT (Ia i) fd p=true↔∃b,b<4/\((M3 ss 0 i b=true/\p (Wo 0 i b)=true)\/(M3 ss 1 i b=true/\p (Wo 1 i b)=true)):=by
 rw [n6]
 constructor
 ·rintro ⟨t,Q,⟨e1,D,R⟩,J⟩;obtain ⟨k,a,b,U,ha,A,I,rfl⟩:=(wQ C t).1 Q
  rcases k with _|_|_|_|_|_|_|_|_|k
  ·obtain rfl:=SR ha hi D;exact ⟨b,A,.inl ⟨I,J⟩⟩
  ·obtain rfl:=SR ha hi D;exact ⟨b,A,.inr ⟨I,J⟩⟩
  all_goals first|omega|exact absurd e1 (show ¬(tM=gT) by decide)
 rintro ⟨b,A,⟨h1,h2⟩|⟨h1,h2⟩⟩
 ·exact ⟨Wo 0 i b,(wQ C _).2 ⟨0,i,b,aj,hi,A,h1,rfl⟩,⟨rfl,rfl,rfl⟩,h2⟩
 exact ⟨Wo 1 i b,(wQ C _).2 ⟨1,i,b,aj,hi,A,h1,rfl⟩,⟨rfl,rfl,rfl⟩,h2⟩
end
structure abq(who:Tg)(m:Nat->Bool):Prop where
 one:∀b,b<4->li ⟨tC,unB b,⟨#[]⟩⟩ who=m b
 all:li ⟨tC,ZG,⟨#[]⟩⟩ who=true
def ZJ(ss:List ae)(i j:Nat):Bool:=M3 ss 1 i j||decide (i=j)
def in2(ss:List ae)(i j:Nat):Bool:=M3 ss 2 i j||decide (i=j)
def abr(ss:List ae)(m:Nat->Bool)(i:Nat):Prop:=∃k,k<4/\jM (ZJ ss) 4 i k=true/\∃b,b<4/\M3 ss 0 k b=true/\m b=true
variable {gs:List Tu}
def SU{y:Hp}(h:y∈dG gs)(c:ae)(p:Tu->Bool):y.ts.any (fun t=>decide (t.rel=c)&&p t)=tN gs y.kd y.id c p:=by
 rcases EE gs y.kd y.id with ⟨z,D,e1,A,C⟩|⟨hn,_⟩
 ·rw [<-C,((iU gs).ts y h).1,((iU gs).ts z D).1];have:∀t,lP y t=lP z t:=fun t=>by unfold lP;rw [e1,A]
  simp only [this]
 exact absurd ⟨rfl,rfl⟩ (hn y h)
variable {kd id:ae}
def Mw{c:ae}{p A:Tu->Bool}(h:∀t,p t=true->A t=true)(k:tN gs kd id c p=true):tN gs kd id c A=true:=by
 obtain ⟨t,h1,h2,C⟩:=n6.1 k;exact n6.2 ⟨t,h1,h2,h t C⟩
variable {who:Tg}
def Ic{k A:Sj->Bool}(h:∀s,k s=true->A s=true)(s:Sj)(e:gR k who s=true):gR A who s=true:=by
 unfold gR at e ⊢
 split
 ·rename_i h0;rw [if_pos h0] at e;exact e
 rename_i h0;rw [if_neg h0] at e;exact h _ e
def ZK(k:Sj->Bool)(P:Sj->Prop):∃K:Sj->Bool,∀s,K s=true↔k s=true/\P s:=by
 classical exact ⟨fun s=>k s&&decide (P s),fun s=>ar⟩
section
variable {who:Tg}{m:Nat->Bool}{ss:List ae}{k0 k1 k3 kb:Sj->Bool}{i:Nat}
variable {n a b:Nat}
def J6(C:abq who m){k:Sj->Bool}(h:b<4)(A:n=0\/n=3\/n=4\/n=8):gR k who (fb (Wo n a b))=m b:=by
 rw [<-C.one b h]
 rcases A with rfl|rfl|rfl|rfl<;>exact if_pos rfl
def J7{k:Sj->Bool}(h:n=1\/n=5):gR k who (fb (Wo n a b))=k ⟨gT,Ia b,fd⟩:=by
 rcases h with rfl|rfl<;>exact if_neg (show ¬(fd.size=0) by decide)
variable {i k:Nat}
def SV{M:Nat->Nat->Bool}(h:M i i=true):jM M k i i=true:=Ib M h k
def SW:ZJ ss i i=true:=by simp [ZJ]
def g1R:List R3:=[⟨gT,fd,jz⟩,⟨tM,JZ,jz⟩,⟨tM,SO,jz⟩,⟨tM,Bv,jz⟩]
def J8:∀x∈g1R,x.sh=jz:=by
 intro x h;simp only [g1R,bi,dK,dP] at h
 rcases h with rfl|rfl|rfl|rfl<;>rfl
def mem_iff(Q:∀s∈ss,s∈J3)(ac:abq who m)(h:El who (dG (ss.map tt)) g1R (fun _=>false) k1)(hi:i<4):k1 ⟨gT,Ia i,fd⟩=true↔abr ss m i:=by
 have Y:∀id,k1 ⟨gT,id,fd⟩=tN (ss.map tt) gT id fd (fun t=>gR k1 who (fb t)):=fun id=>Wp h (by simp [g1R]) id rfl
 constructor
 ·intro C;obtain ⟨K,D⟩:=ZK k1 (fun s=>s.kind=gT->s.rel=fd->∀i,i<4->s.id=Ia i->abr ss m i);have ab:∀s,K s=true->k1 s=true:=fun s hs=>((D s).1 hs).1
  have key:=h.least K (fun s hs=>by
   cases al:K s
   ·rfl
   ·rw [<-ab s al,h.old s hs]) (fun x R y U e Z=>by
   rw [J8 x R] at Z;have J:tN (ss.map tt) y.kd y.id x.nm (fun t=>gR K who (fb t))=true:=by
    rw [<-SU U]
    simpa [jz,hu] using Z
   have ak:k1 ⟨y.kd,y.id,x.nm⟩=true:=by
    rw [<-h.fix x R y U e,J8 x R];have:=Mw (fun t=>Ic ab (fb t)) J;rw [<-SU U] at this
    simpa [jz,hu] using this
   refine (D _).2 ⟨ak,fun e1 ae i hi ag=> ?_⟩;have ad:y.kd=gT:=e1;have af:x.nm=fd:=ae;have ah:y.id=Ia i:=ag;rw [ad,af,ah] at J;obtain ⟨b,A,⟨h1,h2⟩|⟨h1,h2⟩⟩:=(p9 Q hi).1 J
   ·rw [J6 ac A (.inl rfl)] at h2;exact ⟨i,hi,SV SW,b,A,h1,h2⟩
   rw [J7 (.inl rfl)] at h2;obtain ⟨k,C,am,an⟩:=((D _).1 h2).2 rfl rfl b A rfl;exact ⟨k,C,zD _ 4 i b k A (Ib _ (by simp [ZJ,h1]) 4) am,an⟩) _ C
  exact ((D _).1 key).2 rfl rfl i hi rfl
 rintro ⟨k,C,h1,b,A,h2,ai⟩;refine ED (ZJ ss) (fun i=>k1 ⟨gT,Ia i,fd⟩=true) (fun a c ha hc I V=> ?_) 4 i k aj hi C h1 ?_
 ·unfold ZJ at I;rw [kZ,jo] at I
  rcases I with q|rfl
  ·rw [Y,p9 Q ha];exact ⟨c,hc,.inr ⟨q,by rw [J7 (.inl rfl)];exact V⟩⟩
  exact V
 show k1 ⟨gT,Ia k,fd⟩=true
 rw [Y,p9 Q C];exact ⟨b,A,.inl ⟨h2,by rw [J6 ac A (.inl rfl)];exact ai⟩⟩
end
def mI:Nat->(Nat->Bool)->Bool
 |0,_=>false
 |k+1,f=>mI k f||f k
def n7{f}:∀{n:Nat},mI n f=true↔∃k,k<n/\f k=true
 |0=>by
  constructor
  ·intro h;cases h
  rintro ⟨k,A,_⟩;omega
 |n+1=>by
  rw [mI,kZ,n7]
  constructor
  ·rintro (⟨k,A,h⟩|h)
   ·exact ⟨k,aj,h⟩
   exact ⟨n,aj,h⟩
  rintro ⟨k,A,h⟩
  by_cases e:k=n
  ·subst e;exact .inr h
  exact .inl ⟨k,aj,h⟩
def memX(ss:List ae)(i j:Nat):Bool:=mI 4 fun k=>jM (ZJ ss) 4 i k&&M3 ss 0 k j
def edtX(ss:List ae)(d j:Nat):Bool:=(M3 ss 3 d j||M3 ss 4 d j)||mI 4 fun g=>M3 ss 5 d g&&memX ss g j
section
variable {ss:List ae}{i j:Nat}{kb:Sj->Bool}
end
def eF(ss:List ae)(i j:Nat):Nat->Bool:=fun d=>jM (in2 ss) 4 i d&&edtX ss d j
section
variable {ss:List ae}{me mk a n b e d i j:Nat}
end
def Ie(n:Nat)(f:Nat->Bool):List Bool:=(List.range n).map f
variable {n i:Nat}
def SY(f)(h:i<(Ie n f).length):(Ie n f)[i]=f i:=by simp [Ie]
def ZL(f v):(Ie n f).set i v=Ie n (fun q=>if q=i then v else f q):=by
 apply List.ext_getElem
 ·simp [Ie]
 intro q h1 h2;rw [List.getElem_set,SY,SY]
 by_cases e:i=q
 ·rw [if_pos e,if_pos e.symm]
 rw [if_neg e,if_neg (fun e'=>e e'.symm)]
def SZ{f g}(h:∀q,q<n->f q=g q):Ie n f=Ie n g:=by
 unfold Ie;exact List.map_congr_left (fun q A=>h q (List.mem_range.1 A))
def xJ(w:af)(g n:Nat)(f:Nat->Bool)(T:TypeId):Prop:=aE w g ((Ie n f).map Value.bool).toArray T
section
variable {w w':af}{g n:Nat}{f f':Nat->Bool}{T:TypeId}
variable {i:Nat}
def xJ.cell(h:xJ w g n f T)(hi:i<n):w.cell? ⟨g,i,none⟩=some (.bool (f i)):=aE.cell h (by simp [Ie,hi])
def xJ.set(h:xJ w g n f T)(i v):xJ (w.setCell ⟨g,i,none⟩ (.bool v)) g n (fun q=>if q=i then v else f q) T:=by
 have:=aE.set h i (.bool v);unfold xJ;rw [<-ZL,pO]
 simpa using this
def xJ.congr(h:xJ w g n f T)(e:∀q,q<n->f q=f' q):xJ w g n f' T:=by
 unfold xJ at h ⊢;rw [<-SZ e];exact h
def xJ.fz(h:xJ w g n f T)(o):w.frozen? ⟨g,o,none⟩=false:=aE.fz h o
def xJ.lt(h:xJ w g n f T):g<w.heap.size:=aE.lt h
def xJ.below(h:xJ w g n f T)(k:an w w'):xJ w' g n f T:=aE.below h k
end
variable {aA aU:Prop}
abbrev n8:=@Nat.add_zero
def S6 (h:aA:=by
 go_wp2;go_roundw
 case rel=>exact ⟨k+1,aj,by go_num,by first|rfl|trivial,HN3⟩
 case measure=>simp [intOf];omega):aA:=h
structure GP where
 b:Nat
 y:Nat
 bm:Nat
 tv:ag
 gv:ag
 yv:ag
 kv:ag
 rv:ag
 pv:ag
 kl:List (ae×Nat)
 rl:List RV
 pl:List PV
 l:List PX
 ss:List ae
 th:List (ae×ae)
 bs:List Nat
 kd:ae
 who:ae
def Mx(p:ae×ae):List ag:=[.string p.1,.string p.2]
structure GI(w:af)(g:GP)(K:Nat->Nat->Bool):Prop where
 blk:aE w g.b #[.pointer (some ⟨g.y,0,none⟩),.string g.kd,.string g.who,g.gv,g.yv] 351
 du:DU w g.y (.pointer (some ⟨g.bm,5,none⟩)) g.tv g.ss
 dm:DM w g.bm g.kv g.rv g.pv g.kl g.rl g.pl g.l
 th:w.ownsRow 0 382 2 g.gv g.th.length (g.th.flatMap Mx)
 few:g.th.length<=1000
 yr:w.ownsRow 0 353 1 g.yv g.rl.length (g.bs.map fun q=> .slice (some ⟨q,0,none⟩) g.th.length g.th.length)
 bl:g.bs.length=g.rl.length
 yb:∀(r:Nat)(q:Nat),g.bs[r]? =some q->xJ w q g.th.length (K r) 4
 mb:∃cs,aE w g.bm cs 252
 nd:g.bs.Nodup
variable {w w':af}
def GI.below{g K}(h:GI w g K)(k:an w w'):GI w' g K:=
 ⟨h.blk.below k,h.du.below k,h.dm.below k,aB h.th k,h.few,aB h.yr k,h.bl,fun r q C=>(h.yb r q C).below k,by obtain ⟨cs,A⟩:=h.mb;exact ⟨cs,A.below k⟩,h.nd⟩
def GI.five{g K}(h:GI w g K):w.cell? ⟨g.b,0,none⟩=some (.pointer (some ⟨g.y,0,none⟩))/\w.cell? ⟨g.b,1,none⟩=some (.string g.kd)/\w.cell? ⟨g.b,2,none⟩=some (.string g.who)/\w.cell? ⟨g.b,3,none⟩=some g.gv/\w.cell? ⟨g.b,4,none⟩=some g.yv:=⟨h.blk.cell rfl,h.blk.cell rfl,h.blk.cell rfl,h.blk.cell rfl,h.blk.cell rfl⟩
def wR(th:List (ae×ae))(k n:ae):Int:=match th.findIdx? (fun p=>eqs p.1 k&&eqs p.2 n) with
 |some i=>(i:Int)
 |none=> -1
variable {x:ae} {k:Nat}
def ZM{th n}(hk:k<th.length)(hn:∀j,(h:j<th.length)->j<k->(eqs th[j].1 x&&eqs th[j].2 n)=false)(he:(eqs th[k].1 x&&eqs th[k].2 n)=true):wR th x n=k:=by
 unfold wR;have:th.findIdx? (fun p=>eqs p.1 x&&eqs p.2 n)=some k:=by
  exact FB
 rw [this]
def S7{th n}(hn:∀j,(h:j<th.length)->(eqs th[j].1 x&&eqs th[j].2 n)=false):wR th x n= -1:=by
 unfold wR;have:th.findIdx? (fun p=>eqs p.1 x&&eqs p.2 n)=none:=by
  exact FA
 rw [this]
def wS(b c0 c1 c2 c4 gv th x n w)(Y:aE w b #[c0,c1,c2,gv,c4] 351)(Q:w.ownsRow 0 382 2 gv th.length (th.flatMap Mx))(am:th.length<=1000):
  Calls prog 200 #[.pointer (some ⟨b,0,none⟩),.string x,.string n] w fun e w'=>e=.returned (.int .i64 (wR th x n))/\w'=w:=by
 obtain ⟨ga,gc,rfl⟩:=ax Q;have ah:w.cell? ⟨b,3,none⟩=some (.slice ga th.length gc):=Y.cell rfl;have U:=ai Q;generalize Z:wR th x n=ag;have HR:=ai Z;go_enter func200,ntmps200;go_wp2_with fail
 go_loopw [7] (fun u wr=>∃k:Nat,k<=th.length/\u=.int .i64 k/\wr=w/\Hid (∀j,(h:j<th.length)->j<k->(eqs th[j].1 x&&eqs th[j].2 n)=false)) (fun u _=>th.length-(intOf u).toNat)
 case atStart=>exact ⟨0,aj,rfl,rfl,ai (fun j h V=>aj)⟩
 case round=>
  obtain ⟨k,al,rfl,af,D⟩:=hrel;subst af
  by_cases R:k<th.length
  ·have ad:(k:Int)<(th.length:Int):=by omega
   obtain ⟨g,c,e1,hc⟩:=bf Mx 2 (fun _=>rfl) U.u k th[k] (aH R);simp only [aI,bU] at e1;obtain ⟨rfl,rfl⟩:=e1;have k0:=hc 0 _ aj rfl;have k1:=hc 1 _ aj rfl;rw [n8] at k0;have I:=ai (fun (A:(eqs th[k].1 x&&eqs th[k].2 n)=false)=>show ∀j,(h:j<th.length)->j<k+1->(eqs th[j].1 x&&eqs th[j].2 n)=false from fun j h V=>by
    by_cases e:j=k
    ·subst e;exact A
    exact ak D j h aj)
   have J:=ai (fun (A:(eqs th[k].1 x&&eqs th[k].2 n)=true)=>ZM R (ak D) A);generalize th[k]=p at*;obtain ⟨p1,p2⟩:=p;simp only at k0 k1 I J
   cases A:eqs p1 x
   ·have ab:(p1.toList==x.toList)=false:=by rw [<-aK];exact A
    have HN3:=ai (ak I (by rw [A];rfl));exact S6
   have ab:(p1.toList==x.toList)=true:=by rw [<-aK];exact A
   cases C:eqs p2 n
   ·have ae:(p2.toList==n.toList)=false:=by rw [<-aK];exact C
    have HN3:=ai (ak I (by rw [A,C];rfl));exact S6
   have ae:(p2.toList==n.toList)=true:=by rw [<-aK];exact C
   have hF:=ak J (by rw [A,C];rfl);exact Fp
  have ad:¬((k:Int)<(th.length:Int)):=aj;have hF:=S7 (fun j ac=>ak D j ac aj);exact Fp
def Bx(K:Nat->Nat->Bool)(r k a b:Nat):Bool:=if a=r/\b=k then true else K a b
variable {a b:Nat} {cs:Array ag} {T T':TypeId}
def sM{cs'}(h:aE w a cs T)(k:aE w b cs' T')(A:T≠T'):a≠b:=by
 intro e;subst e;unfold aE at h k;rw [h] at k;exact A (by cases k;rfl)
variable {base size n q:Nat} {e:TypeId} {v:ag} {xs:List ag}
def mJ(h:w.ownsRow base e size v n xs)(C:aE w q cs T)(D:e≠T)(o u):(w.setCell ⟨q,o,none⟩ u).ownsRow base e size v n xs:=
 ay h (fun g' I f _ A=>dN _ _ _ _ (fun (e':g'=q)=>by
  subst e';unfold aE at C;rw [C] at A
  cases A
  exact D rfl))
def GI.set{g K}(h:GI w g K){r}(C:g.bs[r]? =some q):GI (w.setCell ⟨q,k,none⟩ (.bool true)) g (Bx K r k):=by
 have A:aE w q _ 4:=h.yb r q C;obtain ⟨cs,U⟩:=h.mb;have I:=YP.kd (w':=w.setCell ⟨q,k,none⟩ (.bool true)) (⟨h.dm,cs,U⟩:YP w g.bm g.kv g.rv g.pv g.kl g.rl g.pl g.l) (KD.set A Do k (.bool true));refine ⟨h.blk.other (sM h.blk A au) _,⟨h.du.blk.other (sM h.du.blk A au) _,mJ h.du.row A au _ _,h.du.apart,h.du.most⟩,I.dm,mJ h.th A au _ _,h.few,mJ h.yr A au _ _,h.bl,fun a D ha=> ?_,I.blk,h.nd⟩
 by_cases e:a=r
 ·subst e;rw [C] at ha
  cases ha
  have:=(h.yb a q C).set k true;refine this.congr (fun b Q=> ?_);unfold Bx
  by_cases e:b=k
  ·rw [if_pos e,if_pos ⟨rfl,e⟩]
  rw [if_neg e,if_neg (fun e'=>e e'.2)]
 have V:D≠q:=fun e'=>by
  subst e';obtain ⟨h1,e1⟩:=br.1 ha;obtain ⟨h2,J⟩:=br.1 C;exact e ((List.getElem_inj h.nd).1 (e1.trans J.symm))
 have R:=h.yb a D ha;have:xJ (w.setCell ⟨q,k,none⟩ (.bool true)) D g.th.length (K a) 4:=aE.other R V _;refine this.congr (fun b Q=> ?_);unfold Bx;rw [if_neg (fun e'=>e e'.1)]
