import Derived.Test.YtlbpnlngckgcbaaGreatDoorM32
import Derived.Test.YtlbpnlngckgcbaaGreatDoorM30
import Derived.Test.YtlbpnlngckgcbaaGreatDoorM31
import Derived.Test.YtlbpnlngckgcbaaGreatDoorM33
import Derived.Test.YtlbpnlngckgcbaaGreatDoorM29
import Derived.Test.YtlbpnlngckgcbaaGreatDoorM34
import Derived.Test.YtlbpnlngckgcbaaGreatDoorM35
import Derived.Deep.Slices
import Derived.ChangeArms
import Derived.SizedLaws
import Derived.Lib.LaidTab
import Derived.Shelf.Vars
import Derived.ChangeSame
import Derived.DataShut
import Derived.OpenShut
import Derived.ChangeVars
import Derived.ChangeSlices
import Derived.Carry
import Derived.LaidLaws
import Derived.LaidHandle
import Derived.LaidMore
import Derived.LaidSub
set_option linter.all false
set_option maxHeartbeats 4000000
set_option maxRecDepth 100000
namespace Go.Proofs.YtlbpnlngckgcbaaGreatDoor
open Go.RowKit Go.PlainAid Go.Proofs.Tryz
def Clo(cs:List Tg)(ls:List (It×ag))(hl:List Hd)(K:Sj->Nat):Prop:=∀p∈ls,∀h∈hl,h.kd=p.1.1.1.name->s9 (uf K cs p h) (K (j0 p h))
structure SX(cs:List Tg)(ls:List (It×ag))(hl:List Hd)(K0 K:Sj->Nat):Prop where
 g:aa9 cs ls hl K0 K
 least:∀K',(∀s,o3 cs.length (K' s))->(∀s,¬ZC ls hl s->K' s=K0 s)->Clo cs ls hl K'->∀s,s9 (K s) (K' s)
variable {hl:List Hd}
def Ni{cs:List Tg}{ls:List (It×ag)}(D:cs.length<=64)(A:SU ls hl)(C:Sj->Nat):SeC cs hl ls (SX cs ls hl C) (ju (Fy ls hl)) where
 bits:=fun K I=>(tf D A C).bits K I.g
 val:=fun K I=>(tf D A C).val K I.g
 step:=fun K I p U h Q R ab=>by
  obtain ⟨h1,h2⟩:=(tf D A C).step K I.g p U h Q R ab;refine ⟨⟨h1,fun Z V Y J s=> ?_⟩,h2⟩;unfold m5
  split
  ·rename_i e;subst e;refine fun i hi=>J p U h Q R i (Fz D I.g.out V (I.least Z V Y J) (fun s hs=> ?_) i hi)
   have hn:=A.str p U h Q R s hs;rw [I.g.old s hn,Y s hn]
  exact I.least Z V Y J s
structure Hp where
 kd:ae
 id:ae
 ts:List Tu
def lw(h:Hd):Hp:=⟨h.kd,h.id,h.ts⟩
def rX(K:Sj->Nat)(cs:List Tg)(x:TR)(h:Hp):Nat:=eg ⟨K,cs,h.kd,h.id,h.ts⟩ x.2.name x.2.body
def rSj(x:TR)(h:Hp):Sj:=⟨h.kd,h.id,x.2.name⟩
def I5(g:List TR)(hs:List Hp)(s:Sj):Prop:=∃x∈g,∃h∈hs,h.kd=x.1.name/\s=rSj x h
structure Sol(cs:List Tg)(hs:List Hp)(g:List TR)(K0 K:Sj->Nat):Prop where
 out:∀s,o3 cs.length (K s)
 old:∀s,¬I5 g hs s->K s=K0 s
 fix:∀x∈g,∀h∈hs,h.kd=x.1.name->rX K cs x h=K (rSj x h)
 least:∀K',(∀s,o3 cs.length (K' s))->(∀s,¬I5 g hs s->K' s=K0 s)->(∀x∈g,∀h∈hs,h.kd=x.1.name->s9 (rX K' cs x h) (K' (rSj x h)))->∀s,s9 (K s) (K' s)
def KW{ls s}:I5 (ls.map fun p=>QB p.1) (hl.map lw) s↔ZC ls hl s:=by
 constructor
 ·rintro ⟨x,J,h,I,e1,A⟩;obtain ⟨p,C,rfl⟩:=aU.1 J;obtain ⟨y,D,rfl⟩:=aU.1 I;exact ⟨p,C,y,D,e1,A⟩
 rintro ⟨p,C,y,D,e1,A⟩;exact ⟨_,aU.2 ⟨p,C,rfl⟩,_,aU.2 ⟨y,D,rfl⟩,e1,A⟩
def ZE{cs:List Tg}{ls:List (It×ag)}{D K:Sj->Nat}(h:SX cs ls hl D K)(f:I3 cs ls hl K):Sol cs (hl.map lw) (ls.map fun p=>QB p.1) D K where
 out:=h.g.out
 old:=fun s hs=>h.g.old s (fun e=>hs (KW.2 e))
 fix:=fun x Q y R e=>by
  obtain ⟨p,A,rfl⟩:=aU.1 Q;obtain ⟨z,C,rfl⟩:=aU.1 R;exact f p A z C e
 least:=fun I U V J=>h.least I U (fun s hs=>V s (fun e=>hs (KW.1 e))) (fun p A z C e=>J _ (aU.2 ⟨p,A,rfl⟩) _ (aU.2 ⟨z,C,rfl⟩) e)
def Run(cs:List Tg)(hs:List Hp):List (List TR)->(Sj->Nat)->(Sj->Nat)->Prop
 | [],K,K'=>K'=K
 |g::gs,K,K'=>∃K1,Sol cs hs g K K1/\Run cs hs gs K1 K'
def KY{cs hs}:∀{gs gs':List (List TR)} {K A B:Sj->Nat},Run cs hs gs K A->Run cs hs gs' A B->Run cs hs (gs++gs') K B
 | [],gs',K,A,B,h,k=>by obtain rfl:=(h:A=K);exact k
 |g::gs,gs',K,A,B,⟨K1,h1,h2⟩,k=>⟨K1,h1,KY h2 k⟩
def KZ{cs hs}:∀{gs:List (List TR)} {K A:Sj->Nat},Run cs hs gs K A->∀s,(∀g∈gs,¬I5 g hs s)->A s=K s
 | [],K,A,h,s,_=>by rw [show A=K from h]
 |g::gs,K,A,⟨K1,h1,h2⟩,s,hn=>by
  rw [KZ h2 s (fun g' C=>hn g' (eY _ C)),h1.old s (hn g eu)]
def CC{cs hs}:∀{gs:List (List TR)} {K A:Sj->Nat},Run cs hs gs K A->(∀s,o3 cs.length (K s))->∀s,o3 cs.length (A s)
 | [],K,A,h,ho=>by rw [show A=K from h];exact ho
 |g::gs,K,A,⟨K1,h1,h2⟩,_=>CC h2 h1.out
structure Nj(gs:List (List TR))(hs:List Hp):Prop where
 hds:∀h∈hs,∀h'∈hs,h.kd=h'.kd->h.id=h'.id->h=h'
 lns:∀g∈gs,∀x∈g,∀y∈g,x.1.name=y.1.name->x.2.name=y.2.name->x.2.body=y.2.body
 ap:gs.Pairwise fun g g'=>∀x∈g,∀y∈g',¬(x.1.name=y.1.name/\x.2.name=y.2.name)
 str:∀g∈gs,∀x∈g,∀h∈hs,h.kd=x.1.name->∀s,Nh h.kd h.id h.ts x.2.name x.2.body s->¬I5 g hs s
structure LnR(x:TR):Prop where
 wf:Cz x.2.body
 len:(bp x.2.name 0 x.2.body).length<40000
 name:x.2.name.size<=maxLen
 rel:∀i∈gF x.2.name x.2.body,i.rel.size<=maxLen
def LnR.ok{p:It×ag}(h:LnR (QB p.1)):Zy p:=⟨h.wf,h.len,h.name,h.rel⟩
def SY{gs:List (List TR)}{ls:List (It×ag)}(h:Nj gs (hl.map lw))(C:(ls.map fun p=>QB p.1)∈gs)(I:∀x∈hl,∀y∈hl,x.kd=y.kd->x.id=y.id->x=y):SU ls hl where
 hds:=I
 lns:=fun p A q J e1 D=>h.lns _ C _ (aU.2 ⟨p,A,rfl⟩) _ (aU.2 ⟨q,J,rfl⟩) e1 D
 str:=fun p A y R e s hs Q=>h.str _ C _ (aU.2 ⟨p,A,rfl⟩) _ (aU.2 ⟨y,R,rfl⟩) e s hs (KW.2 Q)
def I6{cs:List Tg}{ls:List (It×ag)}{K:Sj->Nat}(ho:∀s,o3 cs.length (K s))(C:∀s,ZC ls hl s->K s=0):SX cs ls hl K K where
 g:=⟨ho,fun _ _=>rfl,fun p I h D e i hi=>by rw [C _ ⟨p,I,h,D,e,rfl⟩] at hi;simp at hi⟩
 least:=fun Q _ J _ s i hi=>by
  by_cases A:ZC ls hl s
  ·rw [C s A] at hi;simp at hi
  rw [J s A];exact hi
variable {hs:List Hp}
def S0{cs pre g K}(Q:Run cs hs pre (fun _=>0) K)(I:∀g'∈pre,∀x∈g',∀y∈g,¬(x.1.name=y.1.name/\x.2.name=y.2.name))(s)(R:I5 g hs s):K s=0:=by
 obtain ⟨y,V,h,Y,e1,rfl⟩:=R;refine KZ Q _ (fun g' J ⟨x,U,D,Z,C,A⟩=>I g' J x U y V ⟨?_,?_⟩)
 ·have:D.kd=h.kd:=(congrArg Sj.kind A).symm;rw [<-C,<-e1,this]
 exact (congrArg Sj.rel A).symm
variable {aD bq:Prop}
def zc11q (h:aD:=by
 first|exact hfin.2|(rw [<-HN1];exact hfin.2)):aD:=h
def S1 (h:aD:=by
 exact ⟨k+1,_,_,rfl,by go_num,ai,hfin.1,zc11q,aj (Nk HTK HST HP Wr rfl)⟩):aD:=h
def lT(h:Hp)(t:Tu):Bool:=Fo ⟨h.kd,h.id⟩ ⟨t.kind,t.id⟩
def CD(i:Nat)(t:Tu)(l:List Hp):List Hp:=match l[i]? with
 |some h=>l.set i ⟨h.kd,h.id,h.ts++[t]⟩
 |none=>l
def xE(l:List Hp)(t:Tu):List Hp:=match l.findIdx? (fun h=>lT h t) with
 |some i=>CD i t l
 |none=>CD l.length t (l++[⟨t.kind,t.id,[]⟩])
def dq(gs:List Tu):List Hp:=gs.foldl xE []
def xF(gs t):dq (gs++[t])=xE (dq gs) t:=by simp [dq]
structure K3(base:Nat)(w:af)(hv:ag)(hl:List Hd):Prop where
 row:w.ownsRow base 282 3 hv hl.length (hl.flatMap Nc)
 tup:∀h∈hl,w.ownsRow base 123 6 h.tv h.ts.length (h.ts.flatMap k9)
 ap:hl.Pairwise (fun p q=>∀k,p.tv.ownBlock=some k->q.tv.ownBlock≠some k)
section
variable {base g cap i:Nat}{w w' W w5:af}{hv:ag}{hl:List Hd}{t:Tu}
def K3.below(h:K3 base w hv hl)(k:am w w'):K3 base w' hv hl:=⟨aB h.row k,fun x A=>aB (h.tup x A) k,h.ap⟩
variable {kd id:ae}
def K3.push(h:K3 base w hv hl)(J:w.grownBy w' hv.ownBlock)(Q:w'.ownsRow base 282 3 (aA (some (aP g)) (hl.length+1) cap) (hl.length+1) (hl.flatMap Nc++[an kd,an id,aA none 0 0])):K3 base w' (aA (some (aP g)) (hl.length+1) cap) (hl++[⟨kd,id,[],aA none 0 0⟩]):=by
 refine ⟨by simpa [Nc] using Q,fun p D=> ?_,?_⟩
 ·rcases aW.1 D with D|D
  ·exact ay (h.tup p D) (fun g cs f _ I=>J.block g (lt_of_some I) (dV h.row I ax))
  rw [aX] at D;subst D;exact bP
 exact Qo
def S2(x u ts):∀(l:List Hd)(k:Nat),l[k]? =some x->(l.flatMap Nc).set (k*3+2) u=(l.set k ⟨x.kd,x.id,ts,u⟩).flatMap Nc
 | [],k,h=>by simp at h
 |y::l,0,h=>by
  simp only [List.getElem?_cons_zero,aR] at h;subst h
  rfl
 |y::l,k+1,h=>by
  have A:=S2 x u ts l k nv;rw [bM,r9 _ _ (by show 3<=_;omega),show (k+1)*3+2-(Nc y).length=k*3+2 by show (k+1)*3+2-3=_;omega,A,List.set_cons_succ,bM]
variable {g0 c0:Nat}
def K3.put{p}(h:K3 base w (aA (some (aP g0)) hl.length c0) hl)(hi:hl[i]? =some p)(I:w.grownBy w' p.tv.ownBlock)(hown:w'.ownsRow base 123 6 (aA (some (aP g)) (p.ts.length+1) cap) (p.ts.length+1) (p.ts.flatMap k9++k9 t))(Q:p.tv.ownBlock=some g\/w.heap.size<=g):
  K3 base (w'.setCell (aC g0 (i*3+2)) (aA (some (aP g)) (p.ts.length+1) cap)) (aA (some (aP g0)) hl.length c0) (hl.set i ⟨p.kd,p.id,p.ts++[t],aA (some (aP g)) (p.ts.length+1) cap⟩):=by
 have hil:i<hl.length:=(bD.1 hi).1;have U:p∈hl:=bF hi;have hpe:hl[i]=p:=by rw [aI hil] at hi;exact gM hi
 have J:w'.ownsRow base 282 3 (aA (some (aP g0)) hl.length c0) hl.length (hl.flatMap Nc):=ay h.row (fun g cs f _ D=>I.block g (lt_of_some D) (dV (h.tup p U) D ax));obtain ⟨Y,R,_⟩:=dG J;have hap:=iW.1 h.ap;refine ⟨?_,fun q V=> ?_,?_⟩
 ·have:=oC J (i*3+2) (aA (some (aP g)) (p.ts.length+1) cap);rw [fV,<-S2 p _ _ hl i hi];exact this
 ·obtain ⟨j,hj,rfl⟩:=dB V;rw [fV] at hj;refine bU ?_ R ax _ _
  by_cases e:i=j
  ·exact XU
  rw [jM e];refine cH (h.tup _ (br hj)) (fun k cs f hk D=>I.block k (lt_of_some D) (fun ek=> ?_));exact Qq
 ·refine iW.2 (fun a b ha hb' hab k hk e=> ?_);rw [fV] at ha hb';have old:∀j (hj:j<hl.length),j≠i->hl[j].tv.ownBlock=some k->g=k->False:=fun j hj hji hk e=>by
   subst e
   rcases Q with e|e
   ·exact Qp
   have:=((h.tup _ (br hj)).lt g hk).2;omega
  exact XT
variable {pc n1:Nat} {pa:Option Addr} {W0:af} {o:Obj}
def hold_close{A:Nat}{ts:List Tu}(Z:n1=hl.length)(C:am W0 W)(D:K3 W0.heap.size W (aA (some (aP g0)) n1 c0) hl)(J:hl[i]? =some ⟨kd,id,ts,aA pa A pc⟩)(ac:A=ts.length)
  (Q:(W.alloc o).drew.grownBy w5 (Value.slice pa A pc).ownBlock) (ab:w5.ownsRow W0.heap.size 123 6 (aA (some (aP g)) (A+1) cap) (A+1) (ts.flatMap k9++k9 t)) (U:(Value.slice pa A pc).ownBlock=some g\/g=W.heap.size+1):
  am W0 (w5.setCell (aC g0 (i*3+2)) (aA (some (aP g)) (A+1) cap))/\K3 W0.heap.size (w5.setCell (aC g0 (i*3+2)) (aA (some (aP g)) (A+1) cap)) (aA (some (aP g0)) n1 c0) (hl.set i ⟨kd,id,ts++[t],aA (some (aP g)) (A+1) cap⟩):=by
 subst ac;subst Z;have I:am W ((W.alloc o).drew):=((az _ W).alloc aH o).drew;have R:=D.below I;obtain ⟨ad,ae,V⟩:=dG D.row;refine ⟨((C.trans (I.mono C.size)).grown Q (aV C.size I.size) (fun k Y=>((D.tup _ (bF J)).lt k Y).1)).setCell V _,?_⟩;exact R.put J Q ab (U.elim .inl (fun e=> .inr aS))
variable {gs:List Tu} {k:Nat}
def Nk{p p'}(Q:gs.take (k+1)=gs.take k++[t])(J:CD i t (hl.map lw)=dq (gs.take k++[t])/\hl.length<=k+1)(D:hl[i]? =some p)(C:∀h∈hl,h.ts.length<=k)(I:lw p'=⟨p.kd,p.id,p.ts++[t]⟩):
  (hl.set i p').map lw=dq (gs.take (k+1))/\(hl.set i p').length<=k+1/\∀h∈hl.set i p',h.ts.length<=k+1:=by
 refine ⟨?_,by rw [fV];exact J.2,fun h A=> ?_⟩
 ·rw [Q,<-J.1,qd,I];unfold CD;rw [et,D]
  rfl
 ·rcases sH A with A|rfl
  ·have:=C h A;omega
  have h1:h.ts=p.ts++[t]:=congrArg Hp.ts I;have h2:=C p (bF D);rw [h1,bf];simp;omega
end
def FA(l:List Hd)(t:Tu):(l.map lw).findIdx? (fun h=>lT h t)=l.findIdx? (fun h=>rD h t):=by
 rw [List.findIdx?_map]
 rfl
def Tryz.infoHo:(Tryz.prog.info? 282).map (fun i=>(i.zero,i.size,i.bytes))=some (some (.agg #[an ⟨#[]⟩,an ⟨#[]⟩,aA none 0 0]),3,56):=by kernel_rfl
def ZF(gs:List Tu)(w:af)(e:Ending)(w':af):Prop:=∃hv hl,e=bi hv/\am w w'/\K3 w.heap.size w' hv hl/\hl.map lw=dq gs/\hl.length<=gs.length/\∀h∈hl,h.ts.length<=gs.length
def FB(gv gs w)(bh:w.ownsRow 0 123 6 gv gs.length (gs.flatMap k9))(cb:gs.length<=1000):
  Calls prog 98 #[gv] w (ZF gs w):=by
 obtain ⟨ga,gc,rfl⟩:=aw bh;have bu:=aj bh;clear bh;go_enter func98,ntmps98;go_wp2_with fail
 go_loopw [3,9] (fun b2 bi wr=>∃(k:Nat)(hv:ag)(hl:List Hd),b2=hv/\bi=au k/\k<=gs.length/\am w wr/\K3 w.heap.size wr hv hl/\Hid (hl.map lw=dq (gs.take k)/\hl.length<=k/\∀h∈hl,h.ts.length<=k)) (fun _ bi _=>gs.length-(intOf bi).toNat)
 ·exact ⟨0,_,[],rfl,rfl,ai,az _ _,⟨bP,(fun _ h=>by cases h),List.Pairwise.nil⟩,aj ⟨rfl,ar,(fun _ h=>by cases h)⟩⟩
 ·obtain ⟨k,hv,hl,rfl,rfl,b9,ad,av,I⟩:=hrel;obtain ⟨ha,hc,rfl⟩:=aw av.row
  by_cases bo:k<gs.length
  ·have bF:(k:Int)<(gs.length:Int):=by omega
   have HTK:=aj (show gs.take (k+1)=gs.take k++[gs[k]] from cD bo);obtain ⟨g,c,e1,A⟩:=bn k9 6 (fun _=>rfl) (aB bu ad) k gs[k] (aI bo);simp only [aK] at e1;obtain ⟨rfl,_,rfl⟩:=e1;generalize gs[k]=t at*;have k0:wr.cell? (aC g (k*6))=some (an t.kind):=A 0 _ ai rfl;have k1:wr.cell? (aC g (k*6+1))=some (an t.id):=A 1 _ ai rfl;have bM:wr.cell? (aC g (k*6+2))=some (an t.rel):=A 2 _ ai rfl;have k3:wr.cell? (aC g (k*6+3))=some (an t.sub):=A 3 _ ai rfl;have bN:wr.cell? (aC g (k*6+4))=some (an t.who):=A 4 _ ai rfl;have bO:wr.cell? (aC g (k*6+5))=some (an t.of):=A 5 _ ai rfl;have bf:=(az wr.heap.size wr).alloc aH (cB t.kind t.id t.rel t.sub t.who t.of);have bz:=ad.size;have a8:=aj (ad.trans (bf.mono bz));have aQ:=aj (av.below bf);have bc:=aj (show aL (wr.alloc (cB t.kind t.id t.rel t.sub t.who t.of)) wr.heap.size (k8 t.kind t.id t.rel t.sub t.who t.of) 123 from aL.new wr _ _);have C:=aj (IW w.heap.size _ hl t wr.heap.size _ (by have:=I.2.1;omega) aQ.row (fun x bK=>by obtain ⟨a,c,e⟩:=aw (aQ.tup x bK);exact ⟨a,_,c,e⟩) bc);have b8:=I.2.1;clear ad av A bf;go_wp2_with fail;refine C.mono ?_;rintro e aN ⟨rfl,aZ⟩;have V:=aj (a8.trans (aZ.mono a8.size));have J:=aj (aQ.below aZ);have ac:=aj (bc.below aZ);clear aZ C a8 aQ bc k0 k1 bM k3 bN bO;unfold Nf
   cases aF:hl.findIdx? (fun h=>rD h t) with
   |some i=>
    have hi:i<hl.length:=(kZ.1 aF).1;have HST:=aj (show CD i t (hl.map lw)=dq (gs.take k++[t])/\hl.length<=k+1 from ⟨by rw [xF,<-I.1];unfold xE;rw [FA,aF],ai⟩);have Wr:=aj I.2.2;have ce:¬((i:Int)<0):=ai;clear I aF;dsimp only;go_wp2_with fail;obtain ⟨U,bC⟩:∃l,l=hl:=⟨_,rfl⟩;obtain ⟨W,bg⟩:∃W,W=aN:=⟨_,rfl⟩;subst bg;subst bC;obtain ⟨g0,c0,e0,A⟩:=bn Nc 3 (fun _=>rfl) J.row (i) (U[i]) (aI hi);simp only [aK] at e0
    first
     |obtain ⟨rfl,aG,rfl⟩:=e0
     |(simp only [aR,cg,fZ,bX] at e0;obtain ⟨rfl,aG,rfl⟩:=e0)
    have R:W.cell? (aC g0 (i*3+2))=some U[i].tv:=A 2 _ ai rfl;have D:=J.tup _ (br hi);have HP:=aj (aI hi);have aM:=Wr _ (br hi);generalize U[i]=y at*;obtain ⟨b4,b3,bj,b5⟩:=y;simp only at R D aM;obtain ⟨pa,pc,rfl⟩:=aw D;obtain ⟨aO,ab⟩:∃n,n=bj.length:=⟨_,rfl⟩;rw [<-ab] at R D aM HP;have ba:=aj ab;have ah:=aj D;obtain ⟨bv,Q,bA⟩:=dG J.row;have bL:=Q.fz;have bG:¬(g0=W.heap.size):=by have:=Q.lt;omega
    have bH:¬(wr.heap.size=W.heap.size):=by have:=ac.lt;omega
    have c7:(W.alloc (cB t.kind t.id t.rel t.sub t.who t.of)).cell? (aC g0 (i*3+2))=some (aA pa aO pc):=ak R ((az _ W).alloc aH _);obtain ⟨t0,t1,t2,t3,t4,t5⟩:=ac.six;obtain ⟨bU,bV,bW,bY,bZ,b0⟩:=(ac.below ((az _ W).alloc aH (cB t.kind t.id t.rel t.sub t.who t.of))).six;have bD:(0:Int)<=((i:Nat):Int):=ai;have bE:((i:Nat):Int)<((U.length:Nat):Int):=ai;have af:=aj Q;have bR:=cd W _ R;have bS:=cd W _ t0;have bx:=V.size;have HN1:=aj aG;clear A D Q ab
    go_region_law (refine Bc rfl underlying115 Tryz.infoTu w.heap.size (cP (ah.alloc _)) ((af.alloc (cB t.kind t.id t.rel t.sub t.who t.of)).drew) W.heap.size 1 (k9 t) (W.heap.size+1) ?_;intro g5 be w5 aJ Z ay bB Y;have ap:=cP (ah.alloc (cB t.kind t.id t.rel t.sub t.who t.of));have al:=(af.alloc (cB t.kind t.id t.rel t.sub t.who t.of)).drew;have bT:w5.cell? (aC g0 (i*3+2))=some (aA pa aO pc):=Z.cell (w:=(W.alloc (cB t.kind t.id t.rel t.sub t.who t.of)).drew) c7 (own_ne ap al ax);have zq:=Y.fz;have a9:=aj Z;have bb:=aj aJ;have a7:=aj ay;have bQ:=Y.lt;clear ap al Y Z aJ ay)
    all_goals
     go_wp2;go_roundw
     ·have hfin:=hold_close (by first|exact HN1|rfl) V J HP ba a9 bb a7;exact S1
     ·simp [intOf];omega
   |none=>
    have HST:=aj (show CD hl.length t ((hl++[(⟨t.kind,t.id,[],aA none 0 0⟩:Hd)]).map lw)=dq (gs.take k++[t])/\(hl++[(⟨t.kind,t.id,[],aA none 0 0⟩:Hd)]).length<=k+1 from ⟨by rw [xF,<-I.1];unfold xE;rw [FA,aF];simp [lw],aS⟩);have Wr:=aj (show ∀h∈hl++[(⟨t.kind,t.id,[],aA none 0 0⟩:Hd)],h.ts.length<=k from fun h ae=>by
     rcases aW.1 ae with ae|ae
     ·exact I.2.2 h ae
     rw [aX] at ae;subst ae;simp)
    obtain ⟨t0,t1,t2,t3,t4,t5⟩:=ac.six;have bJ:=V.size;clear I aF;dsimp only;go_wp2_with (at_builtin;go_must (refine eB rfl underlying185 Tryz.infoHo w.heap.size (J.row.alloc _) aN.heap.size 1 [an t.kind,an t.id,aA none 0 0] (aN.heap.size+1) ?hrest))
    case hrest=>
     intro aY b6 bs bp a6 bw b7;have aV:=(az aN.heap.size aN).alloc aH (.cells #[an t.kind,an t.id,aA none 0 0] 282);have aT:=J.below aV;have aU:=ac.below aV;have aP:=aj (aT.push a6 bp);have bk:=aj (cA (V.trans (aV.mono bJ)) a6 aS (fun q bI=>(aT.row.lt q bI).1));have TB:=aj (show aL bs wr.heap.size _ 123 from (a6.block _ aU.lt (own_ne aT.row aU ax)).trans aU);have hi:hl.length<(hl++[(⟨t.kind,t.id,[],aA none 0 0⟩:Hd)]).length:=ar;clear aV aT aU bp a6 bw J V ac t0 t1 t2 t3 t4 t5;go_wp2_with fail;obtain ⟨W,bg⟩:∃W,W=bs:=⟨_,rfl⟩;subst bg;generalize hl++[(⟨t.kind,t.id,[],aA none 0 0⟩:Hd)]=U at*;obtain ⟨g0,c0,e0,A⟩:=bn Nc 3 (fun _=>rfl) aP.row (hl.length) (U[hl.length]) (aI hi);simp only [aK] at e0
     first
      |obtain ⟨rfl,aG,rfl⟩:=e0
      |(simp only [aR,cg,fZ,bX] at e0;obtain ⟨rfl,aG,rfl⟩:=e0)
     have R:W.cell? (aC aY (hl.length*3+2))=some U[hl.length].tv:=A 2 _ ai rfl;have D:=aP.tup _ (br hi);have HP:=aj (aI hi);have aM:=Wr _ (br hi);generalize U[hl.length]=y at*;obtain ⟨b4,b3,bj,b5⟩:=y;simp only at R D aM;obtain ⟨pa,pc,rfl⟩:=aw D;obtain ⟨aO,ab⟩:∃n,n=bj.length:=⟨_,rfl⟩;rw [<-ab] at R D aM HP;have ba:=aj ab;have ah:=aj D;obtain ⟨bv,Q,bA⟩:=dG aP.row;have bL:=Q.fz;have bG:¬(aY=W.heap.size):=by have:=Q.lt;omega
     have bH:¬(wr.heap.size=W.heap.size):=by have:=TB.lt;omega
     have c7:(W.alloc (cB t.kind t.id t.rel t.sub t.who t.of)).cell? (aC aY (hl.length*3+2))=some (aA pa aO pc):=ak R ((az _ W).alloc aH _);obtain ⟨t0,t1,t2,t3,t4,t5⟩:=TB.six;obtain ⟨bU,bV,bW,bY,bZ,b0⟩:=(TB.below ((az _ W).alloc aH (cB t.kind t.id t.rel t.sub t.who t.of))).six;have bD:(0:Int)<=((hl.length:Nat):Int):=ai;have bE:((hl.length:Nat):Int)<((hl.length+1:Nat):Int):=ai;have af:=aj Q;have bR:=cd W _ R;have bS:=cd W _ t0;have bx:=bk.size;have HN1:=aj aG;clear A D Q ab
     go_region_law (refine Bc rfl underlying115 Tryz.infoTu w.heap.size (cP (ah.alloc _)) ((af.alloc (cB t.kind t.id t.rel t.sub t.who t.of)).drew) W.heap.size 1 (k9 t) (W.heap.size+1) ?_;intro g5 be w5 aJ Z ay bB Y;have ap:=cP (ah.alloc (cB t.kind t.id t.rel t.sub t.who t.of));have al:=(af.alloc (cB t.kind t.id t.rel t.sub t.who t.of)).drew;have bT:w5.cell? (aC aY (hl.length*3+2))=some (aA pa aO pc):=Z.cell (w:=(W.alloc (cB t.kind t.id t.rel t.sub t.who t.of)).drew) c7 (own_ne ap al ax);have zq:=Y.fz;have a9:=aj Z;have bb:=aj aJ;have a7:=aj ay;have bQ:=Y.lt;clear ap al Y Z aJ ay)
     all_goals
      go_wp2;go_roundw
      ·have hfin:=hold_close (by first|exact HN1|rfl) bk aP HP ba a9 bb a7;exact S1
      ·simp [intOf];omega
  have bF:¬((k:Int)<(gs.length:Int)):=ai;have bl:k=gs.length:=ai;have J:=aj av;have V:=aj ad;have bt:=aj (show hl.map lw=dq gs/\hl.length<=gs.length/\∀h∈hl,h.ts.length<=gs.length from by
   have:=aE I;rw [bl,kr] at this;exact this)
  clear ad av I bl;go_wp2;go_ret;exact ⟨_,hl,rfl,V,J,bt⟩
variable {aD bq:Prop}
abbrev mO:=@List.mem_append_left
abbrev qt:=@List.mem_append_right
def eK{h t}:lT h t=true↔h.kd=t.kind/\h.id=t.id:=by
 unfold lT Fo;rw [bO,bz,bz]
structure S4(gs:List Tu)(l:List Hp):Prop where
 ts:∀h∈l,h.ts=gs.filter (fun t=>lT h t)/\h.ts≠ []
 all:∀t∈gs,∃h∈l,lT h t=true
 ap:l.Pairwise fun a b=>¬(a.kd=b.kd/\a.id=b.id)
variable {gs:List Tu}
def oR{h t}:(gs++[t]).filter (fun t=>lT h t)=gs.filter (fun t=>lT h t)++(if lT h t=true then [t] else []):=by
 rw [List.filter_append]
 congr 1
 cases h1:lT h t<;>simp [h1]
def Nl{l}(H:S4 gs l)(t):S4 (gs++[t]) (xE l t):=by
 unfold xE
 cases Q:l.findIdx? (fun h=>lT h t) with
 |some i=>
  obtain ⟨hi,V,_⟩:=kZ.1 Q;have U:=iW.1 H.ap;unfold CD;dsimp only;rw [aI hi];dsimp only;have ad:=H.ts _ (br hi);have ae:∀j (D:j<l.length),j≠i->lT l[j] t=false:=fun j D ac=>by
   cases Z:lT l[j] t with
   |false=>rfl
   |true=>
    have h1:=eK.1 Z;have h2:=eK.1 V;exfalso
    rcases wz ac with Y|Y
    ·exact U j i D hi Y ⟨by rw [h1.1,h2.1],by rw [h1.2,h2.2]⟩
    exact U i j hi D Y ⟨by rw [h1.1,h2.1],by rw [h1.2,h2.2]⟩
  refine ⟨fun h A=> ?_,fun u C=> ?_,?_⟩
  ·obtain ⟨j,D,rfl⟩:=dB A;rw [fV] at D
   by_cases e:i=j
   ·subst e;rw [jF];refine ⟨?_,ar⟩;rw [oR];have e1:lT ⟨l[i].kd,l[i].id,l[i].ts++[t]⟩ t=true:=V;rw [if_pos e1];dsimp only;rw [ad.1]
    rfl
   rw [jM e];have J:=H.ts _ (br D);refine ⟨?_,J.2⟩;rw [oR,if_neg (by rw [ae j D (fun e'=>e e'.symm)];simp),dU];exact J.1
  ·rcases aW.1 C with C|C
   ·obtain ⟨h,A,e⟩:=H.all u C;obtain ⟨j,D,rfl⟩:=dB A
    by_cases e':i=j
    ·subst e';exact ⟨⟨l[i].kd,l[i].id,l[i].ts++[t]⟩,List.mem_iff_getElem.2 ⟨i,by simpa using hi,by rw [jF]⟩,e⟩
    exact ⟨l[j],List.mem_iff_getElem.2 ⟨j,by simpa using D,by rw [jM e']⟩,e⟩
   rw [aX] at C;subst C;exact ⟨⟨l[i].kd,l[i].id,l[i].ts++[u]⟩,List.mem_iff_getElem.2 ⟨i,by simpa using hi,by rw [jF]⟩,V⟩
  refine iW.2 (fun a b ha I ab=> ?_);rw [fV] at ha I;have key:∀j (D:j<l.length),((l.set i ⟨l[i].kd,l[i].id,l[i].ts++[t]⟩)[j]'(by simpa using D)).kd=l[j].kd/\((l.set i ⟨l[i].kd,l[i].id,l[i].ts++[t]⟩)[j]'(by simpa using D)).id=l[j].id:=fun j D=>by
   by_cases e:i=j
   ·subst e;rw [jF];exact ⟨rfl,rfl⟩
   rw [jM e];exact ⟨rfl,rfl⟩
  rw [(key a ha).1,(key a ha).2,(key b I).1,(key b I).2];exact U a b ha I ab
 |none=>
  rw [pI] at Q;have e:CD l.length t (l++[⟨t.kind,t.id,[]⟩])=l++[⟨t.kind,t.id,[t]⟩]:=by
   unfold CD;simp
  dsimp only;rw [e];refine ⟨fun h A=> ?_,fun u C=> ?_,?_⟩
  ·rcases aW.1 A with A|A
   ·have J:=H.ts h A;refine ⟨?_,J.2⟩;rw [oR,if_neg (by rw [Q h A];simp),dU];exact J.1
   rw [aX] at A;subst A;refine ⟨?_,ar⟩;have e1:lT ⟨t.kind,t.id,[t]⟩ t=true:=eK.2 ⟨rfl,rfl⟩;rw [oR,if_pos e1,List.filter_eq_nil_iff.2 (fun u C=> ?_)]
   ·rfl
   intro Z;obtain ⟨h,A,R⟩:=H.all u C;have h1:=eK.1 Z;have h2:=eK.1 R;have:=Q h A;rw [eK.2 ⟨h2.1.trans h1.1.symm,h2.2.trans h1.2.symm⟩] at this
   cases this
  ·rcases aW.1 C with C|C
   ·obtain ⟨h,A,e⟩:=H.all u C;exact ⟨h,mO _ A,e⟩
   rw [aX] at C;subst C;exact ⟨_,qt _ (aX.2 rfl),eK.2 ⟨rfl,rfl⟩⟩
  refine BO.2 ⟨H.ap,ar,fun a ha b I=> ?_⟩;rw [aX] at I;subst I;rintro ⟨e1,R⟩;have:=Q a ha;rw [eK.2 ⟨e1,R⟩] at this
  cases this
def An:∀(gs pre:List Tu)(l:List Hp),S4 pre l->S4 (pre++gs) (gs.foldl xE l)
 | [],pre,l,H=>by simpa using H
 |t::gs,pre,l,H=>by
  have:=An gs (pre++[t]) _ (Nl H t)
  simpa using this
def jh(gs):S4 gs (dq gs):=An gs [] [] ⟨(fun _ h=>by cases h),(fun _ h=>by cases h),List.Pairwise.nil⟩
def ZG{l:List Hp}(h:l.Pairwise fun a b=>¬(a.kd=b.kd/\a.id=b.id)){a b:Hp}(ha:a∈l)(J:b∈l)(e1:a.kd=b.kd)(C:a.id=b.id):a=b:=by
 obtain ⟨i,hi,rfl⟩:=dB ha;obtain ⟨j,I,rfl⟩:=dB J;have D:=iW.1 h
 rcases Nat.lt_trichotomy i j with A|rfl|A
 ·exact absurd ⟨e1,C⟩ (D i j hi I A)
 ·rfl
 exact absurd ⟨e1.symm,C.symm⟩ (D j i I hi A)
variable {hl:List Hd}
def ZH(h:hl.map lw=dq gs):∀x∈hl,∀y∈hl,x.kd=y.kd->x.id=y.id->x=y:=fun x R y U e1 C=>by
 obtain ⟨i,hi,rfl⟩:=dB R;obtain ⟨j,J,rfl⟩:=dB U;have D:=iW.1 (jh gs).ap;rw [<-h] at D;have k:∀a b (ha:a<hl.length) (I:b<hl.length),a<b->¬(hl[a].kd=hl[b].kd/\hl[a].id=hl[b].id):=fun a b ha I Q=>by
  have:=D a b (by simpa using ha) (by simpa using I) Q
  simpa [lw] using this
 rcases Nat.lt_trichotomy i j with A|rfl|A
 ·exact absurd ⟨e1,C⟩ (k i j hi J A)
 ·rfl
 exact absurd ⟨e1.symm,C.symm⟩ (k j i J hi A)
structure ZI(w:af)(cv hv lv:ag)(cs:List Tg)(hl:List Hd)(qs:List (ag×List (It×ag))):Prop where
 cr:Ai w cv cs
 hs:HsI w hv hl
 ln:HW 0 w lv qs
 ok:∀q∈qs,∀p∈q.2,Zy p
 few:∀q∈qs,q.2.length<=1000000
section
variable {w w':af}{cv hv lv:ag}{cs:List Tg}{hl:List Hd}{qs:List (ag×List (It×ag))}{mb n:Nat}{K:Sj->Nat}
def ZI.grp(h:ZI w cv hv lv cs hl qs){A:ag×List (It×ag)}(C:A∈qs):SeG w cv hv A.1 cs hl A.2:=⟨h.cr,h.hs,h.ln.grp A C,h.ok A C,h.few A C⟩
def ZI.cellsK(h:ZI w cv hv lv cs hl qs)(k:oh w w'):ZI w' cv hv lv cs hl qs:=⟨h.cr.cellsK k,h.hs.cellsK k,h.ln.frame (fun g cs T f A _=>k.2 g cs T f A),h.ok,h.few⟩
end
def Nq(q:ag×List (It×ag)):List TR:=q.2.map fun p=>QB p.1
def ti(qs:List (ag×List (It×ag))):Nat:=(qs.map fun q=>q.2.length).sum
variable {j:Nat}
def Nr{qs:List (ag×List (It×ag))}{A:ag×List (It×ag)}(h:qs[j]? =some A):ti (qs.take (j+1))=ti (qs.take j)+A.2.length/\(qs.take (j+1)).map Nq=(qs.take j).map Nq++[Nq A]:=by
 have C:=(bD.1 h).1;have e:qs.take (j+1)=qs.take j++[A]:=by
  rw [cD C];rw [aI C] at h;rw [gM h]
 rw [e];unfold ti;simp
def Ws{qs:List (ag×List (It×ag))}(j):ti (qs.take j)<=ti qs:=by
 have:ti qs=ti (qs.take j)+ti (qs.drop j):=by
  unfold ti;rw [<-List.sum_append,<-cK,pL]
 omega
def S5(ls hl):(Fy ls hl).length=ls.length*hl.length:=by
 unfold Fy
 induction ls with
 |nil=>simp
 |cons p ls ih=>rw [bM,bf,ih,bN,iO,Nat.add_mul,Nat.one_mul,rU]
structure Kst(cs:List Tg)(hl:List Hd)(qs:List (ag×List (It×ag)))(j n:Nat)(K:Sj->Nat):Prop where
 run:Run cs (hl.map lw) ((qs.take j).map Nq) (fun _=>0) K
 few:n<=64000*ti (qs.take j)
def Ns(w ca ha cn cc hn hc mb n j lv K cs hl)(qs:List (ag×List (It×ag)))(A:ag×List (It×ag))(R:ZI w (aA ca cn cc) (aA ha hn hc) lv cs hl qs)(an:rR w mb n K)(J:Kst cs hl qs j n K)(I:qs[j]? =some A)(V:Nj (qs.map Nq) (hl.map lw))(aj:∀x∈hl,∀y∈hl,x.kd=y.kd->x.id=y.id->x=y)(hs:ti qs<=1000000):
  Calls prog 99 #[.agg #[aA ca cn cc,aA ha hn hc,.map (some mb)],A.1] w fun e w'=>e=bi (.tuple #[])/\bK (fun k=>k=mb) w w'/\∃Q D,rR w' mb Q D/\Kst cs hl qs (j+1) Q D:=by
 have Z:=bF I;have Y:=(bD.1 I).1;have U:=R.grp Z;obtain ⟨sa,sc,hv⟩:=aw U.ln.row;have ah:=R.cr.most;have am:Nq A∈qs.map Nq:=aU.2 ⟨A,Z,rfl⟩;have C:=Ni ah (SY V am aj) K;have ae:∀g'∈(qs.take j).map Nq,∀x∈g',∀y∈Nq A,¬(x.1.name=y.1.name/\x.2.name=y.2.name):=fun g' al=>by
  have av:=iW.1 V.ap;obtain ⟨i,hi,rfl⟩:=dB al;rw [bN,eb] at hi;have:=av i j aS (by simpa using Y) ai;rw [aI Y] at I;have e:=gM I;simp only [sB,List.getElem_take,e] at this ⊢;exact this
 have ab:SX cs A.2 hl K K:=I6 (CC J.run (fun s i _=>ar)) (fun s ax=>S0 J.run ae s (KW.2 ax));have aB:ju (Fy A.2 hl) K<=64000*A.2.length:=by
  have h1:=Am K (Fy A.2 hl);rw [S5] at h1;have h2:A.2.length*hl.length<=A.2.length*1000:=Nat.mul_le_mul_left _ R.hs.most;omega
 obtain ⟨e1,ac⟩:=Nr I;have ay:=Ws (qs:=qs) (j+1);have az:=J.few;rw [hv] at U ⊢;refine (I4 w ca ha sa cn cc hn hc _ sc mb n (n+ju (Fy A.2 hl) K) K cs hl A.2 (SX cs A.2 hl K) (ju (Fy A.2 hl)) U C an ab aH fK).mono ?_;rintro e w' ⟨rfl,af,Q,D,au,ad,aC,ak⟩;refine ⟨rfl,af,Q,D,au,⟨?_,?_⟩⟩
 ·rw [ac];exact KY J.run ⟨D,ZE ad ak,rfl⟩
 ·rw [e1];omega
def yQ(t:Tg):List ag:=[an t.kind,an t.id]
def dA(X:Nat)(cs:List Tg):Nat->List Tg
 |0=>[]
 |j+1=>dA X cs j++(match cs[j]? with
  |some t=>if X.testBit j then [t] else []
  |none=>[])
def Ao{X cs t}(h:cs[j]? =some t)(A:X.testBit j=true):dA X cs (j+1)=dA X cs j++[t]:=by
 rw [dA,h];simp [A]
def FC{X cs t}(h:cs[j]? =some t)(A:X.testBit j=false):dA X cs (j+1)=dA X cs j:=by
 rw [dA,h];simp [A]
def oS(X cs):∀j,(dA X cs j).length<=j
 |0=>by simp [dA]
 |j+1=>by
  have h:=oS X cs j;rw [dA,bf]
  cases cs[j]? with
  |none=>simp;omega
  |some t=>
   simp only
   split<;>simp<;>omega
def Wt{X:Nat}(I:X<18446744073709551616)(J:j<64):(bits .and .u64 (X:Int) (IntKind.u64.wrap (2 ^ j)) != 0)=X.testBit j:=by
 refine SK ?_;intro h2 e;rw [e,u64_and_nat _ _ I h2]
 cases C:X.testBit j with
 |true=>
  have A:(X&&& 2 ^ j).testBit j=true:=by rw [xB,C,IX];rfl
  rw [gX];intro h0;have D:X&&& 2 ^ j=0:=ai;rw [D] at A;simp at A
 |false=>
  have A:X&&& 2 ^ j=0:=by
   apply Nat.eq_of_testBit_eq;intro i;rw [xB]
   by_cases hi:i=j
   ·subst hi;rw [C];simp
   rw [IY (fun e=>hi e.symm)];simp
  rw [A]
  rfl
section
open Go.Shelf
variable {aD bq:Prop}
abbrev tj:=@List.mem_filter
abbrev iA(a0:Option Addr)(a1:Nat)(a2:Nat):Obj:=.cells #[aA a0 a1 a2] 114
abbrev jO(a0:Option Addr)(a1:Nat)(a2:Nat):Obj:=.cells #[aA a0 a1 a2] 115
abbrev kI:Obj:=.cells #[aA none 0 0] 119
attribute [local go_sem] Oper.semAt_some
structure ZJ(w:af)(lv cv gv:ag)(ts:List Ty)(gs:List Tu)(cs:List Tg)(aq:Sj):Prop where
 lx:Y2 ts lv w
 cr:Ai w cv cs
 row:w.ownsRow 0 123 6 gv gs.length (gs.flatMap k9)
 few:gs.length<=1000
 low:∀t∈gs,t.kind.size<=maxLen/\t.id.size<=maxLen/\oe (e9 t)
 ask:oe aq
 ln:∀g∈cL ts,∀x∈g,LnR x
 ok:Nj (cL ts) (dq gs)
 sum:((cL ts).map List.length).sum<=1000000
variable {w w':af} {lv gv:ag} {ts:List Ty} {gs:List Tu} {aq:Sj}
def ZJ.below{cv cs}(h:ZJ w lv cv gv ts gs cs aq)(k:am w w'):ZJ w' lv cv gv ts gs cs aq:=
 ⟨wF.below _ _ _ _ h.lx k,h.cr.below k,aB h.row k,h.few,h.low,h.ask,h.ln,h.ok,h.sum⟩
def S6(ts:List Ty)(gs:List Tu)(cs:List Tg)(aq:Sj)(w:af)(e:Ending)(w':af):Prop:=∃v K,e=bi v/\am w w'/\Run cs (dq gs) (cL ts) (fun _=>0) K/\w'.ownsRow w.heap.size 98 2 v (dA (K aq) cs cs.length).length ((dA (K aq) cs cs.length).flatMap yQ)
def Tryz.infoTh:(Tryz.prog.info? 98).map (fun i=>(i.zero,i.size,i.bytes))=some (some (.agg #[an ⟨#[]⟩,an ⟨#[]⟩]),2,32):=by kernel_rfl
structure ThJ(ts:List Ty)(gs:List Tu)(cs:List Tg)(aq:Sj)(sb:Nat)(W0:af)(pre:List Unit)(W:af)(av:ag):Prop where
 but:bK (fun k=>k=sb) W0 W
 blk:aL W sb #[av] 119
 fst:pre=[]->av=aA none 0 0
 all:pre≠ []->∃K,Run cs (dq gs) (cL ts) (fun _=>0) K/\W.ownsRow W0.heap.size 98 2 av (dA (K aq) cs cs.length).length ((dA (K aq) cs cs.length).flatMap yQ)
variable {sb:Nat} {W0 W W':af} {row:Option Nat}
def ThJ.oth{cs pre av}(h:ThJ ts gs cs aq sb W0 pre W av)(A:W.grownBy W' row)(C:∀r,row=some r->W0.heap.size<=r/\∃o:Obj,W.heap[r]? =some o/\o.isCells=false):ThJ ts gs cs aq sb W0 pre W' av:=
 ⟨⟨A.os.trans h.but.os,A.tape.trans h.but.tape,A.output.trans h.but.output,aV h.but.size A.size,fun k I hs=>(A.block k (cM I h.but.size) (fun e=>by have:=(C k e.symm).1;omega)).trans (h.but.block k I hs)⟩,
  fW (β:=Unit) W0.heap.size _ _ _ () W W' row h.blk A C,h.fst,fun J=>by
   obtain ⟨K,h1,h2⟩:=h.all J;exact ⟨K,h1,ay h2 (fun g cs f _ D=>A.block g (lt_of_some D) (fun e=>by
    obtain ⟨o,ho,hc⟩:=(C g e.symm).2;rw [D] at ho
    cases ho
    cases hc))⟩⟩
variable {base:Nat} {hl:List Hd}
def hl_hs{hv}(h:K3 base w hv hl)(V:hl.map lw=dq gs)(ac:hl.length<=gs.length)(Y:∀x∈hl,x.ts.length<=gs.length)(ad:gs.length<=1000)(C:∀t∈gs,t.kind.size<=maxLen/\t.id.size<=maxLen/\oe (e9 t)):HsI w hv hl:=by
 refine ⟨bk h.row (gU _),fun x D=>⟨⟨bk (h.tup x D) (gU _),by have:=Y x D;omega⟩,?_⟩,ai⟩;have ab:lw x∈dq gs:=by rw [<-V];exact aU.2 ⟨x,D,rfl⟩
 obtain ⟨e1,R⟩:=(jh gs).ts _ ab;have Q:x.ts=gs.filter (fun t=>lT (lw x) t):=e1;have I:∀t∈x.ts,t∈gs/\x.kd=t.kind/\x.id=t.id:=fun t A=>by
  rw [Q,tj] at A;exact ⟨A.1,eK.1 A.2⟩
 have J:x.ts≠ []:=R;obtain ⟨t,A⟩:=List.exists_mem_of_ne_nil _ J;obtain ⟨h1,h2,U⟩:=I t A;refine ⟨l5.2 J,by rw [h2];exact (C t h1).1,by rw [U];exact (C t h1).2.1,fun u Z=>(C u (I u Z).1).2.2⟩
variable {g n c:Nat}
def Ai.but{S o cs}(h:Ai w (aA (some (aC g o)) n c) cs)(k:bK S w w')(C:¬S g)(c'):Ai w' (aA (some (aC g o)) n c') cs:=by
 obtain ⟨g',J,I,e,h2,D,A⟩:=h;simp only [aK,aR,cg,fZ] at e;obtain ⟨⟨rfl,rfl⟩,rfl,_⟩:=e;exact ⟨g,o,c',rfl,cM h2 k.size,D,fun i x hi=>⟨(jA (w:=w) (k.block g h2 C)).trans (A i x hi).1,(jA (w:=w) (k.block g h2 C)).trans (A i x hi).2⟩⟩
variable {cn cc:Nat}
def ZJ.but{cs bs}(h:ZJ w lv (aA (some (aP g)) cn cc) gv ts gs cs aq)(k:bK (fun k=>k=sb) w w')(D:aL w sb bs 119)(I:g≠sb):ZJ w' lv (aA (some (aP g)) cn cc) gv ts gs cs aq:=by
 have key:∀(i:Nat)(xs:Array ag)(T:TypeId)(f:Nat×Nat),w.heap[i]? =some (Obj.cells xs T f)->T≠119->w'.heap[i]? =w.heap[i]? :=fun i xs T f A C=>k.block i (lt_of_some A) (fun e=>by
  subst e;unfold aL at D;rw [D] at A
  cases A
  exact C rfl)
 obtain ⟨qs,h1,h2⟩:=h.lx;exact ⟨⟨qs,h1.frame (fun i xs T f A C=>key i xs T f A (by rcases C with rfl|rfl|rfl<;>decide)),h2⟩,h.cr.but k I cc,ay h.row (fun i xs f _ A=>key i xs _ f A ax),h.few,h.low,h.ask,h.ln,h.ok,h.sum⟩
variable {B:Nat} {T:TypeId}
def Nt{bs}(k:bK (fun k=>k=sb) W W')(h:aL W sb bs T):KeepsFrom B W W':=⟨k.size,fun i o _ hi ho=>(k.block i (lt_of_some hi) (fun e=>by
 subst e;unfold aL at h;rw [h] at hi
 cases hi
 cases ho)).trans hi⟩
variable {wr:af} {o:Obj} {v':ag} {xs:List ag}
def ZK{W2 w7 o2 av ys}(R:bK (fun k=>k=sb) W2 wr)(Q:aL wr sb #[av] 119)(V:wr.ownsRow W2.heap.size 98 2 av n xs)(A:((wr.alloc o).drew.alloc o2).grownBy w7 av.ownBlock)(U:w7.ownsRow W2.heap.size 98 2 v' (n+1) ys):
  bK (fun k=>k=sb) W2 (w7.setCell (aP sb) v')/\aL (w7.setCell (aP sb) v') sb #[v'] 119/\(w7.setCell (aP sb) v').ownsRow W2.heap.size 98 2 v' (n+1) ys:=by
 have b:am wr ((wr.alloc o).drew.alloc o2):=(((az _ wr).alloc aH o).drew).alloc ar o2;have J:=aB V b;have C:=Q.below b;have D:aL w7 sb #[av] 119:=(A.block sb C.lt (own_ne J C ax)).trans C;have Y:bK (fun k=>k=sb) W2 w7:=by
  have h1:=R.trans (bK.of_below b);exact ⟨A.os.trans h1.os,A.tape.trans h1.tape,A.output.trans h1.output,aV h1.size A.size,fun k I hs=>(A.block k (cM I h1.size) (fun e=>by have:=(J.lt k e.symm).1;omega)).trans (h1.block k I hs)⟩
 exact ⟨Y.set rfl _,D.set 0 _,bU U D ax 0 _⟩
def Ap(la ga ln lc g A cc gn gc w ts gs cs aq)(h:ZJ w (aA la ln lc) (aA (some (aP g)) A cc) (aA ga gn gc) ts gs cs aq)(dD:0<cs.length)(cZ:A<=cc)(c3:cc<=maxLen):
  Calls prog 58 #[.agg #[aA la ln lc],aA (some (aP g)) A cc,.agg #[an aq.kind,an aq.id,an aq.rel],aA ga gn gc] w (S6 ts gs cs aq w):=by
 obtain ⟨i0,c6,dl,dm,dn⟩:=eN Tryz.infoTh;have bp:A=cs.length:=by
  obtain ⟨g',a3,bj,e,_⟩:=h.cr;exact Hb
 have c5:g<w.heap.size:=by
  obtain ⟨g',a3,bj,e,h2,_⟩:=h.cr;simp only [aK,aR,cg] at e;rw [e.1.1];exact h2
 have bU:A<=64:=by rw [bp];exact h.cr.most
 have cY:0<A:=ai;have a6:=aj bp;clear bp;refine (jJ (n:=8)).1 ?_;refine callsIn_of_wp_marks func58 rfl trivial ?_ rfl;simp only [ntmps58,sA,List.length_cons,List.length_nil,Nat.reduceAdd,Nat.reduceSub,vZ,Array.replicate_zero,v6,v7,List.nil_append,List.cons_append];gi_wp2_with fail;refine ⟨trivial,(jJ.2 (Nn _ _ _ _)).mono ?_⟩;rintro e w' ⟨rfl,rfl⟩;gi_wp2_with fail;have bn:am w ((((w.alloc (iA la ln lc)).alloc (cf aq.kind aq.id aq.rel)).alloc (jO ga gn gc)).alloc kI):=((((az _ w).alloc aH _).alloc ar _).alloc aS _).alloc aS _;have Z:am w ((((((w.alloc (iA la ln lc)).alloc (cf aq.kind aq.id aq.rel)).alloc (jO ga gn gc)).alloc kI).alloc (ly (some (aP g)) A cc)).alloc lz):=(bn.alloc bn.size _).alloc aS _;have bR:aL ((((((w.alloc (iA la ln lc)).alloc (cf aq.kind aq.id aq.rel)).alloc (jO ga gn gc)).alloc kI).alloc (ly (some (aP g)) A cc)).alloc lz) w.heap.size #[aA la ln lc] 114:=(((((aL.new w _ _).alloc _).alloc _).alloc _).alloc _).alloc _;have bL:aL ((((((w.alloc (iA la ln lc)).alloc (cf aq.kind aq.id aq.rel)).alloc (jO ga gn gc)).alloc kI).alloc (ly (some (aP g)) A cc)).alloc lz) (w.heap.size+1) #[an aq.kind,an aq.id,an aq.rel] 102:=((((aL.new' (w.alloc (iA la ln lc)) _ _ (w.heap.size+1) ar).alloc _).alloc _).alloc _).alloc _;have bO:aL ((((((w.alloc (iA la ln lc)).alloc (cf aq.kind aq.id aq.rel)).alloc (jO ga gn gc)).alloc kI).alloc (ly (some (aP g)) A cc)).alloc lz) (w.heap.size+1+1) #[aA ga gn gc] 115:=(((aL.new' ((w.alloc (iA la ln lc)).alloc (cf aq.kind aq.id aq.rel)) _ _ (w.heap.size+1+1) ar).alloc _).alloc _).alloc _;have bg:aL ((((((w.alloc (iA la ln lc)).alloc (cf aq.kind aq.id aq.rel)).alloc (jO ga gn gc)).alloc kI).alloc (ly (some (aP g)) A cc)).alloc lz) (w.heap.size+1+1+1) #[aA none 0 0] 119:=((aL.new' (((w.alloc (iA la ln lc)).alloc (cf aq.kind aq.id aq.rel)).alloc (jO ga gn gc)) _ _ (w.heap.size+1+1+1) ar).alloc _).alloc _;have bN:aL ((((((w.alloc (iA la ln lc)).alloc (cf aq.kind aq.id aq.rel)).alloc (jO ga gn gc)).alloc kI).alloc (ly (some (aP g)) A cc)).alloc lz) (w.heap.size+1+1+1+1) #[aA (some (aP g)) A cc] 119:=(aL.new' ((((w.alloc (iA la ln lc)).alloc (cf aq.kind aq.id aq.rel)).alloc (jO ga gn gc)).alloc kI) _ _ (w.heap.size+1+1+1+1) ar).alloc _;have bS:aL ((((((w.alloc (iA la ln lc)).alloc (cf aq.kind aq.id aq.rel)).alloc (jO ga gn gc)).alloc kI).alloc (ly (some (aP g)) A cc)).alloc lz) (w.heap.size+1+1+1+1+1) #[au 64] 3:=aL.new' _ _ _ _ ar;have bH:=h.below Z;have dj:((((((w.alloc (iA la ln lc)).alloc (cf aq.kind aq.id aq.rel)).alloc (jO ga gn gc)).alloc kI).alloc (ly (some (aP g)) A cc)).alloc lz).heap.size=w.heap.size+6:=ar;obtain ⟨W0,b2⟩:∃W0,((((((w.alloc (iA la ln lc)).alloc (cf aq.kind aq.id aq.rel)).alloc (jO ga gn gc)).alloc kI).alloc (ly (some (aP g)) A cc)).alloc lz)=W0:=⟨_,rfl⟩;rw [b2] at Z bR bL bO bg bN bS bH dj ⊢;clear b2 bn h;refine wpIn_rangeFunc_ownG (F:=Fence.wide) (α:=Unit) rfl ax (gf:=146) (lb:=#[bu (w.heap.size+1+1+1+1),bu (w.heap.size+1+1+1+1+1)]) rfl trivial (enters_of func146 aM rfl)
  (encs:=fun _=>#[aA (some (aP g)) A A]) (Kp:=UO (w.heap.size+1+1+1+1) (w.heap.size+1+1+1+1+1)) (S:=fun cp=>cp=[()]) (Sp:=fun pre=>pre<+: [()]) (N:=1) (w0:=W0)
  (fun l cG cH W b0 cQ _ cV h0=>Np _ ax l _ _ g A cc cG cH W cQ cV (bN.below b0) (bS.below b0) cY bU cZ c3 h0)
  (fun h k=>UO.trans h k)
  (fun W l o a3 hl ho hc dO=>⟨(vY W l a3).size,World.putObj_heap_other (fun e=>ai),World.putObj_heap_other (fun e=>ai)⟩)
  bo (fun _=>rfl)
  (fun pre W=>∃I,ThJ ts gs cs aq (w.heap.size+1+1+1) W0 pre W I)
  (fun bT pre W=>False)
  (fun pre X cK row hs b7 cj=>by obtain ⟨I,h⟩:=hs;exact ⟨I,h.oth b7 cj⟩)
  (fun bT s X cK row hs b7 cj=>hs)
  ⟨aA none 0 0,⟨bK.refl _ _,bg,fun _=>rfl,fun h=>absurd rfl h⟩⟩
  (fun _=>{tmps:=#[.agg #[aA la ln lc],aA (some (aP g)) A cc,.agg #[an aq.kind,an aq.id,an aq.rel],aA ga gn gc,bu w.heap.size,undef,bu (w.heap.size+1),bu (w.heap.size+1+1),aA none 0 0,bu (w.heap.size+1+1+1),aA (some (aP g)) A A,undef,undef,undef,undef,undef,aA (some (aP g)) A cc,.func (.func 146) #[] #[bu (w.heap.size+1+1+1+1),bu (w.heap.size+1+1+1+1+1)],aA (some (aP g)) A A,undef,undef,undef,undef,undef,undef,undef,undef,undef,undef,undef,undef,undef,undef,undef,undef,undef,undef,undef,undef,undef,undef,undef,undef,undef,undef,undef,undef,undef,undef,undef,undef,undef,undef,undef,undef,undef],defers:=[]})
  ?assign ?body ?done ?stop
 case assign=>
  intro l x W K ab;gi_wp2;exact ab
 case body=>
  rintro l pre x W ⟨I,D⟩ cb;obtain rfl:pre=[]:=by
   cases pre with
   |nil=>rfl
   |cons a b=>simp at cb
  obtain rfl:=D.fst rfl;have dF:g<w.heap.size:=c5;have af:=bH.but D.but bg ai;have bl:W.cell? (aP w.heap.size)=some (aA la ln lc):=(D.but.blk bR ai).cell rfl;have bM:=D.but.blk bL ai;have cM:W.cell? (aP (w.heap.size+1+1))=some (aA ga gn gc):=(D.but.blk bO ai).cell rfl;have C:=aj (FB _ gs W af.row af.few);have bG:=aj D;have R:=aj af;have cT:=D.but.size;have cW:=af.ask;clear D af cb;gi_wp2_with fail;refine ⟨trivial,(sC l (jJ.2 C)).mono ?_⟩;rintro e w1 ⟨hv,hl,rfl,U,hH,av,aX,hn⟩;obtain ⟨ha,hc,rfl⟩:=aw hH.row;have de:=@run_makeMap prog;obtain ⟨qs,aZ,ci,_,ch⟩:=R.lx;have dc:ln=qs.length:=by
   obtain ⟨a',bj,e⟩:=aw aZ.row;exact Hb
  subst dc;have aE:qs.map Nq=cL ts:=ci;have bm:=(az w1.heap.size w1).alloc aH (.map #[] 0);have bi:=bm.alloc bm.size (.cells #[aA (some (aP g)) A A,aA ha hl.length hc,.map (some w1.heap.size)] 189);have Y:=U.trans (bi.mono U.size);have bJ:ZI ((w1.alloc (.map #[] 0)).alloc (.cells #[aA (some (aP g)) A A,aA ha hl.length hc,.map (some w1.heap.size)] 189)) (aA (some (aP g)) A A) (aA ha hl.length hc) (aA la qs.length lc) cs hl qs:=
   ⟨R.cr.but (S:=fun _=>False) (.of_below Y) (fun e=>e) A,hl_hs (hH.below bi) av aX hn R.few R.low,aZ.below Y,(fun q ay p df=>(LnR.ok (R.ln (Nq q) (by rw [<-aE];exact aU.2 ⟨q,ay,rfl⟩) _ (aU.2 ⟨p,df,rfl⟩)))),ch⟩
  have bI:rR ((w1.alloc (.map #[] 0)).alloc (.cells #[aA (some (aP g)) A A,aA ha hl.length hc,.map (some w1.heap.size)] 189)) w1.heap.size 0 (fun _=>0):=(SE w1).block (Below.heap_alloc _ _ _ ar);have bW:Nj (qs.map Nq) (hl.map lw):=by rw [aE,av];exact R.ok
  have di:ti qs<=1000000:=by
   have e:=R.sum;rw [<-aE,fU] at e;unfold ti;refine aV (Nat.le_of_eq ?_) e
   congr 1
   apply List.map_congr_left;intro q _;simp [Nq]
  have cO:w1.cell? (aP w.heap.size)=some (aA la qs.length lc):=ak bl U;have cP:=ak bl Y;have dI:¬(w.heap.size=w1.heap.size):=by have:=U.size;omega
  have dJ:¬(w.heap.size=w1.heap.size+1):=by have:=U.size;omega
  have dC:=U.size;have a5:=aj Y;have ba:=aj bJ;have ae:=aj bI;have a7:=aj (aL.new' (w1.alloc (.map #[] 0)) #[aA (some (aP g)) A A,aA ha hl.length hc,.map (some w1.heap.size)] 189 (w1.heap.size+1) ar);have cz:=aj bW;have cA:=aj (ZH av);have dw:=aj aZ;have bD:=aj (And.intro av aE);have bz:=aj (bM.below Y);clear C bm bi Y bJ bI bW hH av aX hn ci aE U aZ ch bM;gi_wp2_with fail;obtain ⟨mb,cd⟩:∃b,b=w1.heap.size:=⟨_,rfl⟩;obtain ⟨cJ,b3⟩:∃x,x=((w1.alloc (.map #[] 0)).alloc (.cells #[aA (some (aP g)) A A,aA ha hl.length hc,.map (some w1.heap.size)] 189)):=⟨_,rfl⟩;rw [<-b3] at a5 ba ae a7 bz ⊢;rw [<-cd] at ae a7 ⊢;have dH:W.heap.size<=mb:=ai;clear b3 de bl cM cO cP cd
  gi_loopw [27] (fun u ad=>∃(j n:Nat)(K:Sj->Nat),u=au j/\j<=qs.length/\bK (fun k=>k=mb) cJ ad/\rR ad mb n K/\Hid (Kst cs hl qs j n K)) (fun u _=>qs.length-(intOf u).toNat)
  ·exact ⟨0,0,_,rfl,ai,bK.refl _ _,ae,aj ⟨rfl,ar⟩⟩
  obtain ⟨j,n,K,rfl,c9,Q,ap,aO⟩:=hrel;have al:=Q.blk a7 ai;obtain ⟨c0,c1,c2⟩:=three al
  by_cases db:j<qs.length
  ·have da:(j:Int)<(qs.length:Int):=by omega
   obtain ⟨q,ay⟩:∃q,qs[j]? =some q:=⟨_,aI db⟩;have sa:=ba.cellsK (mN ae Q);obtain ⟨dB,dy,e1,c4⟩:=aY sa.ln.row j q.1 (by rw [et,ay];rfl);simp only [aK,bX] at e1;obtain ⟨rfl,rfl⟩:=e1;obtain ⟨dZ,d0,bs⟩:=aw (sa.grp (bF ay)).ln.row;obtain ⟨d1,cm⟩:∃n,n=q.2.length:=⟨_,rfl⟩;rw [<-cm] at bs;have a4:=aj (Ns wr _ _ _ _ _ _ mb n j _ K cs hl qs q sa ap aO ay cz cA di);rw [bs] at c4 a4;have bA:=aj Q;clear Q ap aO bs cm sa al;gi_wp2_with fail;refine ⟨trivial,(sC l (jJ.2 a4)).mono ?_⟩;rintro e dW ⟨rfl,b4,dp,cI,b9,bY⟩;have cu:=aj (bA.trans b4);have cB:=aj b9;have cE:=aj bY;clear b4 b9 bY a4 bA;gi_wp2;go_roundw
   ·exact ⟨j+1,dp,cI,by go_num,ai,cu,cB,cE⟩
   simp [intOf];omega
  have da:¬((j:Int)<(qs.length:Int)):=ai;have bE:=aj (show Run cs (dq gs) (cL ts) (fun _=>0) K from by
   have:=aO.run;rw [show j=qs.length by omega,kr,bD.1,bD.2] at this;exact this)
  have cU:=qq (by rw [<-a6];exact bU) (CC bE (fun s i _=>ar) aq);have cx:=aj (ba.cellsK (mN ae Q)).cr;have aW:am W wr:=a5.trans (Q.below (B:=W.heap.size) a5.size (fun g e=>ai));have cw:=aj aW;have cF:=aj (bG.blk.below aW);have cq:=aj (Q.blk bz (show ¬(w.heap.size+1=mb) by omega));have cD:=aj ap;have cC:=aj al;have dd:=ap.lt;have dG:=al.lt;have dk:=aW.size;clear Q ap aO al aW c0 c1 c2 c9;gi_wp2_with fail;obtain ⟨bc,cS⟩:∃x,x=wr:=⟨_,rfl⟩;subst cS
  gi_loopw [37] (fun u ad=>∃(i:Nat)(I:ag),u=au i/\i<=A/\bK (fun k=>k=w.heap.size+1+1+1) bc ad/\aL ad (w.heap.size+1+1+1) #[I] 119/\ad.ownsRow bc.heap.size 98 2 I (dA (K aq) cs i).length ((dA (K aq) cs i).flatMap yQ)) (fun u _=>A-(intOf u).toNat)
  ·exact ⟨0,_,rfl,ai,bK.refl _ _,cF,bP⟩
  obtain ⟨i,I,rfl,hi,J,V,aF⟩:=hrel;obtain ⟨bv,bw,rfl⟩:=aw aF
  by_cases c8:i<A
  ·have c7:(i:Int)<(A:Int):=by omega
   obtain ⟨x,aG⟩:∃x,cs[i]? =some x:=⟨_,aI (by rw [<-a6];exact c8)⟩;obtain ⟨g',a3,bj,e1,_,_,b6⟩:=cx.but J (show ¬(g=w.heap.size+1+1+1) by omega) A;simp only [aK,aR,cg,fZ] at e1;obtain ⟨⟨rfl,rfl⟩,dg,dh⟩:=e1;clear dg dh;obtain ⟨dt,du⟩:=b6 i x aG;simp only [pZ] at dt du;have ah:=(az wr.heap.size wr).alloc aH (dK x.kind x.id);obtain ⟨dX,dY,dv⟩:=three ((J.blk cC ai).below ah);obtain ⟨a0,a1,a2⟩:=three ((J.blk cq ai).below ah);have co:rR (wr.alloc (dK x.kind x.id)).drew mb n K:=cD.block ((ah.block mb (by have:=J.size;omega)).trans (J.block mb dd ai));have bB:=aj J;have aN:=aj V;have aQ:=aj aF;have dr:wr.cell? (aP (w.heap.size+1+1+1))=some (aA bv (dA (K aq) cs i).length bw):=V.cell rfl;have dR:=V.fz;have dN:=V.lt;have dP:=J.size;clear b6 J V aF;gi_wp2_with fail;refine qU (S:=fun w'=>w'.cell? (aC (mb+1) 2)=some (.map (some mb))/\w'.cell? (aP (w.heap.size+1))=some (an aq.kind)/\w'.cell? (aC (w.heap.size+1) 1)=some (an aq.id)/\w'.cell? (aC (w.heap.size+1) 2)=some (an aq.rel)/\rR w' mb n K) aM aM ⟨dv,a0,a1,a2,co⟩ (fun hH=> ?_);refine wl 0 ?_
   iterate 8
    refine pk (v:= ?_) rfl aM (fun _ _ _ h=>by cases h.1) hH (Or.inl ⟨bQ,?_⟩) ?_
    rotate_left
    ·intro w' cR;obtain ⟨f0,f1,f2,f3,f4⟩:=cR;have bZ:=f4.look cW;unfold IR at bZ
     try dsimp only at bZ
     go_simp
     all_goals with_reducible rfl
    try simp only [Act.put,List.getElem_toArray,List.getElem_cons_zero,List.getElem_cons_succ,jL,List.set_cons_zero,List.set_cons_succ,Nat.reduceAdd]
   refine wpAnyH_done aM ?_ _;refine ⟨rfl,?_⟩;have b5:=Wt cU (show i<64 by omega);have bd:=ah.drew;have t9:(wr.alloc (dK x.kind x.id)).drew.cell? (aP (w.heap.size+1+1+1))=some (aA bv (dA (K aq) cs i).length bw):=ak dr bd;have t8:=(aN.below bd).fz;have bt:=(aL.new wr #[an x.kind,an x.id] 98).drew;have dS:(wr.alloc (dK x.kind x.id)).drew.cell? (aP wr.heap.size)=some (an x.kind):=bt.cell rfl;have dT:(wr.alloc (dK x.kind x.id)).drew.cell? (aC wr.heap.size 1)=some (an x.id):=bt.cell rfl;have dL:=oS (K aq) cs i;clear hH co ah bt
   cases ac:(K aq).testBit i with
   |true=>
    rw [ac] at b5;have a9:=aj (Ao aG ac);clear ac aG;gi_wp2_with (gi_at_builtin;go_must (refine kS rfl _ _ 119 rfl bc.heap.size 98 i0 _ 2 32 underlying119 c6 dl dm dn rfl ax (aA bv (dA (K aq) cs i).length bw) (dA (K aq) cs i).length ((dA (K aq) cs i).flatMap yQ) rfl ?hown ⟨wr.heap.size+1,0,none⟩ 1 1 [an x.kind,an x.id] rfl rfl ?hnews ?hone ax ?h63 ?hbytes ?hbase (wr.heap.size+1+1) ?hH ?hrest))
    case hown=>exact (aB aQ bd).alloc _
    case hnews=>exact j9 (B:=wr.heap.size+1) (cs:=#[an x.kind,an x.id]) (t:=98) (fr:=(0,0)) (aL.new' _ _ _ _ ar)
    case hone=>
     intro u cl;simp at cl
     rcases cl with rfl|rfl<;>rfl
    case h63=>unfold maxLen;omega
    case hbytes=>omega
    case hbase=>simp;omega
    case hH=>simp
    case hrest=>
     intro dz dx ds ce br cX dE;have a8:=aj (ZK bB aN aQ br ce);have bh:=bd.alloc bd.size (dK x.kind x.id);have aT:=aN.below bh;have bb:aL ds (w.heap.size+1+1+1) _ 119:=(br.block _ aT.lt (own_ne (aB aQ bh) aT ax)).trans aT;have dV:=bb.cell (o:=0) rfl;have dU:=bb.fz;clear ce br cX bh aT bb;gi_wp2;go_roundw
     ·exact ⟨i+1,_,by go_num,ai,a8.1,a8.2.1,by
      have:=a8.2.2;rw [a9,bf,cN];exact this⟩
     simp [intOf];omega
   |false=>
    rw [ac] at b5;have a9:=aj (FC aG ac);clear ac aG;gi_wp2;go_roundw
    ·exact ⟨i+1,_,by go_num,ai,bB.trans (.of_below bd),aN.below bd,by
     rw [a9];exact aB aQ bd⟩
    simp [intOf];omega
  have c7:¬((i:Int)<(A:Int)):=ai;have b8:i=cs.length:=by have:=a6.u;omega
  have cy:=aj (show KeepsFrom (w.heap.size+6) W wr/\UO (w.heap.size+1+1+1+1) (w.heap.size+1+1+1+1+1) W wr/\∃I,ThJ ts gs cs aq (w.heap.size+1+1+1) W0 [x] wr I from by
   have aJ:bK (fun k=>k=w.heap.size+1+1+1) W wr:=(bK.of_below cw).trans J;have st:=bG.u;refine ⟨Nt aJ st.blk,⟨aJ.size,aJ.block _ ai ai,aJ.block _ ai ai⟩,_,⟨st.but.trans aJ,V,(fun e=>by simp at e),fun _=>⟨K,bE,?_⟩⟩⟩;rw [<-b8];exact bk aF (aV cT dk))
  clear J V aF b8;gi_wp2;exact cy
 case done=>
  rintro bx cp W bV rfl ⟨I,D⟩ ab;obtain ⟨K,ck,hown⟩:=D.all ar;obtain ⟨sa,sc,rfl⟩:=aw hown;have dQ:=D.blk.cell (o:=0) rfl;have ct:=aj (Z.trans (D.but.below (B:=w.heap.size) Z.size (fun g e=>ai)));have bC:=aj (And.intro ck hown);clear D ck hown;gi_wp2;refine ⟨ar,.inl ⟨_,_,rfl,run_takeDeferred ab,?_⟩⟩;refine ⟨aA sa (dA (K aq) cs cs.length).length sc,?_,_,K,rfl,ct.trans (belowK_b (w:=w) aH W bx _ _ (aV Z.size bV) ab rfl rfl),bC.1,?_⟩
  ·simp [results,Tryz.f58,go_sem]
  exact bk (ownsRow_putObj bC.2 _ ab rfl) Z.size
 case stop=>
  rintro bx bT pre W bV dM aX ab;exact aX.elim
end
structure Sh where
 k:Nat
 n:ae
 m:ae
 l:Option Sh
 r:Option Sh
def jP:Sh:=⟨0,⟨#[]⟩,⟨#[]⟩,none,none⟩
def Yd(n:ae):Sh:=⟨1,n,⟨#[]⟩,none,none⟩
def Ye(n m:ae):Sh:=⟨2,n,m,none,none⟩
def FD(x y:Sh):Sh:=⟨3,⟨#[]⟩,⟨#[]⟩,some x,some y⟩
def S7(x y:Sh):Sh:=⟨4,⟨#[]⟩,⟨#[]⟩,some x,some y⟩
def S8(x y:Sh):Sh:=⟨5,⟨#[]⟩,⟨#[]⟩,some x,some y⟩
def S9:Ex->Sh
 |⟨n,some x,some y⟩=>if n.kind=3 then FD (S9 x) (S9 y) else if n.kind=4 then S7 (S9 x) (S9 y) else S8 (S9 x) (S9 y)
 |⟨n,none,_⟩=>if n.kind=0 then jP else if n.kind=1 then Yd n.n1 else Ye n.n1 n.n2
 |⟨_,some _,none⟩=>jP
def hX(kb:Sj->Bool)(who:Tg)(kd id:ae)(ts:List Tu)(rel:ae):Sh->Bool
 |⟨k,_,_,some x,some y⟩=>if k=3 then hX kb who kd id ts rel x||hX kb who kd id ts rel y else if k=4 then hX kb who kd id ts rel x&&hX kb who kd id ts rel y else hX kb who kd id ts rel x&& !hX kb who kd id ts rel y
 |⟨k,n,m,none,_⟩=>if k=0 then ts.any (fun t=>decide (t.rel=rel)&&hA kb who (e9 t)) else if k=1 then kb ⟨kd,id,n⟩ else ts.any (fun t=>decide (t.rel=n)&&IZ kb (e9 t) m)
 |⟨_,_,_,some _,none⟩=>false
def oU(kb who kd id ts rel):∀e,Cz e->cV kb who kd id ts rel e=hX kb who kd id ts rel (S9 e)
 |⟨n,some x,some y⟩,h=>by
  have A:=oU kb who kd id ts rel x h.1;have C:=oU kb who kd id ts rel y h.2;rw [cV,S9,A,C]
  split
  ·simp [FD,hX]
  split
  ·simp [S7,hX]
  simp [S8,hX]
 |⟨n,none,r⟩,_=>by
  rw [cV,S9]
  split
  ·simp [jP,hX]
  split
  ·simp [Yd,hX]
  simp [Ye,hX]
 |⟨n,some x,none⟩,h=>h.elim
section
variable {kd id:ae}{ts:List Tu}{rel:ae}{s:Sj}
end
structure R3 where
 kd:ae
 nm:ae
 sh:Sh
def lU(x:TR):R3:=⟨x.1.name,x.2.name,S9 x.2.body⟩
def lV(g:List R3)(hs:List Hp)(s:Sj):Prop:=∃x∈g,∃h∈hs,h.kd=x.kd/\s=⟨h.kd,h.id,x.nm⟩
def BClo(who:Tg)(hs:List Hp)(g:List R3)(kb:Sj->Bool):Prop:=∀x∈g,∀h∈hs,h.kd=x.kd->hX kb who h.kd h.id h.ts x.nm x.sh=true->kb ⟨h.kd,h.id,x.nm⟩=true
structure FE(who:Tg)(hs:List Hp)(g:List R3)(k0 kb:Sj->Bool):Prop where
 old:∀s,¬lV g hs s->kb s=k0 s
 fix:∀x∈g,∀h∈hs,h.kd=x.kd->hX kb who h.kd h.id h.ts x.nm x.sh=kb ⟨h.kd,h.id,x.nm⟩
 least:∀k',(∀s,¬lV g hs s->k' s=k0 s)->BClo who hs g k'->∀s,kb s=true->k' s=true
def lA(who:Tg)(hs:List Hp):List (List R3)->(Sj->Bool)->(Sj->Bool)->Prop
 | [],k,k'=>k'=k
 |g::gs,k,k'=>∃k1,FE who hs g k k1/\lA who hs gs k1 k'
variable {hs:List Hp}
def xI{g s}:lV (g.map lU) hs s↔I5 g hs s:=by
 constructor
 ·rintro ⟨x,I,h,C,e1,A⟩;obtain ⟨p,D,rfl⟩:=aU.1 I;exact ⟨p,D,h,C,e1,A⟩
 rintro ⟨p,D,h,C,e1,A⟩;exact ⟨_,aU.2 ⟨p,D,rfl⟩,h,C,e1,A⟩
def CE(K:Sj->Nat)(i:Nat)(k:Sj->Bool):Sj->Nat:=fun s=>if (K s).testBit i=k s then K s else K s ^^^ 2 ^ i
def rE(K i k s j):(CE K i k s).testBit j=if j=i then k s else (K s).testBit j:=by
 unfold CE
 by_cases h:(K s).testBit i=k s
 ·rw [if_pos h]
  split
  ·rename_i e;rw [e,h]
  rfl
 rw [if_neg h,Nat.testBit_xor]
 split
 ·rename_i e;subst e;rw [IX]
  revert h
  cases (K s).testBit j<;>cases k s<;>simp
 rename_i e;rw [IY (fun e'=>e e'.symm)];simp
variable {i:Nat} {who:Tg}
def sol_b{cs g K0 K}(h:Sol cs hs g K0 K)(ab:cs.length<=64)(Z:cs[i]? =some who)(ag:∀x∈g,Cz x.2.body):FE who hs (g.map lU) (fun s=>(K0 s).testBit i) (fun s=>(K s).testBit i):=by
 have hi:i<cs.length:=(bD.1 Z).1;have V:∀(K:Sj->Nat),(∀s,o3 cs.length (K s))->∀x∈g,∀y:Hp,∀j w',cs[j]? =some w'->(rX K cs x y).testBit j=hX (fun s=>(K s).testBit j) w' y.kd y.id y.ts x.2.name (S9 x.2.body):=fun K ho x C y j w' I=>by
  unfold rX;rw [oi ⟨K,cs,y.kd,y.id,y.ts⟩ (fun s=>qq ab (ho s)) ab I,oU _ _ _ _ _ _ _ (ag x C)]
 refine ⟨fun s Q=>congrArg (fun n=>Nat.testBit n i) (h.old s (fun e=>Q (xI.2 e))),fun x C y R e=> ?_,fun D ah ae s af=> ?_⟩
 ·obtain ⟨p,ad,rfl⟩:=aU.1 C;have:=h.fix p ad y R e;have J:=V K h.out p ad y i who Z;rw [this] at J;exact J.symm
 have Y:∀s,o3 cs.length (CE K i D s):=fun s j A=>by
  rw [rE,if_neg ai];exact h.out s j A
 have:=h.least (CE K i D) Y (fun s Q=> ?_) (fun x C y R e j A=> ?_) s i af
 ·rw [rE,if_pos rfl] at this;exact this
 ·unfold CE;have e1:=ah s (fun e=>Q (xI.1 e));have J:=h.old s Q;rw [if_pos (by rw [e1,J]),J]
 rw [rE]
 by_cases ac:j<cs.length
 ·have I:cs[j]? =some cs[j]:=aI ac;rw [V _ Y x C y j _ I] at A
  by_cases e':j=i
  ·subst e';rw [if_pos rfl];rw [Z] at I;obtain rfl:=gM I;have U:(fun s=>(CE K j D s).testBit j)=D:=by
    funext s
    rw [rE,if_pos rfl]
   rw [U] at A;exact ae (lU x) (aU.2 ⟨x,C,rfl⟩) y R e A
  rw [if_neg e'];have U:(fun s=>(CE K i D s).testBit j)=fun s=>(K s).testBit j:=by
   funext s
   rw [rE,if_neg e']
  rw [U,<-V K h.out x C y j _ I,h.fix x C y R e] at A;exact A
 have:(rX (CE K i D) cs x y).testBit j=false:=lS ⟨CE K i D,cs,y.kd,y.id,y.ts⟩ Y _ _ j (by simpa using ac);rw [this] at A
 cases A
def FF{cs hs i who}(A:cs.length<=64)(C:cs[i]? =some who):∀{gs:List (List TR)} {K0 K:Sj->Nat},(∀g∈gs,∀x∈g,Cz x.2.body)->Run cs hs gs K0 K->lA who hs (gs.map (List.map lU)) (fun s=>(K0 s).testBit i) (fun s=>(K s).testBit i)
 | [],K0,K,_,h=>by rw [show K=K0 from h];rfl
 |g::gs,K0,K,hwf,⟨K1,h1,h2⟩=>⟨_,sol_b h1 A C (hwf g eu),FF A C (fun g' D=>hwf g' (eY _ D)) h2⟩
def Ta{g:List R3}{I a b:Sj->Bool}(h:FE who hs g I a)(k:FE who hs g I b):a=b:=by
 funext s
 rw [gW];exact ⟨h.least b k.old (fun x C y D e A=>by rw [<-k.fix x C y D e];exact A) s,k.least a h.old (fun x C y D e A=>by rw [<-h.fix x C y D e];exact A) s⟩
def FG{who:Tg}{hs:List Hp}:∀{gs:List (List R3)} {k a b:Sj->Bool},lA who hs gs k a->lA who hs gs k b->a=b
 | [],k,a,b,h,h'=>h.trans h'.symm
 |g::gs,k,a,b,⟨k1,h1,h2⟩,⟨k2,h3,h4⟩=>by
  obtain rfl:=Ta h1 h3;exact FG h2 h4
def xJ{who:Tg}{hs:List Hp}:∀{gs gs':List (List R3)} {k b:Sj->Bool},lA who hs (gs++gs') k b->∃a,lA who hs gs k a/\lA who hs gs' a b
 | [],gs',k,b,h=>⟨k,rfl,h⟩
 |g::gs,gs',k,b,⟨k1,h1,h2⟩=>by
  obtain ⟨a,A,C⟩:=xJ h2;exact ⟨a,⟨k1,h1,A⟩,C⟩
def rF{who:Tg}{hs:List Hp}:∀{gs:List (List R3)} {k a:Sj->Bool},lA who hs gs k a->∀s,(∀g∈gs,¬lV g hs s)->a s=k s
 | [],k,a,h,s,_=>by rw [show a=k from h]
 |g::gs,k,a,⟨k1,h1,h2⟩,s,hn=>by
  rw [rF h2 s (fun g' A=>hn g' (eY _ A)),h1.old s (hn g eu)]
structure PuR(ts:List Ty)(gs:List Tu):Prop where
 few:gs.length<=1000
 low:∀t∈gs,t.kind.size<=maxLen/\t.id.size<=maxLen/\oe (e9 t)
 ln:∀g∈cL ts,∀x∈g,LnR x
 ok:Nj (cL ts) (dq gs)
 sum:((cL ts).map List.length).sum<=1000000
def ZL(ts:List Ty)(gs:List Tu)(s:Sj)(who:Tg)(w:af)(e:Ending)(w':af):Prop:=∃kb,e=bi (.tuple #[.bool (kb s),au 0])/\am w w'/\lA who (dq gs) ((cL ts).map (List.map lU)) (fun _=>false) kb
def Tb(X t):(dA X [t] 1).length=if X.testBit 0 then 1 else 0:=by
 cases h:X.testBit 0 with
 |true=>rw [Ao (t:=t) rfl h];simp [dA]
 |false=>rw [FC (t:=t) rfl h];simp [dA]
def Tc(x mv lv gv ts gs w)(h:UQ w x mv lv gv ts gs)(I:PuR ts gs)(th rel who)(hs:th.size<=1000)(bk:bT th=true)(bA:rel.size<=1000)(bh:bC rel=true)(t)(a8:bW ts (aG th 58).1=some t)(r)(bg:b8 t rel=some r)(bn:who.size<=1000)(bl:bT who=true)(t')(a9:bW ts (aG who 58).1=some t')(aQ:ko w)(al:1<w.heap.size):
  Calls prog 26 #[bu x,an th,an rel,an who] w (ZL ts gs ⟨(aG th 58).1,(aG th 58).2.1,rel⟩ ⟨(aG who 58).1,(aG who 58).2.1⟩ w):=by
 obtain ⟨bm,tl,ae⟩:=h.m;have Q:=eo th 58;have bI:=eo who 58;have ab:=aj (fC MW who w bn aQ al);rw [bl] at ab;have aF:=aj (fun w' (k:am w w')=>xH x bm mv lv gv ts gs tl w' (h.p.below k) (ae.below k) th rel hs bk fK bh t a8 r bg (aQ.below k al) (cM al k.size));obtain ⟨br,mn,mc,rfl⟩:=ae.form;have aX:=aj (show ∀w',am w w'->Calls prog 57 #[.agg #[aA br mn mc],an (aG who 58).1] w' fun e w''=>∃av ay ax,e=bi (.tuple #[.agg #[au t'.place,an t'.name,aA av ay ax],.nilIface])/\am w' w'' from fun w' k=>by
  obtain ⟨av,ay,ax,rl,_,aJ⟩:=DB bm _ ts tl (aG who 58).1 w ae t' a9;exact (aJ w' k).mono fun e w'' h=>⟨av,ay,ax,h⟩)
 have bP:=h.p.blk.lt;obtain ⟨ga,gc,rfl⟩:=aw h.p.row;obtain ⟨qs,bc,_⟩:=h.l;obtain ⟨bo,bp,rfl⟩:=aw bc.row;obtain ⟨ln,bb⟩:∃n,n=qs.length:=⟨_,rfl⟩;rw [<-bb] at h;obtain ⟨a6,ba⟩:∃n,n=gs.length:=⟨_,rfl⟩;rw [<-ba] at h;have aI:=aj (fun w' g (k:am w w') (cr:Ai w' (aA (some (aP g)) 1 1) [⟨(aG who 58).1,(aG who 58).2.1⟩])=>Ap bo ga ln bp g 1 1 a6 gc w' ts gs [⟨(aG who 58).1,(aG who 58).2.1⟩] ⟨(aG th 58).1,(aG th 58).2.1,rel⟩ ⟨wF.below _ _ _ _ h.l k,cr,aB h.p.row k,I.few,I.low,⟨by unfold maxLen;show (aG th 58).1.size<=_;omega,by unfold maxLen;show (aG th 58).2.1.size<=_;omega,by unfold maxLen;show rel.size<=_;omega⟩,I.ln,I.ok,I.sum⟩ ar aH fK);have bw:=aj (fun g bz x bB=>(I.ln g bz x bB).wf);have H:=aj h.p;generalize aG th 58=X at*;obtain ⟨k,i,ok⟩:=X;generalize aG who 58=bx at*;obtain ⟨a,b,bX⟩:=bx;simp only at ab aF aX aI ⊢;clear aQ al hs bk bA bh a8 bg ae h I bn bl a9 Q bI bb ba bc;go_enter func26,ntmps26;go_wp2_with fail;refine ab.mono ?_;rintro e w1 ⟨rfl,af⟩;have Y:=aj (af.alloc af.size (dK a b));have a5:=aj (aL.new w1 #[an a,an b] 98);have l1:=af.size;have aW:=aj (aF _ Y);clear af ab aF;go_wp2_with fail;refine aW.mono ?_;rintro e J ⟨rfl,ag⟩;have aM:=ag.alloc ag.size (cf k i rel);have Z:=aj (Y.trans (aM.mono Y.size));have ac:=aj (a5.below aM);have a4:=aj (aL.new J #[an k,an i,an rel] 102);have l2:w1.heap.size<J.heap.size:=by have:=ag.size;simp at this;omega
 clear ag aW a5 Y aM;go_wp2_with fail;generalize (J.alloc (cf k i rel))=W at*;have aV:=aj (az W.heap.size W);have aK:=(H.below Z).blk;obtain ⟨bs,bY,bZ⟩:=three aK;have t0:W.cell? (aP w1.heap.size)=some (an a):=ac.cell rfl;have bD:=Z.size;have bR:=ac.lt;have bQ:=a4.u.lt;have bV:¬(x=W.heap.size):=by have:=aK.lt;omega
 have bU:¬(w1.heap.size=W.heap.size):=ai;have ns:¬(J.heap.size=W.heap.size):=ai;clear aK
 go_region_held3 (fun w'=>w'.cell? (aP x)=some (aA br mn mc)/\w'.cell? (aP w1.heap.size)=some (an a)) ((first|go_keep|refine ⟨ak bs ?_,ak t0 ?_⟩<;>(with_reducible repeat (first|exact U.u|exact aV.u|refine Below.drew ?_|(refine Below.setCell ?_ ?_ _;rotate_left;exact mU)|(refine Below.alloc ?_ ?_ _;rotate_left;exact mU)))))
  ((go_at_call 57;refine (aE aX _ ((cq Z):am w _)).mono ?_;rintro e b2 ⟨av,ay,ax,rfl,aN⟩;have U:=aj (Below.trans (a:=W) (B:=W.heap.size) ((cq aV):am W _) (aN.mono xG));have d0:=ak bs U.u;have d1:=ak t0 U.u;(first|(have Q:=(aL.new W fG 110).drew.below aN;obtain ⟨bK,bL,bM⟩:=three Q;have bO:=Q.fz;have bN:=Q.lt;clear Q)|skip);have bJ:=U.size;clear aN))
 all_goals (
  go_wp2_with fail;refine (nO _).mono ?_;rintro e A ⟨rfl,a7⟩;have V:=Below.trans (a:=W) (B:=W.heap.size) ((cq U):am W _) (a7.mono wm);have R:=aj (Z.trans (V.mono bD));obtain ⟨b0,v1,bE⟩:=three (H.below R).blk;have bt:A.cell? (aP w1.heap.size)=some (an a):=(ac.below V).cell rfl;have bF:A.cell? (aC w1.heap.size 1)=some (an b):=(ac.below V).cell rfl;obtain ⟨bv,bG,bH⟩:=three (a4.below V);have ad:=((az A.heap.size A).alloc aH (dK a b)).drew;have ap:=(aL.new A #[an a,an b] 98).drew;have cr:Ai (A.alloc (dK a b)).drew (aA (some (aP A.heap.size)) 1 1) [⟨a,b⟩]:=⟨A.heap.size,0,1,rfl,ap.lt,ar,fun j y aO=>by
   rcases j with _|j
   ·simp only [List.getElem?_cons_zero,aR] at aO;subst aO;exact ⟨ap.cell rfl,ap.cell rfl⟩
   simp at aO⟩
  have aJ:=aj (aI _ A.heap.size (R.trans (ad.mono R.size)) cr);have D:=aj ad;have aT:=aj (R.trans (ad.mono R.size));have n1:=cd A _ v1;have n2:=cd A _ bt;have bS:=cd A _ bv;clear a7 V ad ap cr aI;go_wp2_with fail
  go_region_held3 (fun w'=>w'.cell? (aC x 1)=some (aA bo ln bp)/\w'.cell? (aC x 2)=some (aA ga a6 gc)/\w'.cell? (aP w1.heap.size)=some (an a)/\w'.cell? (aC w1.heap.size 1)=some (an b)/\w'.cell? (aP J.heap.size)=some (an k)/\w'.cell? (aC J.heap.size 1)=some (an i)/\w'.cell? (aC J.heap.size 2)=some (an rel)) (go_keep)
   ((go_at_call 58;refine aJ.mono ?_;rintro e w5 ⟨v,K,rfl,C,bj,bf⟩;obtain ⟨pa,pc,rfl⟩:=aw bf;have a3:=aj bj;have aS:=Tb (K ⟨k,i,rel⟩) ⟨a,b⟩;change (dA (K ⟨k,i,rel⟩) [⟨a,b⟩] [(⟨a,b⟩:Tg)].length).length=_ at aS;generalize (dA (K ⟨k,i,rel⟩) [⟨a,b⟩] [(⟨a,b⟩:Tg)].length).length=pn at*;have aZ:=aj aS;have aU:=aj (aT.trans (C.mono aT.size));have f0:=ak (ak v1 D) C;have f1:=ak (ak bE D) C;have f2:=ak (ak bt D) C;have f3:=ak (ak bF D) C;have f4:=ak (ak bv D) C;have f5:=ak (ak bG D) C;have f6:=ak (ak bH D) C;clear C bf bj aS))
  have aY:=aj (show lA ⟨a,b⟩ (dq gs) ((cL ts).map (List.map lU)) (fun _=>false) (fun s=>(K s).testBit 0) from by
   have:=FF (i:=0) (who:=⟨a,b⟩) ar rfl bw a3
   simpa using this)
  clear f0 f1 f2 f3 f4 f5 f6 a3
  cases ah:(K ⟨k,i,rel⟩).testBit 0
  ·obtain rfl:pn=0:=by rw [aZ,ah];rfl
   go_wp2;go_ret2;refine ⟨_,?_,aU,aY⟩
   show _=Ending.returned (.tuple #[.bool ((K ⟨k,i,rel⟩).testBit 0),au 0])
   rw [ah]
   rfl
  ·obtain rfl:pn=1:=by rw [aZ,ah];rfl
   go_wp2;go_ret2;refine ⟨_,?_,aU,aY⟩
   show _=Ending.returned (.tuple #[.bool ((K ⟨k,i,rel⟩).testBit 0),au 0])
   rw [ah]
   rfl)
def uz(t:Tu):List Tg:=[⟨t.kind,t.id⟩,⟨t.sub,t.who⟩]
def jv(t:Ty):Tg:=⟨t.name,⟨#[42]⟩⟩
def b6(ts:List Ty)(gs:List Tu):List Tg:=ts.map jv++gs.flatMap uz
def K4(gs:List Tu):(gs.flatMap uz).length=gs.length*2:=by
 induction gs with
 |nil=>rfl
 |cons t gs ih=>rw [bM,bf,ih];simp [uz];omega
def Td(ts:List Ty)(gs:List Tu)(w:af)(e:Ending)(w':af):Prop:=∃cv,e=bi cv/\am w w'/\w'.ownsRow w.heap.size 98 2 cv (b6 ts gs).length ((b6 ts gs).flatMap yQ)
def Nu(x:Nat)(mv lv gv:ag)(ts:List Ty)(gs:List Tu)(w:af)(h:UQ w x mv lv gv ts gs):
  Calls prog 65 #[bu x] w (Td ts gs w):=by
 obtain ⟨bm,tl,hM⟩:=h.m;obtain ⟨bt,mn,mc,rfl⟩:=hM.form;obtain ⟨ga,gc,rfl⟩:=aw h.p.row;have a7:mn=tl.length:=by
  exact PI
 have aN:=hM.fst;have bo:tl.length<=1000:=by have:=hM.llen;simpa using this
 have bi:=h.p.most;obtain ⟨c0,c1,c2⟩:=three h.p.blk;subst a7;have aM:=h.p;have aJ:=aj aN;clear h aN;go_enter func65,ntmps65;go_wp2_with fail
 go_loopw [3,14] (fun aF ay wr=>∃k:Nat,ay=au k/\k<=tl.length/\am w wr/\wr.ownsRow w.heap.size 98 2 aF k (((tl.take k).map fun p=>jv p.1).flatMap yQ)) (fun _ ay _=>tl.length-(intOf ay).toNat)
 ·exact ⟨0,rfl,ai,az _ _,bP⟩
 ·obtain ⟨k,rfl,Z,C,D⟩:=hrel;obtain ⟨arz,av,rfl⟩:=aw D;have a9:=C.size
  by_cases ae:k<tl.length
  ·have a6:(k:Int)<(tl.length:Int):=by omega
   obtain ⟨g,aW,e1,k0,k1,ap⟩:=(hM.below C).row.cell k (by simpa using ae);simp only [aK] at e1;obtain ⟨rfl,ba,rfl⟩:=e1;clear ba;simp only [sB,t3] at k0 k1 ap;obtain ⟨rl,ak⟩:=(hM.below C).rels tl[k] (br ae);have U:=aj (by rw [cD ae,cK,cN,bY,pQ,bM,jI,dU]:((tl.take (k+1)).map fun p=>jv p.1).flatMap yQ=((tl.take k).map fun p=>jv p.1).flatMap yQ++yQ (jv tl[k].1));generalize tl[k]=p at*;obtain ⟨t,tv⟩:=p;simp only at k0 k1 ap ak;obtain ⟨bb,bg,bc,rfl⟩:=ak.form;have J:=(az wr.heap.size wr).alloc aH (bG t.place t.name bb bg bc);have I:=aB D J;have R:=C.trans (J.mono a9);obtain ⟨L,V⟩:∃L,L=((tl.take k).map fun p=>jv p.1).flatMap yQ:=⟨_,rfl⟩;rw [<-V] at I U;clear ak J V D;go_wp2_with (at_builtin;go_must (refine eB rfl underlying119 Tryz.infoTh w.heap.size (I.alloc _) (wr.heap.size+1) 1 [an t.name,an ⟨#[42]⟩] (wr.heap.size+1+1) ?hrest))
   case hrest=>
    intro g5 be w5 ab Y ad aY;have ac:=cA (R.alloc R.size (nH t.name)) Y aS (fun k Z=>((I.alloc (nH t.name)).lt k Z).1);clear Y ad;go_wp2;go_roundw
    ·exact ⟨k+1,by go_num,ai,ac,by rw [aE U];exact ab⟩
    simp [intOf];omega
  have a6:¬((k:Int)<(tl.length:Int)):=ai;have aL:=(show wr.ownsRow w.heap.size 98 2 (aA arz k av) (ts.map jv).length ((ts.map jv).flatMap yQ) from by
   have e:ts.map jv=(tl.take k).map fun p=>jv p.1:=by
    rw [cX ai,<-aJ.u,fU]
    rfl
   rw [e,bN,eb,show min k tl.length=k by omega];exact D)
  have al:k=(ts.map jv).length:=by rw [bN,<-aJ.u,bN];omega
  obtain ⟨d0,d1,d2⟩:=three (aM.below C).blk;have bl:k<=1000:=ai;have aT:=aj al;rw [<-al] at aL;clear D c0 c1 c2 al;go_wp2_with fail;obtain ⟨bh,aX⟩:∃x,x=wr:=⟨_,rfl⟩;subst aX
  go_loopw [3,31] (fun aF aG aQ=>∃j:Nat,aG=au j/\j<=gs.length/\am w aQ/\aQ.ownsRow w.heap.size 98 2 aF (k+j*2) ((ts.map jv++(gs.take j).flatMap uz).flatMap yQ)) (fun _ aG _=>gs.length-(intOf aG).toNat)
  ·exact ⟨0,rfl,ai,C,by simpa using aL⟩
  obtain ⟨j,rfl,bj,C,D⟩:=hrel;obtain ⟨arz,av,rfl⟩:=aw D;have a8:=C.size
  by_cases aO:j<gs.length
  ·have aZ:(j:Int)<(gs.length:Int):=by omega
   obtain ⟨g,aW,e1,Q⟩:=bn k9 6 (fun _=>rfl) (aM.below C).row j gs[j] (aI aO);simp only [aK,bX] at e1;obtain ⟨rfl,rfl⟩:=e1;have U:=aj (by rw [cD aO];simp only [cN,bM,jI,dU,ct]:(ts.map jv++(gs.take (j+1)).flatMap uz).flatMap yQ=(ts.map jv++(gs.take j).flatMap uz).flatMap yQ++(uz gs[j]).flatMap yQ);generalize gs[j]=t at*;have k0:wr.cell? (aC g (j*6))=some (an t.kind):=Q 0 _ ai rfl;have k1:=Q 1 _ ai rfl;have ap:=Q 2 _ ai rfl;have k3:=Q 3 _ ai rfl;have bp:=Q 4 _ ai rfl;have bs:=Q 5 _ ai rfl;have J:=(az wr.heap.size wr).alloc aH (cB t.kind t.id t.rel t.sub t.who t.of);have I:=aB D J;have R:=C.trans (J.mono a8);clear C D Q J;obtain ⟨ax,ah⟩:∃n,n=k+j*2:=⟨_,rfl⟩;have aU:=aj ah;have bk:ax<=3000:=ai;obtain ⟨L,V⟩:∃L,L=(ts.map jv++(gs.take j).flatMap uz).flatMap yQ:=⟨_,rfl⟩;rw [<-V] at I U;clear V;rw [<-ah] at I ⊢;clear ah;go_wp2_with (at_builtin;go_must (refine eB rfl underlying119 Tryz.infoTh w.heap.size (I.alloc _) (wr.heap.size+1) 2 [an t.kind,an t.id,an t.sub,an t.who] (wr.heap.size+1+1) ?HY))
   case HY=>
    intro g5 be w5 ab Y ad aY;have ac:=cA (R.alloc R.size (.cells #[an t.kind,an t.id,an t.sub,an t.who] 98)) Y aS (fun k Z=>((I.alloc (.cells #[an t.kind,an t.id,an t.sub,an t.who] 98)).lt k Z).1);have aV:=(show w5.ownsRow w.heap.size 98 2 (aA (some (aP g5)) (ax+2) be) (k+(j+1)*2) ((ts.map jv++(gs.take (j+1)).flatMap uz).flatMap yQ) from by
     rw [aE U,show k+(j+1)*2=ax+2 by rw [aU.u];omega];exact ab)
    clear ab Y ad;go_wp2;go_roundw
    ·exact ⟨j+1,by go_num,ai,ac,aV⟩
    simp [intOf];omega
  have aZ:¬((j:Int)<(gs.length:Int)):=ai;have aR:=(show wr.ownsRow w.heap.size 98 2 (aA arz (k+j*2) av) (b6 ts gs).length ((b6 ts gs).flatMap yQ) from by
   rw [cX ai] at D;unfold b6;rw [bf,K4,show gs.length=j by omega,<-aT.u];exact D)
  clear D;go_wp2;go_ret;exact ⟨_,rfl,C,aR⟩
def rG(t:Tg):ae:=(t.kind++sg 58)++t.id
def o5(X:Nat)(cs:List Tg):List ae:=iB (gH ((dA X cs cs.length).map rG))
def Tf(ts:List Ty)(gs:List Tu)(aq:Sj)(w:af)(e:Ending)(w':af):Prop:=∃v K,e=bi (.tuple #[v,au 0])/\am w w'/\Run (b6 ts gs) (dq gs) (cL ts) (fun _=>0) K/\w'.ownsRow w.heap.size 9 1 v (o5 (K aq) (b6 ts gs)).length (dO (o5 (K aq) (b6 ts gs)))
variable {base size n:Nat} {w:af} {T:TypeId} {v:ag} {xs:List ag}
def rH(h:w.ownsRow base T size v n xs)(R:0<n):∃g c,v=aA (some (aP g)) n c/\n<=c/\c<=maxLen:=by
 rcases h.2 with ⟨_,h0⟩|⟨g',A,C,e1,J,Q,h1,h2,D,I⟩
 ·omega
 exact ⟨g',A,e1,h1,h2⟩
variable {g c:Nat}
def cr_of{cs:List Tg}(h:w.ownsRow base 98 2 (aA (some (aP g)) cs.length c) cs.length (cs.flatMap yQ))(C:cs.length<=64):Ai w (aA (some (aP g)) cs.length c) cs:=by
 obtain ⟨J,A,_⟩:=dG h;refine ⟨g,0,c,rfl,A.lt,C,fun i x D=> ?_⟩;obtain ⟨g',I,e,hc⟩:=bn yQ 2 (fun _=>rfl) h i x D;simp only [aK,aR,cg,fZ,bX] at e;obtain ⟨rfl,rfl⟩:=e;simp only [pZ];exact ⟨hc 0 _ ai rfl,hc 1 _ ai rfl⟩
def Ar(X:Nat)(cs:List Tg):∀j,∀t∈dA X cs j,t∈cs
 |0,t,h=>by simp [dA] at h
 |j+1,t,h=>by
  rw [dA] at h
  rcases aW.1 h with h|h
  ·exact Ar X cs j t h
  cases hc:cs[j]? with
  |none=>rw [hc] at h;cases h
  |some u=>
   rw [hc] at h;dsimp only at h
   split at h
   ·rw [aX] at h;subst h;exact bF hc
   cases h
def FJ(w:af):Calls prog 67 #[aA none 0 0] w fun e w'=>e=bi (aA none 0 0)/\w'=w:=by
 go_enter func67,ntmps67;go_wp2;go_ret;exact ⟨rfl,rfl⟩
def WhF(W w:af)(l:List ae)(v:ag):Prop:=am W w/\w.ownsRow W.heap.size 9 1 v l.length (dO l)
def ZM(x:Nat)(mv lv gv:ag)(ts:List Ty)(gs:List Tu)(w:af)(h:UQ w x mv lv gv ts gs)(Q:PuR ts gs)(th rel:ae)(hs:th.size<=1000)(b4:bT th=true)(cE:rel.size<=1000)(b0:bC rel=true)(t:Ty)(bO:bW ts (aG th 58).1=some t)(r:Rl)(U:b8 t rel=some r)
  (bL:0<(b6 ts gs).length) (cw:(b6 ts gs).length<=64) (bM:∀t∈b6 ts gs,t.kind.size+t.id.size<=1000) (bV:ko w) (b5:1<w.heap.size):
  Calls prog 31 #[bu x,an th,an rel] w (Tf ts gs ⟨(aG th 58).1,(aG th 58).2.1,rel⟩ w):=by
 obtain ⟨bm,tl,bH⟩:=h.m;have cN:=eo th 58;have ax:=aj (xH x bm mv lv gv ts gs tl w h.p bH th rel hs b4 fK b0 t bO r U bV b5);have ay:=aj (fun w' (k:am w w')=>Nu x mv lv gv ts gs w' (h.below k));obtain ⟨ga,gc,rfl⟩:=aw h.p.row;obtain ⟨qs,bU,_⟩:=h.l;obtain ⟨cd,ce,rfl⟩:=aw bU.row;obtain ⟨ln,bS⟩:∃n,n=qs.length:=⟨_,rfl⟩;rw [<-bS] at h;obtain ⟨bF,bQ⟩:∃n,n=gs.length:=⟨_,rfl⟩;rw [<-bQ] at h;have ap:=aj (fun w' g c (k:am w w') (cr:Ai w' (aA (some (aP g)) (b6 ts gs).length c) (b6 ts gs)) (cx:(b6 ts gs).length<=c) (aR:c<=maxLen)=>Ap cd ga ln ce g (b6 ts gs).length c bF gc w' ts gs (b6 ts gs) ⟨(aG th 58).1,(aG th 58).2.1,rel⟩ ⟨wF.below _ _ _ _ h.l k,cr,aB h.p.row k,Q.few,Q.low,⟨by unfold maxLen;show (aG th 58).1.size<=_;omega,by unfold maxLen;show (aG th 58).2.1.size<=_;omega,by unfold maxLen;show rel.size<=_;omega⟩,Q.ln,Q.ok,Q.sum⟩ bL cx aR);have H:=aj h.p;unfold Tf;unfold Td at ay;unfold S6 at ap;generalize b6 ts gs=cs at*;generalize aG th 58=X at*;obtain ⟨k,i,ok⟩:=X;simp only at ax ap ⊢;have cl:=aj bM;clear bV b5 hs b4 cE b0 bO U bH h Q cN bS bQ bU bM;go_enter func31,ntmps31;go_wp2_with fail;refine ax.mono ?_;rintro e w1 ⟨rfl,aN⟩;have Y:=aj (aN.alloc aN.size (cf k i rel));have bx:=aj (aL.new w1 #[an k,an i,an rel] 102);clear aN ax;go_wp2_with fail;generalize (w1.alloc (cf k i rel))=W at*;have bz:=(H.below Y).blk;obtain ⟨cH,a5,a6⟩:=three bz;obtain ⟨aZ,a3,a4⟩:=three bx;have cb:=Y.size;have bc:=aj (ay W.drew Y.drew);clear bz ay
 go_region_held3 (fun w'=>w'.cell? (aC x 1)=some (aA cd ln ce)/\w'.cell? (aC x 2)=some (aA ga bF gc)/\w'.cell? (aP w1.heap.size)=some (an k)/\w'.cell? (aC w1.heap.size 1)=some (an i)/\w'.cell? (aC w1.heap.size 2)=some (an rel)) (go_keep)
  (first
   |(have cJ:=A;go_at_call 58;refine bf.mono ?_;rintro e cI ⟨cT,K,rfl,bJ,b2,aV⟩;obtain ⟨pa,pc,rfl⟩:=aw aV;have D:=aj (A.trans (bJ.mono A.size));have bo:=aj b2;have co:=aj aV;have f0:=ak a5 D;have f1:=ak a6 D;have f2:=ak aZ D;have f3:=ak a3 D;have f4:=ak a4 D;clear bJ aV b2 cJ)
   |(go_at_call 65;refine bc.mono ?_;rintro e ci ⟨cv,rfl,bI,aX⟩;obtain ⟨g,c,rfl,cy,aR⟩:=rH aX bL;have A:=aj (show am W ci from (az _ W).drew.trans bI);have bf:=aj (ap ci g c (Y.trans (A.mono cb)) (cr_of aX cw) cy aR);have d0:=ak a5 A;have d1:=ak a6 A;have d2:=ak aZ A;have d3:=ak a3 A;have d4:=ak a4 A;clear bI aX))
 have cm:=aj (fun t cG=>cl t (Ar (K ⟨k,i,rel⟩) cs cs.length t cG));have cO:=oS (K ⟨k,i,rel⟩) cs cs.length;have ab:=aj (Y.trans (D.mono cb));have bj:=aj (show o5 (K ⟨k,i,rel⟩) cs=iB (gH ((dA (K ⟨k,i,rel⟩) cs cs.length).map rG)) from rfl);generalize dA (K ⟨k,i,rel⟩) cs cs.length=L at*;clear d0 d1 d2 d3 d4 f0 f1 f2 f3 f4 aZ a3 a4 cH a5 a6 bc bf ap A D bx;go_wp2_with fail;obtain ⟨I,ct⟩:∃x,x=cI:=⟨_,rfl⟩;subst ct
 go_loopw [10,36] (fun cg a7 wr=>∃j:Nat,a7=au j/\j<=L.length/\am I wr/\wr.ownsRow I.heap.size 9 1 cg j (dO ((L.take j).map rG))/\Hid (j=0->cg=aA none 0 0)) (fun _ a7 _=>L.length-(intOf a7).toNat)
 ·exact ⟨0,rfl,ai,az _ _,bP,aj (fun _=>rfl)⟩
 ·obtain ⟨j,rfl,cS,J,V,bs⟩:=hrel;obtain ⟨ch,arz,rfl⟩:=aw V;have aY:=J.size
  by_cases aU:j<L.length
  ·have cz:(j:Int)<(L.length:Int):=by omega
   obtain ⟨bD,c2,bA,aQ⟩:=bn yQ 2 (fun _=>rfl) (aB co J) j L[j] (aI aU);simp only [aK,bX] at bA;obtain ⟨rfl,rfl⟩:=bA;have b3:=cm L[j] (br aU);have bl:=aj (show dO ((L.take (j+1)).map rG)=dO ((L.take j).map rG)++[an (rG L[j])] from by rw [cD aU,dO,cK,cK];rfl);generalize L[j]=y at*;have cL:wr.cell? (aC bD (j*2))=some (an y.kind):=aQ 0 _ ai rfl;have cM:wr.cell? (aC bD (j*2+1))=some (an y.id):=aQ 1 _ ai rfl;have aM:=(az wr.heap.size wr).alloc aH (dK y.kind y.id);have C:=aj (fun w'=>qm y.kind y.id w' b3);change Hid (∀w',Calls _ _ _ w' fun e w''=>e=bi (an (rG y))/\_) at C;generalize rG y=aJ at*;have av:=aj (J.trans (aM.mono aY));have aF:=aj (aB V aM);obtain ⟨bt,bG⟩:∃bt,bt=dO ((L.take j).map rG):=⟨_,rfl⟩;rw [<-bG] at aF bl;clear J V aQ b3 aM bG bs;go_wp2_with fail;refine (C _).mono ?_;rintro e cj ⟨rfl,aO⟩;have ba:=aj (av.trans (aO.mono av.size));have bw:=aj (aB aF aO);have cF:=ba.size;clear aO C cL cM av aF;go_wp2_with (at_builtin;go_must (refine eB rfl underlying22 Tryz.infoStr I.heap.size (bw.alloc _) cj.heap.size 1 [an aJ] (cj.heap.size+1) ?hrest))
   case hrest=>
    intro g5 be cU bY bR cu cR;have bv:=bw.alloc (dv aJ);have ck:=aj (cA (ba.alloc cF (dv aJ)) bR aS (fun k cB=>(bv.lt k cB).1));have cq:=aj bY;clear bv bY bR cu;go_wp2;go_roundw
    ·exact ⟨j+1,by go_num,ai,ck,by rw [bl];exact cq,aj (fun e=>ai)⟩
    simp [intOf];omega
  have cz:¬((j:Int)<(L.length:Int)):=ai;have aT:j=(L.map rG).length:=by rw [bN];omega
  have aW:wr.ownsRow I.heap.size 9 1 (aA ch j arz) (L.map rG).length (dO (L.map rG)):=by
   rw [cX ai] at V;rw [<-aT];exact V
  have al:=aj (E8 I.heap.size (aA ch j arz) (L.map rG) wr aW (by rw [bN];omega));have bp:=aj (oP (L.map rG));have aE:=aj aW;have bg:=aj J;have Z:=aj aT;clear V aW aT J;generalize L.map rG=M at*;generalize gH M=R at*
  by_cases h0:j=0
  ·have b9:=bs h0;simp only [aK] at b9;obtain ⟨rfl,_,rfl⟩:=b9;subst h0;have cp:=aj (show R=[] from iL (by rw [bp,<-Z]));go_wp2_with fail;refine al.mono ?_;rintro e a8 ⟨rfl,ad,ac⟩;have ah:=aj (bg.trans (ac.below aY (fun q U=>by cases U)));clear ad ac al;go_wp2_with fail;refine (FJ a8).mono ?_;rintro e a9 ⟨rfl,b7⟩;rw [b7];clear b7 a9;go_wp2;go_ret2;exact ⟨_,K,rfl,ab.trans (ah.mono ab.size),bo,by rw [bj,cp];exact bP⟩
  obtain ⟨bE,c3,bB,cQ,cP⟩:=rH aE (by have:=Z.u;omega);simp only [aK] at bB;obtain ⟨rfl,cC,rfl⟩:=bB;clear cC;go_wp2_with fail;refine al.mono ?_;rintro e a8 ⟨rfl,ad,ac⟩;have bb:=aj (FI I.heap.size bE j arz R a8 (by rw [<-Z] at ad;exact ad) (by rw [bp,Z]) ai (by have:=Z.u;omega));have ah:=aj (bg.trans (ac.below aY (fun q U=>(aE.lt q U).1)));clear ad ac al;go_wp2_with fail;refine bb.mono ?_;rintro e a9 ⟨rfl,bZ,bK⟩;have bh:=aj (show WhF I a9 (iB R) (aA (some (aP bE)) (iB R).length arz) from ⟨ah.trans (bK.below (by have:=ah.size;omega) (fun q e=>by subst e;exact (aE.lt _ rfl).1)),bZ⟩);clear bZ bK bb;go_wp2;go_ret2;exact ⟨_,K,rfl,ab.trans (bh.1.mono ab.size),bo,by rw [bj];exact bk bh.2 ab.size⟩
def nb(c:UInt8):ae:=⟨#[c]⟩
def FR(a:List ae)(x s:ae):s∈o4 a x↔s∈a\/s=x:=by
 unfold o4
 split
 ·rename_i h
  constructor
  ·exact .inl
  rintro (h1|rfl)
  ·exact h1
  exact List.mem_of_getLast? h
 simp
def WC(l:List ae)(s:ae):∀a:List ae,s∈l.foldl o4 a↔s∈a\/s∈l:=by
 induction l with
 |nil=>intro a;simp
 |cons x l ih=>
  intro a;rw [nT,ih,FR,cG,or_assoc]
def Ax(l:List ae)(s:ae):s∈gH l↔s∈l:=by
 unfold gH
 constructor
 ·intro h;obtain ⟨x,A,rfl⟩:=aU.1 h;rw [List.mem_mergeSort] at A;obtain ⟨y,C,rfl⟩:=aU.1 A;rw [show mk (bB y)=y from by cases y;simp [bB,mk]];exact C
 intro h;refine aU.2 ⟨bB s,?_,by cases s;simp [bB,mk]⟩;rw [List.mem_mergeSort];exact aU.2 ⟨s,h,rfl⟩
def tx(X:Nat)(cs:List Tg)(t:Tg):∀j,t∈dA X cs j↔∃i,i<j/\cs[i]? =some t/\X.testBit i=true
 |0=>by simp [dA]
 |j+1=>by
  rw [dA,aW,tx X cs t j]
  constructor
  ·rintro (⟨i,hi,h⟩|h)
   ·exact ⟨i,ai,h⟩
   cases hc:cs[j]? with
   |none=>rw [hc] at h;cases h
   |some u=>
    rw [hc] at h;dsimp only at h
    split at h
    ·rename_i A;rw [aX] at h;subst h;exact ⟨j,ai,hc,A⟩
    cases h
  rintro ⟨i,hi,h1,h2⟩
  by_cases e:i=j
  ·subst e;right;rw [h1];simp [h2]
  exact .inl ⟨i,ai,h1,h2⟩
def FT(X:Nat)(cs:List Tg)(s:ae):s∈o5 X cs↔∃i t,cs[i]? =some t/\X.testBit i=true/\rG t=s:=by
 unfold o5 iB;rw [WC];simp only [iT,false_or];rw [Ax,aU]
 constructor
 ·rintro ⟨t,h,rfl⟩;obtain ⟨i,_,h1,h2⟩:=(tx X cs t _).1 h;exact ⟨i,t,h1,h2,rfl⟩
 rintro ⟨i,t,h1,h2,rfl⟩;exact ⟨t,(tx X cs t _).2 ⟨i,(bD.1 h1).1,h1,h2⟩,rfl⟩
def uj:ae:=⟨#[117,115,101,114]⟩
def hI:ae:=⟨#[103,114,111,117,112]⟩
def uA:ae:=⟨#[100,111,99]⟩
def fl:ae:=⟨#[109,101,109,98,101,114]⟩
def Lc:ae:=⟨#[112,97,114,101,110,116]⟩
def Tp:ae:=⟨#[111,119,110,101,114]⟩
def CN:ae:=⟨#[98,97,110,110,101,100]⟩
def Ld:ae:=⟨#[101,100,105,116,111,114]⟩
def WD:ae:=⟨#[118,105,101,119,101,114]⟩
def ZR(n:Nat):ae:=(⟨#[48,49,50,51,52,53,54,55,56,57]⟩:ae).extract n (n+1)
def FU(n:Nat):ae:=(⟨#[117,115,101,114,58,117]⟩:ae)++ZR n
def xP(n:Nat):ae:=(⟨#[103,114,111,117,112,58,103]⟩:ae)++ZR n
def CO(n:Nat):ae:=(⟨#[100,111,99,58,100]⟩:ae)++ZR n
def grB(k a b:Nat):ae:=match k with
 |0=>(xP a++⟨#[35,109,101,109,98,101,114,64]⟩)++FU b
 |1=>((xP a++⟨#[35,109,101,109,98,101,114,64]⟩)++xP b)++⟨#[35,109,101,109,98,101,114]⟩
 |2=>(CO a++⟨#[35,112,97,114,101,110,116,64]⟩)++CO b
 |3=>(CO a++⟨#[35,111,119,110,101,114,64]⟩)++FU b
 |4=>(CO a++⟨#[35,101,100,105,116,111,114,64]⟩)++FU b
 |5=>((CO a++⟨#[35,101,100,105,116,111,114,64]⟩)++xP b)++⟨#[35,109,101,109,98,101,114]⟩
 |6=>CO a++⟨#[35,118,105,101,119,101,114,64,117,115,101,114,58,42]⟩
 |7=>CO a++⟨#[35,98,97,110,110,101,100,64,117,115,101,114,58,42]⟩
 |_=>(CO a++⟨#[35,98,97,110,110,101,100,64]⟩)++FU b
def Le:List ae:=(List.range 9).flatMap fun k=>(List.range 4).flatMap fun a=>(List.range 4).map fun b=>grB k a b
end Go.Proofs.YtlbpnlngckgcbaaGreatDoor
namespace Go.Proofs.YtlbpnlngckgcbaaGreatDoor
open Go.ChangeShapes Go.WideShapes Go.RowKit Go.Proofs.Tryz
end Go.Proofs.YtlbpnlngckgcbaaGreatDoor
namespace Go.Proofs.YtlbpnlngckgcbaaGreatDoor
open Go.RowKit Go.PlainAid Go.Proofs.Tryz
section
variable {B:Nat}{w w':af}{x y:Nat}{ts ts' ts2:List Ty}{gs gs' gs2:List Tu}
end
section
variable {B:Nat}{w w':af}{x:Nat}{ts ts2:List Ty}{gs gs2:List Tu}
end
def Yj(d:Nat):ae:=(aG (CO d) 58).2.1
def unB(d:Nat):ae:=(aG (FU d) 58).2.1
def Nz(l:List ae):Prop:=l.Pairwise fun a b=>leB a b/\a≠b
def FV{a b:ae}(h:leB a b)(k:leB b a):a=b:=by
 have:=List.le_antisymm h k;rw [<-cW a,<-cW b,this]
def Lf:∀(l m:List ae),Nz l->Nz m->(∀s,s∈l↔s∈m)->l=m
 | [],[],_,_,_=>rfl
 | [],y::m,_,_,h=>by have:=(h y).2 eu;cases this
 |x::l,[],_,_,h=>by have:=(h x).1 eu;cases this
 |x::l,y::m,hl,hm,h=>by
  have A:=kB.1 hl;have C:=kB.1 hm;have e:x=y:=by
   rcases cG.1 ((h x).1 eu) with e|e
   ·exact e
   rcases cG.1 ((h y).2 eu) with e'|e'
   ·exact e'.symm
   exact FV (A.1 y e').1 (C.1 x e).1
  subst e;rw [Lf l m A.2 C.2 (fun s=>by
   constructor
   ·intro hs
    rcases cG.1 ((h s).1 (eY _ hs)) with e|e
    ·exact absurd e.symm (A.1 s hs).2
    exact e
   intro hs
   rcases cG.1 ((h s).2 (eY _ hs)) with e|e
   ·exact absurd e.symm (C.1 s hs).2
   exact e)]
def Lg:∀(l a:List ae),Nz a->(∀s∈a,∀x∈l,leB s x)->l.Pairwise leB->Nz (l.foldl o4 a)
 | [],a,h,_,_=>h
 |x::l,a,h,h1,h2=>by
  rw [nT];have C:=kB.1 h2;refine Lg l _ ?_ (fun s hs y A=> ?_) C.2
  ·unfold o4
   split
   ·exact h
   rename_i J;refine BO.2 ⟨h,ar,fun s hs y A=> ?_⟩;rw [aX] at A;subst A;refine ⟨h1 s hs _ eu,fun e=>J ?_⟩;subst e;obtain ⟨i,hi,e⟩:=dB hs;have Q:=iW.1 h;have D:i=a.length-1:=by
    rcases fD i (a.length-1) with I|U
    ·exfalso;have q:=Q i (a.length-1) hi ai I;have R:=h1 (a[a.length-1]'ai) (br _) s eu;rw [e] at q;exact q.2 (FV q.1 R)
    omega
   rw [List.getLast?_eq_getElem?,<-D,aI hi,e]
  rcases (FR a x s).1 hs with e|e
  ·exact h1 s e y (eY _ A)
  subst e;exact C.1 y A
def rJ(l:List ae):(gH l).Pairwise leB:=by
 rw [oQ];exact (sZ l [] List.Pairwise.nil).1
def Tq(X:Nat)(cs:List Tg):Nz (o5 X cs):=Lg _ [] List.Pairwise.nil (fun _ h=>by cases h) (rJ _)
section
variable {B:Nat}{w w':af}{x y:Nat}{ts ts' ts2:List Ty}{gs gs' gs2:List Tu}
end
def tt(s:ae):Tu:=(b7 s).1
section
variable {B:Nat}{w w':af}{x y:Nat}{ts ts':List Ty}{gs':List Tu}{ss:List ae}{s:ae}
end
def ZS:ae:=⟨#[42]⟩
section
variable {B:Nat}{w w':af}{x y:Nat}{ts ts':List Ty}{gs gs':List Tu}
end
section
variable {B:Nat}{w w':af}{x:Nat}{ts:List Ty}{gs:List Tu}{ss:List ae}{s:ae}
end
def Jc(l:List ae):(gH l).Perm l:=by
 rw [oQ];have:=(sZ l [] List.Pairwise.nil).2;rw [List.nil_append] at this;exact this
variable {l:List ae}
def NA(h:l.Nodup):Nz (gH l):=by
 have h1:=rJ l;have h2:(gH l).Nodup:=(Jc l).nodup_iff.2 h;exact h1.and h2
def Jd(d:Nat):ae:=(aG (xP d) 58).2.1
def j1(M:Nat->Nat->Bool):Nat->Nat->Nat->Bool
 |0,i,j=>M i j
 |k+1,i,j=>j1 M k i j||(j1 M k i k&&j1 M k k j)
def WE(M:Nat->Nat->Bool)(k i:Nat):j1 M (k+1) i k=j1 M k i k:=by
 rw [j1]
 cases j1 M k i k<;>simp
def WG(M:Nat->Nat->Bool)(k j:Nat):j1 M (k+1) k j=j1 M k k j:=by
 rw [j1]
 cases j1 M k k j<;>simp
def Je(M:Nat->Nat->Bool){i j:Nat}(h:M i j=true):∀k,j1 M k i j=true
 |0=>h
 |k+1=>by rw [j1,Je M h k,so]
def Ay(M:Nat->Nat->Bool):∀(k i a j:Nat),a<k->j1 M k i a=true->j1 M k a j=true->j1 M k i j=true
 |0,i,a,j,h,_,_=>ai
 |k+1,i,a,j,h,h1,h2=>by
  by_cases e:a=k
  ·subst e;rw [WE] at h1;rw [WG] at h2;rw [j1,h1,h2];simp
  have C:=Ay M k;rw [j1] at h1 h2 ⊢;simp only [lg,bO] at h1 h2 ⊢
  rcases h1 with h1|⟨h1,D⟩
  ·rcases h2 with h2|⟨h2,A⟩
   ·exact .inl (C i a j ai h1 h2)
   exact .inr ⟨C i a k ai h1 h2,A⟩
  rcases h2 with h2|⟨h2,A⟩
  ·exact .inr ⟨h1,C k a j ai D h2⟩
  exact .inr ⟨h1,A⟩
def FW(M:Nat->Nat->Bool)(S:Nat->Prop)(h:∀a b,a<4->b<4->M a b=true->S b->S a):∀(k i j:Nat),k<=4->i<4->j<4->j1 M k i j=true->S j->S i
 |0,i,j,_,hi,hj,h1,h2=>h i j hi hj h1 h2
 |k+1,i,j,hk,hi,hj,h1,h2=>by
  have A:=FW M S h k;rw [j1] at h1;simp only [lg,bO] at h1
  rcases h1 with h1|⟨h1,C⟩
  ·exact A i j ai hi hj h1 h2
  exact A i k ai hi ai h1 (A k j ai ai hj C h2)
def WH(k a b:Nat):Tu:=match k with
 |0=>⟨hI,Jd a,fl,uj,unB b,⟨#[]⟩⟩
 |1=>⟨hI,Jd a,fl,hI,Jd b,fl⟩
 |2=>⟨uA,Yj a,Lc,uA,Yj b,⟨#[]⟩⟩
 |3=>⟨uA,Yj a,Tp,uj,unB b,⟨#[]⟩⟩
 |4=>⟨uA,Yj a,Ld,uj,unB b,⟨#[]⟩⟩
 |5=>⟨uA,Yj a,Ld,hI,Jd b,fl⟩
 |6=>⟨uA,Yj a,WD,uj,ZS,⟨#[]⟩⟩
 |7=>⟨uA,Yj a,CN,uj,ZS,⟨#[]⟩⟩
 |_=>⟨uA,Yj a,CN,uj,unB b,⟨#[]⟩⟩
def ZT:((List.range 9).all fun k=>(List.range 4).all fun a=>(List.range 4).all fun b=>oZ (tt (grB k a b)) (WH k a b))=true:=by kernel_rfl
variable {k a b:Nat}
def Ts(A:k<9)(ha:a<4)(h:b<4):tt (grB k a b)=WH k a b:=(DJ _ _).1 (l8.1 (l8.1 (l8.1 ZT k (List.mem_range.2 A)) a (List.mem_range.2 ha)) b (List.mem_range.2 h))
def Tt(ha:a<4)(A:b<4)(h:Jd a=Jd b):a=b:=by
 have k:((List.range 4).all fun a=>(List.range 4).all fun b=> !decide (Jd a=Jd b)||decide (a=b))=true:=aM;have:=l8.1 (l8.1 k a (List.mem_range.2 ha)) b (List.mem_range.2 A)
 simpa [h] using this
def N7(ss:List ae)(k a b:Nat):Bool:=ss.any fun s=>decide (s=grB k a b)
variable {ss:List ae}
def Tv:N7 ss k a b=true↔grB k a b∈ss:=by
 unfold N7;rw [dg]
 constructor
 ·rintro ⟨s,hs,e⟩;rw [<-BW e];exact hs
 intro h;exact ⟨_,h,kV rfl⟩
def xQ(D:∀s∈ss,s∈Le)(t:Tu):t∈ss.map tt↔∃k a b,k<9/\a<4/\b<4/\N7 ss k a b=true/\t=WH k a b:=by
 rw [aU]
 constructor
 ·rintro ⟨s,hs,rfl⟩;have:=D s hs;unfold Le at this;simp only [bZ,List.mem_range,aU] at this;obtain ⟨k,C,a,ha,b,A,rfl⟩:=this;exact ⟨k,a,b,C,ha,A,Tv.2 hs,Ts C ha A⟩
 rintro ⟨k,a,b,C,ha,A,h,rfl⟩;exact ⟨_,Tv.1 h,Ts C ha A⟩
def uB(gs:List Tu)(kd id c:ae)(p:Tu->Bool):Bool:=gs.any fun t=>decide (t.kind=kd/\t.id=id/\t.rel=c)&&p t
variable {gs:List Tu} {kd id:ae}
def ol{c:ae}{p:Tu->Bool}:uB gs kd id c p=true↔∃t∈gs,(t.kind=kd/\t.id=id/\t.rel=c)/\p t=true:=by
 unfold uB;rw [dg];simp only [bO,fE]
def FX(gs:List Tu)(kd id:ae):(∃y∈dq gs,y.kd=kd/\y.id=id/\∀c p,y.ts.any (fun t=>decide (t.rel=c)&&p t)=uB gs kd id c p)\/((∀y∈dq gs,¬(y.kd=kd/\y.id=id))/\∀c p,uB gs kd id c p=false):=by
 by_cases h:∃y∈dq gs,y.kd=kd/\y.id=id
 ·obtain ⟨y,A,e1,J⟩:=h;refine .inl ⟨y,A,e1,J,fun c p=> ?_⟩;rw [gW,ol,dg,((jh gs).ts y A).1];simp only [tj,bO,fE,eK,e1,J]
  constructor
  ·rintro ⟨t,⟨h1,h2,C⟩,D,I⟩;exact ⟨t,h1,⟨h2.symm,C.symm,D⟩,I⟩
  rintro ⟨t,h1,⟨h2,C,D⟩,I⟩;exact ⟨t,⟨h1,h2.symm,C.symm⟩,D,I⟩
 refine .inr ⟨fun y A e=>h ⟨y,A,e⟩,fun c p=> ?_⟩
 cases e:uB gs kd id c p
 ·rfl
 obtain ⟨t,Q,⟨h1,h2,C⟩,D⟩:=ol.1 e;obtain ⟨y,A,q⟩:=(jh gs).all t Q;obtain ⟨R,U⟩:=eK.1 q;exact absurd ⟨y,A,R.trans h1,U.trans h2⟩ h
variable {hs:List Hp}
def ZU{g:List R3}{c:ae}(h:∀y∈hs,¬(y.kd=kd/\y.id=id)):¬lV g hs ⟨kd,id,c⟩:=by
 rintro ⟨x,C,y,A,_,e⟩;exact h y A ⟨(congrArg Sj.kind e).symm,(congrArg Sj.id e).symm⟩
section
variable {who:Tg}{gs:List Tu}{g:List R3}{k0 k1 kb:Sj->Bool}
variable {kd:ae}
def WJ{c:ae}(h:FE who (dq gs) g k0 k1)(C:(⟨kd,c,jP⟩:R3)∈g)(id:ae)(h0:k0 ⟨kd,id,c⟩=false):k1 ⟨kd,id,c⟩=uB gs kd id c (fun t=>hA k1 who (e9 t)):=by
 rcases FX gs kd id with ⟨y,D,rfl,rfl,A⟩|⟨hn,A⟩
 ·rw [<-h.fix _ C y D rfl,<-A];simp [jP,hX]
 rw [A,h.old _ (ZU hn),h0]
end
section
variable {ss:List ae}{i:Nat}{p:Tu->Bool}
def qu(C:∀s∈ss,s∈Le)(hi:i<4):uB (ss.map tt) hI (Jd i) fl p=true↔∃b,b<4/\((N7 ss 0 i b=true/\p (WH 0 i b)=true)\/(N7 ss 1 i b=true/\p (WH 1 i b)=true)):=by
 rw [ol]
 constructor
 ·rintro ⟨t,Q,⟨e1,D,R⟩,J⟩;obtain ⟨k,a,b,U,ha,A,I,rfl⟩:=(xQ C t).1 Q
  rcases k with _|_|_|_|_|_|_|_|_|k
  ·obtain rfl:=Tt ha hi D;exact ⟨b,A,.inl ⟨I,J⟩⟩
  ·obtain rfl:=Tt ha hi D;exact ⟨b,A,.inr ⟨I,J⟩⟩
  all_goals first|omega|exact absurd e1 (show ¬(uA=hI) by decide)
 rintro ⟨b,A,⟨h1,h2⟩|⟨h1,h2⟩⟩
 ·exact ⟨WH 0 i b,(xQ C _).2 ⟨0,i,b,ai,hi,A,h1,rfl⟩,⟨rfl,rfl,rfl⟩,h2⟩
 exact ⟨WH 1 i b,(xQ C _).2 ⟨1,i,b,ai,hi,A,h1,rfl⟩,⟨rfl,rfl,rfl⟩,h2⟩
end
structure abl(who:Tg)(m:Nat->Bool):Prop where
 one:∀b,b<4->lu ⟨uj,unB b,⟨#[]⟩⟩ who=m b
 all:lu ⟨uj,ZS,⟨#[]⟩⟩ who=true
def ZV(ss:List ae)(i j:Nat):Bool:=N7 ss 1 i j||decide (i=j)
def in2(ss:List ae)(i j:Nat):Bool:=N7 ss 2 i j||decide (i=j)
def abm(ss:List ae)(m:Nat->Bool)(i:Nat):Prop:=∃k,k<4/\j1 (ZV ss) 4 i k=true/\∃b,b<4/\N7 ss 0 k b=true/\m b=true
variable {gs:List Tu}
def Tw{y:Hp}(h:y∈dq gs)(c:ae)(p:Tu->Bool):y.ts.any (fun t=>decide (t.rel=c)&&p t)=uB gs y.kd y.id c p:=by
 rcases FX gs y.kd y.id with ⟨z,D,e1,A,C⟩|⟨hn,_⟩
 ·rw [<-C,((jh gs).ts y h).1,((jh gs).ts z D).1];have:∀t,lT y t=lT z t:=fun t=>by unfold lT;rw [e1,A]
  simp only [this]
 exact absurd ⟨rfl,rfl⟩ (hn y h)
variable {kd id:ae}
def NB{c:ae}{p A:Tu->Bool}(h:∀t,p t=true->A t=true)(k:uB gs kd id c p=true):uB gs kd id c A=true:=by
 obtain ⟨t,h1,h2,C⟩:=ol.1 k;exact ol.2 ⟨t,h1,h2,h t C⟩
variable {who:Tg}
def Jf{k A:Sj->Bool}(h:∀s,k s=true->A s=true)(s:Sj)(e:hA k who s=true):hA A who s=true:=by
 unfold hA at e ⊢
 split
 ·rename_i h0;rw [if_pos h0] at e;exact e
 rename_i h0;rw [if_neg h0] at e;exact h _ e
def ZW(k:Sj->Bool)(P:Sj->Prop):∃K:Sj->Bool,∀s,K s=true↔k s=true/\P s:=by
 classical exact ⟨fun s=>k s&&decide (P s),fun s=>ar⟩
section
variable {who:Tg}{m:Nat->Bool}{ss:List ae}{k0 k1 k3 kb:Sj->Bool}{i:Nat}
variable {n a b:Nat}
def Lh(C:abl who m){k:Sj->Bool}(h:b<4)(A:n=0\/n=3\/n=4\/n=8):hA k who (e9 (WH n a b))=m b:=by
 rw [<-C.one b h]
 rcases A with rfl|rfl|rfl|rfl<;>exact if_pos rfl
def Li{k:Sj->Bool}(h:n=1\/n=5):hA k who (e9 (WH n a b))=k ⟨hI,Jd b,fl⟩:=by
 rcases h with rfl|rfl<;>exact if_neg (show ¬(fl.size=0) by decide)
variable {i k:Nat}
def Tx{M:Nat->Nat->Bool}(h:M i i=true):j1 M k i i=true:=Je M h k
def Tz:ZV ss i i=true:=by simp [ZV]
def g1R:List R3:=[⟨hI,fl,jP⟩,⟨uA,Lc,jP⟩,⟨uA,Tp,jP⟩,⟨uA,CN,jP⟩]
def Lj:∀x∈g1R,x.sh=jP:=by
 intro x h;simp only [g1R,cG,iT,jG] at h
 rcases h with rfl|rfl|rfl|rfl<;>rfl
def mem_iff(Q:∀s∈ss,s∈Le)(ac:abl who m)(h:FE who (dq (ss.map tt)) g1R (fun _=>false) k1)(hi:i<4):k1 ⟨hI,Jd i,fl⟩=true↔abm ss m i:=by
 have Y:∀id,k1 ⟨hI,id,fl⟩=uB (ss.map tt) hI id fl (fun t=>hA k1 who (e9 t)):=fun id=>WJ h (by simp [g1R]) id rfl
 constructor
 ·intro C;obtain ⟨K,D⟩:=ZW k1 (fun s=>s.kind=hI->s.rel=fl->∀i,i<4->s.id=Jd i->abm ss m i);have ab:∀s,K s=true->k1 s=true:=fun s hs=>((D s).1 hs).1
  have key:=h.least K (fun s hs=>by
   cases al:K s
   ·rfl
   ·rw [<-ab s al,h.old s hs]) (fun x R y U e Z=>by
   rw [Lj x R] at Z;have J:uB (ss.map tt) y.kd y.id x.nm (fun t=>hA K who (e9 t))=true:=by
    rw [<-Tw U]
    simpa [jP,hX] using Z
   have ak:k1 ⟨y.kd,y.id,x.nm⟩=true:=by
    rw [<-h.fix x R y U e,Lj x R];have:=NB (fun t=>Jf ab (e9 t)) J;rw [<-Tw U] at this
    simpa [jP,hX] using this
   refine (D _).2 ⟨ak,fun e1 ae i hi ag=> ?_⟩;have ad:y.kd=hI:=e1;have af:x.nm=fl:=ae;have ah:y.id=Jd i:=ag;rw [ad,af,ah] at J;obtain ⟨b,A,⟨h1,h2⟩|⟨h1,h2⟩⟩:=(qu Q hi).1 J
   ·rw [Lh ac A (.inl rfl)] at h2;exact ⟨i,hi,Tx Tz,b,A,h1,h2⟩
   rw [Li (.inl rfl)] at h2;obtain ⟨k,C,am,an⟩:=((D _).1 h2).2 rfl rfl b A rfl;exact ⟨k,C,Ay _ 4 i b k A (Je _ (by simp [ZV,h1]) 4) am,an⟩) _ C
  exact ((D _).1 key).2 rfl rfl i hi rfl
 rintro ⟨k,C,h1,b,A,h2,aj⟩;refine FW (ZV ss) (fun i=>k1 ⟨hI,Jd i,fl⟩=true) (fun a c ha hc I V=> ?_) 4 i k ai hi C h1 ?_
 ·unfold ZV at I;rw [lg,fE] at I
  rcases I with q|rfl
  ·rw [Y,qu Q ha];exact ⟨c,hc,.inr ⟨q,by rw [Li (.inl rfl)];exact V⟩⟩
  exact V
 show k1 ⟨hI,Jd k,fl⟩=true
 rw [Y,qu Q C];exact ⟨b,A,.inl ⟨h2,by rw [Lh ac A (.inl rfl)];exact aj⟩⟩
end
def mQ:Nat->(Nat->Bool)->Bool
 |0,_=>false
 |k+1,f=>mQ k f||f k
def om{f}:∀{n:Nat},mQ n f=true↔∃k,k<n/\f k=true
 |0=>by
  constructor
  ·intro h;cases h
  rintro ⟨k,A,_⟩;omega
 |n+1=>by
  rw [mQ,lg,om]
  constructor
  ·rintro (⟨k,A,h⟩|h)
   ·exact ⟨k,ai,h⟩
   exact ⟨n,ai,h⟩
  rintro ⟨k,A,h⟩
  by_cases e:k=n
  ·subst e;exact .inr h
  exact .inl ⟨k,ai,h⟩
def memX(ss:List ae)(i j:Nat):Bool:=mQ 4 fun k=>j1 (ZV ss) 4 i k&&N7 ss 0 k j
def edtX(ss:List ae)(d j:Nat):Bool:=(N7 ss 3 d j||N7 ss 4 d j)||mQ 4 fun g=>N7 ss 5 d g&&memX ss g j
section
variable {ss:List ae}{i j:Nat}{kb:Sj->Bool}
end
def eF(ss:List ae)(i j:Nat):Nat->Bool:=fun d=>j1 (in2 ss) 4 i d&&edtX ss d j
section
variable {ss:List ae}{me mk a n b e d i j:Nat}
end
def Jg(n:Nat)(f:Nat->Bool):List Bool:=(List.range n).map f
variable {n i:Nat}
def TA(f)(h:i<(Jg n f).length):(Jg n f)[i]=f i:=by simp [Jg]
def ZX(f v):(Jg n f).set i v=Jg n (fun q=>if q=i then v else f q):=by
 apply List.ext_getElem
 ·simp [Jg]
 intro q h1 h2;rw [List.getElem_set,TA,TA]
 by_cases e:i=q
 ·rw [if_pos e,if_pos e.symm]
 rw [if_neg e,if_neg (fun e'=>e e'.symm)]
def TC{f g}(h:∀q,q<n->f q=g q):Jg n f=Jg n g:=by
 unfold Jg;exact List.map_congr_left (fun q A=>h q (List.mem_range.1 A))
def yS(w:af)(g n:Nat)(f:Nat->Bool)(T:TypeId):Prop:=aL w g ((Jg n f).map Value.bool).toArray T
section
variable {w w':af}{g n:Nat}{f f':Nat->Bool}{T:TypeId}
variable {i:Nat}
def yS.cell(h:yS w g n f T)(hi:i<n):w.cell? (aC g i)=some (.bool (f i)):=aL.cell h (by simp [Jg,hi])
def yS.set(h:yS w g n f T)(i v):yS (w.setCell (aC g i) (.bool v)) g n (fun q=>if q=i then v else f q) T:=by
 have:=aL.set h i (.bool v);unfold yS;rw [<-ZX,qd]
 simpa using this
def yS.congr(h:yS w g n f T)(e:∀q,q<n->f q=f' q):yS w g n f' T:=by
 unfold yS at h ⊢;rw [<-TC e];exact h
def yS.fz(h:yS w g n f T)(o):w.frozen? (aC g o)=false:=aL.fz h o
def yS.lt(h:yS w g n f T):g<w.heap.size:=aL.lt h
def yS.below(h:yS w g n f T)(k:am w w'):yS w' g n f T:=aL.below h k
end
