import Derived.Test.YtlbpnlngckgcbaaGreatDoorM32
import Derived.Test.YtlbpnlngckgcbaaGreatDoorM30
import Derived.Test.YtlbpnlngckgcbaaGreatDoorM31
import Derived.Test.YtlbpnlngckgcbaaGreatDoorM33
import Derived.Test.YtlbpnlngckgcbaaGreatDoorM29
import Derived.Test.YtlbpnlngckgcbaaGreatDoorM34
import Derived.Test.YtlbpnlngckgcbaaGreatDoorM35
import Derived.Deep.Slices
import Derived.ChangeArms
import Derived.SizedLaws
import Derived.Lib.LaidTab
import Derived.Shelf.Vars
import Derived.ChangeSame
import Derived.DataShut
import Derived.OpenShut
import Derived.ChangeVars
import Derived.ChangeSlices
import Derived.Carry
import Derived.LaidLaws
import Derived.LaidHandle
import Derived.LaidMore
import Derived.LaidSub
set_option linter.all false
set_option maxHeartbeats 4000000
set_option maxRecDepth 100000
namespace Go.Proofs.YtlbpnlngckgcbaaGreatDoor
open Go.RowKit Go.PlainAid Go.Proofs.Tryz
def Clo(cs:List Tg)(ls:List (It×ag))(hl:List Hd)(K:Sj->Nat):Prop:=∀p∈ls,∀h∈hl,h.kd=p.1.1.1.name->sH (tE K cs p h) (K (jX p h))
structure Sr(cs:List Tg)(ls:List (It×ag))(hl:List Hd)(K0 K:Sj->Nat):Prop where
 g:aaH cs ls hl K0 K
 least:∀K',(∀s,oN cs.length (K' s))->(∀s,¬Za ls hl s->K' s=K0 s)->Clo cs ls hl K'->∀s,sH (K s) (K' s)
variable {hl:List Hd}
def MJ{cs:List Tg}{ls:List (It×ag)}(D:cs.length<=64)(A:Sm ls hl)(C:Sj->Nat):SeC cs hl ls (Sr cs ls hl C) (jr (EY ls hl)) where
 bits:=fun K I=>(sK D A C).bits K I.g
 val:=fun K I=>(sK D A C).val K I.g
 step:=fun K I p U h Q R ab=>by
  obtain ⟨h1,h2⟩:=(sK D A C).step K I.g p U h Q R ab;refine ⟨⟨h1,fun Z V Y J s=> ?_⟩,h2⟩;unfold mU
  split
  .rename_i e;subst e;refine fun i hi=>J p U h Q R i (EZ D I.g.out V (I.least Z V Y J) (fun s hs=> ?_) i hi)
   have hn:=A.str p U h Q R s hs;rw [I.g.old s hn,Y s hn]
  exact I.least Z V Y J s
structure Hp where
 kd:ae
 id:ae
 ts:List Tu
def li(h:Hd):Hp:=⟨h.kd,h.id,h.ts⟩
def rX(K:Sj->Nat)(cs:List Tg)(x:TR)(h:Hp):Nat:=ed ⟨K,cs,h.kd,h.id,h.ts⟩ x.2.name x.2.body
def rSj(x:TR)(h:Hp):Sj:=⟨h.kd,h.id,x.2.name⟩
def Iv(g:List TR)(hs:List Hp)(s:Sj):Prop:=∃x∈g,∃h∈hs,h.kd=x.1.name/\s=rSj x h
structure Sol(cs:List Tg)(hs:List Hp)(g:List TR)(K0 K:Sj->Nat):Prop where
 out:∀s,oN cs.length (K s)
 old:∀s,¬Iv g hs s->K s=K0 s
 fix:∀x∈g,∀h∈hs,h.kd=x.1.name->rX K cs x h=K (rSj x h)
 least:∀K',(∀s,oN cs.length (K' s))->(∀s,¬Iv g hs s->K' s=K0 s)->(∀x∈g,∀h∈hs,h.kd=x.1.name->sH (rX K' cs x h) (K' (rSj x h)))->∀s,sH (K s) (K' s)
def Kq{ls s}:Iv (ls.map fun p=>P9 p.1) (hl.map li) s↔Za ls hl s:=by
 constructor
 .rintro ⟨x,J,h,I,e1,A⟩;obtain ⟨p,C,rfl⟩:=aU.1 J;obtain ⟨y,D,rfl⟩:=aU.1 I;exact ⟨p,C,y,D,e1,A⟩
 rintro ⟨p,C,y,D,e1,A⟩;exact ⟨_,aU.2 ⟨p,C,rfl⟩,_,aU.2 ⟨y,D,rfl⟩,e1,A⟩
def Zc{cs:List Tg}{ls:List (It×ag)}{D K:Sj->Nat}(h:Sr cs ls hl D K)(f:Is cs ls hl K):Sol cs (hl.map li) (ls.map fun p=>P9 p.1) D K where
 out:=h.g.out
 old:=fun s hs=>h.g.old s (fun e=>hs (Kq.2 e))
 fix:=fun x Q y R e=>by
  obtain ⟨p,A,rfl⟩:=aU.1 Q;obtain ⟨z,C,rfl⟩:=aU.1 R;exact f p A z C e
 least:=fun I U V J=>h.least I U (fun s hs=>V s (fun e=>hs (Kq.1 e))) (fun p A z C e=>J _ (aU.2 ⟨p,A,rfl⟩) _ (aU.2 ⟨z,C,rfl⟩) e)
def Run(cs:List Tg)(hs:List Hp):List (List TR)->(Sj->Nat)->(Sj->Nat)->Prop
 | [],K,K'=>K'=K
 |g::gs,K,K'=>∃K1,Sol cs hs g K K1/\Run cs hs gs K1 K'
def Kr{cs hs}:∀{gs gs':List (List TR)} {K A B:Sj->Nat},Run cs hs gs K A->Run cs hs gs' A B->Run cs hs (gs++gs') K B
 | [],gs',K,A,B,h,k=>by obtain rfl:=(h:A=K);exact k
 |g::gs,gs',K,A,B,⟨K1,h1,h2⟩,k=>⟨K1,h1,Kr h2 k⟩
def Ks{cs hs}:∀{gs:List (List TR)} {K A:Sj->Nat},Run cs hs gs K A->∀s,(∀g∈gs,¬Iv g hs s)->A s=K s
 | [],K,A,h,s,_=>by rw [show A=K from h]
 |g::gs,K,A,⟨K1,h1,h2⟩,s,hn=>by
  rw [Ks h2 s (fun g' C=>hn g' (eY _ C)),h1.old s (hn g ep)]
def BX{cs hs}:∀{gs:List (List TR)} {K A:Sj->Nat},Run cs hs gs K A->(∀s,oN cs.length (K s))->∀s,oN cs.length (A s)
 | [],K,A,h,ho=>by rw [show A=K from h];exact ho
 |g::gs,K,A,⟨K1,h1,h2⟩,_=>BX h2 h1.out
structure MK(gs:List (List TR))(hs:List Hp):Prop where
 hds:∀h∈hs,∀h'∈hs,h.kd=h'.kd->h.id=h'.id->h=h'
 lns:∀g∈gs,∀x∈g,∀y∈g,x.1.name=y.1.name->x.2.name=y.2.name->x.2.body=y.2.body
 ap:gs.Pairwise fun g g'=>∀x∈g,∀y∈g',¬(x.1.name=y.1.name/\x.2.name=y.2.name)
 str:∀g∈gs,∀x∈g,∀h∈hs,h.kd=x.1.name->∀s,MI h.kd h.id h.ts x.2.name x.2.body s->¬Iv g hs s
structure LnR(x:TR):Prop where
 wf:BU x.2.body
 len:(bq x.2.name 0 x.2.body).length<40000
 name:x.2.name.size<=maxLen
 rel:∀i∈gE x.2.name x.2.body,i.rel.size<=maxLen
def LnR.ok{p:It×ag}(h:LnR (P9 p.1)):Y6 p:=⟨h.wf,h.len,h.name,h.rel⟩
def Ss{gs:List (List TR)}{ls:List (It×ag)}(h:MK gs (hl.map li))(C:(ls.map fun p=>P9 p.1)∈gs)(I:∀x∈hl,∀y∈hl,x.kd=y.kd->x.id=y.id->x=y):Sm ls hl where
 hds:=I
 lns:=fun p A q J e1 D=>h.lns _ C _ (aU.2 ⟨p,A,rfl⟩) _ (aU.2 ⟨q,J,rfl⟩) e1 D
 str:=fun p A y R e s hs Q=>h.str _ C _ (aU.2 ⟨p,A,rfl⟩) _ (aU.2 ⟨y,R,rfl⟩) e s hs (Kq.2 Q)
def Iw{cs:List Tg}{ls:List (It×ag)}{K:Sj->Nat}(ho:∀s,oN cs.length (K s))(C:∀s,Za ls hl s->K s=0):Sr cs ls hl K K where
 g:=⟨ho,fun _ _=>rfl,fun p I h D e i hi=>by rw [C _ ⟨p,I,h,D,e,rfl⟩] at hi;simp at hi⟩
 least:=fun Q _ J _ s i hi=>by
  by_cases A:Za ls hl s
  .rw [C s A] at hi;simp at hi
  rw [J s A];exact hi
variable {hs:List Hp}
def Su{cs pre g K}(Q:Run cs hs pre (fun _=>0) K)(I:∀g'∈pre,∀x∈g',∀y∈g,¬(x.1.name=y.1.name/\x.2.name=y.2.name))(s)(R:Iv g hs s):K s=0:=by
 obtain ⟨y,V,h,Y,e1,rfl⟩:=R;refine Ks Q _ (fun g' J ⟨x,U,D,Z,C,A⟩=>I g' J x U y V ⟨?_,?_⟩)
 .have:D.kd=h.kd:=(congrArg Sj.kind A).symm;rw [<-C,<-e1,this]
 exact (congrArg Sj.rel A).symm
variable {aD br:Prop}
def zc11q (h:aD:=by
 first|exact hfin.2|(rw [<-HN1];exact hfin.2)):aD:=h
def Sv (h:aD:=by
 exact ⟨k+1,_,_,rfl,by go_num,ai,hfin.1,zc11q,ak (ML HTK HST HP VZ rfl)⟩):aD:=h
def lL(h:Hp)(t:Tu):Bool:=EP ⟨h.kd,h.id⟩ ⟨t.kind,t.id⟩
def BZ(i:Nat)(t:Tu)(l:List Hp):List Hp:=match l[i]? with
 |some h=>l.set i ⟨h.kd,h.id,h.ts++[t]⟩
 |none=>l
def wX(l:List Hp)(t:Tu):List Hp:=match l.findIdx? (fun h=>lL h t) with
 |some i=>BZ i t l
 |none=>BZ l.length t (l++[⟨t.kind,t.id,[]⟩])
def dr(gs:List Tu):List Hp:=gs.foldl wX []
def wY(gs t):dr (gs++[t])=wX (dr gs) t:=by simp [dr]
structure Kt(base:Nat)(w:af)(hv:ag)(hl:List Hd):Prop where
 row:w.ownsRow base 282 3 hv hl.length (hl.flatMap MF)
 tup:∀h∈hl,w.ownsRow base 123 6 h.tv h.ts.length (h.ts.flatMap kX)
 ap:hl.Pairwise (fun p q=>∀k,p.tv.ownBlock=some k->q.tv.ownBlock≠some k)
section
variable {base g cap i:Nat}{w w' W w5:af}{hv:ag}{hl:List Hd}{t:Tu}
def Kt.below(h:Kt base w hv hl)(k:an w w'):Kt base w' hv hl:=⟨aB h.row k,fun x A=>aB (h.tup x A) k,h.ap⟩
variable {kd id:ae}
def Kt.push(h:Kt base w hv hl)(J:w.grownBy w' hv.ownBlock)(Q:w'.ownsRow base 282 3 (aw (some (aN g)) (hl.length+1) cap) (hl.length+1) (hl.flatMap MF++[aj kd,aj id,aw none 0 0])):Kt base w' (aw (some (aN g)) (hl.length+1) cap) (hl++[⟨kd,id,[],aw none 0 0⟩]):=by
 refine ⟨by simpa [MF] using Q,fun p D=> ?_,?_⟩
 .rcases aW.1 D with D|D
  .exact az (h.tup p D) (fun g cs f _ I=>J.block g (lt_of_some I) (dT h.row I ay))
  rw [aX] at D;subst D;exact bQ
 exact PQ
def Sw(x u ts):∀(l:List Hd)(k:Nat),l[k]? =some x->(l.flatMap MF).set (k*3+2) u=(l.set k ⟨x.kd,x.id,ts,u⟩).flatMap MF
 | [],k,h=>by simp at h
 |y::l,0,h=>by
  simp only [List.getElem?_cons_zero,aR] at h;subst h
  rfl
 |y::l,k+1,h=>by
  have A:=Sw x u ts l k nf;rw [bN,rG _ _ (by show 3<=_;omega),show (k+1)*3+2-(MF y).length=k*3+2 by show (k+1)*3+2-3=_;omega,A,List.set_cons_succ,bN]
variable {g0 c0:Nat}
def Kt.put{p}(h:Kt base w (aw (some (aN g0)) hl.length c0) hl)(hi:hl[i]? =some p)(I:w.grownBy w' p.tv.ownBlock)(hown:w'.ownsRow base 123 6 (aw (some (aN g)) (p.ts.length+1) cap) (p.ts.length+1) (p.ts.flatMap kX++kX t))(Q:p.tv.ownBlock=some g\/w.heap.size<=g):
  Kt base (w'.setCell (aC g0 (i*3+2)) (aw (some (aN g)) (p.ts.length+1) cap)) (aw (some (aN g0)) hl.length c0) (hl.set i ⟨p.kd,p.id,p.ts++[t],aw (some (aN g)) (p.ts.length+1) cap⟩):=by
 have hil:i<hl.length:=(bD.1 hi).1;have U:p∈hl:=bG hi;have hpe:hl[i]=p:=by rw [aI hil] at hi;exact gK hi
 have J:w'.ownsRow base 282 3 (aw (some (aN g0)) hl.length c0) hl.length (hl.flatMap MF):=az h.row (fun g cs f _ D=>I.block g (lt_of_some D) (dT (h.tup p U) D ay));obtain ⟨Y,R,_⟩:=dF J;have hap:=iT.1 h.ap;refine ⟨?_,fun q V=> ?_,?_⟩
 .have:=oj J (i*3+2) (aw (some (aN g)) (p.ts.length+1) cap);rw [fU,<-Sw p _ _ hl i hi];exact this
 .obtain ⟨j,hj,rfl⟩:=dB V;rw [fU] at hj;refine bU ?_ R ay _ _
  by_cases e:i=j
  .exact Xp
  rw [jJ e];refine cH (h.tup _ (bu hj)) (fun k cs f hk D=>I.block k (lt_of_some D) (fun ek=> ?_));exact PS
 .refine iT.2 (fun a b ha hb' hab k hk e=> ?_);rw [fU] at ha hb';have old:∀j (hj:j<hl.length),j≠i->hl[j].tv.ownBlock=some k->g=k->False:=fun j hj hji hk e=>by
   subst e
   rcases Q with e|e
   .exact PR
   have:=((h.tup _ (bu hj)).lt g hk).2;omega
  exact Xo
variable {pc n1:Nat} {pa:Option Addr} {W0:af} {o:Obj}
def hold_close{A:Nat}{ts:List Tu}(Z:n1=hl.length)(C:an W0 W)(D:Kt W0.heap.size W (aw (some (aN g0)) n1 c0) hl)(J:hl[i]? =some ⟨kd,id,ts,aw pa A pc⟩)(ac:A=ts.length)
  (Q:(W.alloc o).drew.grownBy w5 (Value.slice pa A pc).ownBlock) (ab:w5.ownsRow W0.heap.size 123 6 (aw (some (aN g)) (A+1) cap) (A+1) (ts.flatMap kX++kX t)) (U:(Value.slice pa A pc).ownBlock=some g\/g=W.heap.size+1):
  an W0 (w5.setCell (aC g0 (i*3+2)) (aw (some (aN g)) (A+1) cap))/\Kt W0.heap.size (w5.setCell (aC g0 (i*3+2)) (aw (some (aN g)) (A+1) cap)) (aw (some (aN g0)) n1 c0) (hl.set i ⟨kd,id,ts++[t],aw (some (aN g)) (A+1) cap⟩):=by
 subst ac;subst Z;have I:an W ((W.alloc o).drew):=((aA _ W).alloc aH o).drew;have R:=D.below I;obtain ⟨ad,ae,V⟩:=dF D.row;refine ⟨((C.trans (I.mono C.size)).grown Q (aV C.size I.size) (fun k Y=>((D.tup _ (bG J)).lt k Y).1)).setCell V _,?_⟩;exact R.put J Q ab (U.elim .inl (fun e=> .inr aS))
variable {gs:List Tu} {k:Nat}
def ML{p p'}(Q:gs.take (k+1)=gs.take k++[t])(J:BZ i t (hl.map li)=dr (gs.take k++[t])/\hl.length<=k+1)(D:hl[i]? =some p)(C:∀h∈hl,h.ts.length<=k)(I:li p'=⟨p.kd,p.id,p.ts++[t]⟩):
  (hl.set i p').map li=dr (gs.take (k+1))/\(hl.set i p').length<=k+1/\∀h∈hl.set i p',h.ts.length<=k+1:=by
 refine ⟨?_,by rw [fU];exact J.2,fun h A=> ?_⟩
 .rw [Q,<-J.1,pM,I];unfold BZ;rw [eo,D]
  rfl
 .rcases r8 A with A|rfl
  .have:=C h A;omega
  have h1:h.ts=p.ts++[t]:=congrArg Hp.ts I;have h2:=C p (bG D);rw [h1,bg];simp;omega
end
def E0(l:List Hd)(t:Tu):(l.map li).findIdx? (fun h=>lL h t)=l.findIdx? (fun h=>qR h t):=by
 rw [List.findIdx?_map]
 rfl
def Tryz.infoHo:(Tryz.prog.info? 282).map (fun i=>(i.zero,i.size,i.bytes))=some (some (.agg #[aj ⟨#[]⟩,aj ⟨#[]⟩,aw none 0 0]),3,56):=by kernel_rfl
def Zd(gs:List Tu)(w:af)(e:Ending)(w':af):Prop:=∃hv hl,e=bj hv/\an w w'/\Kt w.heap.size w' hv hl/\hl.map li=dr gs/\hl.length<=gs.length/\∀h∈hl,h.ts.length<=gs.length
def E4(gv gs w)(bh:w.ownsRow 0 123 6 gv gs.length (gs.flatMap kX))(cb:gs.length<=1000):
  Calls prog 98 #[gv] w (Zd gs w):=by
 obtain ⟨ga,gc,rfl⟩:=ax bh;have bt:=ak bh;clear bh;go_enter func98,ntmps98;go_wp2_with fail
 go_loopw [3,9] (fun b2 bi wr=>∃(k:Nat)(hv:ag)(hl:List Hd),b2=hv/\bi=ar k/\k<=gs.length/\an w wr/\Kt w.heap.size wr hv hl/\Hid (hl.map li=dr (gs.take k)/\hl.length<=k/\∀h∈hl,h.ts.length<=k)) (fun _ bi _=>gs.length-(intOf bi).toNat)
 .exact ⟨0,_,[],rfl,rfl,ai,aA _ _,⟨bQ,(fun _ h=>by cases h),List.Pairwise.nil⟩,ak ⟨rfl,au,(fun _ h=>by cases h)⟩⟩
 .obtain ⟨k,hv,hl,rfl,rfl,b9,ad,av,I⟩:=hrel;obtain ⟨ha,hc,rfl⟩:=ax av.row
  by_cases bn:k<gs.length
  .have bF:(k:Int)<(gs.length:Int):=by omega
   have HTK:=ak (show gs.take (k+1)=gs.take k++[gs[k]] from cD bn);obtain ⟨g,c,e1,A⟩:=bo kX 6 (fun _=>rfl) (aB bt ad) k gs[k] (aI bn);simp only [aK] at e1;obtain ⟨rfl,_,rfl⟩:=e1;generalize gs[k]=t at*;have k0:wr.cell? (aC g (k*6))=some (aj t.kind):=A 0 _ ai rfl;have k1:wr.cell? (aC g (k*6+1))=some (aj t.id):=A 1 _ ai rfl;have bM:wr.cell? (aC g (k*6+2))=some (aj t.rel):=A 2 _ ai rfl;have k3:wr.cell? (aC g (k*6+3))=some (aj t.sub):=A 3 _ ai rfl;have bN:wr.cell? (aC g (k*6+4))=some (aj t.who):=A 4 _ ai rfl;have bO:wr.cell? (aC g (k*6+5))=some (aj t.of):=A 5 _ ai rfl;have be:=(aA wr.heap.size wr).alloc aH (cB aj t.kind aj t.id aj t.rel aj t.sub aj t.who aj t.of);have bz:=ad.size;have a8:=ak (ad.trans (be.mono bz));have aQ:=ak (av.below be);have bc:=ak (show aL (wr.alloc (cB aj t.kind aj t.id aj t.rel aj t.sub aj t.who aj t.of)) wr.heap.size #[aj t.kind,aj t.id,aj t.rel,aj t.sub,aj t.who,aj t.of] 123 from aL.new wr _ _);have C:=ak (Im w.heap.size _ hl t wr.heap.size _ (by have:=I.2.1;omega) aQ.row (fun x bK=>by obtain ⟨a,c,e⟩:=ax (aQ.tup x bK);exact ⟨a,_,c,e⟩) bc);have b8:=I.2.1;clear ad av A be;go_wp2_with fail;refine C.mono ?_;rintro e aN ⟨rfl,aZ⟩;have V:=ak (a8.trans (aZ.mono a8.size));have J:=ak (aQ.below aZ);have ac:=ak (bc.below aZ);clear aZ C a8 aQ bc k0 k1 bM k3 bN bO;unfold MG
   cases aF:hl.findIdx? (fun h=>qR h t) with
   |some i=>
    have hi:i<hl.length:=(kV.1 aF).1;have HST:=ak (show BZ i t (hl.map li)=dr (gs.take k++[t])/\hl.length<=k+1 from ⟨by rw [wY,<-I.1];unfold wX;rw [E0,aF],ai⟩);have VZ:=ak I.2.2;have cd:¬((i:Int)<0):=ai;clear I aF;dsimp only;go_wp2_with fail;obtain ⟨U,bC⟩:∃l,l=hl:=⟨_,rfl⟩;obtain ⟨W,bg⟩:∃W,W=aN:=⟨_,rfl⟩;subst bg;subst bC;obtain ⟨g0,c0,e0,A⟩:=bo MF 3 (fun _=>rfl) J.row (i) (U[i]) (aI hi);simp only [aK] at e0
    first
     |obtain ⟨rfl,aG,rfl⟩:=e0
     |(simp only [aR,cg,fY,bY] at e0;obtain ⟨rfl,aG,rfl⟩:=e0)
    have R:W.cell? (aC g0 (i*3+2))=some U[i].tv:=A 2 _ ai rfl;have D:=J.tup _ (bu hi);have HP:=ak (aI hi);have aM:=VZ _ (bu hi);generalize U[i]=y at*;obtain ⟨b4,b3,bj,b5⟩:=y;simp only at R D aM;obtain ⟨pa,pc,rfl⟩:=ax D;obtain ⟨aO,ab⟩:∃n,n=bj.length:=⟨_,rfl⟩;rw [<-ab] at R D aM HP;have ba:=ak ab;have ah:=ak D;obtain ⟨bv,Q,bA⟩:=dF J.row;have bL:=Q.fz;have bG:¬(g0=W.heap.size):=by have:=Q.lt;omega
    have bH:¬(wr.heap.size=W.heap.size):=by have:=ac.lt;omega
    have c7:(W.alloc (cB aj t.kind aj t.id aj t.rel aj t.sub aj t.who aj t.of)).cell? (aC g0 (i*3+2))=some (aw pa aO pc):=am R ((aA _ W).alloc aH _);obtain ⟨t0,t1,t2,t3,t4,t5⟩:=ac.six;obtain ⟨bU,bV,bW,bX,bZ,b0⟩:=(ac.below ((aA _ W).alloc aH (cB aj t.kind aj t.id aj t.rel aj t.sub aj t.who aj t.of))).six;have bD:(0:Int)<=((i:Nat):Int):=ai;have bE:((i:Nat):Int)<((U.length:Nat):Int):=ai;have af:=ak Q;have bR:=ce W _ R;have bS:=ce W _ t0;have bx:=V.size;have HN1:=ak aG;clear A D Q ab
    go_region_law (refine AC rfl underlying115 Tryz.infoTu w.heap.size (cQ (ah.alloc _)) ((af.alloc (cB aj t.kind aj t.id aj t.rel aj t.sub aj t.who aj t.of)).drew) W.heap.size 1 (kX t) (W.heap.size+1) ?_;intro g5 bf w5 aJ Z az bB Y;have ap:=cQ (ah.alloc (cB aj t.kind aj t.id aj t.rel aj t.sub aj t.who aj t.of));have al:=(af.alloc (cB aj t.kind aj t.id aj t.rel aj t.sub aj t.who aj t.of)).drew;have bT:w5.cell? (aC g0 (i*3+2))=some (aw pa aO pc):=Z.cell (w:=(W.alloc (cB aj t.kind aj t.id aj t.rel aj t.sub aj t.who aj t.of)).drew) c7 (own_ne ap al ay);have zq:=Y.fz;have a9:=ak Z;have bb:=ak aJ;have a7:=ak az;have bP:=Y.lt;clear ap al Y Z aJ az)
    all_goals
     go_wp2;go_roundw
     .have hfin:=hold_close (by first|exact HN1|rfl) V J HP ba a9 bb a7;exact Sv
     .simp [intOf];omega
   |none=>
    have HST:=ak (show BZ hl.length t ((hl++[(⟨t.kind,t.id,[],aw none 0 0⟩:Hd)]).map li)=dr (gs.take k++[t])/\(hl++[(⟨t.kind,t.id,[],aw none 0 0⟩:Hd)]).length<=k+1 from ⟨by rw [wY,<-I.1];unfold wX;rw [E0,aF];simp [li],aS⟩);have VZ:=ak (show ∀h∈hl++[(⟨t.kind,t.id,[],aw none 0 0⟩:Hd)],h.ts.length<=k from fun h ae=>by
     rcases aW.1 ae with ae|ae
     .exact I.2.2 h ae
     rw [aX] at ae;subst ae;simp)
    obtain ⟨t0,t1,t2,t3,t4,t5⟩:=ac.six;have bJ:=V.size;clear I aF;dsimp only;go_wp2_with (at_builtin;go_must (refine ez rfl underlying185 Tryz.infoHo w.heap.size (J.row.alloc _) aN.heap.size 1 [aj t.kind,aj t.id,aw none 0 0] (aN.heap.size+1) ?hrest))
    case hrest=>
     intro aY b6 bq bp a6 bw b7;have aV:=(aA aN.heap.size aN).alloc aH (.cells #[aj t.kind,aj t.id,aw none 0 0] 282);have aT:=J.below aV;have aU:=ac.below aV;have aP:=ak (aT.push a6 bp);have bk:=ak (cA (V.trans (aV.mono bJ)) a6 aS (fun q bI=>(aT.row.lt q bI).1));have TB:=ak (show aL bq wr.heap.size _ 123 from (a6.block _ aU.lt (own_ne aT.row aU ay)).trans aU);have hi:hl.length<(hl++[(⟨t.kind,t.id,[],aw none 0 0⟩:Hd)]).length:=au;clear aV aT aU bp a6 bw J V ac t0 t1 t2 t3 t4 t5;go_wp2_with fail;obtain ⟨W,bg⟩:∃W,W=bq:=⟨_,rfl⟩;subst bg;generalize hl++[(⟨t.kind,t.id,[],aw none 0 0⟩:Hd)]=U at*;obtain ⟨g0,c0,e0,A⟩:=bo MF 3 (fun _=>rfl) aP.row (hl.length) (U[hl.length]) (aI hi);simp only [aK] at e0
     first
      |obtain ⟨rfl,aG,rfl⟩:=e0
      |(simp only [aR,cg,fY,bY] at e0;obtain ⟨rfl,aG,rfl⟩:=e0)
     have R:W.cell? (aC aY (hl.length*3+2))=some U[hl.length].tv:=A 2 _ ai rfl;have D:=aP.tup _ (bu hi);have HP:=ak (aI hi);have aM:=VZ _ (bu hi);generalize U[hl.length]=y at*;obtain ⟨b4,b3,bj,b5⟩:=y;simp only at R D aM;obtain ⟨pa,pc,rfl⟩:=ax D;obtain ⟨aO,ab⟩:∃n,n=bj.length:=⟨_,rfl⟩;rw [<-ab] at R D aM HP;have ba:=ak ab;have ah:=ak D;obtain ⟨bv,Q,bA⟩:=dF aP.row;have bL:=Q.fz;have bG:¬(aY=W.heap.size):=by have:=Q.lt;omega
     have bH:¬(wr.heap.size=W.heap.size):=by have:=TB.lt;omega
     have c7:(W.alloc (cB aj t.kind aj t.id aj t.rel aj t.sub aj t.who aj t.of)).cell? (aC aY (hl.length*3+2))=some (aw pa aO pc):=am R ((aA _ W).alloc aH _);obtain ⟨t0,t1,t2,t3,t4,t5⟩:=TB.six;obtain ⟨bU,bV,bW,bX,bZ,b0⟩:=(TB.below ((aA _ W).alloc aH (cB aj t.kind aj t.id aj t.rel aj t.sub aj t.who aj t.of))).six;have bD:(0:Int)<=((hl.length:Nat):Int):=ai;have bE:((hl.length:Nat):Int)<((hl.length+1:Nat):Int):=ai;have af:=ak Q;have bR:=ce W _ R;have bS:=ce W _ t0;have bx:=bk.size;have HN1:=ak aG;clear A D Q ab
     go_region_law (refine AC rfl underlying115 Tryz.infoTu w.heap.size (cQ (ah.alloc _)) ((af.alloc (cB aj t.kind aj t.id aj t.rel aj t.sub aj t.who aj t.of)).drew) W.heap.size 1 (kX t) (W.heap.size+1) ?_;intro g5 bf w5 aJ Z az bB Y;have ap:=cQ (ah.alloc (cB aj t.kind aj t.id aj t.rel aj t.sub aj t.who aj t.of));have al:=(af.alloc (cB aj t.kind aj t.id aj t.rel aj t.sub aj t.who aj t.of)).drew;have bT:w5.cell? (aC aY (hl.length*3+2))=some (aw pa aO pc):=Z.cell (w:=(W.alloc (cB aj t.kind aj t.id aj t.rel aj t.sub aj t.who aj t.of)).drew) c7 (own_ne ap al ay);have zq:=Y.fz;have a9:=ak Z;have bb:=ak aJ;have a7:=ak az;have bP:=Y.lt;clear ap al Y Z aJ az)
     all_goals
      go_wp2;go_roundw
      .have hfin:=hold_close (by first|exact HN1|rfl) bk aP HP ba a9 bb a7;exact Sv
      .simp [intOf];omega
  have bF:¬((k:Int)<(gs.length:Int)):=ai;have bl:k=gs.length:=ai;have J:=ak av;have V:=ak ad;have bs:=ak (show hl.map li=dr gs/\hl.length<=gs.length/\∀h∈hl,h.ts.length<=gs.length from by
   have:=aE I;rw [bl,km] at this;exact this)
  clear ad av I bl;go_wp2;go_ret;exact ⟨_,hl,rfl,V,J,bs⟩
variable {aD br:Prop}
abbrev mF:=@List.mem_append_left
abbrev pZ:=@List.mem_append_right
def eI{h t}:lL h t=true↔h.kd=t.kind/\h.id=t.id:=by
 unfold lL EP;rw [bP,bz,bz]
structure Sx(gs:List Tu)(l:List Hp):Prop where
 ts:∀h∈l,h.ts=gs.filter (fun t=>lL h t)/\h.ts≠ []
 all:∀t∈gs,∃h∈l,lL h t=true
 ap:l.Pairwise fun a b=>¬(a.kd=b.kd/\a.id=b.id)
variable {gs:List Tu}
def oD{h t}:(gs++[t]).filter (fun t=>lL h t)=gs.filter (fun t=>lL h t)++(if lL h t=true then [t] else []):=by
 rw [List.filter_append]
 congr 1
 cases h1:lL h t<;>simp [h1]
def MM{l}(H:Sx gs l)(t):Sx (gs++[t]) (wX l t):=by
 unfold wX
 cases Q:l.findIdx? (fun h=>lL h t) with
 |some i=>
  obtain ⟨hi,V,_⟩:=kV.1 Q;have U:=iT.1 H.ap;unfold BZ;dsimp only;rw [aI hi];dsimp only;have ad:=H.ts _ (bu hi);have ae:∀j (D:j<l.length),j≠i->lL l[j] t=false:=fun j D ac=>by
   cases Z:lL l[j] t with
   |false=>rfl
   |true=>
    have h1:=eI.1 Z;have h2:=eI.1 V;exfalso
    rcases vR ac with Y|Y
    .exact U j i D hi Y ⟨by rw [h1.1,h2.1],by rw [h1.2,h2.2]⟩
    exact U i j hi D Y ⟨by rw [h1.1,h2.1],by rw [h1.2,h2.2]⟩
  refine ⟨fun h A=> ?_,fun u C=> ?_,?_⟩
  .obtain ⟨j,D,rfl⟩:=dB A;rw [fU] at D
   by_cases e:i=j
   .subst e;rw [jC];refine ⟨?_,au⟩;rw [oD];have e1:lL ⟨l[i].kd,l[i].id,l[i].ts++[t]⟩ t=true:=V;rw [if_pos e1];dsimp only;rw [ad.1]
    rfl
   rw [jJ e];have J:=H.ts _ (bu D);refine ⟨?_,J.2⟩;rw [oD,if_neg (by rw [ae j D (fun e'=>e e'.symm)];simp),dS];exact J.1
  .rcases aW.1 C with C|C
   .obtain ⟨h,A,e⟩:=H.all u C;obtain ⟨j,D,rfl⟩:=dB A
    by_cases e':i=j
    .subst e';exact ⟨⟨l[i].kd,l[i].id,l[i].ts++[t]⟩,List.mem_iff_getElem.2 ⟨i,by simpa using hi,by rw [jC]⟩,e⟩
    exact ⟨l[j],List.mem_iff_getElem.2 ⟨j,by simpa using D,by rw [jJ e']⟩,e⟩
   rw [aX] at C;subst C;exact ⟨⟨l[i].kd,l[i].id,l[i].ts++[u]⟩,List.mem_iff_getElem.2 ⟨i,by simpa using hi,by rw [jC]⟩,V⟩
  refine iT.2 (fun a b ha I ab=> ?_);rw [fU] at ha I;have key:∀j (D:j<l.length),((l.set i ⟨l[i].kd,l[i].id,l[i].ts++[t]⟩)[j]'(by simpa using D)).kd=l[j].kd/\((l.set i ⟨l[i].kd,l[i].id,l[i].ts++[t]⟩)[j]'(by simpa using D)).id=l[j].id:=fun j D=>by
   by_cases e:i=j
   .subst e;rw [jC];exact ⟨rfl,rfl⟩
   rw [jJ e];exact ⟨rfl,rfl⟩
  rw [(key a ha).1,(key a ha).2,(key b I).1,(key b I).2];exact U a b ha I ab
 |none=>
  rw [pj] at Q;have e:BZ l.length t (l++[⟨t.kind,t.id,[]⟩])=l++[⟨t.kind,t.id,[t]⟩]:=by
   unfold BZ;simp
  dsimp only;rw [e];refine ⟨fun h A=> ?_,fun u C=> ?_,?_⟩
  .rcases aW.1 A with A|A
   .have J:=H.ts h A;refine ⟨?_,J.2⟩;rw [oD,if_neg (by rw [Q h A];simp),dS];exact J.1
   rw [aX] at A;subst A;refine ⟨?_,au⟩;have e1:lL ⟨t.kind,t.id,[t]⟩ t=true:=eI.2 ⟨rfl,rfl⟩;rw [oD,if_pos e1,List.filter_eq_nil_iff.2 (fun u C=> ?_)]
   .rfl
   intro Z;obtain ⟨h,A,R⟩:=H.all u C;have h1:=eI.1 Z;have h2:=eI.1 R;have:=Q h A;rw [eI.2 ⟨h2.1.trans h1.1.symm,h2.2.trans h1.2.symm⟩] at this
   cases this
  .rcases aW.1 C with C|C
   .obtain ⟨h,A,e⟩:=H.all u C;exact ⟨h,mF _ A,e⟩
   rw [aX] at C;subst C;exact ⟨_,pZ _ (aX.2 rfl),eI.2 ⟨rfl,rfl⟩⟩
  refine Bg.2 ⟨H.ap,au,fun a ha b I=> ?_⟩;rw [aX] at I;subst I;rintro ⟨e1,R⟩;have:=Q a ha;rw [eI.2 ⟨e1,R⟩] at this
  cases this
def zM:∀(gs pre:List Tu)(l:List Hp),Sx pre l->Sx (pre++gs) (gs.foldl wX l)
 | [],pre,l,H=>by simpa using H
 |t::gs,pre,l,H=>by
  have:=zM gs (pre++[t]) _ (MM H t)
  simpa using this
def je(gs):Sx gs (dr gs):=zM gs [] [] ⟨(fun _ h=>by cases h),(fun _ h=>by cases h),List.Pairwise.nil⟩
def Ze{l:List Hp}(h:l.Pairwise fun a b=>¬(a.kd=b.kd/\a.id=b.id)){a b:Hp}(ha:a∈l)(J:b∈l)(e1:a.kd=b.kd)(C:a.id=b.id):a=b:=by
 obtain ⟨i,hi,rfl⟩:=dB ha;obtain ⟨j,I,rfl⟩:=dB J;have D:=iT.1 h
 rcases Nat.lt_trichotomy i j with A|rfl|A
 .exact absurd ⟨e1,C⟩ (D i j hi I A)
 .rfl
 exact absurd ⟨e1.symm,C.symm⟩ (D j i I hi A)
variable {hl:List Hd}
def Zf(h:hl.map li=dr gs):∀x∈hl,∀y∈hl,x.kd=y.kd->x.id=y.id->x=y:=fun x R y U e1 C=>by
 obtain ⟨i,hi,rfl⟩:=dB R;obtain ⟨j,J,rfl⟩:=dB U;have D:=iT.1 (je gs).ap;rw [<-h] at D;have k:∀a b (ha:a<hl.length) (I:b<hl.length),a<b->¬(hl[a].kd=hl[b].kd/\hl[a].id=hl[b].id):=fun a b ha I Q=>by
  have:=D a b (by simpa using ha) (by simpa using I) Q
  simpa [li] using this
 rcases Nat.lt_trichotomy i j with A|rfl|A
 .exact absurd ⟨e1,C⟩ (k i j hi J A)
 .rfl
 exact absurd ⟨e1.symm,C.symm⟩ (k j i J hi A)
structure Zg(w:af)(cv hv lv:ag)(cs:List Tg)(hl:List Hd)(qs:List (ag×List (It×ag))):Prop where
 cr:zH w cv cs
 hs:Z4 w hv hl
 ln:Hb 0 w lv qs
 ok:∀q∈qs,∀p∈q.2,Y6 p
 few:∀q∈qs,q.2.length<=1000000
section
variable {w w':af}{cv hv lv:ag}{cs:List Tg}{hl:List Hd}{qs:List (ag×List (It×ag))}{mb n:Nat}{K:Sj->Nat}
def Zg.grp(h:Zg w cv hv lv cs hl qs){A:ag×List (It×ag)}(C:A∈qs):SeG w cv hv A.1 cs hl A.2:=⟨h.cr,h.hs,h.ln.grp A C,h.ok A C,h.few A C⟩
def Zg.cellsK(h:Zg w cv hv lv cs hl qs)(k:nU w w'):Zg w' cv hv lv cs hl qs:=⟨h.cr.cellsK k,h.hs.cellsK k,h.ln.frame (fun g cs T f A _=>k.2 g cs T f A),h.ok,h.few⟩
end
def MP(q:ag×List (It×ag)):List TR:=q.2.map fun p=>P9 p.1
def sL(qs:List (ag×List (It×ag))):Nat:=(qs.map fun q=>q.2.length).sum
variable {j:Nat}
def MR{qs:List (ag×List (It×ag))}{A:ag×List (It×ag)}(h:qs[j]? =some A):sL (qs.take (j+1))=sL (qs.take j)+A.2.length/\(qs.take (j+1)).map MP=(qs.take j).map MP++[MP A]:=by
 have C:=(bD.1 h).1;have e:qs.take (j+1)=qs.take j++[A]:=by
  rw [cD C];rw [aI C] at h;rw [gK h]
 rw [e];unfold sL;simp
def V0{qs:List (ag×List (It×ag))}(j):sL (qs.take j)<=sL qs:=by
 have:sL qs=sL (qs.take j)+sL (qs.drop j):=by
  unfold sL;rw [<-List.sum_append,<-cK,po]
 omega
def Sy(ls hl):(EY ls hl).length=ls.length*hl.length:=by
 unfold EY
 induction ls with
 |nil=>simp
 |cons p ls ih=>rw [bN,bg,ih,bO,iK,Nat.add_mul,Nat.one_mul,rj]
structure Kst(cs:List Tg)(hl:List Hd)(qs:List (ag×List (It×ag)))(j n:Nat)(K:Sj->Nat):Prop where
 run:Run cs (hl.map li) ((qs.take j).map MP) (fun _=>0) K
 few:n<=64000*sL (qs.take j)
def MS(w ca ha cn cc hn hc mb n j lv K cs hl)(qs:List (ag×List (It×ag)))(A:ag×List (It×ag))(R:Zg w (aw ca cn cc) (aw ha hn hc) lv cs hl qs)(an:rg w mb n K)(J:Kst cs hl qs j n K)(I:qs[j]? =some A)(V:MK (qs.map MP) (hl.map li))(aj:∀x∈hl,∀y∈hl,x.kd=y.kd->x.id=y.id->x=y)(hs:sL qs<=1000000):
  Calls prog 99 #[.agg #[aw ca cn cc,aw ha hn hc,.map (some mb)],A.1] w fun e w'=>e=bj (.tuple #[])/\bK (fun k=>k=mb) w w'/\∃Q D,rg w' mb Q D/\Kst cs hl qs (j+1) Q D:=by
 have Z:=bG I;have Y:=(bD.1 I).1;have U:=R.grp Z;obtain ⟨sa,sc,hv⟩:=ax U.ln.row;have ah:=R.cr.most;have am:MP A∈qs.map MP:=aU.2 ⟨A,Z,rfl⟩;have C:=MJ ah (Ss V am aj) K;have ae:∀g'∈(qs.take j).map MP,∀x∈g',∀y∈MP A,¬(x.1.name=y.1.name/\x.2.name=y.2.name):=fun g' al=>by
  have av:=iT.1 V.ap;obtain ⟨i,hi,rfl⟩:=dB al;rw [bO,dZ] at hi;have:=av i j aS (by simpa using Y) ai;rw [aI Y] at I;have e:=gK I;simp only [rU,List.getElem_take,e] at this ⊢;exact this
 have ab:Sr cs A.2 hl K K:=Iw (BX J.run (fun s i _=>au)) (fun s ay=>Su J.run ae s (Kq.2 ay));have aB:jr (EY A.2 hl) K<=64000*A.2.length:=by
  have h1:=zL K (EY A.2 hl);rw [Sy] at h1;have h2:A.2.length*hl.length<=A.2.length*1000:=Nat.mul_le_mul_left _ R.hs.most;omega
 obtain ⟨e1,ac⟩:=MR I;have az:=V0 (qs:=qs) (j+1);have aA:=J.few;rw [hv] at U ⊢;refine (Iu w ca ha sa cn cc hn hc _ sc mb n (n+jr (EY A.2 hl) K) K cs hl A.2 (Sr cs A.2 hl K) (jr (EY A.2 hl)) U C an ab aH fI).mono ?_;rintro e w' ⟨rfl,af,Q,D,ar,ad,aC,ak⟩;refine ⟨rfl,af,Q,D,ar,⟨?_,?_⟩⟩
 .rw [ac];exact Kr J.run ⟨D,Zc ad ak,rfl⟩
 .rw [e1];omega
def yd(t:Tg):List ag:=[aj t.kind,aj t.id]
def dA(X:Nat)(cs:List Tg):Nat->List Tg
 |0=>[]
 |j+1=>dA X cs j++(match cs[j]? with
  |some t=>if X.testBit j then [t] else []
  |none=>[])
def zN{X cs t}(h:cs[j]? =some t)(A:X.testBit j=true):dA X cs (j+1)=dA X cs j++[t]:=by
 rw [dA,h];simp [A]
def E5{X cs t}(h:cs[j]? =some t)(A:X.testBit j=false):dA X cs (j+1)=dA X cs j:=by
 rw [dA,h];simp [A]
def oE(X cs):∀j,(dA X cs j).length<=j
 |0=>by simp [dA]
 |j+1=>by
  have h:=oE X cs j;rw [dA,bg]
  cases cs[j]? with
  |none=>simp;omega
  |some t=>
   simp only
   split<;>simp<;>omega
def V1{X:Nat}(I:X<18446744073709551616)(J:j<64):(bits .and .u64 (X:Int) (IntKind.u64.wrap (2 ^ j)) != 0)=X.testBit j:=by
 refine Sb ?_;intro h2 e;rw [e,u64_and_nat _ _ I h2]
 cases C:X.testBit j with
 |true=>
  have A:(X&&& 2 ^ j).testBit j=true:=by rw [wU,C,Io];rfl
  rw [gV];intro h0;have D:X&&& 2 ^ j=0:=ai;rw [D] at A;simp at A
 |false=>
  have A:X&&& 2 ^ j=0:=by
   apply Nat.eq_of_testBit_eq;intro i;rw [wU]
   by_cases hi:i=j
   .subst hi;rw [C];simp
   rw [Ip (fun e=>hi e.symm)];simp
  rw [A]
  rfl
section
open Go.Shelf
variable {aD br:Prop}
abbrev sM:=@List.mem_filter
abbrev jL(a0:ag):Obj:=.cells #[a0] 115
attribute [local go_sem] Oper.semAt_some
structure Zh(w:af)(lv cv gv:ag)(ts:List Ty)(gs:List Tu)(cs:List Tg)(aq:Sj):Prop where
 lx:YA ts lv w
 cr:zH w cv cs
 row:w.ownsRow 0 123 6 gv gs.length (gs.flatMap kX)
 few:gs.length<=1000
 low:∀t∈gs,t.kind.size<=maxLen/\t.id.size<=maxLen/\nS (fb t)
 ask:nS aq
 ln:∀g∈cL ts,∀x∈g,LnR x
 ok:MK (cL ts) (dr gs)
 sum:((cL ts).map List.length).sum<=1000000
variable {w w':af} {lv gv:ag} {ts:List Ty} {gs:List Tu} {aq:Sj}
def Zh.below{cv cs}(h:Zh w lv cv gv ts gs cs aq)(k:an w w'):Zh w' lv cv gv ts gs cs aq:=
 ⟨vX.below _ _ _ _ h.lx k,h.cr.below k,aB h.row k,h.few,h.low,h.ask,h.ln,h.ok,h.sum⟩
def SA(ts:List Ty)(gs:List Tu)(cs:List Tg)(aq:Sj)(w:af)(e:Ending)(w':af):Prop:=∃v K,e=bj v/\an w w'/\Run cs (dr gs) (cL ts) (fun _=>0) K/\w'.ownsRow w.heap.size 98 2 v (dA (K aq) cs cs.length).length ((dA (K aq) cs cs.length).flatMap yd)
def Tryz.infoTh:(Tryz.prog.info? 98).map (fun i=>(i.zero,i.size,i.bytes))=some (some (.agg #[aj ⟨#[]⟩,aj ⟨#[]⟩]),2,32):=by kernel_rfl
structure ThJ(ts:List Ty)(gs:List Tu)(cs:List Tg)(aq:Sj)(sb:Nat)(W0:af)(pre:List Unit)(W:af)(av:ag):Prop where
 but:bK (fun k=>k=sb) W0 W
 blk:aL W sb #[av] 119
 fst:pre=[]->av=aw none 0 0
 all:pre≠ []->∃K,Run cs (dr gs) (cL ts) (fun _=>0) K/\W.ownsRow W0.heap.size 98 2 av (dA (K aq) cs cs.length).length ((dA (K aq) cs cs.length).flatMap yd)
variable {sb:Nat} {W0 W W':af} {row:Option Nat}
def ThJ.oth{cs pre av}(h:ThJ ts gs cs aq sb W0 pre W av)(A:W.grownBy W' row)(C:∀r,row=some r->W0.heap.size<=r/\∃o:Obj,W.heap[r]? =some o/\o.isCells=false):ThJ ts gs cs aq sb W0 pre W' av:=
 ⟨⟨A.os.trans h.but.os,A.tape.trans h.but.tape,A.output.trans h.but.output,aV h.but.size A.size,fun k I hs=>(A.block k (cM I h.but.size) (fun e=>by have:=(C k e.symm).1;omega)).trans (h.but.block k I hs)⟩,
  fV (β:=Unit) W0.heap.size _ _ _ () W W' row h.blk A C,h.fst,fun J=>by
   obtain ⟨K,h1,h2⟩:=h.all J;exact ⟨K,h1,az h2 (fun g cs f _ D=>A.block g (lt_of_some D) (fun e=>by
    obtain ⟨o,ho,hc⟩:=(C g e.symm).2;rw [D] at ho
    cases ho
    cases hc))⟩⟩
variable {base:Nat} {hl:List Hd}
def hl_hs{hv}(h:Kt base w hv hl)(V:hl.map li=dr gs)(ac:hl.length<=gs.length)(Y:∀x∈hl,x.ts.length<=gs.length)(ad:gs.length<=1000)(C:∀t∈gs,t.kind.size<=maxLen/\t.id.size<=maxLen/\nS (fb t)):Z4 w hv hl:=by
 refine ⟨bn h.row (gS _),fun x D=>⟨⟨bn (h.tup x D) (gS _),by have:=Y x D;omega⟩,?_⟩,ai⟩;have ab:li x∈dr gs:=by rw [<-V];exact aU.2 ⟨x,D,rfl⟩
 obtain ⟨e1,R⟩:=(je gs).ts _ ab;have Q:x.ts=gs.filter (fun t=>lL (li x) t):=e1;have I:∀t∈x.ts,t∈gs/\x.kd=t.kind/\x.id=t.id:=fun t A=>by
  rw [Q,sM] at A;exact ⟨A.1,eI.1 A.2⟩
 have J:x.ts≠ []:=R;obtain ⟨t,A⟩:=List.exists_mem_of_ne_nil _ J;obtain ⟨h1,h2,U⟩:=I t A;refine ⟨lT.2 J,by rw [h2];exact (C t h1).1,by rw [U];exact (C t h1).2.1,fun u Z=>(C u (I u Z).1).2.2⟩
variable {g n c:Nat}
def zH.but{S o cs}(h:zH w (aw (some (aC g o)) n c) cs)(k:bK S w w')(C:¬S g)(c'):zH w' (aw (some (aC g o)) n c') cs:=by
 obtain ⟨g',J,I,e,h2,D,A⟩:=h;simp only [aK,aR,cg,fY] at e;obtain ⟨⟨rfl,rfl⟩,rfl,_⟩:=e;exact ⟨g,o,c',rfl,cM h2 k.size,D,fun i x hi=>⟨(jw (w:=w) (k.block g h2 C)).trans (A i x hi).1,(jw (w:=w) (k.block g h2 C)).trans (A i x hi).2⟩⟩
variable {cn cc:Nat}
def Zh.but{cs bs}(h:Zh w lv (aw (some (aN g)) cn cc) gv ts gs cs aq)(k:bK (fun k=>k=sb) w w')(D:aL w sb bs 119)(I:g≠sb):Zh w' lv (aw (some (aN g)) cn cc) gv ts gs cs aq:=by
 have key:∀(i:Nat)(xs:Array ag)(T:TypeId)(f:Nat×Nat),w.heap[i]? =some (Obj.cells xs T f)->T≠119->w'.heap[i]? =w.heap[i]? :=fun i xs T f A C=>k.block i (lt_of_some A) (fun e=>by
  subst e;unfold aL at D;rw [D] at A
  cases A
  exact C rfl)
 obtain ⟨qs,h1,h2⟩:=h.lx;exact ⟨⟨qs,h1.frame (fun i xs T f A C=>key i xs T f A (by rcases C with rfl|rfl|rfl<;>decide)),h2⟩,h.cr.but k I cc,az h.row (fun i xs f _ A=>key i xs _ f A ay),h.few,h.low,h.ask,h.ln,h.ok,h.sum⟩
variable {B:Nat} {T:TypeId}
def MU{bs}(k:bK (fun k=>k=sb) W W')(h:aL W sb bs T):KeepsFrom B W W':=⟨k.size,fun i o _ hi ho=>(k.block i (lt_of_some hi) (fun e=>by
 subst e;unfold aL at h;rw [h] at hi
 cases hi
 cases ho)).trans hi⟩
variable {wr:af} {o:Obj} {v':ag} {xs:List ag}
def Zi{W2 w7 o2 av ys}(R:bK (fun k=>k=sb) W2 wr)(Q:aL wr sb #[av] 119)(V:wr.ownsRow W2.heap.size 98 2 av n xs)(A:((wr.alloc o).drew.alloc o2).grownBy w7 av.ownBlock)(U:w7.ownsRow W2.heap.size 98 2 v' (n+1) ys):
  bK (fun k=>k=sb) W2 (w7.setCell (aN sb) v')/\aL (w7.setCell (aN sb) v') sb #[v'] 119/\(w7.setCell (aN sb) v').ownsRow W2.heap.size 98 2 v' (n+1) ys:=by
 have b:an wr ((wr.alloc o).drew.alloc o2):=(((aA _ wr).alloc aH o).drew).alloc au o2;have J:=aB V b;have C:=Q.below b;have D:aL w7 sb #[av] 119:=(A.block sb C.lt (own_ne J C ay)).trans C;have Y:bK (fun k=>k=sb) W2 w7:=by
  have h1:=R.trans (bK.of_below b);exact ⟨A.os.trans h1.os,A.tape.trans h1.tape,A.output.trans h1.output,aV h1.size A.size,fun k I hs=>(A.block k (cM I h1.size) (fun e=>by have:=(J.lt k e.symm).1;omega)).trans (h1.block k I hs)⟩
 exact ⟨Y.set rfl _,D.set 0 _,bU U D ay 0 _⟩
def zO(la ga ln lc g A cc gn gc w ts gs cs aq)(h:Zh w (aw la ln lc) (aw (some (aN g)) A cc) (aw ga gn gc) ts gs cs aq)(dE:0<cs.length)(c3:A<=cc)(c4:cc<=maxLen):
  Calls prog 58 #[.agg #[aw la ln lc],aw (some (aN g)) A cc,.agg #[aj aq.kind,aj aq.id,aj aq.rel],aw ga gn gc] w (SA ts gs cs aq w):=by
 obtain ⟨i0,c7,dm,dn,dp⟩:=eL Tryz.infoTh;have bq:A=cs.length:=by
  obtain ⟨g',a3,bk,e,_⟩:=h.cr;exact Gx
 have c6:g<w.heap.size:=by
  obtain ⟨g',a3,bk,e,h2,_⟩:=h.cr;simp only [aK,aR,cg] at e;rw [e.1.1];exact h2
 have bV:A<=64:=by rw [bq];exact h.cr.most
 have cZ:0<A:=ai;have a6:=ak bq;clear bq;refine (jG (n:=8)).1 ?_;refine callsIn_of_wp_marks func58 rfl trivial ?_ rfl;simp only [ntmps58,rT,List.length_cons,List.length_nil,Nat.reduceAdd,Nat.reduceSub,vz,Array.replicate_zero,vA,vB,List.nil_append,List.cons_append];gi_wp2_with fail;refine ⟨trivial,(jG.2 (MN _ _ _ _)).mono ?_⟩;rintro e w' ⟨rfl,rfl⟩;gi_wp2_with fail;have bo:an w ((((w.alloc (.cells #[aw la ln lc] 114)).alloc (bT aj aq.kind aj aq.id aj aq.rel)).alloc (jL aw ga gn gc)).alloc (eO aw none 0 0)):=((((aA _ w).alloc aH _).alloc au _).alloc aS _).alloc aS _;have Z:an w ((((((w.alloc (.cells #[aw la ln lc] 114)).alloc (bT aj aq.kind aj aq.id aj aq.rel)).alloc (jL aw ga gn gc)).alloc (eO aw none 0 0)).alloc (eO aw (some (aN g)) A cc)).alloc (iO ar 64)):=(bo.alloc bo.size _).alloc aS _;have bR:aL ((((((w.alloc (.cells #[aw la ln lc] 114)).alloc (bT aj aq.kind aj aq.id aj aq.rel)).alloc (jL aw ga gn gc)).alloc (eO aw none 0 0)).alloc (eO aw (some (aN g)) A cc)).alloc (iO ar 64)) w.heap.size #[aw la ln lc] 114:=(((((aL.new w _ _).alloc _).alloc _).alloc _).alloc _).alloc _;have bM:aL ((((((w.alloc (.cells #[aw la ln lc] 114)).alloc (bT aj aq.kind aj aq.id aj aq.rel)).alloc (jL aw ga gn gc)).alloc (eO aw none 0 0)).alloc (eO aw (some (aN g)) A cc)).alloc (iO ar 64)) (w.heap.size+1) #[aj aq.kind,aj aq.id,aj aq.rel] 102:=((((aL.new' (w.alloc (.cells #[aw la ln lc] 114)) _ _ (w.heap.size+1) au).alloc _).alloc _).alloc _).alloc _;have bP:aL ((((((w.alloc (.cells #[aw la ln lc] 114)).alloc (bT aj aq.kind aj aq.id aj aq.rel)).alloc (jL aw ga gn gc)).alloc (eO aw none 0 0)).alloc (eO aw (some (aN g)) A cc)).alloc (iO ar 64)) (w.heap.size+1+1) #[aw ga gn gc] 115:=(((aL.new' ((w.alloc (.cells #[aw la ln lc] 114)).alloc (bT aj aq.kind aj aq.id aj aq.rel)) _ _ (w.heap.size+1+1) au).alloc _).alloc _).alloc _;have bh:aL ((((((w.alloc (.cells #[aw la ln lc] 114)).alloc (bT aj aq.kind aj aq.id aj aq.rel)).alloc (jL aw ga gn gc)).alloc (eO aw none 0 0)).alloc (eO aw (some (aN g)) A cc)).alloc (iO ar 64)) (w.heap.size+1+1+1) #[aw none 0 0] 119:=((aL.new' (((w.alloc (.cells #[aw la ln lc] 114)).alloc (bT aj aq.kind aj aq.id aj aq.rel)).alloc (jL aw ga gn gc)) _ _ (w.heap.size+1+1+1) au).alloc _).alloc _;have bO:aL ((((((w.alloc (.cells #[aw la ln lc] 114)).alloc (bT aj aq.kind aj aq.id aj aq.rel)).alloc (jL aw ga gn gc)).alloc (eO aw none 0 0)).alloc (eO aw (some (aN g)) A cc)).alloc (iO ar 64)) (w.heap.size+1+1+1+1) #[aw (some (aN g)) A cc] 119:=(aL.new' ((((w.alloc (.cells #[aw la ln lc] 114)).alloc (bT aj aq.kind aj aq.id aj aq.rel)).alloc (jL aw ga gn gc)).alloc (eO aw none 0 0)) _ _ (w.heap.size+1+1+1+1) au).alloc _;have bS:aL ((((((w.alloc (.cells #[aw la ln lc] 114)).alloc (bT aj aq.kind aj aq.id aj aq.rel)).alloc (jL aw ga gn gc)).alloc (eO aw none 0 0)).alloc (eO aw (some (aN g)) A cc)).alloc (iO ar 64)) (w.heap.size+1+1+1+1+1) #[ar 64] 3:=aL.new' _ _ _ _ au;have bH:=h.below Z;have dk:((((((w.alloc (.cells #[aw la ln lc] 114)).alloc (bT aj aq.kind aj aq.id aj aq.rel)).alloc (jL aw ga gn gc)).alloc (eO aw none 0 0)).alloc (eO aw (some (aN g)) A cc)).alloc (iO ar 64)).heap.size=w.heap.size+6:=au;obtain ⟨W0,b3⟩:∃W0,((((((w.alloc (.cells #[aw la ln lc] 114)).alloc (bT aj aq.kind aj aq.id aj aq.rel)).alloc (jL aw ga gn gc)).alloc (eO aw none 0 0)).alloc (eO aw (some (aN g)) A cc)).alloc (iO ar 64))=W0:=⟨_,rfl⟩;rw [b3] at Z bR bM bP bh bO bS bH dk ⊢;clear b3 bo h;refine wpIn_rangeFunc_ownG (F:=Fence.wide) (α:=Unit) rfl ay (gf:=146) (lb:=#[bc (w.heap.size+1+1+1+1),bc (w.heap.size+1+1+1+1+1)]) rfl trivial (enters_of func146 aM rfl)
  (encs:=fun _=>#[aw (some (aN g)) A A]) (Kp:=Um (w.heap.size+1+1+1+1) (w.heap.size+1+1+1+1+1)) (S:=fun cp=>cp=[()]) (Sp:=fun pre=>pre<+: [()]) (N:=1) (w0:=W0)
  (fun l cG cH W b2 cR _ cW h0=>MO _ ay l _ _ g A cc cG cH W cR cW (bO.below b2) (bS.below b2) cZ bV c3 c4 h0)
  (fun h k=>Um.trans h k)
  (fun W l o a3 hl ho hc dO=>⟨(vw W l a3).size,World.putObj_heap_other (fun e=>ai),World.putObj_heap_other (fun e=>ai)⟩)
  bp (fun _=>rfl)
  (fun pre W=>∃I,ThJ ts gs cs aq (w.heap.size+1+1+1) W0 pre W I)
  (fun bU pre W=>False)
  (fun pre X cK row hs b8 cj=>by obtain ⟨I,h⟩:=hs;exact ⟨I,h.oth b8 cj⟩)
  (fun bU s X cK row hs b8 cj=>hs)
  ⟨aw none 0 0,⟨bK.refl _ _,bh,fun _=>rfl,fun h=>absurd rfl h⟩⟩
  (fun _=>{tmps:=#[.agg #[aw la ln lc],aw (some (aN g)) A cc,.agg #[aj aq.kind,aj aq.id,aj aq.rel],aw ga gn gc,bc w.heap.size,undef,bc (w.heap.size+1),bc (w.heap.size+1+1),aw none 0 0,bc (w.heap.size+1+1+1),aw (some (aN g)) A A,undef,undef,undef,undef,undef,aw (some (aN g)) A cc,.func (.func 146) #[] #[bc (w.heap.size+1+1+1+1),bc (w.heap.size+1+1+1+1+1)],aw (some (aN g)) A A,undef,undef,undef,undef,undef,undef,undef,undef,undef,undef,undef,undef,undef,undef,undef,undef,undef,undef,undef,undef,undef,undef,undef,undef,undef,undef,undef,undef,undef,undef,undef,undef,undef,undef,undef,undef,undef],defers:=[]})
  ?assign ?body ?done ?stop
 case assign=>
  intro l x W K ab;gi_wp2;exact ab
 case body=>
  rintro l pre x W ⟨I,D⟩ cd;obtain rfl:pre=[]:=by
   cases pre with
   |nil=>rfl
   |cons a b=>simp at cd
  obtain rfl:=D.fst rfl;have dG:g<w.heap.size:=c6;have af:=bH.but D.but bh ai;have bl:W.cell? (aN w.heap.size)=some (aw la ln lc):=(D.but.blk bR ai).cell rfl;have bN:=D.but.blk bM ai;have cM:W.cell? (aN (w.heap.size+1+1))=some (aw ga gn gc):=(D.but.blk bP ai).cell rfl;have C:=ak (E4 _ gs W af.row af.few);have bF:=ak D;have R:=ak af;have cU:=D.but.size;have cX:=af.ask;clear D af cd;gi_wp2_with fail;refine ⟨trivial,(rV l (jG.2 C)).mono ?_⟩;rintro e w1 ⟨hv,hl,rfl,U,hH,av,aX,hn⟩;obtain ⟨ha,hc,rfl⟩:=ax hH.row;have df:=@run_makeMap prog;obtain ⟨qs,aY,ci,_,ch⟩:=R.lx;have dd:ln=qs.length:=by
   obtain ⟨a',bk,e⟩:=ax aY.row;exact Gx
  subst dd;have aE:qs.map MP=cL ts:=ci;have bm:=(aA w1.heap.size w1).alloc aH (.map #[] 0);have bj:=bm.alloc bm.size (.cells #[aw (some (aN g)) A A,aw ha hl.length hc,.map (some w1.heap.size)] 189);have Y:=U.trans (bj.mono U.size);have bJ:Zg ((w1.alloc (.map #[] 0)).alloc (.cells #[aw (some (aN g)) A A,aw ha hl.length hc,.map (some w1.heap.size)] 189)) (aw (some (aN g)) A A) (aw ha hl.length hc) (aw la qs.length lc) cs hl qs:=
   ⟨R.cr.but (S:=fun _=>False) (.of_below Y) (fun e=>e) A,hl_hs (hH.below bj) av aX hn R.few R.low,aY.below Y,(fun q az p dg=>(LnR.ok (R.ln (MP q) (by rw [<-aE];exact aU.2 ⟨q,az,rfl⟩) _ (aU.2 ⟨p,dg,rfl⟩)))),ch⟩
  have bI:rg ((w1.alloc (.map #[] 0)).alloc (.cells #[aw (some (aN g)) A A,aw ha hl.length hc,.map (some w1.heap.size)] 189)) w1.heap.size 0 (fun _=>0):=(RY w1).block (Below.heap_alloc _ _ _ au);have bX:MK (qs.map MP) (hl.map li):=by rw [aE,av];exact R.ok
  have dj:sL qs<=1000000:=by
   have e:=R.sum;rw [<-aE,fT] at e;unfold sL;refine aV (Nat.le_of_eq ?_) e
   congr 1
   apply List.map_congr_left;intro q _;simp [MP]
  have cO:w1.cell? (aN w.heap.size)=some (aw la qs.length lc):=am bl U;have cQ:=am bl Y;have dJ:¬(w.heap.size=w1.heap.size):=by have:=U.size;omega
  have dK:¬(w.heap.size=w1.heap.size+1):=by have:=U.size;omega
  have dD:=U.size;have a5:=ak Y;have ba:=ak bJ;have ae:=ak bI;have a7:=ak (aL.new' (w1.alloc (.map #[] 0)) #[aw (some (aN g)) A A,aw ha hl.length hc,.map (some w1.heap.size)] 189 (w1.heap.size+1) au);have cz:=ak bX;have cA:=ak (Zf av);have dx:=ak aY;have bD:=ak (And.intro av aE);have bz:=ak (bN.below Y);clear C bm bj Y bJ bI bX hH av aX hn ci aE U aY ch bN;gi_wp2_with fail;obtain ⟨mb,ce⟩:∃b,b=w1.heap.size:=⟨_,rfl⟩;obtain ⟨cJ,b4⟩:∃x,x=((w1.alloc (.map #[] 0)).alloc (.cells #[aw (some (aN g)) A A,aw ha hl.length hc,.map (some w1.heap.size)] 189)):=⟨_,rfl⟩;rw [<-b4] at a5 ba ae a7 bz ⊢;rw [<-ce] at ae a7 ⊢;have dI:W.heap.size<=mb:=ai;clear b4 df bl cM cO cQ ce
  gi_loopw [27] (fun u ad=>∃(j n:Nat)(K:Sj->Nat),u=ar j/\j<=qs.length/\bK (fun k=>k=mb) cJ ad/\rg ad mb n K/\Hid (Kst cs hl qs j n K)) (fun u _=>qs.length-(intOf u).toNat)
  .exact ⟨0,0,_,rfl,ai,bK.refl _ _,ae,ak ⟨rfl,au⟩⟩
  obtain ⟨j,n,K,rfl,da,Q,ap,aP⟩:=hrel;have al:=Q.blk a7 ai;obtain ⟨c0,c1,c2⟩:=three al
  by_cases dc:j<qs.length
  .have db:(j:Int)<(qs.length:Int):=by omega
   obtain ⟨q,az⟩:∃q,qs[j]? =some q:=⟨_,aI dc⟩;have sa:=ba.cellsK (mE ae Q);obtain ⟨dC,dz,e1,c5⟩:=aZ sa.ln.row j q.1 (by rw [eo,az];rfl);simp only [aK,bY] at e1;obtain ⟨rfl,rfl⟩:=e1;obtain ⟨dZ,d0,bt⟩:=ax (sa.grp (bG az)).ln.row;obtain ⟨d1,cm⟩:∃n,n=q.2.length:=⟨_,rfl⟩;rw [<-cm] at bt;have a4:=ak (MS wr _ _ _ _ _ _ mb n j _ K cs hl qs q sa ap aP az cz cA dj);rw [bt] at c5 a4;have bA:=ak Q;clear Q ap aP bt cm sa al;gi_wp2_with fail;refine ⟨trivial,(rV l (jG.2 a4)).mono ?_⟩;rintro e dW ⟨rfl,b5,dq,cI,cb,bZ⟩;have cu:=ak (bA.trans b5);have cB:=ak cb;have cE:=ak bZ;clear b5 cb bZ a4 bA;gi_wp2;go_roundw
   .exact ⟨j+1,dq,cI,by go_num,ai,cu,cB,cE⟩
   simp [intOf];omega
  have db:¬((j:Int)<(qs.length:Int)):=ai;have bE:=ak (show Run cs (dr gs) (cL ts) (fun _=>0) K from by
   have:=aP.run;rw [show j=qs.length by omega,km,bD.1,bD.2] at this;exact this)
  have cV:=pY (by rw [<-a6];exact bV) (BX bE (fun s i _=>au) aq);have cx:=ak (ba.cellsK (mE ae Q)).cr;have aW:an W wr:=a5.trans (Q.below (B:=W.heap.size) a5.size (fun g e=>ai));have cw:=ak aW;have cF:=ak (bF.blk.below aW);have cq:=ak (Q.blk bz (show ¬(w.heap.size+1=mb) by omega));have cD:=ak ap;have cC:=ak al;have de:=ap.lt;have dH:=al.lt;have dl:=aW.size;clear Q ap aP al aW c0 c1 c2 da;gi_wp2_with fail;obtain ⟨be,cT⟩:∃x,x=wr:=⟨_,rfl⟩;subst cT
  gi_loopw [37] (fun u ad=>∃(i:Nat)(I:ag),u=ar i/\i<=A/\bK (fun k=>k=w.heap.size+1+1+1) be ad/\aL ad (w.heap.size+1+1+1) #[I] 119/\ad.ownsRow be.heap.size 98 2 I (dA (K aq) cs i).length ((dA (K aq) cs i).flatMap yd)) (fun u _=>A-(intOf u).toNat)
  .exact ⟨0,_,rfl,ai,bK.refl _ _,cF,bQ⟩
  obtain ⟨i,I,rfl,hi,J,V,aF⟩:=hrel;obtain ⟨bv,bw,rfl⟩:=ax aF
  by_cases c9:i<A
  .have c8:(i:Int)<(A:Int):=by omega
   obtain ⟨x,aG⟩:∃x,cs[i]? =some x:=⟨_,aI (by rw [<-a6];exact c9)⟩;obtain ⟨g',a3,bk,e1,_,_,b7⟩:=cx.but J (show ¬(g=w.heap.size+1+1+1) by omega) A;simp only [aK,aR,cg,fY] at e1;obtain ⟨⟨rfl,rfl⟩,dh,di⟩:=e1;clear dh di;obtain ⟨du,dv⟩:=b7 i x aG;simp only [pH] at du dv;have ah:=(aA wr.heap.size wr).alloc aH (cP aj x.kind aj x.id);obtain ⟨dX,dY,dw⟩:=three ((J.blk cC ai).below ah);obtain ⟨a0,a1,a2⟩:=three ((J.blk cq ai).below ah);have co:rg (wr.alloc (cP aj x.kind aj x.id)).drew mb n K:=cD.block ((ah.block mb (by have:=J.size;omega)).trans (J.block mb de ai));have bB:=ak J;have aO:=ak V;have aQ:=ak aF;have ds:wr.cell? (aN (w.heap.size+1+1+1))=some (aw bv (dA (K aq) cs i).length bw):=V.cell rfl;have dR:=V.fz;have dN:=V.lt;have dP:=J.size;clear b7 J V aF;gi_wp2_with fail;refine qz (S:=fun w'=>w'.cell? (aC (mb+1) 2)=some (.map (some mb))/\w'.cell? (aN (w.heap.size+1))=some (aj aq.kind)/\w'.cell? (aC (w.heap.size+1) 1)=some (aj aq.id)/\w'.cell? (aC (w.heap.size+1) 2)=some (aj aq.rel)/\rg w' mb n K) aM aM ⟨dw,a0,a1,a2,co⟩ (fun hH=> ?_);refine vJ 0 ?_
   iterate 8
    refine o0 (v:= ?_) rfl aM (fun _ _ _ h=>by cases h.1) hH (Or.inl ⟨bL,?_⟩) ?_
    rotate_left
    .intro w' cS;obtain ⟨f0,f1,f2,f3,f4⟩:=cS;have b0:=f4.look cX;unfold Ij at b0
     try dsimp only at b0
     go_simp
     all_goals with_reducible rfl
    try simp only [Act.put,List.getElem_toArray,List.getElem_cons_zero,List.getElem_cons_succ,jI,List.set_cons_zero,List.set_cons_succ,Nat.reduceAdd]
   refine wpAnyH_done aM ?_ _;refine ⟨rfl,?_⟩;have b6:=V1 cV (show i<64 by omega);have bd:=ah.drew;have t9:(wr.alloc (cP aj x.kind aj x.id)).drew.cell? (aN (w.heap.size+1+1+1))=some (aw bv (dA (K aq) cs i).length bw):=am ds bd;have t8:=(aO.below bd).fz;have bu:=(aL.new wr #[aj x.kind,aj x.id] 98).drew;have dS:(wr.alloc (cP aj x.kind aj x.id)).drew.cell? (aN wr.heap.size)=some (aj x.kind):=bu.cell rfl;have dT:(wr.alloc (cP aj x.kind aj x.id)).drew.cell? (aC wr.heap.size 1)=some (aj x.id):=bu.cell rfl;have dL:=oE (K aq) cs i;clear hH co ah bu
   cases ac:(K aq).testBit i with
   |true=>
    rw [ac] at b6;have a9:=ak (zN aG ac);clear ac aG;gi_wp2_with (gi_at_builtin;go_must (refine kO rfl _ _ 119 rfl be.heap.size 98 i0 _ 2 32 underlying119 c7 dm dn dp rfl ay (aw bv (dA (K aq) cs i).length bw) (dA (K aq) cs i).length ((dA (K aq) cs i).flatMap yd) rfl ?hown ⟨wr.heap.size+1,0,none⟩ 1 1 [aj x.kind,aj x.id] rfl rfl ?hnews ?hone ay ?h63 ?hbytes ?hbase (wr.heap.size+1+1) ?hH ?hrest))
    case hown=>exact (aB aQ bd).alloc _
    case hnews=>exact j6 (B:=wr.heap.size+1) (cs:=#[aj x.kind,aj x.id]) (t:=98) (fr:=(0,0)) (aL.new' _ _ _ _ au)
    case hone=>
     intro u cl;simp at cl
     rcases cl with rfl|rfl<;>rfl
    case h63=>unfold maxLen;omega
    case hbytes=>omega
    case hbase=>simp;omega
    case hH=>simp
    case hrest=>
     intro dB dy dt cf bs cY dF;have a8:=ak (Zi bB aO aQ bs cf);have bi:=bd.alloc bd.size (cP aj x.kind aj x.id);have aT:=aO.below bi;have bb:aL dt (w.heap.size+1+1+1) _ 119:=(bs.block _ aT.lt (own_ne (aB aQ bi) aT ay)).trans aT;have dV:=bb.cell (o:=0) rfl;have dU:=bb.fz;clear cf bs cY bi aT bb;gi_wp2;go_roundw
     .exact ⟨i+1,_,by go_num,ai,a8.1,a8.2.1,by
      have:=a8.2.2;rw [a9,bg,cN];exact this⟩
     simp [intOf];omega
   |false=>
    rw [ac] at b6;have a9:=ak (E5 aG ac);clear ac aG;gi_wp2;go_roundw
    .exact ⟨i+1,_,by go_num,ai,bB.trans (.of_below bd),aO.below bd,by
     rw [a9];exact aB aQ bd⟩
    simp [intOf];omega
  have c8:¬((i:Int)<(A:Int)):=ai;have b9:i=cs.length:=by have:=a6.u;omega
  have cy:=ak (show KeepsFrom (w.heap.size+6) W wr/\Um (w.heap.size+1+1+1+1) (w.heap.size+1+1+1+1+1) W wr/\∃I,ThJ ts gs cs aq (w.heap.size+1+1+1) W0 [x] wr I from by
   have aJ:bK (fun k=>k=w.heap.size+1+1+1) W wr:=(bK.of_below cw).trans J;have st:=bF.u;refine ⟨MU aJ st.blk,⟨aJ.size,aJ.block _ ai ai,aJ.block _ ai ai⟩,_,⟨st.but.trans aJ,V,(fun e=>by simp at e),fun _=>⟨K,bE,?_⟩⟩⟩;rw [<-b9];exact bn aF (aV cU dl))
  clear J V aF b9;gi_wp2;exact cy
 case done=>
  rintro bx cp W bW rfl ⟨I,D⟩ ab;obtain ⟨K,ck,hown⟩:=D.all au;obtain ⟨sa,sc,rfl⟩:=ax hown;have dQ:=D.blk.cell (o:=0) rfl;have ct:=ak (Z.trans (D.but.below (B:=w.heap.size) Z.size (fun g e=>ai)));have bC:=ak (And.intro ck hown);clear D ck hown;gi_wp2;refine ⟨au,.inl ⟨_,_,rfl,run_takeDeferred ab,?_⟩⟩;refine ⟨aw sa (dA (K aq) cs cs.length).length sc,?_,_,K,rfl,ct.trans (belowK_b (w:=w) aH W bx _ _ (aV Z.size bW) ab rfl rfl),bC.1,?_⟩
  .simp [results,Tryz.f58,go_sem]
  exact bn (ownsRow_putObj bC.2 _ ab rfl) Z.size
 case stop=>
  rintro bx bU pre W bW dM aX ab;exact aX.elim
end
structure Sh where
 k:Nat
 n:ae
 m:ae
 l:Option Sh
 r:Option Sh
def jM:Sh:=⟨0,⟨#[]⟩,⟨#[]⟩,none,none⟩
def XJ(n:ae):Sh:=⟨1,n,⟨#[]⟩,none,none⟩
def XK(n m:ae):Sh:=⟨2,n,m,none,none⟩
def E6(x y:Sh):Sh:=⟨3,⟨#[]⟩,⟨#[]⟩,some x,some y⟩
def SC(x y:Sh):Sh:=⟨4,⟨#[]⟩,⟨#[]⟩,some x,some y⟩
def SD(x y:Sh):Sh:=⟨5,⟨#[]⟩,⟨#[]⟩,some x,some y⟩
def SE:Ex->Sh
 |⟨n,some x,some y⟩=>if n.kind=3 then E6 (SE x) (SE y) else if n.kind=4 then SC (SE x) (SE y) else SD (SE x) (SE y)
 |⟨n,none,_⟩=>if n.kind=0 then jM else if n.kind=1 then XJ n.n1 else XK n.n1 n.n2
 |⟨_,some _,none⟩=>jM
def hV(kb:Sj->Bool)(who:Tg)(kd id:ae)(ts:List Tu)(rel:ae):Sh->Bool
 |⟨k,_,_,some x,some y⟩=>if k=3 then hV kb who kd id ts rel x||hV kb who kd id ts rel y else if k=4 then hV kb who kd id ts rel x&&hV kb who kd id ts rel y else hV kb who kd id ts rel x&& !hV kb who kd id ts rel y
 |⟨k,n,m,none,_⟩=>if k=0 then ts.any (fun t=>decide (t.rel=rel)&&g8 kb who (fb t)) else if k=1 then kb ⟨kd,id,n⟩ else ts.any (fun t=>decide (t.rel=n)&&Iq kb (fb t) m)
 |⟨_,_,_,some _,none⟩=>false
def oG(kb who kd id ts rel):∀e,BU e->cW kb who kd id ts rel e=hV kb who kd id ts rel (SE e)
 |⟨n,some x,some y⟩,h=>by
  have A:=oG kb who kd id ts rel x h.1;have C:=oG kb who kd id ts rel y h.2;rw [cW,SE,A,C]
  split
  .simp [E6,hV]
  split
  .simp [SC,hV]
  simp [SD,hV]
 |⟨n,none,r⟩,_=>by
  rw [cW,SE]
  split
  .simp [jM,hV]
  split
  .simp [XJ,hV]
  simp [XK,hV]
 |⟨n,some x,none⟩,h=>h.elim
section
variable {kd id:ae}{ts:List Tu}{rel:ae}{s:Sj}
end
structure R3 where
 kd:ae
 nm:ae
 sh:Sh
def lM(x:TR):R3:=⟨x.1.name,x.2.name,SE x.2.body⟩
def lN(g:List R3)(hs:List Hp)(s:Sj):Prop:=∃x∈g,∃h∈hs,h.kd=x.kd/\s=⟨h.kd,h.id,x.nm⟩
def BClo(who:Tg)(hs:List Hp)(g:List R3)(kb:Sj->Bool):Prop:=∀x∈g,∀h∈hs,h.kd=x.kd->hV kb who h.kd h.id h.ts x.nm x.sh=true->kb ⟨h.kd,h.id,x.nm⟩=true
structure E7(who:Tg)(hs:List Hp)(g:List R3)(k0 kb:Sj->Bool):Prop where
 old:∀s,¬lN g hs s->kb s=k0 s
 fix:∀x∈g,∀h∈hs,h.kd=x.kd->hV kb who h.kd h.id h.ts x.nm x.sh=kb ⟨h.kd,h.id,x.nm⟩
 least:∀k',(∀s,¬lN g hs s->k' s=k0 s)->BClo who hs g k'->∀s,kb s=true->k' s=true
def lj(who:Tg)(hs:List Hp):List (List R3)->(Sj->Bool)->(Sj->Bool)->Prop
 | [],k,k'=>k'=k
 |g::gs,k,k'=>∃k1,E7 who hs g k k1/\lj who hs gs k1 k'
variable {hs:List Hp}
def xa{g s}:lN (g.map lM) hs s↔Iv g hs s:=by
 constructor
 .rintro ⟨x,I,h,C,e1,A⟩;obtain ⟨p,D,rfl⟩:=aU.1 I;exact ⟨p,D,h,C,e1,A⟩
 rintro ⟨p,D,h,C,e1,A⟩;exact ⟨_,aU.2 ⟨p,D,rfl⟩,h,C,e1,A⟩
def B8(K:Sj->Nat)(i:Nat)(k:Sj->Bool):Sj->Nat:=fun s=>if (K s).testBit i=k s then K s else K s ^^^ 2 ^ i
def qS(K i k s j):(B8 K i k s).testBit j=if j=i then k s else (K s).testBit j:=by
 unfold B8
 by_cases h:(K s).testBit i=k s
 .rw [if_pos h]
  split
  .rename_i e;rw [e,h]
  rfl
 rw [if_neg h,Nat.testBit_xor]
 split
 .rename_i e;subst e;rw [Io]
  revert h
  cases (K s).testBit j<;>cases k s<;>simp
 rename_i e;rw [Ip (fun e'=>e e'.symm)];simp
variable {i:Nat} {who:Tg}
def sol_b{cs g K0 K}(h:Sol cs hs g K0 K)(ab:cs.length<=64)(Z:cs[i]? =some who)(ag:∀x∈g,BU x.2.body):E7 who hs (g.map lM) (fun s=>(K0 s).testBit i) (fun s=>(K s).testBit i):=by
 have hi:i<cs.length:=(bD.1 Z).1;have V:∀(K:Sj->Nat),(∀s,oN cs.length (K s))->∀x∈g,∀y:Hp,∀j w',cs[j]? =some w'->(rX K cs x y).testBit j=hV (fun s=>(K s).testBit j) w' y.kd y.id y.ts x.2.name (SE x.2.body):=fun K ho x C y j w' I=>by
  unfold rX;rw [nV ⟨K,cs,y.kd,y.id,y.ts⟩ (fun s=>pY ab (ho s)) ab I,oG _ _ _ _ _ _ _ (ag x C)]
 refine ⟨fun s Q=>congrArg (fun n=>Nat.testBit n i) (h.old s (fun e=>Q (xa.2 e))),fun x C y R e=> ?_,fun D ah ae s af=> ?_⟩
 .obtain ⟨p,ad,rfl⟩:=aU.1 C;have:=h.fix p ad y R e;have J:=V K h.out p ad y i who Z;rw [this] at J;exact J.symm
 have Y:∀s,oN cs.length (B8 K i D s):=fun s j A=>by
  rw [qS,if_neg ai];exact h.out s j A
 have:=h.least (B8 K i D) Y (fun s Q=> ?_) (fun x C y R e j A=> ?_) s i af
 .rw [qS,if_pos rfl] at this;exact this
 .unfold B8;have e1:=ah s (fun e=>Q (xa.1 e));have J:=h.old s Q;rw [if_pos (by rw [e1,J]),J]
 rw [qS]
 by_cases ac:j<cs.length
 .have I:cs[j]? =some cs[j]:=aI ac;rw [V _ Y x C y j _ I] at A
  by_cases e':j=i
  .subst e';rw [if_pos rfl];rw [Z] at I;obtain rfl:=gK I;have U:(fun s=>(B8 K j D s).testBit j)=D:=by
    funext s
    rw [qS,if_pos rfl]
   rw [U] at A;exact ae (lM x) (aU.2 ⟨x,C,rfl⟩) y R e A
  rw [if_neg e'];have U:(fun s=>(B8 K i D s).testBit j)=fun s=>(K s).testBit j:=by
   funext s
   rw [qS,if_neg e']
  rw [U,<-V K h.out x C y j _ I,h.fix x C y R e] at A;exact A
 have:(rX (B8 K i D) cs x y).testBit j=false:=lK ⟨B8 K i D,cs,y.kd,y.id,y.ts⟩ Y _ _ j (by simpa using ac);rw [this] at A
 cases A
def E8{cs hs i who}(A:cs.length<=64)(C:cs[i]? =some who):∀{gs:List (List TR)} {K0 K:Sj->Nat},(∀g∈gs,∀x∈g,BU x.2.body)->Run cs hs gs K0 K->lj who hs (gs.map (List.map lM)) (fun s=>(K0 s).testBit i) (fun s=>(K s).testBit i)
 | [],K0,K,_,h=>by rw [show K=K0 from h];rfl
 |g::gs,K0,K,hwf,⟨K1,h1,h2⟩=>⟨_,sol_b h1 A C (hwf g ep),E8 A C (fun g' D=>hwf g' (eY _ D)) h2⟩
def SF{g:List R3}{I a b:Sj->Bool}(h:E7 who hs g I a)(k:E7 who hs g I b):a=b:=by
 funext s
 rw [gU];exact ⟨h.least b k.old (fun x C y D e A=>by rw [<-k.fix x C y D e];exact A) s,k.least a h.old (fun x C y D e A=>by rw [<-h.fix x C y D e];exact A) s⟩
def E9{who:Tg}{hs:List Hp}:∀{gs:List (List R3)} {k a b:Sj->Bool},lj who hs gs k a->lj who hs gs k b->a=b
 | [],k,a,b,h,h'=>h.trans h'.symm
 |g::gs,k,a,b,⟨k1,h1,h2⟩,⟨k2,h3,h4⟩=>by
  obtain rfl:=SF h1 h3;exact E9 h2 h4
def xb{who:Tg}{hs:List Hp}:∀{gs gs':List (List R3)} {k b:Sj->Bool},lj who hs (gs++gs') k b->∃a,lj who hs gs k a/\lj who hs gs' a b
 | [],gs',k,b,h=>⟨k,rfl,h⟩
 |g::gs,gs',k,b,⟨k1,h1,h2⟩=>by
  obtain ⟨a,A,C⟩:=xb h2;exact ⟨a,⟨k1,h1,A⟩,C⟩
def qT{who:Tg}{hs:List Hp}:∀{gs:List (List R3)} {k a:Sj->Bool},lj who hs gs k a->∀s,(∀g∈gs,¬lN g hs s)->a s=k s
 | [],k,a,h,s,_=>by rw [show a=k from h]
 |g::gs,k,a,⟨k1,h1,h2⟩,s,hn=>by
  rw [qT h2 s (fun g' A=>hn g' (eY _ A)),h1.old s (hn g ep)]
structure PuR(ts:List Ty)(gs:List Tu):Prop where
 few:gs.length<=1000
 low:∀t∈gs,t.kind.size<=maxLen/\t.id.size<=maxLen/\nS (fb t)
 ln:∀g∈cL ts,∀x∈g,LnR x
 ok:MK (cL ts) (dr gs)
 sum:((cL ts).map List.length).sum<=1000000
def Zj(ts:List Ty)(gs:List Tu)(s:Sj)(who:Tg)(w:af)(e:Ending)(w':af):Prop:=∃kb,e=bj (.tuple #[.bool (kb s),ar 0])/\an w w'/\lj who (dr gs) ((cL ts).map (List.map lM)) (fun _=>false) kb
def SG(X t):(dA X [t] 1).length=if X.testBit 0 then 1 else 0:=by
 cases h:X.testBit 0 with
 |true=>rw [zN (t:=t) rfl h];simp [dA]
 |false=>rw [E5 (t:=t) rfl h];simp [dA]
def SH(x mv lv gv ts gs w)(h:UQ w x mv lv gv ts gs)(I:PuR ts gs)(th rel who)(hs:th.size<=1000)(bl:bS th=true)(bA:rel.size<=1000)(bi:bC rel=true)(t)(a8:bX ts (aG th 58).1=some t)(r)(bh:b9 t rel=some r)(bo:who.size<=1000)(bn:bS who=true)(t')(a9:bX ts (aG who 58).1=some t')(aQ:kj w)(al:1<w.heap.size):
  Calls prog 26 #[bc x,aj th,aj rel,aj who] w (Zj ts gs ⟨(aG th 58).1,(aG th 58).2.1,rel⟩ ⟨(aG who 58).1,(aG who 58).2.1⟩ w):=by
 obtain ⟨bm,tl,ae⟩:=h.m;have Q:=ej th 58;have bI:=ej who 58;have ab:=ak (fD Mn who w bo aQ al);rw [bn] at ab;have aF:=ak (fun w' (k:an w w')=>w8 x bm mv lv gv ts gs tl w' (h.p.below k) (ae.below k) th rel hs bl fI bi t a8 r bh (aQ.below k al) (cM al k.size));obtain ⟨bs,mn,mc,rfl⟩:=ae.form;have aX:=ak (show ∀w',an w w'->Calls prog 57 #[.agg #[aw bs mn mc],aj (aG who 58).1] w' fun e w''=>∃av az ay,e=bj (.tuple #[.agg #[ar t'.place,aj t'.name,aw av az ay],.nilIface])/\an w' w'' from fun w' k=>by
  obtain ⟨av,az,ay,rl,_,aJ⟩:=C5 bm _ ts tl (aG who 58).1 w ae t' a9;exact (aJ w' k).mono fun e w'' h=>⟨av,az,ay,h⟩)
 have bP:=h.p.blk.lt;obtain ⟨ga,gc,rfl⟩:=ax h.p.row;obtain ⟨qs,be,_⟩:=h.l;obtain ⟨bp,bq,rfl⟩:=ax be.row;obtain ⟨ln,bb⟩:∃n,n=qs.length:=⟨_,rfl⟩;rw [<-bb] at h;obtain ⟨a6,ba⟩:∃n,n=gs.length:=⟨_,rfl⟩;rw [<-ba] at h;have aI:=ak (fun w' g (k:an w w') (cr:zH w' (aw (some (aN g)) 1 1) [⟨(aG who 58).1,(aG who 58).2.1⟩])=>zO bp ga ln bq g 1 1 a6 gc w' ts gs [⟨(aG who 58).1,(aG who 58).2.1⟩] ⟨(aG th 58).1,(aG th 58).2.1,rel⟩ ⟨vX.below _ _ _ _ h.l k,cr,aB h.p.row k,I.few,I.low,⟨by unfold maxLen;show (aG th 58).1.size<=_;omega,by unfold maxLen;show (aG th 58).2.1.size<=_;omega,by unfold maxLen;show rel.size<=_;omega⟩,I.ln,I.ok,I.sum⟩ au aH fI);have bw:=ak (fun g bz x bB=>(I.ln g bz x bB).wf);have H:=ak h.p;generalize aG th 58=X at*;obtain ⟨k,i,ok⟩:=X;generalize aG who 58=bx at*;obtain ⟨a,b,bY⟩:=bx;simp only at ab aF aX aI ⊢;clear aQ al hs bl bA bi a8 bh ae h I bo bn a9 Q bI bb ba be;go_enter func26,ntmps26;go_wp2_with fail;refine ab.mono ?_;rintro e w1 ⟨rfl,af⟩;have Y:=ak (af.alloc af.size (cP aj a aj b));have a5:=ak (aL.new w1 #[aj a,aj b] 98);have l1:=af.size;have aW:=ak (aF _ Y);clear af ab aF;go_wp2_with fail;refine aW.mono ?_;rintro e J ⟨rfl,ag⟩;have aM:=ag.alloc ag.size (bT aj k aj i aj rel);have Z:=ak (Y.trans (aM.mono Y.size));have ac:=ak (a5.below aM);have a4:=ak (aL.new J #[aj k,aj i,aj rel] 102);have l2:w1.heap.size<J.heap.size:=by have:=ag.size;simp at this;omega
 clear ag aW a5 Y aM;go_wp2_with fail;generalize (J.alloc (bT aj k aj i aj rel))=W at*;have aV:=ak (aA W.heap.size W);have aK:=(H.below Z).blk;obtain ⟨bt,bZ,b0⟩:=three aK;have t0:W.cell? (aN w1.heap.size)=some (aj a):=ac.cell rfl;have bD:=Z.size;have bR:=ac.lt;have bQ:=a4.u.lt;have bW:¬(x=W.heap.size):=by have:=aK.lt;omega
 have bV:¬(w1.heap.size=W.heap.size):=ai;have ns:¬(J.heap.size=W.heap.size):=ai;clear aK
 go_region_held3 (fun w'=>w'.cell? (aN x)=some (aw bs mn mc)/\w'.cell? (aN w1.heap.size)=some (aj a)) ((first|go_keep|refine ⟨am bt ?_,am t0 ?_⟩<;>(with_reducible repeat (first|exact U.u|exact aV.u|refine Below.drew ?_|(refine Below.setCell ?_ ?_ _;rotate_left;exact mL)|(refine Below.alloc ?_ ?_ _;rotate_left;exact mL)))))
  ((go_at_call 57;refine (aE aX _ ((cq Z):an w _)).mono ?_;rintro e b3 ⟨av,az,ay,rfl,aO⟩;have U:=ak (Below.trans (a:=W) (B:=W.heap.size) ((cq aV):an W _) (aO.mono wZ));have d0:=am bt U.u;have d1:=am t0 U.u;(first|(have Q:=(aL.new W #[ar 0,aj ⟨#[]⟩,aw none 0 0] 110).drew.below aO;obtain ⟨bK,bL,bM⟩:=three Q;have bO:=Q.fz;have bN:=Q.lt;clear Q)|skip);have bJ:=U.size;clear aO))
 all_goals (
  go_wp2_with fail;refine (nB _).mono ?_;rintro e A ⟨rfl,a7⟩;have V:=Below.trans (a:=W) (B:=W.heap.size) ((cq U):an W _) (a7.mono vK);have R:=ak (Z.trans (V.mono bD));obtain ⟨b2,v1,bE⟩:=three (H.below R).blk;have bu:A.cell? (aN w1.heap.size)=some (aj a):=(ac.below V).cell rfl;have bF:A.cell? (aC w1.heap.size 1)=some (aj b):=(ac.below V).cell rfl;obtain ⟨bv,bG,bH⟩:=three (a4.below V);have ad:=((aA A.heap.size A).alloc aH (cP aj a aj b)).drew;have ap:=(aL.new A #[aj a,aj b] 98).drew;have cr:zH (A.alloc (cP aj a aj b)).drew (aw (some (aN A.heap.size)) 1 1) [⟨a,b⟩]:=⟨A.heap.size,0,1,rfl,ap.lt,au,fun j y aP=>by
   rcases j with _|j
   .simp only [List.getElem?_cons_zero,aR] at aP;subst aP;exact ⟨ap.cell rfl,ap.cell rfl⟩
   simp at aP⟩
  have aJ:=ak (aI _ A.heap.size (R.trans (ad.mono R.size)) cr);have D:=ak ad;have aT:=ak (R.trans (ad.mono R.size));have n1:=ce A _ v1;have n2:=ce A _ bu;have bU:=ce A _ bv;clear a7 V ad ap cr aI;go_wp2_with fail
  go_region_held3 (fun w'=>w'.cell? (aC x 1)=some (aw bp ln bq)/\w'.cell? (aC x 2)=some (aw ga a6 gc)/\w'.cell? (aN w1.heap.size)=some (aj a)/\w'.cell? (aC w1.heap.size 1)=some (aj b)/\w'.cell? (aN J.heap.size)=some (aj k)/\w'.cell? (aC J.heap.size 1)=some (aj i)/\w'.cell? (aC J.heap.size 2)=some (aj rel)) (go_keep)
   ((go_at_call 58;refine aJ.mono ?_;rintro e w5 ⟨v,K,rfl,C,bk,bg⟩;obtain ⟨pa,pc,rfl⟩:=ax bg;have a3:=ak bk;have aS:=SG (K ⟨k,i,rel⟩) ⟨a,b⟩;change (dA (K ⟨k,i,rel⟩) [⟨a,b⟩] [(⟨a,b⟩:Tg)].length).length=_ at aS;generalize (dA (K ⟨k,i,rel⟩) [⟨a,b⟩] [(⟨a,b⟩:Tg)].length).length=pn at*;have aZ:=ak aS;have aU:=ak (aT.trans (C.mono aT.size));have f0:=am (am v1 D) C;have f1:=am (am bE D) C;have f2:=am (am bu D) C;have f3:=am (am bF D) C;have f4:=am (am bv D) C;have f5:=am (am bG D) C;have f6:=am (am bH D) C;clear C bg bk aS))
  have aY:=ak (show lj ⟨a,b⟩ (dr gs) ((cL ts).map (List.map lM)) (fun _=>false) (fun s=>(K s).testBit 0) from by
   have:=E8 (i:=0) (who:=⟨a,b⟩) au rfl bw a3
   simpa using this)
  clear f0 f1 f2 f3 f4 f5 f6 a3
  cases ah:(K ⟨k,i,rel⟩).testBit 0
  .obtain rfl:pn=0:=by rw [aZ,ah];rfl
   go_wp2;go_ret2;refine ⟨_,?_,aU,aY⟩
   show _=Ending.returned (.tuple #[.bool ((K ⟨k,i,rel⟩).testBit 0),ar 0])
   rw [ah]
   rfl
  .obtain rfl:pn=1:=by rw [aZ,ah];rfl
   go_wp2;go_ret2;refine ⟨_,?_,aU,aY⟩
   show _=Ending.returned (.tuple #[.bool ((K ⟨k,i,rel⟩).testBit 0),ar 0])
   rw [ah]
   rfl)
def tS(t:Tu):List Tg:=[⟨t.kind,t.id⟩,⟨t.sub,t.who⟩]
def js(t:Ty):Tg:=⟨t.name,⟨#[42]⟩⟩
def b7(ts:List Ty)(gs:List Tu):List Tg:=ts.map js++gs.flatMap tS
def Ku(gs:List Tu):(gs.flatMap tS).length=gs.length*2:=by
 induction gs with
 |nil=>rfl
 |cons t gs ih=>rw [bN,bg,ih];simp [tS];omega
def SI(ts:List Ty)(gs:List Tu)(w:af)(e:Ending)(w':af):Prop:=∃cv,e=bj cv/\an w w'/\w'.ownsRow w.heap.size 98 2 cv (b7 ts gs).length ((b7 ts gs).flatMap yd)
def MV(x:Nat)(mv lv gv:ag)(ts:List Ty)(gs:List Tu)(w:af)(h:UQ w x mv lv gv ts gs):
  Calls prog 65 #[bc x] w (SI ts gs w):=by
 obtain ⟨bm,tl,hM⟩:=h.m;obtain ⟨bv,mn,mc,rfl⟩:=hM.form;obtain ⟨ga,gc,rfl⟩:=ax h.p.row;have a7:mn=tl.length:=by
  exact Pd
 have aO:=hM.fst;have bq:tl.length<=1000:=by have:=hM.llen;simpa using this
 have bk:=h.p.most;obtain ⟨c0,c1,c2⟩:=three h.p.blk;subst a7;have aM:=h.p;have aJ:=ak aO;clear h aO;go_enter func65,ntmps65;go_wp2_with fail
 go_loopw [3,14] (fun aF az wr=>∃k:Nat,az=ar k/\k<=tl.length/\an w wr/\wr.ownsRow w.heap.size 98 2 aF k (((tl.take k).map fun p=>js p.1).flatMap yd)) (fun _ az _=>tl.length-(intOf az).toNat)
 .exact ⟨0,rfl,ai,aA _ _,bQ⟩
 .obtain ⟨k,rfl,Z,C,D⟩:=hrel;obtain ⟨au,av,rfl⟩:=ax D;have a9:=C.size
  by_cases ae:k<tl.length
  .have a6:(k:Int)<(tl.length:Int):=by omega
   obtain ⟨g,aW,e1,k0,k1,ap⟩:=(hM.below C).row.cell k (by simpa using ae);simp only [aK] at e1;obtain ⟨rfl,bb,rfl⟩:=e1;clear bb;simp only [rU,t3] at k0 k1 ap;obtain ⟨rl,al⟩:=(hM.below C).rels tl[k] (bu ae);have U:=ak (by rw [cD ae,cK,cN,bZ,pz,bN,jF,dS]:((tl.take (k+1)).map fun p=>js p.1).flatMap yd=((tl.take k).map fun p=>js p.1).flatMap yd++yd (js tl[k].1));generalize tl[k]=p at*;obtain ⟨t,tv⟩:=p;simp only at k0 k1 ap al;obtain ⟨be,bi,bh,rfl⟩:=al.form;have J:=(aA wr.heap.size wr).alloc aH (ba ar t.place aj t.name aw be bi bh);have I:=aB D J;have R:=C.trans (J.mono a9);obtain ⟨L,V⟩:∃L,L=((tl.take k).map fun p=>js p.1).flatMap yd:=⟨_,rfl⟩;rw [<-V] at I U;clear al J V D;go_wp2_with (at_builtin;go_must (refine ez rfl underlying119 Tryz.infoTh w.heap.size (I.alloc _) (wr.heap.size+1) 1 [aj t.name,aj ⟨#[42]⟩] (wr.heap.size+1+1) ?hrest))
   case hrest=>
    intro g5 bf w5 ab Y ad aY;have ac:=cA (R.alloc R.size (cP aj t.name aj ⟨#[42]⟩)) Y aS (fun k Z=>((I.alloc (cP aj t.name aj ⟨#[42]⟩)).lt k Z).1);clear Y ad;go_wp2;go_roundw
    .exact ⟨k+1,by go_num,ai,ac,by rw [aE U];exact ab⟩
    simp [intOf];omega
  have a6:¬((k:Int)<(tl.length:Int)):=ai;have aL:=(show wr.ownsRow w.heap.size 98 2 (aw au k av) (ts.map js).length ((ts.map js).flatMap yd) from by
   have e:ts.map js=(tl.take k).map fun p=>js p.1:=by
    rw [cY ai,<-aJ.u,fT]
    rfl
   rw [e,bO,dZ,show min k tl.length=k by omega];exact D)
  have am:k=(ts.map js).length:=by rw [bO,<-aJ.u,bO];omega
  obtain ⟨d0,d1,d2⟩:=three (aM.below C).blk;have bp:k<=1000:=ai;have aT:=ak am;rw [<-am] at aL;clear D c0 c1 c2 am;go_wp2_with fail;obtain ⟨bj,aX⟩:∃x,x=wr:=⟨_,rfl⟩;subst aX
  go_loopw [3,31] (fun aF aG aQ=>∃j:Nat,aG=ar j/\j<=gs.length/\an w aQ/\aQ.ownsRow w.heap.size 98 2 aF (k+j*2) ((ts.map js++(gs.take j).flatMap tS).flatMap yd)) (fun _ aG _=>gs.length-(intOf aG).toNat)
  .exact ⟨0,rfl,ai,C,by simpa using aL⟩
  obtain ⟨j,rfl,bl,C,D⟩:=hrel;obtain ⟨au,av,rfl⟩:=ax D;have a8:=C.size
  by_cases aP:j<gs.length
  .have aZ:(j:Int)<(gs.length:Int):=by omega
   obtain ⟨g,aW,e1,Q⟩:=bo kX 6 (fun _=>rfl) (aM.below C).row j gs[j] (aI aP);simp only [aK,bY] at e1;obtain ⟨rfl,rfl⟩:=e1;have U:=ak (by rw [cD aP];simp only [cN,bN,jF,dS,ct]:(ts.map js++(gs.take (j+1)).flatMap tS).flatMap yd=(ts.map js++(gs.take j).flatMap tS).flatMap yd++(tS gs[j]).flatMap yd);generalize gs[j]=t at*;have k0:wr.cell? (aC g (j*6))=some (aj t.kind):=Q 0 _ ai rfl;have k1:=Q 1 _ ai rfl;have ap:=Q 2 _ ai rfl;have k3:=Q 3 _ ai rfl;have bs:=Q 4 _ ai rfl;have bt:=Q 5 _ ai rfl;have J:=(aA wr.heap.size wr).alloc aH (cB aj t.kind aj t.id aj t.rel aj t.sub aj t.who aj t.of);have I:=aB D J;have R:=C.trans (J.mono a8);clear C D Q J;obtain ⟨ay,ah⟩:∃n,n=k+j*2:=⟨_,rfl⟩;have aU:=ak ah;have bn:ay<=3000:=ai;obtain ⟨L,V⟩:∃L,L=(ts.map js++(gs.take j).flatMap tS).flatMap yd:=⟨_,rfl⟩;rw [<-V] at I U;clear V;rw [<-ah] at I ⊢;clear ah;go_wp2_with (at_builtin;go_must (refine ez rfl underlying119 Tryz.infoTh w.heap.size (I.alloc _) (wr.heap.size+1) 2 [aj t.kind,aj t.id,aj t.sub,aj t.who] (wr.heap.size+1+1) ?Hc))
   case Hc=>
    intro g5 bf w5 ab Y ad aY;have ac:=cA (R.alloc R.size (.cells #[aj t.kind,aj t.id,aj t.sub,aj t.who] 98)) Y aS (fun k Z=>((I.alloc (.cells #[aj t.kind,aj t.id,aj t.sub,aj t.who] 98)).lt k Z).1);have aV:=(show w5.ownsRow w.heap.size 98 2 (aw (some (aN g5)) (ay+2) bf) (k+(j+1)*2) ((ts.map js++(gs.take (j+1)).flatMap tS).flatMap yd) from by
     rw [aE U,show k+(j+1)*2=ay+2 by rw [aU.u];omega];exact ab)
    clear ab Y ad;go_wp2;go_roundw
    .exact ⟨j+1,by go_num,ai,ac,aV⟩
    simp [intOf];omega
  have aZ:¬((j:Int)<(gs.length:Int)):=ai;have aR:=(show wr.ownsRow w.heap.size 98 2 (aw au (k+j*2) av) (b7 ts gs).length ((b7 ts gs).flatMap yd) from by
   rw [cY ai] at D;unfold b7;rw [bg,Ku,show gs.length=j by omega,<-aT.u];exact D)
  clear D;go_wp2;go_ret;exact ⟨_,rfl,C,aR⟩
def qU(t:Tg):ae:=(t.kind++sg 58)++t.id
def oP(X:Nat)(cs:List Tg):List ae:=iw (gG ((dA X cs cs.length).map qU))
def SK(ts:List Ty)(gs:List Tu)(aq:Sj)(w:af)(e:Ending)(w':af):Prop:=∃v K,e=bj (.tuple #[v,ar 0])/\an w w'/\Run (b7 ts gs) (dr gs) (cL ts) (fun _=>0) K/\w'.ownsRow w.heap.size 9 1 v (oP (K aq) (b7 ts gs)).length (dM (oP (K aq) (b7 ts gs)))
variable {base size n:Nat} {w:af} {T:TypeId} {v:ag} {xs:List ag}
def qV(h:w.ownsRow base T size v n xs)(R:0<n):∃g c,v=aw (some (aN g)) n c/\n<=c/\c<=maxLen:=by
 rcases h.2 with ⟨_,h0⟩|⟨g',A,C,e1,J,Q,h1,h2,D,I⟩
 .omega
 exact ⟨g',A,e1,h1,h2⟩
variable {g c:Nat}
def cr_of{cs:List Tg}(h:w.ownsRow base 98 2 (aw (some (aN g)) cs.length c) cs.length (cs.flatMap yd))(C:cs.length<=64):zH w (aw (some (aN g)) cs.length c) cs:=by
 obtain ⟨J,A,_⟩:=dF h;refine ⟨g,0,c,rfl,A.lt,C,fun i x D=> ?_⟩;obtain ⟨g',I,e,hc⟩:=bo yd 2 (fun _=>rfl) h i x D;simp only [aK,aR,cg,fY,bY] at e;obtain ⟨rfl,rfl⟩:=e;simp only [pH];exact ⟨hc 0 _ ai rfl,hc 1 _ ai rfl⟩
def zQ(X:Nat)(cs:List Tg):∀j,∀t∈dA X cs j,t∈cs
 |0,t,h=>by simp [dA] at h
 |j+1,t,h=>by
  rw [dA] at h
  rcases aW.1 h with h|h
  .exact zQ X cs j t h
  cases hc:cs[j]? with
  |none=>rw [hc] at h;cases h
  |some u=>
   rw [hc] at h;dsimp only at h
   split at h
   .rw [aX] at h;subst h;exact bG hc
   cases h
def Fc(w:af):Calls prog 67 #[aw none 0 0] w fun e w'=>e=bj (aw none 0 0)/\w'=w:=by
 go_enter func67,ntmps67;go_wp2;go_ret;exact ⟨rfl,rfl⟩
def WhF(W w:af)(l:List ae)(v:ag):Prop:=an W w/\w.ownsRow W.heap.size 9 1 v l.length (dM l)
def Zk(x:Nat)(mv lv gv:ag)(ts:List Ty)(gs:List Tu)(w:af)(h:UQ w x mv lv gv ts gs)(Q:PuR ts gs)(th rel:ae)(hs:th.size<=1000)(b6:bS th=true)(cF:rel.size<=1000)(b3:bC rel=true)(t:Ty)(bP:bX ts (aG th 58).1=some t)(r:Rl)(U:b9 t rel=some r)
  (bM:0<(b7 ts gs).length) (cx:(b7 ts gs).length<=64) (bN:∀t∈b7 ts gs,t.kind.size+t.id.size<=1000) (bZ:kj w) (b8:1<w.heap.size):
  Calls prog 31 #[bc x,aj th,aj rel] w (SK ts gs ⟨(aG th 58).1,(aG th 58).2.1,rel⟩ w):=by
 obtain ⟨bm,tl,bI⟩:=h.m;have cO:=ej th 58;have ay:=ak (w8 x bm mv lv gv ts gs tl w h.p bI th rel hs b6 fI b3 t bP r U bZ b8);have az:=ak (fun w' (k:an w w')=>MV x mv lv gv ts gs w' (h.below k));obtain ⟨ga,gc,rfl⟩:=ax h.p.row;obtain ⟨qs,bW,_⟩:=h.l;obtain ⟨cf,cg,rfl⟩:=ax bW.row;obtain ⟨ln,bV⟩:∃n,n=qs.length:=⟨_,rfl⟩;rw [<-bV] at h;obtain ⟨bG,bR⟩:∃n,n=gs.length:=⟨_,rfl⟩;rw [<-bR] at h;have ap:=ak (fun w' g c (k:an w w') (cr:zH w' (aw (some (aN g)) (b7 ts gs).length c) (b7 ts gs)) (cy:(b7 ts gs).length<=c) (aR:c<=maxLen)=>zO cf ga ln cg g (b7 ts gs).length c bG gc w' ts gs (b7 ts gs) ⟨(aG th 58).1,(aG th 58).2.1,rel⟩ ⟨vX.below _ _ _ _ h.l k,cr,aB h.p.row k,Q.few,Q.low,⟨by unfold maxLen;show (aG th 58).1.size<=_;omega,by unfold maxLen;show (aG th 58).2.1.size<=_;omega,by unfold maxLen;show rel.size<=_;omega⟩,Q.ln,Q.ok,Q.sum⟩ bM cy aR);have H:=ak h.p;unfold SK;unfold SI at az;unfold SA at ap;generalize b7 ts gs=cs at*;generalize aG th 58=X at*;obtain ⟨k,i,ok⟩:=X;simp only at ay ap ⊢;have cm:=ak bN;clear bZ b8 hs b6 cF b3 bP U bI h Q cO bV bR bW bN;go_enter func31,ntmps31;go_wp2_with fail;refine ay.mono ?_;rintro e w1 ⟨rfl,aO⟩;have Y:=ak (aO.alloc aO.size (bT aj k aj i aj rel));have bx:=ak (aL.new w1 #[aj k,aj i,aj rel] 102);clear aO ay;go_wp2_with fail;generalize (w1.alloc (bT aj k aj i aj rel))=W at*;have bz:=(H.below Y).blk;obtain ⟨cI,a5,a6⟩:=three bz;obtain ⟨aZ,a3,a4⟩:=three bx;have ce:=Y.size;have be:=ak (az W.drew Y.drew);clear bz az
 go_region_held3 (fun w'=>w'.cell? (aC x 1)=some (aw cf ln cg)/\w'.cell? (aC x 2)=some (aw ga bG gc)/\w'.cell? (aN w1.heap.size)=some (aj k)/\w'.cell? (aC w1.heap.size 1)=some (aj i)/\w'.cell? (aC w1.heap.size 2)=some (aj rel)) (go_keep)
  (first
   |(have cL:=A;go_at_call 58;refine bg.mono ?_;rintro e cJ ⟨cV,K,rfl,bK,b4,aV⟩;obtain ⟨pa,pc,rfl⟩:=ax aV;have D:=ak (A.trans (bK.mono A.size));have bp:=ak b4;have cp:=ak aV;have f0:=am a5 D;have f1:=am a6 D;have f2:=am aZ D;have f3:=am a3 D;have f4:=am a4 D;clear bK aV b4 cL)
   |(go_at_call 65;refine be.mono ?_;rintro e cj ⟨cv,rfl,bJ,aX⟩;obtain ⟨g,c,rfl,cz,aR⟩:=qV aX bM;have A:=ak (show an W cj from (aA _ W).drew.trans bJ);have bg:=ak (ap cj g c (Y.trans (A.mono ce)) (cr_of aX cx) cz aR);have d0:=am a5 A;have d1:=am a6 A;have d2:=am aZ A;have d3:=am a3 A;have d4:=am a4 A;clear bJ aX))
 have co:=ak (fun t cH=>cm t (zQ (K ⟨k,i,rel⟩) cs cs.length t cH));have cQ:=oE (K ⟨k,i,rel⟩) cs cs.length;have ab:=ak (Y.trans (D.mono ce));have bk:=ak (show oP (K ⟨k,i,rel⟩) cs=iw (gG ((dA (K ⟨k,i,rel⟩) cs cs.length).map qU)) from rfl);generalize dA (K ⟨k,i,rel⟩) cs cs.length=L at*;clear d0 d1 d2 d3 d4 f0 f1 f2 f3 f4 aZ a3 a4 cI a5 a6 be bg ap A D bx;go_wp2_with fail;obtain ⟨I,cu⟩:∃x,x=cJ:=⟨_,rfl⟩;subst cu
 go_loopw [10,36] (fun ch a7 wr=>∃j:Nat,a7=ar j/\j<=L.length/\an I wr/\wr.ownsRow I.heap.size 9 1 ch j (dM ((L.take j).map qU))/\Hid (j=0->ch=aw none 0 0)) (fun _ a7 _=>L.length-(intOf a7).toNat)
 .exact ⟨0,rfl,ai,aA _ _,bQ,ak (fun _=>rfl)⟩
 .obtain ⟨j,rfl,cU,J,V,bs⟩:=hrel;obtain ⟨ci,au,rfl⟩:=ax V;have aY:=J.size
  by_cases aU:j<L.length
  .have cB:(j:Int)<(L.length:Int):=by omega
   obtain ⟨bD,c2,bA,aQ⟩:=bo yd 2 (fun _=>rfl) (aB cp J) j L[j] (aI aU);simp only [aK,bY] at bA;obtain ⟨rfl,rfl⟩:=bA;have b5:=co L[j] (bu aU);have bl:=ak (show dM ((L.take (j+1)).map qU)=dM ((L.take j).map qU)++[aj (qU L[j])] from by rw [cD aU,dM,cK,cK];rfl);generalize L[j]=y at*;have cM:wr.cell? (aC bD (j*2))=some (aj y.kind):=aQ 0 _ ai rfl;have cN:wr.cell? (aC bD (j*2+1))=some (aj y.id):=aQ 1 _ ai rfl;have aM:=(aA wr.heap.size wr).alloc aH (cP aj y.kind aj y.id);have C:=ak (fun w'=>pU y.kind y.id w' b5);change Hid (∀w',Calls _ _ _ w' fun e w''=>e=bj (aj (qU y))/\_) at C;generalize qU y=aJ at*;have av:=ak (J.trans (aM.mono aY));have aF:=ak (aB V aM);obtain ⟨bt,bH⟩:∃bt,bt=dM ((L.take j).map qU):=⟨_,rfl⟩;rw [<-bH] at aF bl;clear J V aQ b5 aM bH bs;go_wp2_with fail;refine (C _).mono ?_;rintro e ck ⟨rfl,aP⟩;have ba:=ak (av.trans (aP.mono av.size));have bw:=ak (aB aF aP);have cG:=ba.size;clear aP C cM cN av aF;go_wp2_with (at_builtin;go_must (refine ez rfl underlying22 Tryz.infoStr I.heap.size (bw.alloc _) ck.heap.size 1 [aj aJ] (ck.heap.size+1) ?hrest))
   case hrest=>
    intro g5 bf cW b0 bU cw cT;have bv:=bw.alloc (bE aj aJ);have cl:=ak (cA (ba.alloc cG (bE aj aJ)) bU aS (fun k cC=>(bv.lt k cC).1));have ct:=ak b0;clear bv b0 bU cw;go_wp2;go_roundw
    .exact ⟨j+1,by go_num,ai,cl,by rw [bl];exact ct,ak (fun e=>ai)⟩
    simp [intOf];omega
  have cB:¬((j:Int)<(L.length:Int)):=ai;have aT:j=(L.map qU).length:=by rw [bO];omega
  have aW:wr.ownsRow I.heap.size 9 1 (aw ci j au) (L.map qU).length (dM (L.map qU)):=by
   rw [cY ai] at V;rw [<-aT];exact V
  have al:=ak (EB I.heap.size (aw ci j au) (L.map qU) wr aW (by rw [bO];omega));have bq:=ak (oB (L.map qU));have aE:=ak aW;have bh:=ak J;have Z:=ak aT;clear V aW aT J;generalize L.map qU=M at*;generalize gG M=R at*
  by_cases h0:j=0
  .have cd:=bs h0;simp only [aK] at cd;obtain ⟨rfl,_,rfl⟩:=cd;subst h0;have cq:=ak (show R=[] from iF (by rw [bq,<-Z]));go_wp2_with fail;refine al.mono ?_;rintro e a8 ⟨rfl,ad,ac⟩;have ah:=ak (bh.trans (ac.below aY (fun q U=>by cases U)));clear ad ac al;go_wp2_with fail;refine (Fc a8).mono ?_;rintro e a9 ⟨rfl,cb⟩;rw [cb];clear cb a9;go_wp2;go_ret2;exact ⟨_,K,rfl,ab.trans (ah.mono ab.size),bp,by rw [bk,cq];exact bQ⟩
  obtain ⟨bF,c3,bB,cS,cR⟩:=qV aE (by have:=Z.u;omega);simp only [aK] at bB;obtain ⟨rfl,cE,rfl⟩:=bB;clear cE;go_wp2_with fail;refine al.mono ?_;rintro e a8 ⟨rfl,ad,ac⟩;have bb:=ak (Fb I.heap.size bF j au R a8 (by rw [<-Z] at ad;exact ad) (by rw [bq,Z]) ai (by have:=Z.u;omega));have ah:=ak (bh.trans (ac.below aY (fun q U=>(aE.lt q U).1)));clear ad ac al;go_wp2_with fail;refine bb.mono ?_;rintro e a9 ⟨rfl,b2,bL⟩;have bi:=ak (show WhF I a9 (iw R) (aw (some (aN bF)) (iw R).length au) from ⟨ah.trans (bL.below (by have:=ah.size;omega) (fun q e=>by subst e;exact (aE.lt _ rfl).1)),b2⟩);clear b2 bL bb;go_wp2;go_ret2;exact ⟨_,K,rfl,ab.trans (bi.1.mono ab.size),bp,by rw [bk];exact bn bi.2 ab.size⟩
def nb(c:UInt8):ae:=⟨#[c]⟩
def Fl(a:List ae)(x s:ae):s∈oO a x↔s∈a\/s=x:=by
 unfold oO
 split
 .rename_i h
  constructor
  .exact .inl
  rintro (h1|rfl)
  .exact h1
  exact List.mem_of_getLast? h
 simp
def Wa(l:List ae)(s:ae):∀a:List ae,s∈l.foldl oO a↔s∈a\/s∈l:=by
 induction l with
 |nil=>intro a;simp
 |cons x l ih=>
  intro a;rw [nG,ih,Fl,cG,or_assoc]
def zV(l:List ae)(s:ae):s∈gG l↔s∈l:=by
 unfold gG
 constructor
 .intro h;obtain ⟨x,A,rfl⟩:=aU.1 h;rw [List.mem_mergeSort] at A;obtain ⟨y,C,rfl⟩:=aU.1 A;rw [show mk (bB y)=y from by cases y;simp [bB,mk]];exact C
 intro h;refine aU.2 ⟨bB s,?_,by cases s;simp [bB,mk]⟩;rw [List.mem_mergeSort];exact aU.2 ⟨s,h,rfl⟩
def sQ(X:Nat)(cs:List Tg)(t:Tg):∀j,t∈dA X cs j↔∃i,i<j/\cs[i]? =some t/\X.testBit i=true
 |0=>by simp [dA]
 |j+1=>by
  rw [dA,aW,sQ X cs t j]
  constructor
  .rintro (⟨i,hi,h⟩|h)
   .exact ⟨i,ai,h⟩
   cases hc:cs[j]? with
   |none=>rw [hc] at h;cases h
   |some u=>
    rw [hc] at h;dsimp only at h
    split at h
    .rename_i A;rw [aX] at h;subst h;exact ⟨j,ai,hc,A⟩
    cases h
  rintro ⟨i,hi,h1,h2⟩
  by_cases e:i=j
  .subst e;right;rw [h1];simp [h2]
  exact .inl ⟨i,ai,h1,h2⟩
def Fm(X:Nat)(cs:List Tg)(s:ae):s∈oP X cs↔∃i t,cs[i]? =some t/\X.testBit i=true/\qU t=s:=by
 unfold oP iw;rw [Wa];simp only [iQ,false_or];rw [zV,aU]
 constructor
 .rintro ⟨t,h,rfl⟩;obtain ⟨i,_,h1,h2⟩:=(sQ X cs t _).1 h;exact ⟨i,t,h1,h2,rfl⟩
 rintro ⟨i,t,h1,h2,rfl⟩;exact ⟨t,(sQ X cs t _).2 ⟨i,(bD.1 h1).1,h1,h2⟩,rfl⟩
def tH:ae:=⟨#[117,115,101,114]⟩
def hA:ae:=⟨#[103,114,111,117,112]⟩
def tT:ae:=⟨#[100,111,99]⟩
def fo:ae:=⟨#[109,101,109,98,101,114]⟩
def KB:ae:=⟨#[112,97,114,101,110,116]⟩
def SS:ae:=⟨#[111,119,110,101,114]⟩
def Cf:ae:=⟨#[98,97,110,110,101,100]⟩
def KC:ae:=⟨#[101,100,105,116,111,114]⟩
def Wb:ae:=⟨#[118,105,101,119,101,114]⟩
def Zp(n:Nat):ae:=(⟨#[48,49,50,51,52,53,54,55,56,57]⟩:ae).extract n (n+1)
def Fo(n:Nat):ae:=(⟨#[117,115,101,114,58,117]⟩:ae)++Zp n
def xh(n:Nat):ae:=(⟨#[103,114,111,117,112,58,103]⟩:ae)++Zp n
def Cg(n:Nat):ae:=(⟨#[100,111,99,58,100]⟩:ae)++Zp n
def grB(k a b:Nat):ae:=match k with
 |0=>(xh a++⟨#[35,109,101,109,98,101,114,64]⟩)++Fo b
 |1=>((xh a++⟨#[35,109,101,109,98,101,114,64]⟩)++xh b)++⟨#[35,109,101,109,98,101,114]⟩
 |2=>(Cg a++⟨#[35,112,97,114,101,110,116,64]⟩)++Cg b
 |3=>(Cg a++⟨#[35,111,119,110,101,114,64]⟩)++Fo b
 |4=>(Cg a++⟨#[35,101,100,105,116,111,114,64]⟩)++Fo b
 |5=>((Cg a++⟨#[35,101,100,105,116,111,114,64]⟩)++xh b)++⟨#[35,109,101,109,98,101,114]⟩
 |6=>Cg a++⟨#[35,118,105,101,119,101,114,64,117,115,101,114,58,42]⟩
 |7=>Cg a++⟨#[35,98,97,110,110,101,100,64,117,115,101,114,58,42]⟩
 |_=>(Cg a++⟨#[35,98,97,110,110,101,100,64]⟩)++Fo b
def KE:List ae:=(List.range 9).flatMap fun k=>(List.range 4).flatMap fun a=>(List.range 4).map fun b=>grB k a b
end Go.Proofs.YtlbpnlngckgcbaaGreatDoor
namespace Go.Proofs.YtlbpnlngckgcbaaGreatDoor
open Go.ChangeShapes Go.WideShapes Go.RowKit Go.Proofs.Tryz
end Go.Proofs.YtlbpnlngckgcbaaGreatDoor
namespace Go.Proofs.YtlbpnlngckgcbaaGreatDoor
open Go.RowKit Go.PlainAid Go.Proofs.Tryz
section
variable {B:Nat}{w w':af}{x y:Nat}{ts ts' ts2:List Ty}{gs gs' gs2:List Tu}
end
section
variable {B:Nat}{w w':af}{x:Nat}{ts ts2:List Ty}{gs gs2:List Tu}
end
def XQ(d:Nat):ae:=(aG (Cg d) 58).2.1
def unB(d:Nat):ae:=(aG (Fo d) 58).2.1
def M0(l:List ae):Prop:=l.Pairwise fun a b=>leB a b/\a≠b
def Fp{a b:ae}(h:leB a b)(k:leB b a):a=b:=by
 have:=List.le_antisymm h k;rw [<-cX a,<-cX b,this]
def KF:∀(l m:List ae),M0 l->M0 m->(∀s,s∈l↔s∈m)->l=m
 | [],[],_,_,_=>rfl
 | [],y::m,_,_,h=>by have:=(h y).2 ep;cases this
 |x::l,[],_,_,h=>by have:=(h x).1 ep;cases this
 |x::l,y::m,hl,hm,h=>by
  have A:=ky.1 hl;have C:=ky.1 hm;have e:x=y:=by
   rcases cG.1 ((h x).1 ep) with e|e
   .exact e
   rcases cG.1 ((h y).2 ep) with e'|e'
   .exact e'.symm
   exact Fp (A.1 y e').1 (C.1 x e).1
  subst e;rw [KF l m A.2 C.2 (fun s=>by
   constructor
   .intro hs
    rcases cG.1 ((h s).1 (eY _ hs)) with e|e
    .exact absurd e.symm (A.1 s hs).2
    exact e
   intro hs
   rcases cG.1 ((h s).2 (eY _ hs)) with e|e
   .exact absurd e.symm (C.1 s hs).2
   exact e)]
def KG:∀(l a:List ae),M0 a->(∀s∈a,∀x∈l,leB s x)->l.Pairwise leB->M0 (l.foldl oO a)
 | [],a,h,_,_=>h
 |x::l,a,h,h1,h2=>by
  rw [nG];have C:=ky.1 h2;refine KG l _ ?_ (fun s hs y A=> ?_) C.2
  .unfold oO
   split
   .exact h
   rename_i J;refine Bg.2 ⟨h,au,fun s hs y A=> ?_⟩;rw [aX] at A;subst A;refine ⟨h1 s hs _ ep,fun e=>J ?_⟩;subst e;obtain ⟨i,hi,e⟩:=dB hs;have Q:=iT.1 h;have D:i=a.length-1:=by
    rcases fE i (a.length-1) with I|U
    .exfalso;have q:=Q i (a.length-1) hi ai I;have R:=h1 (a[a.length-1]'ai) (bu _) s ep;rw [e] at q;exact q.2 (Fp q.1 R)
    omega
   rw [List.getLast?_eq_getElem?,<-D,aI hi,e]
  rcases (Fl a x s).1 hs with e|e
  .exact h1 s e y (eY _ A)
  subst e;exact C.1 y A
def qX(l:List ae):(gG l).Pairwise leB:=by
 rw [oC];exact (sC l [] List.Pairwise.nil).1
def SU(X:Nat)(cs:List Tg):M0 (oP X cs):=KG _ [] List.Pairwise.nil (fun _ h=>by cases h) (qX _)
section
variable {B:Nat}{w w':af}{x y:Nat}{ts ts' ts2:List Ty}{gs gs' gs2:List Tu}
end
def tt(s:ae):Tu:=(b8 s).1
section
variable {B:Nat}{w w':af}{x y:Nat}{ts ts':List Ty}{gs':List Tu}{ss:List ae}{s:ae}
end
def Zq:ae:=⟨#[42]⟩
section
variable {B:Nat}{w w':af}{x y:Nat}{ts ts':List Ty}{gs gs':List Tu}
end
section
variable {B:Nat}{w w':af}{x:Nat}{ts:List Ty}{gs:List Tu}{ss:List ae}{s:ae}
end
def IC(l:List ae):(gG l).Perm l:=by
 rw [oC];have:=(sC l [] List.Pairwise.nil).2;rw [List.nil_append] at this;exact this
variable {l:List ae}
def M1(h:l.Nodup):M0 (gG l):=by
 have h1:=qX l;have h2:(gG l).Nodup:=(IC l).nodup_iff.2 h;exact h1.and h2
def ID(d:Nat):ae:=(aG (xh d) 58).2.1
def jY(M:Nat->Nat->Bool):Nat->Nat->Nat->Bool
 |0,i,j=>M i j
 |k+1,i,j=>jY M k i j||(jY M k i k&&jY M k k j)
def Wc(M:Nat->Nat->Bool)(k i:Nat):jY M (k+1) i k=jY M k i k:=by
 rw [jY]
 cases jY M k i k<;>simp
def Wd(M:Nat->Nat->Bool)(k j:Nat):jY M (k+1) k j=jY M k k j:=by
 rw [jY]
 cases jY M k k j<;>simp
def IE(M:Nat->Nat->Bool){i j:Nat}(h:M i j=true):∀k,jY M k i j=true
 |0=>h
 |k+1=>by rw [jY,IE M h k,rO]
def zW(M:Nat->Nat->Bool):∀(k i a j:Nat),a<k->jY M k i a=true->jY M k a j=true->jY M k i j=true
 |0,i,a,j,h,_,_=>ai
 |k+1,i,a,j,h,h1,h2=>by
  by_cases e:a=k
  .subst e;rw [Wc] at h1;rw [Wd] at h2;rw [jY,h1,h2];simp
  have C:=zW M k;rw [jY] at h1 h2 ⊢;simp only [kZ,bP] at h1 h2 ⊢
  rcases h1 with h1|⟨h1,D⟩
  .rcases h2 with h2|⟨h2,A⟩
   .exact .inl (C i a j ai h1 h2)
   exact .inr ⟨C i a k ai h1 h2,A⟩
  rcases h2 with h2|⟨h2,A⟩
  .exact .inr ⟨h1,C k a j ai D h2⟩
  exact .inr ⟨h1,A⟩
def Fq(M:Nat->Nat->Bool)(S:Nat->Prop)(h:∀a b,a<4->b<4->M a b=true->S b->S a):∀(k i j:Nat),k<=4->i<4->j<4->jY M k i j=true->S j->S i
 |0,i,j,_,hi,hj,h1,h2=>h i j hi hj h1 h2
 |k+1,i,j,hk,hi,hj,h1,h2=>by
  have A:=Fq M S h k;rw [jY] at h1;simp only [kZ,bP] at h1
  rcases h1 with h1|⟨h1,C⟩
  .exact A i j ai hi hj h1 h2
  exact A i k ai hi ai h1 (A k j ai ai hj C h2)
def We(k a b:Nat):Tu:=match k with
 |0=>⟨hA,ID a,fo,tH,unB b,⟨#[]⟩⟩
 |1=>⟨hA,ID a,fo,hA,ID b,fo⟩
 |2=>⟨tT,XQ a,KB,tT,XQ b,⟨#[]⟩⟩
 |3=>⟨tT,XQ a,SS,tH,unB b,⟨#[]⟩⟩
 |4=>⟨tT,XQ a,KC,tH,unB b,⟨#[]⟩⟩
 |5=>⟨tT,XQ a,KC,hA,ID b,fo⟩
 |6=>⟨tT,XQ a,Wb,tH,Zq,⟨#[]⟩⟩
 |7=>⟨tT,XQ a,Cf,tH,Zq,⟨#[]⟩⟩
 |_=>⟨tT,XQ a,Cf,tH,unB b,⟨#[]⟩⟩
def Zr:((List.range 9).all fun k=>(List.range 4).all fun a=>(List.range 4).all fun b=>oL (tt (grB k a b)) (We k a b))=true:=by kernel_rfl
variable {k a b:Nat}
def SV(A:k<9)(ha:a<4)(h:b<4):tt (grB k a b)=We k a b:=(Df _ _).1 (lW.1 (lW.1 (lW.1 Zr k (List.mem_range.2 A)) a (List.mem_range.2 ha)) b (List.mem_range.2 h))
def SW(ha:a<4)(A:b<4)(h:ID a=ID b):a=b:=by
 have k:((List.range 4).all fun a=>(List.range 4).all fun b=> !decide (ID a=ID b)||decide (a=b))=true:=aM;have:=lW.1 (lW.1 k a (List.mem_range.2 ha)) b (List.mem_range.2 A)
 simpa [h] using this
def NA(ss:List ae)(k a b:Nat):Bool:=ss.any fun s=>decide (s=grB k a b)
variable {ss:List ae}
def SX:NA ss k a b=true↔grB k a b∈ss:=by
 unfold NA;rw [dh]
 constructor
 .rintro ⟨s,hs,e⟩;rw [<-Bp e];exact hs
 intro h;exact ⟨_,h,kR rfl⟩
def xi(D:∀s∈ss,s∈KE)(t:Tu):t∈ss.map tt↔∃k a b,k<9/\a<4/\b<4/\NA ss k a b=true/\t=We k a b:=by
 rw [aU]
 constructor
 .rintro ⟨s,hs,rfl⟩;have:=D s hs;unfold KE at this;simp only [b6,List.mem_range,aU] at this;obtain ⟨k,C,a,ha,b,A,rfl⟩:=this;exact ⟨k,a,b,C,ha,A,SX.2 hs,SV C ha A⟩
 rintro ⟨k,a,b,C,ha,A,h,rfl⟩;exact ⟨_,SX.1 h,SV C ha A⟩
def tU(gs:List Tu)(kd id c:ae)(p:Tu->Bool):Bool:=gs.any fun t=>decide (t.kind=kd/\t.id=id/\t.rel=c)&&p t
variable {gs:List Tu} {kd id:ae}
def nX{c:ae}{p:Tu->Bool}:tU gs kd id c p=true↔∃t∈gs,(t.kind=kd/\t.id=id/\t.rel=c)/\p t=true:=by
 unfold tU;rw [dh];simp only [bP,fF]
def Fs(gs:List Tu)(kd id:ae):(∃y∈dr gs,y.kd=kd/\y.id=id/\∀c p,y.ts.any (fun t=>decide (t.rel=c)&&p t)=tU gs kd id c p)\/((∀y∈dr gs,¬(y.kd=kd/\y.id=id))/\∀c p,tU gs kd id c p=false):=by
 by_cases h:∃y∈dr gs,y.kd=kd/\y.id=id
 .obtain ⟨y,A,e1,J⟩:=h;refine .inl ⟨y,A,e1,J,fun c p=> ?_⟩;rw [gU,nX,dh,((je gs).ts y A).1];simp only [sM,bP,fF,eI,e1,J]
  constructor
  .rintro ⟨t,⟨h1,h2,C⟩,D,I⟩;exact ⟨t,h1,⟨h2.symm,C.symm,D⟩,I⟩
  rintro ⟨t,h1,⟨h2,C,D⟩,I⟩;exact ⟨t,⟨h1,h2.symm,C.symm⟩,D,I⟩
 refine .inr ⟨fun y A e=>h ⟨y,A,e⟩,fun c p=> ?_⟩
 cases e:tU gs kd id c p
 .rfl
 obtain ⟨t,Q,⟨h1,h2,C⟩,D⟩:=nX.1 e;obtain ⟨y,A,q⟩:=(je gs).all t Q;obtain ⟨R,U⟩:=eI.1 q;exact absurd ⟨y,A,R.trans h1,U.trans h2⟩ h
variable {hs:List Hp}
def Zs{g:List R3}{c:ae}(h:∀y∈hs,¬(y.kd=kd/\y.id=id)):¬lN g hs ⟨kd,id,c⟩:=by
 rintro ⟨x,C,y,A,_,e⟩;exact h y A ⟨(congrArg Sj.kind e).symm,(congrArg Sj.id e).symm⟩
section
variable {who:Tg}{gs:List Tu}{g:List R3}{k0 k1 kb:Sj->Bool}
variable {kd:ae}
def Wf{c:ae}(h:E7 who (dr gs) g k0 k1)(C:(⟨kd,c,jM⟩:R3)∈g)(id:ae)(h0:k0 ⟨kd,id,c⟩=false):k1 ⟨kd,id,c⟩=tU gs kd id c (fun t=>g8 k1 who (fb t)):=by
 rcases Fs gs kd id with ⟨y,D,rfl,rfl,A⟩|⟨hn,A⟩
 .rw [<-h.fix _ C y D rfl,<-A];simp [jM,hV]
 rw [A,h.old _ (Zs hn),h0]
end
section
variable {ss:List ae}{i:Nat}{p:Tu->Bool}
def p8(C:∀s∈ss,s∈KE)(hi:i<4):tU (ss.map tt) hA (ID i) fo p=true↔∃b,b<4/\((NA ss 0 i b=true/\p (We 0 i b)=true)\/(NA ss 1 i b=true/\p (We 1 i b)=true)):=by
 rw [nX]
 constructor
 .rintro ⟨t,Q,⟨e1,D,R⟩,J⟩;obtain ⟨k,a,b,U,ha,A,I,rfl⟩:=(xi C t).1 Q
  rcases k with _|_|_|_|_|_|_|_|_|k
  .obtain rfl:=SW ha hi D;exact ⟨b,A,.inl ⟨I,J⟩⟩
  .obtain rfl:=SW ha hi D;exact ⟨b,A,.inr ⟨I,J⟩⟩
  all_goals first|omega|exact absurd e1 (show ¬(tT=hA) by decide)
 rintro ⟨b,A,⟨h1,h2⟩|⟨h1,h2⟩⟩
 .exact ⟨We 0 i b,(xi C _).2 ⟨0,i,b,ai,hi,A,h1,rfl⟩,⟨rfl,rfl,rfl⟩,h2⟩
 exact ⟨We 1 i b,(xi C _).2 ⟨1,i,b,ai,hi,A,h1,rfl⟩,⟨rfl,rfl,rfl⟩,h2⟩
end
structure aaR(who:Tg)(m:Nat->Bool):Prop where
 one:∀b,b<4->lh ⟨tH,unB b,⟨#[]⟩⟩ who=m b
 all:lh ⟨tH,Zq,⟨#[]⟩⟩ who=true
def Zt(ss:List ae)(i j:Nat):Bool:=NA ss 1 i j||decide (i=j)
def in2(ss:List ae)(i j:Nat):Bool:=NA ss 2 i j||decide (i=j)
def aaS(ss:List ae)(m:Nat->Bool)(i:Nat):Prop:=∃k,k<4/\jY (Zt ss) 4 i k=true/\∃b,b<4/\NA ss 0 k b=true/\m b=true
variable {gs:List Tu}
def SY{y:Hp}(h:y∈dr gs)(c:ae)(p:Tu->Bool):y.ts.any (fun t=>decide (t.rel=c)&&p t)=tU gs y.kd y.id c p:=by
 rcases Fs gs y.kd y.id with ⟨z,D,e1,A,C⟩|⟨hn,_⟩
 .rw [<-C,((je gs).ts y h).1,((je gs).ts z D).1];have:∀t,lL y t=lL z t:=fun t=>by unfold lL;rw [e1,A]
  simp only [this]
 exact absurd ⟨rfl,rfl⟩ (hn y h)
variable {kd id:ae}
def M3{c:ae}{p A:Tu->Bool}(h:∀t,p t=true->A t=true)(k:tU gs kd id c p=true):tU gs kd id c A=true:=by
 obtain ⟨t,h1,h2,C⟩:=nX.1 k;exact nX.2 ⟨t,h1,h2,h t C⟩
variable {who:Tg}
def IF{k A:Sj->Bool}(h:∀s,k s=true->A s=true)(s:Sj)(e:g8 k who s=true):g8 A who s=true:=by
 unfold g8 at e ⊢
 split
 .rename_i h0;rw [if_pos h0] at e;exact e
 rename_i h0;rw [if_neg h0] at e;exact h _ e
def Zu(k:Sj->Bool)(P:Sj->Prop):∃K:Sj->Bool,∀s,K s=true↔k s=true/\P s:=by
 classical exact ⟨fun s=>k s&&decide (P s),fun s=>au⟩
section
variable {who:Tg}{m:Nat->Bool}{ss:List ae}{k0 k1 k3 kb:Sj->Bool}{i:Nat}
variable {n a b:Nat}
def KH(C:aaR who m){k:Sj->Bool}(h:b<4)(A:n=0\/n=3\/n=4\/n=8):g8 k who (fb (We n a b))=m b:=by
 rw [<-C.one b h]
 rcases A with rfl|rfl|rfl|rfl<;>exact if_pos rfl
def KI{k:Sj->Bool}(h:n=1\/n=5):g8 k who (fb (We n a b))=k ⟨hA,ID b,fo⟩:=by
 rcases h with rfl|rfl<;>exact if_neg (show ¬(fo.size=0) by decide)
variable {i k:Nat}
def S0{M:Nat->Nat->Bool}(h:M i i=true):jY M k i i=true:=IE M h k
def S1:Zt ss i i=true:=by simp [Zt]
def g1R:List R3:=[⟨hA,fo,jM⟩,⟨tT,KB,jM⟩,⟨tT,SS,jM⟩,⟨tT,Cf,jM⟩]
def KJ:∀x∈g1R,x.sh=jM:=by
 intro x h;simp only [g1R,cG,iQ,jD] at h
 rcases h with rfl|rfl|rfl|rfl<;>rfl
def mem_iff(Q:∀s∈ss,s∈KE)(ac:aaR who m)(h:E7 who (dr (ss.map tt)) g1R (fun _=>false) k1)(hi:i<4):k1 ⟨hA,ID i,fo⟩=true↔aaS ss m i:=by
 have Y:∀id,k1 ⟨hA,id,fo⟩=tU (ss.map tt) hA id fo (fun t=>g8 k1 who (fb t)):=fun id=>Wf h (by simp [g1R]) id rfl
 constructor
 .intro C;obtain ⟨K,D⟩:=Zu k1 (fun s=>s.kind=hA->s.rel=fo->∀i,i<4->s.id=ID i->aaS ss m i);have ab:∀s,K s=true->k1 s=true:=fun s hs=>((D s).1 hs).1
  have key:=h.least K (fun s hs=>by
   cases al:K s
   .rfl
   .rw [<-ab s al,h.old s hs]) (fun x R y U e Z=>by
   rw [KJ x R] at Z;have J:tU (ss.map tt) y.kd y.id x.nm (fun t=>g8 K who (fb t))=true:=by
    rw [<-SY U]
    simpa [jM,hV] using Z
   have ak:k1 ⟨y.kd,y.id,x.nm⟩=true:=by
    rw [<-h.fix x R y U e,KJ x R];have:=M3 (fun t=>IF ab (fb t)) J;rw [<-SY U] at this
    simpa [jM,hV] using this
   refine (D _).2 ⟨ak,fun e1 ae i hi ag=> ?_⟩;have ad:y.kd=hA:=e1;have af:x.nm=fo:=ae;have ah:y.id=ID i:=ag;rw [ad,af,ah] at J;obtain ⟨b,A,⟨h1,h2⟩|⟨h1,h2⟩⟩:=(p8 Q hi).1 J
   .rw [KH ac A (.inl rfl)] at h2;exact ⟨i,hi,S0 S1,b,A,h1,h2⟩
   rw [KI (.inl rfl)] at h2;obtain ⟨k,C,am,an⟩:=((D _).1 h2).2 rfl rfl b A rfl;exact ⟨k,C,zW _ 4 i b k A (IE _ (by simp [Zt,h1]) 4) am,an⟩) _ C
  exact ((D _).1 key).2 rfl rfl i hi rfl
 rintro ⟨k,C,h1,b,A,h2,aj⟩;refine Fq (Zt ss) (fun i=>k1 ⟨hA,ID i,fo⟩=true) (fun a c ha hc I V=> ?_) 4 i k ai hi C h1 ?_
 .unfold Zt at I;rw [kZ,fF] at I
  rcases I with q|rfl
  .rw [Y,p8 Q ha];exact ⟨c,hc,.inr ⟨q,by rw [KI (.inl rfl)];exact V⟩⟩
  exact V
 show k1 ⟨hA,ID k,fo⟩=true
 rw [Y,p8 Q C];exact ⟨b,A,.inl ⟨h2,by rw [KH ac A (.inl rfl)];exact aj⟩⟩
end
def mH:Nat->(Nat->Bool)->Bool
 |0,_=>false
 |k+1,f=>mH k f||f k
def nY{f}:∀{n:Nat},mH n f=true↔∃k,k<n/\f k=true
 |0=>by
  constructor
  .intro h;cases h
  rintro ⟨k,A,_⟩;omega
 |n+1=>by
  rw [mH,kZ,nY]
  constructor
  .rintro (⟨k,A,h⟩|h)
   .exact ⟨k,ai,h⟩
   exact ⟨n,ai,h⟩
  rintro ⟨k,A,h⟩
  by_cases e:k=n
  .subst e;exact .inr h
  exact .inl ⟨k,ai,h⟩
def memX(ss:List ae)(i j:Nat):Bool:=mH 4 fun k=>jY (Zt ss) 4 i k&&NA ss 0 k j
def edtX(ss:List ae)(d j:Nat):Bool:=(NA ss 3 d j||NA ss 4 d j)||mH 4 fun g=>NA ss 5 d g&&memX ss g j
section
variable {ss:List ae}{i j:Nat}{kb:Sj->Bool}
end
def eF(ss:List ae)(i j:Nat):Nat->Bool:=fun d=>jY (in2 ss) 4 i d&&edtX ss d j
section
variable {ss:List ae}{me mk a n b e d i j:Nat}
end
def IG(n:Nat)(f:Nat->Bool):List Bool:=(List.range n).map f
variable {n i:Nat}
def S2(f)(h:i<(IG n f).length):(IG n f)[i]=f i:=by simp [IG]
def Zv(f v):(IG n f).set i v=IG n (fun q=>if q=i then v else f q):=by
 apply List.ext_getElem
 .simp [IG]
 intro q h1 h2;rw [List.getElem_set,S2,S2]
 by_cases e:i=q
 .rw [if_pos e,if_pos e.symm]
 rw [if_neg e,if_neg (fun e'=>e e'.symm)]
def S4{f g}(h:∀q,q<n->f q=g q):IG n f=IG n g:=by
 unfold IG;exact List.map_congr_left (fun q A=>h q (List.mem_range.1 A))
def yf(w:af)(g n:Nat)(f:Nat->Bool)(T:TypeId):Prop:=aL w g ((IG n f).map Value.bool).toArray T
section
variable {w w':af}{g n:Nat}{f f':Nat->Bool}{T:TypeId}
variable {i:Nat}
def yf.cell(h:yf w g n f T)(hi:i<n):w.cell? (aC g i)=some (.bool (f i)):=aL.cell h (by simp [IG,hi])
def yf.set(h:yf w g n f T)(i v):yf (w.setCell (aC g i) (.bool v)) g n (fun q=>if q=i then v else f q) T:=by
 have:=aL.set h i (.bool v);unfold yf;rw [<-Zv,pM]
 simpa using this
def yf.congr(h:yf w g n f T)(e:∀q,q<n->f q=f' q):yf w g n f' T:=by
 unfold yf at h ⊢;rw [<-S4 e];exact h
def yf.fz(h:yf w g n f T)(o):w.frozen? (aC g o)=false:=aL.fz h o
def yf.lt(h:yf w g n f T):g<w.heap.size:=aL.lt h
def yf.below(h:yf w g n f T)(k:an w w'):yf w' g n f T:=aL.below h k
end
