import Derived.Test.YtlbpnlngckgcbaaGreatDoorM19
set_option linter.all false
set_option maxHeartbeats 4000000
set_option maxRecDepth 100000
namespace Go.Proofs.YtlbpnlngckgcbaaGreatDoor
open Go.RowKit Go.PlainAid Go.Proofs.Tryz
variable {hl:List Hd} {aA aU:Prop} {kd id:ae} {g0 c0 pc n1 k i:Nat} {pa:Option Addr} {W0:af} {o:Obj} {gs:List Tu} {who:Tg}
def Clo(cs:List Tg)(ls:List (It×ag))(hl:List Hd)(K:Sj->Nat):Prop:=∀p∈ls,∀h∈hl,h.kd=p.1.1.1.name->sC (tx K cs p h) (K (jL p h))
structure Si(cs:List Tg)(ls:List (It×ag))(hl:List Hd)(K0 K:Sj->Nat):Prop where
 g:abf cs ls hl K0 K
 least:∀K',(∀s,oH cs.length (K' s))->(∀s,¬Zq ls hl s->K' s=K0 s)->Clo cs ls hl K'->∀s,sC (K s) (K' s)
def Md{cs:List Tg}{ls:List (It×ag)}(D:cs.length<=64)(A:Se ls hl)(C:Sj->Nat):SeC cs hl ls (Si cs ls hl C) (jd (Eg ls hl)) where
 bits:=fun K I=>(sF D A C).bits K I.g
 val:=fun K I=>(sF D A C).val K I.g
 step:=fun K I p U h Q R ab=>by
  obtain ⟨h1,h2⟩:=(sF D A C).step K I.g p U h Q R ab;refine ⟨⟨h1,fun Z V Y J s=> ?_⟩,h2⟩;unfold mU
  split
  ·rename_i e;subst e;refine fun i hi=>J p U h Q R i (Eh D I.g.out V (I.least Z V Y J) (fun s hs=> ?_) i hi)
   have hn:=A.str p U h Q R s hs;rw [I.g.old s hn,Y s hn]
  exact I.least Z V Y J s
structure Hp where
 kd:ae
 id:ae
 ts:List Tu
def lk(h:Hd):Hp:=⟨h.kd,h.id,h.ts⟩
def rX(K:Sj->Nat)(cs:List Tg)(x:TR)(h:Hp):Nat:=dT ⟨K,cs,h.kd,h.id,h.ts⟩ x.2.name x.2.body
def rSj(x:TR)(h:Hp):Sj:=⟨h.kd,h.id,x.2.name⟩
def HZ(g:List TR)(hs:List Hp)(s:Sj):Prop:=∃x∈g,∃h∈hs,h.kd=x.1.name/\s=rSj x h
structure Sol(cs:List Tg)(hs:List Hp)(g:List TR)(K0 K:Sj->Nat):Prop where
 out:∀s,oH cs.length (K s)
 old:∀s,¬HZ g hs s->K s=K0 s
 fix:∀x∈g,∀h∈hs,h.kd=x.1.name->rX K cs x h=K (rSj x h)
 least:∀K',(∀s,oH cs.length (K' s))->(∀s,¬HZ g hs s->K' s=K0 s)->(∀x∈g,∀h∈hs,h.kd=x.1.name->sC (rX K' cs x h) (K' (rSj x h)))->∀s,sC (K s) (K' s)
def JN{ls s}:HZ (ls.map fun p=>P1 p.1) (hl.map lk) s↔Zq ls hl s:=by
 constructor
 ·rintro ⟨x,J,h,I,e1,A⟩;obtain ⟨p,C,rfl⟩:=aN.1 J;obtain ⟨y,D,rfl⟩:=aN.1 I;exact ⟨p,C,y,D,e1,A⟩
 rintro ⟨p,C,y,D,e1,A⟩;exact ⟨_,aN.2 ⟨p,C,rfl⟩,_,aN.2 ⟨y,D,rfl⟩,e1,A⟩
def Zs{cs:List Tg}{ls:List (It×ag)}{D K:Sj->Nat}(h:Si cs ls hl D K)(f:HW cs ls hl K):Sol cs (hl.map lk) (ls.map fun p=>P1 p.1) D K where
 out:=h.g.out
 old:=fun s hs=>h.g.old s (fun e=>hs (JN.2 e))
 fix:=fun x Q y R e=>by
  obtain ⟨p,A,rfl⟩:=aN.1 Q;obtain ⟨z,C,rfl⟩:=aN.1 R;exact f p A z C e
 least:=fun I U V J=>h.least I U (fun s hs=>V s (fun e=>hs (JN.1 e))) (fun p A z C e=>J _ (aN.2 ⟨p,A,rfl⟩) _ (aN.2 ⟨z,C,rfl⟩) e)
def Run(cs:List Tg)(hs:List Hp):List (List TR)->(Sj->Nat)->(Sj->Nat)->Prop
 | [],K,K'=>K'=K
 |g::gs,K,K'=>∃K1,Sol cs hs g K K1/\Run cs hs gs K1 K'
def JO{cs hs}:∀{gs gs':List (List TR)} {K A B:Sj->Nat},Run cs hs gs K A->Run cs hs gs' A B->Run cs hs (gs++gs') K B
 | [],gs',K,A,B,h,k=>by obtain rfl:=(h:A=K);exact k
 |g::gs,gs',K,A,B,⟨K1,h1,h2⟩,k=>⟨K1,h1,JO h2 k⟩
def JP{cs hs}:∀{gs:List (List TR)} {K A:Sj->Nat},Run cs hs gs K A->∀s,(∀g∈gs,¬HZ g hs s)->A s=K s
 | [],K,A,h,s,_=>by rw [show A=K from h]
 |g::gs,K,A,⟨K1,h1,h2⟩,s,hn=>by
  rw [JP h2 s (fun g' C=>hn g' (eO _ C)),h1.old s (hn g eb)]
def Bm{cs hs}:∀{gs:List (List TR)} {K A:Sj->Nat},Run cs hs gs K A->(∀s,oH cs.length (K s))->∀s,oH cs.length (A s)
 | [],K,A,h,ho=>by rw [show A=K from h];exact ho
 |g::gs,K,A,⟨K1,h1,h2⟩,_=>Bm h2 h1.out
structure Me(gs:List (List TR))(hs:List Hp):Prop where
 hds:∀h∈hs,∀h'∈hs,h.kd=h'.kd->h.id=h'.id->h=h'
 lns:∀g∈gs,∀x∈g,∀y∈g,x.1.name=y.1.name->x.2.name=y.2.name->x.2.body=y.2.body
 ap:gs.Pairwise fun g g'=>∀x∈g,∀y∈g',¬(x.1.name=y.1.name/\x.2.name=y.2.name)
 str:∀g∈gs,∀x∈g,∀h∈hs,h.kd=x.1.name->∀s,Mc h.kd h.id h.ts x.2.name x.2.body s->¬HZ g hs s
structure LnR(x:TR):Prop where
 wf:Bj x.2.body
 len:(be x.2.name 0 x.2.body).length<40000
 name:x.2.name.size<=maxLen
 rel:∀i∈fY x.2.name x.2.body,i.rel.size<=maxLen
def LnR.ok{p:It×ag}(h:LnR (P1 p.1)):Zm p:=⟨h.wf,h.len,h.name,h.rel⟩
def Sk{gs:List (List TR)}{ls:List (It×ag)}(h:Me gs (hl.map lk))(C:(ls.map fun p=>P1 p.1)∈gs)(I:∀x∈hl,∀y∈hl,x.kd=y.kd->x.id=y.id->x=y):Se ls hl where
 hds:=I
 lns:=fun p A q J e1 D=>h.lns _ C _ (aN.2 ⟨p,A,rfl⟩) _ (aN.2 ⟨q,J,rfl⟩) e1 D
 str:=fun p A y R e s hs Q=>h.str _ C _ (aN.2 ⟨p,A,rfl⟩) _ (aN.2 ⟨y,R,rfl⟩) e s hs (JN.2 Q)
def H0{cs:List Tg}{ls:List (It×ag)}{K:Sj->Nat}(ho:∀s,oH cs.length (K s))(C:∀s,Zq ls hl s->K s=0):Si cs ls hl K K where
 g:=⟨ho,fun _ _=>rfl,fun p I h D e i hi=>by rw [C _ ⟨p,I,h,D,e,rfl⟩] at hi;simp at hi⟩
 least:=fun Q _ J _ s i hi=>by
  by_cases A:Zq ls hl s
  ·rw [C s A] at hi;simp at hi
  rw [J s A];exact hi
variable {hs:List Hp}
def Sl{cs pre g K}(Q:Run cs hs pre (fun _=>0) K)(I:∀g'∈pre,∀x∈g',∀y∈g,¬(x.1.name=y.1.name/\x.2.name=y.2.name))(s)(R:HZ g hs s):K s=0:=by
 obtain ⟨y,V,h,Y,e1,rfl⟩:=R;refine JP Q _ (fun g' J ⟨x,U,D,Z,C,A⟩=>I g' J x U y V ⟨?_,?_⟩)
 ·have:D.kd=h.kd:=(congrArg Sj.kind A).symm;rw [<-C,<-e1,this]
 exact (congrArg Sj.rel A).symm
def zc10q (h:aA:=by
 first|exact hfin.2|(rw [<-PS.u];exact hfin.2)):aA:=h
def Sm (h:aA:=by
 have hfin:=hold_close (by first|exact PS.u|rfl) V8.u XW.u (ak HP) HYN.u G5.u O5.u A5.u;exact ⟨k+1,_,_,rfl,by go_num,aj,hfin.1,zc10q,ai (Mf HTK.u HST.u (ak HP) V9.u rfl)⟩):aA:=h
def Sn(q:aU) (h:bF aU->aA:=by
 intro zq;have HB0:=ai hb0;have m7:=cm W _ k7;have m8:=cm W _ t0;have YG:=ai (show yn+1<=maxLen from by unfold maxLen;omega);have YH:=ai (show (yn+1)*96<=140737488355328 from aj);have hbs:=V8.u.size;have HS:=ai (show w.heap.size<=(W.alloc (cw t.kind t.id t.rel t.sub t.who t.of)).drew.heap.size from aM);have HH:=ai (show (W.alloc (cw t.kind t.id t.rel t.sub t.who t.of)).drew.heap.size=W.heap.size+1 from ar);have PS:=ai hn1
 revert HB0 m7 m8 YG YH hbs HS HH PS
 exact zq.1):aA:=h ⟨q⟩
def Sq(q:aU) (h:bF aU->aA:=by
 intro zq;obtain ⟨t0,t1,t2,t3,t4,t5⟩:=TB.u.six;obtain ⟨s0,s1,s2,s3,s4,s5⟩:=(TB.u.below ((az _ W).alloc aD (cw t.kind t.id t.rel t.sub t.who t.of))).six
 revert t0 t1 t2 t3 t4 t5 s0 s1 s2 s3 s4 s5
 exact zq.1):aA:=h ⟨q⟩
def Sr(q:aU) (h:bF aU->aA:=by
 intro zq;have ba:=(az wr.heap.size wr).alloc aD (cw t.kind t.id t.rel t.sub t.who t.of)
 revert ba
 exact zq.1):aA:=h ⟨q⟩
def lP(h:Hp)(t:Tu):Bool:=D8 ⟨h.kd,h.id⟩ ⟨t.kind,t.id⟩
def Bo(i:Nat)(t:Tu)(l:List Hp):List Hp:=match l[i]? with
 |some h=>l.set i ⟨h.kd,h.id,h.ts++[t]⟩
 |none=>l
def wG(l:List Hp)(t:Tu):List Hp:=match l.findIdx? (fun h=>lP h t) with
 |some i=>Bo i t l
 |none=>Bo l.length t (l++[⟨t.kind,t.id,[]⟩])
def dG(gs:List Tu):List Hp:=gs.foldl wG []
def wH(gs t):dG (gs++[t])=wG (dG gs) t:=by simp [dG]
structure JQ(base:Nat)(w:af)(hv:ag)(hl:List Hd):Prop where
 row:w.ownsRow base 282 3 hv hl.length (hl.flatMap JK)
 tup:∀h∈hl,w.ownsRow base 123 6 h.tv h.ts.length (h.ts.flatMap jD)
 ap:hl.Pairwise (fun p q=>∀k,p.tv.ownBlock=some k->q.tv.ownBlock≠some k)
section
variable {base g cap i:Nat}{w w' W w5:af}{hv:ag}{hl:List Hd}{t:Tu}
def JQ.below(h:JQ base w hv hl)(k:an w w'):JQ base w' hv hl:=⟨aB h.row k,fun x A=>aB (h.tup x A) k,h.ap⟩
def JQ.push(h:JQ base w hv hl)(J:w.grownBy w' hv.ownBlock)(Q:w'.ownsRow base 282 3 (.slice (some ⟨g,0,none⟩) (hl.length+1) cap) (hl.length+1) (hl.flatMap JK++[.string kd,.string id,.slice none 0 0])):JQ base w' (.slice (some ⟨g,0,none⟩) (hl.length+1) cap) (hl++[⟨kd,id,[],.slice none 0 0⟩]):=by
 refine ⟨by simpa [JK] using Q,fun p D=> ?_,?_⟩
 ·rcases aQ.1 D with D|D
  ·exact ay (h.tup p D) (fun g cs f _ I=>J.block g (lt_of_some I) (dH h.row I au))
  rw [aR] at D;subst D;exact bL
 exact PN
def Ss(x u ts):∀(l:List Hd)(k:Nat),l[k]? =some x->(l.flatMap JK).set (k*3+2) u=(l.set k ⟨x.kd,x.id,ts,u⟩).flatMap JK
 | [],k,h=>by simp at h
 |y::l,0,h=>by
  simp only [List.getElem?_cons_zero,aL] at h;subst h
  rfl
 |y::l,k+1,h=>by
  have A:=Ss x u ts l k ni;rw [cq,rA _ _ (by show 3<=_;omega),show (k+1)*3+2-(JK y).length=k*3+2 by show (k+1)*3+2-3=_;omega,A,List.set_cons_succ,cq]
def JQ.put{p}(h:JQ base w (.slice (some ⟨g0,0,none⟩) hl.length c0) hl)(hi:hl[i]? =some p)(I:w.grownBy w' p.tv.ownBlock)(hown:w'.ownsRow base 123 6 (.slice (some ⟨g,0,none⟩) (p.ts.length+1) cap) (p.ts.length+1) (p.ts.flatMap jD++jD t))(Q:p.tv.ownBlock=some g\/w.heap.size<=g):
  JQ base (w'.setCell ⟨g0,i*3+2,none⟩ (.slice (some ⟨g,0,none⟩) (p.ts.length+1) cap)) (.slice (some ⟨g0,0,none⟩) hl.length c0) (hl.set i ⟨p.kd,p.id,p.ts++[t],.slice (some ⟨g,0,none⟩) (p.ts.length+1) cap⟩):=by
 have hil:i<hl.length:=(br.1 hi).1;have U:p∈hl:=bA hi;have hpe:hl[i]=p:=by rw [aH hil] at hi;exact gu hi
 have J:w'.ownsRow base 282 3 (.slice (some ⟨g0,0,none⟩) hl.length c0) hl.length (hl.flatMap JK):=ay h.row (fun g cs f _ D=>I.block g (lt_of_some D) (dH (h.tup p U) D au));obtain ⟨Y,R,_⟩:=dx J;have hap:=iK.1 h.ap;refine ⟨?_,fun q V=> ?_,?_⟩
 ·have:=oh J (i*3+2) (.slice (some ⟨g,0,none⟩) (p.ts.length+1) cap);rw [fF,<-Ss p _ _ hl i hi];exact this
 ·obtain ⟨j,hj,rfl⟩:=dk V;rw [fF] at hj;refine bN ?_ R au _ _
  by_cases e:i=j
  ·exact PM
  rw [ju e];refine cC (h.tup _ (bn hj)) (fun k cs f hk D=>I.block k (lt_of_some D) (fun ek=> ?_));exact PQ
 ·refine iK.2 (fun a b ha hb' hab k hk e=> ?_);rw [fF] at ha hb';have old:∀j (hj:j<hl.length),j≠i->hl[j].tv.ownBlock=some k->g=k->False:=fun j hj hji hk e=>by
   subst e
   rcases Q with e|e
   ·exact PO
   have:=((h.tup _ (bn hj)).lt g hk).2;omega
  exact Xw
def hold_close{A:Nat}{ts:List Tu}(Z:n1=hl.length)(C:an W0 W)(D:JQ W0.heap.size W (.slice (some ⟨g0,0,none⟩) n1 c0) hl)(J:hl[i]? =some ⟨kd,id,ts,.slice pa A pc⟩)(ac:A=ts.length)
  (Q:(W.alloc o).drew.grownBy w5 (Value.slice pa A pc).ownBlock) (ab:w5.ownsRow W0.heap.size 123 6 (.slice (some ⟨g,0,none⟩) (A+1) cap) (A+1) (ts.flatMap jD++jD t)) (U:(Value.slice pa A pc).ownBlock=some g\/g=W.heap.size+1):
  an W0 (w5.setCell ⟨g0,i*3+2,none⟩ (.slice (some ⟨g,0,none⟩) (A+1) cap))/\JQ W0.heap.size (w5.setCell ⟨g0,i*3+2,none⟩ (.slice (some ⟨g,0,none⟩) (A+1) cap)) (.slice (some ⟨g0,0,none⟩) n1 c0) (hl.set i ⟨kd,id,ts++[t],.slice (some ⟨g,0,none⟩) (A+1) cap⟩):=by
 subst ac;subst Z;have I:an W ((W.alloc o).drew):=((az _ W).alloc aD o).drew;have R:=D.below I;obtain ⟨ad,ae,V⟩:=dx D.row;refine ⟨((C.trans (I.mono C.size)).grown Q (aP C.size I.size) (fun k Y=>((D.tup _ (bA J)).lt k Y).1)).setCell V _,?_⟩;exact R.put J Q ab (U.elim .inl (fun e=> .inr aM))
def Mf{p p'}(Q:gs.take (k+1)=gs.take k++[t])(J:Bo i t (hl.map lk)=dG (gs.take k++[t])/\hl.length<=k+1)(D:hl[i]? =some p)(C:∀h∈hl,h.ts.length<=k)(I:lk p'=⟨p.kd,p.id,p.ts++[t]⟩):
  (hl.set i p').map lk=dG (gs.take (k+1))/\(hl.set i p').length<=k+1/\∀h∈hl.set i p',h.ts.length<=k+1:=by
 refine ⟨?_,by rw [fF];exact J.2,fun h A=> ?_⟩
 ·rw [Q,<-J.1,pO,I];unfold Bo;rw [eo,D]
  rfl
 ·rcases rS A with A|rfl
  ·have:=C h A;omega
  have h1:h.ts=p.ts++[t]:=congrArg Hp.ts I;have h2:=C p (bA D);rw [h1,aZ];simp;omega
end
def Ei(l:List Hd)(t:Tu):(l.map lk).findIdx? (fun h=>lP h t)=l.findIdx? (fun h=>qN h t):=by
 rw [List.findIdx?_map]
 rfl
def Tryz.infoHo:(Tryz.prog.info? 282).map (fun i=>(i.zero,i.size,i.bytes))=some (some (.agg #[.string ⟨#[]⟩,.string ⟨#[]⟩,.slice none 0 0]),3,56):=by kernel_rfl
def Zt(gs:List Tu)(w:af)(e:Ending)(w':af):Prop:=∃hv hl,e=.returned hv/\an w w'/\JQ w.heap.size w' hv hl/\hl.map lk=dG gs/\hl.length<=gs.length/\∀h∈hl,h.ts.length<=gs.length
def Ej(gv gs w)(aY:w.ownsRow 0 123 6 gv gs.length (gs.flatMap jD))(b8:gs.length<=1000):
  Calls prog 98 #[gv] w (Zt gs w):=by
 obtain ⟨ga,gc,rfl⟩:=ax aY;obtain ⟨i0,bc,bk,bl,bo⟩:=bK Tryz.infoTu;obtain ⟨bS,bA,bN,bP,bQ⟩:=bK Tryz.infoHo;have a6:=ai bc;have a8:=ai bk;have a9:=ai bl;have bb:=ai bo;have br:=ai aY;clear aY bc bk bl bo;go_enter func98,ntmps98;go_wp2_with fail
 go_loopw [3,9] (fun bZ aZ wr=>∃(k:Nat)(hv:ag)(hl:List Hd),bZ=hv/\aZ=.int .i64 k/\k<=gs.length/\an w wr/\JQ w.heap.size wr hv hl/\Hid (hl.map lk=dG (gs.take k)/\hl.length<=k/\∀h∈hl,h.ts.length<=k)) (fun _ aZ _=>gs.length-(intOf aZ).toNat)
 case atStart=>exact ⟨0,_,[],rfl,rfl,aj,az _ _,⟨bL,(fun _ h=>by cases h),List.Pairwise.nil⟩,ai ⟨rfl,ar,(fun _ h=>by cases h)⟩⟩
 case round=>
  obtain ⟨k,hv,hl,rfl,rfl,b7,af,aw,Q⟩:=hrel;obtain ⟨ha,hc,rfl⟩:=ax aw.row
  by_cases bg:k<gs.length
  ·have bD:(k:Int)<(gs.length:Int):=by omega
   have HTK:=ai (show gs.take (k+1)=gs.take k++[gs[k]] from cJ bg);obtain ⟨g,c,e1,D⟩:=bf jD 6 (fun _=>rfl) (aB br.u af) k gs[k] (aH bg);simp only [aI] at e1;obtain ⟨rfl,_,rfl⟩:=e1;generalize gs[k]=t at*;have k0:wr.cell? ⟨g,k*6,none⟩=some (.string t.kind):=D 0 _ aj rfl;have k1:wr.cell? ⟨g,k*6+1,none⟩=some (.string t.id):=D 1 _ aj rfl;have bT:wr.cell? ⟨g,k*6+2,none⟩=some (.string t.rel):=D 2 _ aj rfl;have k3:wr.cell? ⟨g,k*6+3,none⟩=some (.string t.sub):=D 3 _ aj rfl;have bV:wr.cell? ⟨g,k*6+4,none⟩=some (.string t.who):=D 4 _ aj rfl;have bW:wr.cell? ⟨g,k*6+5,none⟩=some (.string t.of):=D 5 _ aj rfl;have a7:=ai (show ∀u∈jD t,u.oneCell'=true from by
    intro u bj;simp only [jD,bi,dK,dP] at bj
    rcases bj with rfl|rfl|rfl|rfl|rfl|rfl<;>rfl)
   refine Sr ?_;intro ba;have bv:=af.size;have aV:=ai (af.trans (ba.mono bv));have aJ:=ai (aw.below ba);have aW:=ai (show aE (wr.alloc (cw t.kind t.id t.rel t.sub t.who t.of)) wr.heap.size (kW t.kind t.id t.rel t.sub t.who t.of) 123 from aE.new wr _ _);have C:=ai (Hv w.heap.size _ hl t wr.heap.size _ (by have:=(ak Q).2.1;omega) aJ.u.row (fun x bM=>by obtain ⟨a,c,e⟩:=ax (aJ.u.tup x bM);exact ⟨a,_,c,e⟩) aW.u);have b6:=(ak Q).2.1;clear af aw D ba;go_wp2_with fail;refine C.u.mono ?_;rintro e al ⟨rfl,aP⟩;have V:=ai (aV.u.trans (aP.mono aV.u.size));have Y:=ai (aJ.u.below aP);have av:=ai (aW.u.below aP);clear aP C aV aJ aW k0 k1 bT k3 bV bW;unfold Ma
   cases aC:hl.findIdx? (fun h=>qN h t) with
   |some i=>
    have hi:i<hl.length:=(kS.1 aC).1;have HST:=ai (show Bo i t (hl.map lk)=dG (gs.take k++[t])/\hl.length<=k+1 from ⟨by rw [wH,<-(ak Q).1];unfold wG;rw [Ei,aC],aj⟩);have V9:=ai (ak Q).2.2;have b9:¬((i:Int)<0):=aj;clear Q aC;dsimp only;go_wp2_with fail;obtain ⟨U,bz⟩:∃l,l=hl:=⟨_,rfl⟩;obtain ⟨W,aX⟩:∃W,W=al:=⟨_,rfl⟩;have XW:=Y;have V8:=V;have TB:=av;clear Y V av;subst aX;subst bz;obtain ⟨g0,c0,e0,D⟩:=bf JK 3 (fun _=>rfl) XW.u.row (i) (U[i]) (aH hi);simp only [aI] at e0
    first
     |obtain ⟨rfl,hn1,rfl⟩:=e0
     |(simp only [aL,ce,fI,bU] at e0;obtain ⟨rfl,hn1,rfl⟩:=e0)
    have k7:W.cell? ⟨g0,i*3+2,none⟩=some U[i].tv:=D 2 _ aj rfl;have J:=XW.u.tup _ (bn hi);have HP:=ai (aH hi);have ac:=V9.u _ (bn hi);generalize U[i]=y at*;obtain ⟨b2,b0,aG,b3⟩:=y;simp only at k7 J ac;obtain ⟨pa,pc,rfl⟩:=ax J;obtain ⟨yn,ad⟩:∃n,n=aG.length:=⟨_,rfl⟩;rw [<-ad] at k7 J ac HP;have HYN:=ai ad;have ap:=ai J;obtain ⟨bs,hb0,bw⟩:=dx XW.u.row;have bR:=hb0.fz;have bE:¬(g0=W.heap.size):=by have:=hb0.lt;omega
    have bG:¬(wr.heap.size=W.heap.size):=by have:=TB.u.lt;omega
    have c7:(W.alloc (cw t.kind t.id t.rel t.sub t.who t.of)).cell? ⟨g0,i*3+2,none⟩=some (.slice pa yn pc):=am k7 ((az _ W).alloc aD _);refine Sq ?_;intro t0 t1 t2 t3 t4 t5 s0 s1 s2 s3 s4 s5;have bB:(0:Int)<=((i:Nat):Int):=aj;have bC:((i:Nat):Int)<((U.length:Nat):Int):=aj;refine Sn ?_;intro HB0 m7 m8 YG YH hbs HS HH PS;clear D J hb0 ad ac
    go_region_law (refine jY _ rfl (.tmp 32) (.tmp 34) 115 rfl w.heap.size 123 i0 _ 6 96 underlying115 a6.u a8.u a9.u bb.u rfl au (.slice pa yn pc) yn (aG.flatMap jD) gW (bO (ap.u.alloc _)) ⟨W.heap.size,0,none⟩ 1 1 (jD t) gW rfl (bu (B:=W.heap.size) (cs:=#[.string t.kind,.string t.id,.string t.rel,.string t.sub,.string t.who,.string t.of]) (t:=123) (fr:=(0,0)) (aE.new W _ _).drew) a7.u au YG.u YH.u HS.u (W.heap.size+1) HH.u ?_;intro g5 aT w5 aF R ay bx;have ab:=bO (ap.u.alloc (cw t.kind t.id t.rel t.sub t.who t.of));have I:=(HB0.u.alloc (cw t.kind t.id t.rel t.sub t.who t.of)).drew;have Z:aE w5 g0 _ 282:=(R.block g0 I.lt (own_ne ab I au)).trans I;have bY:w5.cell? ⟨g0,i*3+2,none⟩=some (.slice pa yn pc):=R.cell (w:=(W.alloc (cw t.kind t.id t.rel t.sub t.who t.of)).drew) c7 (own_ne ab I au);have zq:=Z.fz;have G5:=ai R;have O5:=ai aF;have A5:=ai ay;have bX:=Z.lt;clear ab I Z R aF ay)
    all_goals
     go_wp2;go_roundw
     case rel=>
      exact Sm
     case measure=>simp [intOf];omega
   |none=>
    have HST:=ai (show Bo hl.length t ((hl++[(⟨t.kind,t.id,[],.slice none 0 0⟩:Hd)]).map lk)=dG (gs.take k++[t])/\(hl++[(⟨t.kind,t.id,[],.slice none 0 0⟩:Hd)]).length<=k+1 from ⟨by rw [wH,<-(ak Q).1];unfold wG;rw [Ei,aC];simp [lk],aM⟩);have V9:=ai (show ∀h∈hl++[(⟨t.kind,t.id,[],.slice none 0 0⟩:Hd)],h.ts.length<=k from fun h ah=>by
     rcases aQ.1 ah with ah|ah
     ·exact (ak Q).2.2 h ah
     rw [aR] at ah;subst ah;simp)
    obtain ⟨t0,t1,t2,t3,t4,t5⟩:=av.u.six;have bJ:=V.u.size;clear Q aC;dsimp only;go_wp2_with (at_builtin;go_must (refine bI _ rfl _ _ 185 rfl w.heap.size 282 bS _ 3 56 underlying185 bA bN bP bQ rfl au (.slice ha hl.length hc) hl.length (hl.flatMap JK) rfl ?hown ⟨al.heap.size,0,none⟩ 1 1 [.string t.kind,.string t.id,.slice none 0 0] rfl rfl ?hnews ?hone au ?h63 ?hbytes ?hbase (al.heap.size+1) ?hH ?hrest))
    case hown=>exact Y.u.row.alloc _
    case hnews=>exact bu (B:=al.heap.size) (cs:=#[.string t.kind,.string t.id,.slice none 0 0]) (t:=282) (fr:=(0,0)) (aE.new _ _ _)
    case hone=>
     exact rB
    case h63=>unfold maxLen;omega
    case hbytes=>omega
    case hbase=>simp;omega
    case hH=>simp
    case hrest=>
     intro ae b4 bp bh aS bt b5;have aO:=(az al.heap.size al).alloc aD (.cells #[.string t.kind,.string t.id,.slice none 0 0] 282);have aK:=Y.u.below aO;have aN:=av.u.below aO;have XW:=ai (aK.push aS bh);have V8:=ai (ct (V.u.trans (aO.mono bJ)) aS aM (fun q bH=>(aK.row.lt q bH).1));have TB:=ai (show aE bp wr.heap.size _ 123 from (aS.block _ aN.lt (own_ne aK.row aN au)).trans aN);have hi:hl.length<(hl++[(⟨t.kind,t.id,[],.slice none 0 0⟩:Hd)]).length:=ar;clear aO aK aN bh aS bt Y V av t0 t1 t2 t3 t4 t5;go_wp2_with fail;obtain ⟨W,aX⟩:∃W,W=bp:=⟨_,rfl⟩;subst aX;generalize hl++[(⟨t.kind,t.id,[],.slice none 0 0⟩:Hd)]=U at*;obtain ⟨g0,c0,e0,D⟩:=bf JK 3 (fun _=>rfl) XW.u.row (hl.length) (U[hl.length]) (aH hi);simp only [aI] at e0
     first
      |obtain ⟨rfl,hn1,rfl⟩:=e0
      |(simp only [aL,ce,fI] at e0;obtain ⟨rfl,hn1,rfl⟩:=e0)
     have k7:W.cell? ⟨ae,hl.length*3+2,none⟩=some U[hl.length].tv:=D 2 _ aj rfl;have J:=XW.u.tup _ (bn hi);have HP:=ai (aH hi);have ac:=V9.u _ (bn hi);generalize U[hl.length]=y at*;obtain ⟨b2,b0,aG,b3⟩:=y;simp only at k7 J ac;obtain ⟨pa,pc,rfl⟩:=ax J;obtain ⟨yn,ad⟩:∃n,n=aG.length:=⟨_,rfl⟩;rw [<-ad] at k7 J ac HP;have HYN:=ai ad;have ap:=ai J;obtain ⟨bs,hb0,bw⟩:=dx XW.u.row;have bR:=hb0.fz;have bE:¬(ae=W.heap.size):=by have:=hb0.lt;omega
     have bG:¬(wr.heap.size=W.heap.size):=by have:=TB.u.lt;omega
     have c7:(W.alloc (cw t.kind t.id t.rel t.sub t.who t.of)).cell? ⟨ae,hl.length*3+2,none⟩=some (.slice pa yn pc):=am k7 ((az _ W).alloc aD _);refine Sq ?_;intro t0 t1 t2 t3 t4 t5 s0 s1 s2 s3 s4 s5;have bB:(0:Int)<=((hl.length:Nat):Int):=aj;have bC:((hl.length:Nat):Int)<((hl.length+1:Nat):Int):=aj;refine Sn ?_;intro HB0 m7 m8 YG YH hbs HS HH PS;clear D J hb0 ad ac
     go_region_law (refine jY _ rfl (.tmp 32) (.tmp 34) 115 rfl w.heap.size 123 i0 _ 6 96 underlying115 a6.u a8.u a9.u bb.u rfl au (.slice pa yn pc) yn (aG.flatMap jD) gW (bO (ap.u.alloc _)) ⟨W.heap.size,0,none⟩ 1 1 (jD t) gW rfl (bu (B:=W.heap.size) (cs:=#[.string t.kind,.string t.id,.string t.rel,.string t.sub,.string t.who,.string t.of]) (t:=123) (fr:=(0,0)) (aE.new W _ _).drew) a7.u au YG.u YH.u HS.u (W.heap.size+1) HH.u ?_;intro g5 aT w5 aF R ay bx;have ab:=bO (ap.u.alloc (cw t.kind t.id t.rel t.sub t.who t.of));have I:=(HB0.u.alloc (cw t.kind t.id t.rel t.sub t.who t.of)).drew;have Z:aE w5 ae _ 282:=(R.block ae I.lt (own_ne ab I au)).trans I;have bY:w5.cell? ⟨ae,hl.length*3+2,none⟩=some (.slice pa yn pc):=R.cell (w:=(W.alloc (cw t.kind t.id t.rel t.sub t.who t.of)).drew) c7 (own_ne ab I au);have zq:=Z.fz;have G5:=ai R;have O5:=ai aF;have A5:=ai ay;have bX:=Z.lt;clear ab I Z R aF ay)
     all_goals
      go_wp2;go_roundw
      case rel=>
       exact Sm
      case measure=>simp [intOf];omega
  have bD:¬((k:Int)<(gs.length:Int)):=aj;have be:k=gs.length:=aj;have Y:=ai aw;have V:=ai af;have bq:=ai (show hl.map lk=dG gs/\hl.length<=gs.length/\∀h∈hl,h.ts.length<=gs.length from by
   have:=ak Q;rw [be,kY] at this;exact this)
  clear af aw Q be;go_wp2;go_ret;exact ⟨_,hl,rfl,V.u,Y.u,bq.u⟩
abbrev mG:=@List.mem_append_left
abbrev pZ:=@List.mem_append_right
def eA{h t}:lP h t=true↔h.kd=t.kind/\h.id=t.id:=by
 unfold lP D8;rw [bM,bo,bo]
structure Su(gs:List Tu)(l:List Hp):Prop where
 ts:∀h∈l,h.ts=gs.filter (fun t=>lP h t)/\h.ts≠ []
 all:∀t∈gs,∃h∈l,lP h t=true
 ap:l.Pairwise fun a b=>¬(a.kd=b.kd/\a.id=b.id)
def oy{h t}:(gs++[t]).filter (fun t=>lP h t)=gs.filter (fun t=>lP h t)++(if lP h t=true then [t] else []):=by
 rw [List.filter_append]
 congr 1
 cases h1:lP h t<;>simp [h1]
def Mg{l}(H:Su gs l)(t):Su (gs++[t]) (wG l t):=by
 unfold wG
 cases Q:l.findIdx? (fun h=>lP h t) with
 |some i=>
  obtain ⟨hi,V,_⟩:=kS.1 Q;have U:=iK.1 H.ap;unfold Bo;dsimp only;rw [aH hi];dsimp only;have ad:=H.ts _ (bn hi);have ae:∀j (D:j<l.length),j≠i->lP l[j] t=false:=fun j D ac=>by
   cases Z:lP l[j] t with
   |false=>rfl
   |true=>
    have h1:=eA.1 Z;have h2:=eA.1 V;exfalso
    rcases vB ac with Y|Y
    ·exact U j i D hi Y ⟨by rw [h1.1,h2.1],by rw [h1.2,h2.2]⟩
    exact U i j hi D Y ⟨by rw [h1.1,h2.1],by rw [h1.2,h2.2]⟩
  refine ⟨fun h A=> ?_,fun u C=> ?_,?_⟩
  ·obtain ⟨j,D,rfl⟩:=dk A;rw [fF] at D
   by_cases e:i=j
   ·subst e;rw [jq];refine ⟨?_,ar⟩;rw [oy];have e1:lP ⟨l[i].kd,l[i].id,l[i].ts++[t]⟩ t=true:=V;rw [if_pos e1];dsimp only;rw [ad.1]
    rfl
   rw [ju e];have J:=H.ts _ (bn D);refine ⟨?_,J.2⟩;rw [oy,if_neg (by rw [ae j D (fun e'=>e e'.symm)];simp),eh];exact J.1
  ·rcases aQ.1 C with C|C
   ·obtain ⟨h,A,e⟩:=H.all u C;obtain ⟨j,D,rfl⟩:=dk A
    by_cases e':i=j
    ·subst e';exact ⟨⟨l[i].kd,l[i].id,l[i].ts++[t]⟩,List.mem_iff_getElem.2 ⟨i,by simpa using hi,by rw [jq]⟩,e⟩
    exact ⟨l[j],List.mem_iff_getElem.2 ⟨j,by simpa using D,by rw [ju e']⟩,e⟩
   rw [aR] at C;subst C;exact ⟨⟨l[i].kd,l[i].id,l[i].ts++[u]⟩,List.mem_iff_getElem.2 ⟨i,by simpa using hi,by rw [jq]⟩,V⟩
  refine iK.2 (fun a b ha I ab=> ?_);rw [fF] at ha I;have key:∀j (D:j<l.length),((l.set i ⟨l[i].kd,l[i].id,l[i].ts++[t]⟩)[j]'(by simpa using D)).kd=l[j].kd/\((l.set i ⟨l[i].kd,l[i].id,l[i].ts++[t]⟩)[j]'(by simpa using D)).id=l[j].id:=fun j D=>by
   by_cases e:i=j
   ·subst e;rw [jq];exact ⟨rfl,rfl⟩
   rw [ju e];exact ⟨rfl,rfl⟩
  rw [(key a ha).1,(key a ha).2,(key b I).1,(key b I).2];exact U a b ha I ab
 |none=>
  rw [o6] at Q;have e:Bo l.length t (l++[⟨t.kind,t.id,[]⟩])=l++[⟨t.kind,t.id,[t]⟩]:=by
   unfold Bo;simp
  dsimp only;rw [e];refine ⟨fun h A=> ?_,fun u C=> ?_,?_⟩
  ·rcases aQ.1 A with A|A
   ·have J:=H.ts h A;refine ⟨?_,J.2⟩;rw [oy,if_neg (by rw [Q h A];simp),eh];exact J.1
   rw [aR] at A;subst A;refine ⟨?_,ar⟩;have e1:lP ⟨t.kind,t.id,[t]⟩ t=true:=eA.2 ⟨rfl,rfl⟩;rw [oy,if_pos e1,List.filter_eq_nil_iff.2 (fun u C=> ?_)]
   ·rfl
   intro Z;obtain ⟨h,A,R⟩:=H.all u C;have h1:=eA.1 Z;have h2:=eA.1 R;have:=Q h A;rw [eA.2 ⟨h2.1.trans h1.1.symm,h2.2.trans h1.2.symm⟩] at this
   cases this
  ·rcases aQ.1 C with C|C
   ·obtain ⟨h,A,e⟩:=H.all u C;exact ⟨h,mG _ A,e⟩
   rw [aR] at C;subst C;exact ⟨_,pZ _ (aR.2 rfl),eA.2 ⟨rfl,rfl⟩⟩
  refine AG.2 ⟨H.ap,ar,fun a ha b I=> ?_⟩;rw [aR] at I;subst I;rintro ⟨e1,R⟩;have:=Q a ha;rw [eA.2 ⟨e1,R⟩] at this
  cases this
def zu:∀(gs pre:List Tu)(l:List Hp),Su pre l->Su (pre++gs) (gs.foldl wG l)
 | [],pre,l,H=>by simpa using H
 |t::gs,pre,l,H=>by
  have:=zu gs (pre++[t]) _ (Mg H t)
  simpa using this
def iU(gs):Su gs (dG gs):=zu gs [] [] ⟨(fun _ h=>by cases h),(fun _ h=>by cases h),List.Pairwise.nil⟩
def Zu{l:List Hp}(h:l.Pairwise fun a b=>¬(a.kd=b.kd/\a.id=b.id)){a b:Hp}(ha:a∈l)(J:b∈l)(e1:a.kd=b.kd)(C:a.id=b.id):a=b:=by
 obtain ⟨i,hi,rfl⟩:=dk ha;obtain ⟨j,I,rfl⟩:=dk J;have D:=iK.1 h
 rcases Nat.lt_trichotomy i j with A|rfl|A
 ·exact absurd ⟨e1,C⟩ (D i j hi I A)
 ·rfl
 exact absurd ⟨e1.symm,C.symm⟩ (D j i I hi A)
def Zv(h:hl.map lk=dG gs):∀x∈hl,∀y∈hl,x.kd=y.kd->x.id=y.id->x=y:=fun x R y U e1 C=>by
 obtain ⟨i,hi,rfl⟩:=dk R;obtain ⟨j,J,rfl⟩:=dk U;have D:=iK.1 (iU gs).ap;rw [<-h] at D;have k:∀a b (ha:a<hl.length) (I:b<hl.length),a<b->¬(hl[a].kd=hl[b].kd/\hl[a].id=hl[b].id):=fun a b ha I Q=>by
  have:=D a b (by simpa using ha) (by simpa using I) Q
  simpa [lk] using this
 rcases Nat.lt_trichotomy i j with A|rfl|A
 ·exact absurd ⟨e1,C⟩ (k i j hi J A)
 ·rfl
 exact absurd ⟨e1.symm,C.symm⟩ (k j i J hi A)
structure Sh where
 k:Nat
 n:ae
 m:ae
 l:Option Sh
 r:Option Sh
def jz:Sh:=⟨0,⟨#[]⟩,⟨#[]⟩,none,none⟩
def XX(n:ae):Sh:=⟨1,n,⟨#[]⟩,none,none⟩
def XY(n m:ae):Sh:=⟨2,n,m,none,none⟩
def Ek(x y:Sh):Sh:=⟨3,⟨#[]⟩,⟨#[]⟩,some x,some y⟩
def Sz(x y:Sh):Sh:=⟨4,⟨#[]⟩,⟨#[]⟩,some x,some y⟩
def SC(x y:Sh):Sh:=⟨5,⟨#[]⟩,⟨#[]⟩,some x,some y⟩
def SD:Ex->Sh
 |⟨n,some x,some y⟩=>if n.kind=3 then Ek (SD x) (SD y) else if n.kind=4 then Sz (SD x) (SD y) else SC (SD x) (SD y)
 |⟨n,none,_⟩=>if n.kind=0 then jz else if n.kind=1 then XX n.n1 else XY n.n1 n.n2
 |⟨_,some _,none⟩=>jz
def hu(kb:Sj->Bool)(who:Tg)(kd id:ae)(ts:List Tu)(rel:ae):Sh->Bool
 |⟨k,_,_,some x,some y⟩=>if k=3 then hu kb who kd id ts rel x||hu kb who kd id ts rel y else if k=4 then hu kb who kd id ts rel x&&hu kb who kd id ts rel y else hu kb who kd id ts rel x&& !hu kb who kd id ts rel y
 |⟨k,n,m,none,_⟩=>if k=0 then ts.any (fun t=>decide (t.rel=rel)&&gR kb who (fb t)) else if k=1 then kb ⟨kd,id,n⟩ else ts.any (fun t=>decide (t.rel=n)&&HK kb (fb t) m)
 |⟨_,_,_,some _,none⟩=>false
def oB(kb who kd id ts rel):∀e,Bj e->cN kb who kd id ts rel e=hu kb who kd id ts rel (SD e)
 |⟨n,some x,some y⟩,h=>by
  have A:=oB kb who kd id ts rel x h.1;have C:=oB kb who kd id ts rel y h.2;rw [cN,SD,A,C]
  split
  ·simp [Ek,hu]
  split
  ·simp [Sz,hu]
  simp [SC,hu]
 |⟨n,none,r⟩,_=>by
  rw [cN,SD]
  split
  ·simp [jz,hu]
  split
  ·simp [XX,hu]
  simp [XY,hu]
 |⟨n,some x,none⟩,h=>h.elim
section
variable {kd id:ae}{ts:List Tu}{rel:ae}{s:Sj}
end
structure R3 where
 kd:ae
 nm:ae
 sh:Sh
def mW(x:TR):R3:=⟨x.1.name,x.2.name,SD x.2.body⟩
def lQ(g:List R3)(hs:List Hp)(s:Sj):Prop:=∃x∈g,∃h∈hs,h.kd=x.kd/\s=⟨h.kd,h.id,x.nm⟩
def BClo(who:Tg)(hs:List Hp)(g:List R3)(kb:Sj->Bool):Prop:=∀x∈g,∀h∈hs,h.kd=x.kd->hu kb who h.kd h.id h.ts x.nm x.sh=true->kb ⟨h.kd,h.id,x.nm⟩=true
structure El(who:Tg)(hs:List Hp)(g:List R3)(k0 kb:Sj->Bool):Prop where
 old:∀s,¬lQ g hs s->kb s=k0 s
 fix:∀x∈g,∀h∈hs,h.kd=x.kd->hu kb who h.kd h.id h.ts x.nm x.sh=kb ⟨h.kd,h.id,x.nm⟩
 least:∀k',(∀s,¬lQ g hs s->k' s=k0 s)->BClo who hs g k'->∀s,kb s=true->k' s=true
def oI(who:Tg)(hs:List Hp):List (List R3)->(Sj->Bool)->(Sj->Bool)->Prop
 | [],k,k'=>k'=k
 |g::gs,k,k'=>∃k1,El who hs g k k1/\oI who hs gs k1 k'
variable {hs:List Hp}
def wI{g s}:lQ (g.map mW) hs s↔HZ g hs s:=by
 constructor
 ·rintro ⟨x,I,h,C,e1,A⟩;obtain ⟨p,D,rfl⟩:=aN.1 I;exact ⟨p,D,h,C,e1,A⟩
 rintro ⟨p,D,h,C,e1,A⟩;exact ⟨_,aN.2 ⟨p,D,rfl⟩,h,C,e1,A⟩
def Bp(K:Sj->Nat)(i:Nat)(k:Sj->Bool):Sj->Nat:=fun s=>if (K s).testBit i=k s then K s else K s ^^^ 2 ^ i
def qO(K i k s j):(Bp K i k s).testBit j=if j=i then k s else (K s).testBit j:=by
 unfold Bp
 by_cases h:(K s).testBit i=k s
 ·rw [if_pos h]
  split
  ·rename_i e;rw [e,h]
  rfl
 rw [if_neg h,Nat.testBit_xor]
 split
 ·rename_i e;subst e;rw [Hw]
  revert h
  cases (K s).testBit j<;>cases k s<;>simp
 rename_i e;rw [Hz (fun e'=>e e'.symm)];simp
def sol_b{cs g K0 K}(h:Sol cs hs g K0 K)(ab:cs.length<=64)(Z:cs[i]? =some who)(ag:∀x∈g,Bj x.2.body):El who hs (g.map mW) (fun s=>(K0 s).testBit i) (fun s=>(K s).testBit i):=by
 have hi:i<cs.length:=(br.1 Z).1;have V:∀(K:Sj->Nat),(∀s,oH cs.length (K s))->∀x∈g,∀y:Hp,∀j w',cs[j]? =some w'->(rX K cs x y).testBit j=hu (fun s=>(K s).testBit j) w' y.kd y.id y.ts x.2.name (SD x.2.body):=fun K ho x C y j w' I=>by
  unfold rX;rw [n4 ⟨K,cs,y.kd,y.id,y.ts⟩ (fun s=>pY ab (ho s)) ab I,oB _ _ _ _ _ _ _ (ag x C)]
 refine ⟨fun s Q=>congrArg (fun n=>Nat.testBit n i) (h.old s (fun e=>Q (wI.2 e))),fun x C y R e=> ?_,fun D ah ae s af=> ?_⟩
 ·obtain ⟨p,ad,rfl⟩:=aN.1 C;have:=h.fix p ad y R e;have J:=V K h.out p ad y i who Z;rw [this] at J;exact J.symm
 have Y:∀s,oH cs.length (Bp K i D s):=fun s j A=>by
  rw [qO,if_neg aj];exact h.out s j A
 have:=h.least (Bp K i D) Y (fun s Q=> ?_) (fun x C y R e j A=> ?_) s i af
 ·rw [qO,if_pos rfl] at this;exact this
 ·unfold Bp;have e1:=ah s (fun e=>Q (wI.1 e));have J:=h.old s Q;rw [if_pos (by rw [e1,J]),J]
 rw [qO]
 by_cases ac:j<cs.length
 ·have I:cs[j]? =some cs[j]:=aH ac;rw [V _ Y x C y j _ I] at A
  by_cases e':j=i
  ·subst e';rw [if_pos rfl];rw [Z] at I;obtain rfl:=gu I;have U:(fun s=>(Bp K j D s).testBit j)=D:=by
    funext s
    rw [qO,if_pos rfl]
   rw [U] at A;exact ae (mW x) (aN.2 ⟨x,C,rfl⟩) y R e A
  rw [if_neg e'];have U:(fun s=>(Bp K i D s).testBit j)=fun s=>(K s).testBit j:=by
   funext s
   rw [qO,if_neg e']
  rw [U,<-V K h.out x C y j _ I,h.fix x C y R e] at A;exact A
 have:(rX (Bp K i D) cs x y).testBit j=false:=lO ⟨Bp K i D,cs,y.kd,y.id,y.ts⟩ Y _ _ j (by simpa using ac);rw [this] at A
 cases A
def JR{cs hs i who}(A:cs.length<=64)(C:cs[i]? =some who):∀{gs:List (List TR)} {K0 K:Sj->Nat},(∀g∈gs,∀x∈g,Bj x.2.body)->Run cs hs gs K0 K->oI who hs (gs.map (List.map mW)) (fun s=>(K0 s).testBit i) (fun s=>(K s).testBit i)
 | [],K0,K,_,h=>by rw [show K=K0 from h];rfl
 |g::gs,K0,K,hwf,⟨K1,h1,h2⟩=>⟨_,sol_b h1 A C (hwf g eb),JR A C (fun g' D=>hwf g' (eO _ D)) h2⟩
def SE{g:List R3}{I a b:Sj->Bool}(h:El who hs g I a)(k:El who hs g I b):a=b:=by
 funext s
 rw [gJ];exact ⟨h.least b k.old (fun x C y D e A=>by rw [<-k.fix x C y D e];exact A) s,k.least a h.old (fun x C y D e A=>by rw [<-h.fix x C y D e];exact A) s⟩
def Em{who:Tg}{hs:List Hp}:∀{gs:List (List R3)} {k a b:Sj->Bool},oI who hs gs k a->oI who hs gs k b->a=b
 | [],k,a,b,h,h'=>h.trans h'.symm
 |g::gs,k,a,b,⟨k1,h1,h2⟩,⟨k2,h3,h4⟩=>by
  obtain rfl:=SE h1 h3;exact Em h2 h4
def wJ{who:Tg}{hs:List Hp}:∀{gs gs':List (List R3)} {k b:Sj->Bool},oI who hs (gs++gs') k b->∃a,oI who hs gs k a/\oI who hs gs' a b
 | [],gs',k,b,h=>⟨k,rfl,h⟩
 |g::gs,gs',k,b,⟨k1,h1,h2⟩=>by
  obtain ⟨a,A,C⟩:=wJ h2;exact ⟨a,⟨k1,h1,A⟩,C⟩
def qP{who:Tg}{hs:List Hp}:∀{gs:List (List R3)} {k a:Sj->Bool},oI who hs gs k a->∀s,(∀g∈gs,¬lQ g hs s)->a s=k s
 | [],k,a,h,s,_=>by rw [show a=k from h]
 |g::gs,k,a,⟨k1,h1,h2⟩,s,hn=>by
  rw [qP h2 s (fun g' A=>hn g' (eO _ A)),h1.old s (hn g eb)]
def nb(c:UInt8):ae:=⟨#[c]⟩
