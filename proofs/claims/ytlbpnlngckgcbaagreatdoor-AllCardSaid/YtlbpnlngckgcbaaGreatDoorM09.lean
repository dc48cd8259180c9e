import Derived.Test.YtlbpnlngckgcbaaGreatDoorM03
set_option linter.all false
set_option maxHeartbeats 4000000
set_option maxRecDepth 100000
namespace Go.Proofs.YtlbpnlngckgcbaaGreatDoor
open Go.RowKit Go.PlainAid Go.Proofs.Tryz
variable {aD br:Prop} {w:af} {v sv tv:ag} {base' k b:Nat} {ts:List Ty} {t:Ty} {r:Rl} {P:Program} {rest:List Oper}
abbrev jB(a0:ag)(a1:ag):Obj:=.cells #[a0,a1] 291
abbrev Sp:=ae×ae
def FO(s:Sp):List ag:=[aj s.1,aj s.2]
def bI(l:List Sp):List ag:=l.flatMap FO
def Ot(s):∀(l:List Sp)(i:Nat),l[i]? =some s->(bI l)[i*2]? =some (aj s.1)/\(bI l)[i*2+1]? =some (aj s.2)
 | [],i,h=>by simp at h
 |e'::l,0,h=>by simp at h;subst h;simp [bI,FO]
 |e'::l,i+1,h=>by
  have:=Ot s l i nf;rw [show bI (e'::l)=FO e'++bI l from rfl,show (i+1)*2=i*2+2 by omega]
  simpa [FO] using this
def Row2.cell{base l}(h:w.ownsRow base 291 2 v l.length (bI l))(i s)(hi:l[i]? =some s):
  ∃q c,v=aw (some (aN q)) l.length c/\w.cell? (aC q (i*2))=some (aj s.1)/\w.cell? (aC q (i*2+1))=some (aj s.2):=by
 obtain ⟨h0,h1⟩:=Ot s l i hi;obtain ⟨q,c,rfl,e0⟩:=aZ h _ _ h0;obtain ⟨C,A,e',e1⟩:=aZ h _ _ h1;simp only [aK,aR,cg] at e';obtain ⟨⟨rfl,_⟩,_⟩:=e';exact ⟨q,c,rfl,e0,e1⟩
def en(a c):bI (a++c)=bI a++bI c:=by simp [bI]
def cE(a):(bI a).length=a.length*2:=by
 induction a with
 |nil=>rfl
 |cons g r ih=>simp [bI,FO] at*;omega
def Ou(l):∀u∈bI l,u.oneCell'=true:=by
 intro u h;unfold bI at h;rw [b6] at h;obtain ⟨g,_,h⟩:=h;simp [FO] at h
 rcases h with rfl|rfl<;>rfl
def Tryz.info291:(Tryz.prog.info? 291).map (fun i=>(i.zero,i.size,i.bytes))=some (some (.agg #[aj ⟨#[]⟩,aj ⟨#[]⟩]),2,32):=by kernel_rfl
def ii(base:Nat)(w:af)(sv:ag)(l:List Sp):Prop:=w.ownsRow base 291 2 sv l.length (bI l)/\(l=[]->sv=aw none 0 0)
def ii.nil(base w):ii base w (aw none 0 0) []:=⟨bQ,fun _=>rfl⟩
def ii.form{base l}(h:ii base w sv l):∃a c,sv=aw a l.length c:=ax h.1
def ii.base{base l}(h:ii base w sv l)(A:base'<=base):ii base' w sv l:=⟨bn h.1 A,h.2⟩
def l9(g:Gr):Option Sp:=if g.reach=2 then some (g.ty,g.rel) else none
def Az(k:Nat)(gs:List Gr):List Sp:=(gs.take k).filterMap l9
def mf(r:Rl):List Sp:=(bR r.body).filterMap l9
def Lk{gs g}(h:gs[k]? =some g):Az (k+1) gs=Az k gs++(l9 g).toList:=by
 have C:k<gs.length:=by
  exact Ol
 rw [aI C] at h;simp only [aR] at h;unfold Az;rw [cD C,List.filterMap_append,h]
 cases D:l9 g<;>simp [D]
def UP(k gs):(Az k gs).length<=k:=by
 unfold Az;have:=uT l9 (gs.take k);rw [dZ] at this;omega
def CZ(b r v w)(aZ:b<w.heap.size)(h:bA b w r.body v)(aR:(aF r.body).length<=1000)(aM:(bR r.body).length<=1000)(aV:WF r.body):
  Calls prog 225 #[.agg #[ar r.place,aj r.name,v]] w fun e' w'=>∃sv,e'=bj sv/\an w w'/\ii w.heap.size w' sv (mf r):=by
 obtain ⟨aW,rv,rfl⟩:=h.isI;go_enter func225,ntmps225;go_wp2_with fail;refine (pp r.place r.name b r.body _ _ aS (h.but ((But.refl b w).alloc _)) aR aM aV).mono ?_;rintro e J ⟨gv,rfl,ab,al⟩;obtain ⟨ga,gc,rfl⟩:=ax al;have Q:=((aA _ w).alloc aH (cC ar r.place aj r.name aW rv)).trans (ab.mono au);have am:=Q.size;clear ab;go_wp2_with fail
 go_loopw [3,9] (fun aX aY wr=>∃(k:Nat)(sv:ag),k<=(bR r.body).length/\aY=ar k/\aX=sv/\an J wr/\ii J.heap.size wr sv (Az k (bR r.body))) (fun _ u _=>(bR r.body).length-(intOf u).toNat)
 ·exact ⟨0,_,ai,rfl,rfl,aA _ _,ii.nil _ _⟩
 ·obtain ⟨k,sv,ae,rfl,aU,A,ho⟩:=hrel;obtain ⟨sa,sc,aT⟩:=ho.form;have a6:=UP k (bR r.body);have ah:=ho.2;have C:=ho.1;generalize V:Az k (bR r.body)=L at*;have D:=ak V;clear V;subst aT;subst aU;have ap:=A.size
  by_cases af:k<(bR r.body).length
  ·have aP:(k:Int)<((bR r.body).length:Int):=by omega
   obtain ⟨q,c,e1,k0,k1,a7,k3,a8⟩:=UK.cell (az (w':=wr) al (fun g cs f _ aO=>A.block g (lt_of_some aO))) k (bR r.body)[k] (aI af);simp only [aK] at e1;obtain ⟨rfl,_,rfl⟩:=e1;have ac:(bR r.body)[k]? =some (bR r.body)[k]:=aI af;generalize (bR r.body)[k]=g at*;have R:=ak (Lk ac);clear ho ac
   by_cases h2:g.reach=2
   ·have aJ:((g.reach:Int)==2)=true:=by rw [h2];rfl
    have I:l9 g=some (g.ty,g.rel):=by simp [l9,h2]
    clear h2;go_wp2_with (at_builtin;go_must (refine ez rfl underlying288 Tryz.info291 J.heap.size ((C.alloc _).alloc _) (wr.heap.size+1) 1 (FO (g.ty,g.rel)) (wr.heap.size+2) ?hrest))
    case hrest=>
     intro aG aE a9 aQ ad aL a5;have U:=(C.alloc (gJ ar g.tp aj g.ty ar g.reach ar g.rp aj g.rel)).alloc (jB aj g.ty aj g.rel);have av:=cA ((A.alloc ap (gJ ar g.tp aj g.ty ar g.reach ar g.rp aj g.rel)).alloc aS (jB aj g.ty aj g.rel)) ad aS (fun k ae=>(U.lt k ae).1);clear ad aL U;go_wp2;go_roundw
     ·exact ⟨k+1,aw (some (aN aG)) (L.length+1) aE,ai,by go_num,rfl,av,by rw [R.u,I,D.u];exact ⟨by rw [Option.toList_some,List.length_append,en];exact aQ,fun h=>by simp at h⟩⟩
     simp [intOf];omega
   have aJ:((g.reach:Int)==2)=false:=by rw [bW];omega
   have I:l9 g=none:=by simp [l9,h2]
   have ay:=A.alloc ap (gJ ar g.tp aj g.ty ar g.reach ar g.rp aj g.rel);have aC:=C.alloc (gJ ar g.tp aj g.ty ar g.reach ar g.rp aj g.rel);clear h2;go_wp2;go_roundw
   ·exact ⟨k+1,aw sa L.length sc,ai,by go_num,rfl,ay,by rw [R.u,I,D.u];exact ⟨by simpa using aC,fun h=>ah nf⟩⟩
   simp [intOf];omega
  have aP:¬((k:Int)<((bR r.body).length:Int)):=ai;have Z:Az k (bR r.body)=mf r:=by
   unfold Az mf;rw [cY ai]
  have Y:L=mf r:=D.u.symm.trans Z;have aB:=ak Y;clear ho Z Y;go_wp2;go_ret;exact ⟨aw sa L.length sc,rfl,Q.trans (A.mono am),by rw [<-aB.u];exact ⟨bn C am,ah⟩⟩
def Ov(b tp p1 p2:Nat)(n1 n2 sv ts tl t tv rl w)(h:MC b w sv ts tl)(I:RC b w tv t.rels rl):
  Calls prog 223 #[.agg #[sv],.agg #[ar t.place,aj t.name,tv],.agg #[ar tp,ar p1,aj n1,ar p2,aj n2]] w fun e' w'=>∃(xM:ag)(A:List E3),e'=bj xM/\an w w'/\w'.ownsRow w.heap.size 110 3 xM A.length (A.flatMap c3)/\A.map (fun e=>e.2.1)=(nk ts t n1 n2).map Ty.name/\A.length<=1000/\∀e∈A,∃a n c,e.2.2=aw a n c:=by
 unfold nk
 cases D:b9 t n1 with
 |none=>
  refine (Lj b tp p1 p2 n1 n2 sv ts tl t tv rl w h I D).mono ?_;rintro e w' ⟨rfl,C⟩;exact ⟨_,[],rfl,C,bQ,rfl,au,au⟩
 |some r=>
  refine (yD b tp p1 p2 n1 n2 sv ts tl t tv rl w h I r D).mono ?_;rintro e w' ⟨xM,A,rfl,C,h1,h2,J⟩;refine ⟨_,A,rfl,C,h1,h2,?_,J⟩;have e1:=congrArg List.length h2;rw [bO,bO] at e1;have Q:=uT (iM ts n2) (bR r.body);have R:=I.okg r (gH D);omega
abbrev fT:=@List.map_map
abbrev py:=@Sem.run_bind
abbrev bZ:=@List.map_cons
abbrev pz:=@List.map_nil
def Ow(q:br) (h:cj br->aD:=by
 intro zq;unfold Oper.wp execOp;simp only [ho,resolve,invoke,builtin,py,Sem.run_pure,Result.andThen_ok,List.map_toArray,bZ,pz,hs,hx,hr];exact zq.1):aD:=h ⟨q⟩
def dU(ts:List Ty)(t:Ty)(r:Rl)(p:Ex):List Sp:=match p.l with
 |some _=>[]
 |none=>if p.nd.kind=0 then mf r
  else if p.nd.kind=1 then [(t.name,p.nd.n1)]
  else (nk ts t p.nd.n1 p.nd.n2).map fun u=>(u.name,p.nd.n2)
def dw(ts:List Ty)(t:Ty)(r:Rl)(e:Ex):List Sp:=(aF e).flatMap (dU ts t r)
def NK(ts:List Ty)(t:Ty)(r:Rl)(e:Ex)(k:Nat):List Sp:=((aF e).take k).flatMap (dU ts t r)
def Js{e p}(hk:(aF e)[k]? =some p):NK ts t r e (k+1)=NK ts t r e k++dU ts t r p:=by
 unfold NK;have A:k<(aF e).length:=by
  exact N8
 rw [cD A,cN];rw [aI A] at hk;simp only [aR] at hk;simp [hk]
def UT(r):(mf r).length<=(bR r.body).length:=uT _ _
def Ox{rl}(ts t)(A:RC b w tv t.rels rl)(x y):(nk ts t x y).length<=1000:=by
 unfold nk
 cases h:b9 t x with
 |none=>simp
 |some r=>
  have C:=uT (iM ts y) (bR r.body);have D:=A.okg r (gH h);simp only;omega
def yF{rl}(ts t)(h:RC b w tv t.rels rl)(r)(A:(bR r.body).length<=1000)(p):(dU ts t r p).length<=1000:=by
 unfold dU;have h1:=UT r
 split
 ·simp
 split
 ·omega
 split
 ·simp
 simpa using (Ox ts t h p.nd.n1 p.nd.n2)
def Oy{b w tv rl}(ts t)(C:RC b w tv t.rels rl)(r)(A:(bR r.body).length<=1000)(e):∀k,(NK ts t r e k).length<=1000*k
 |0=>by simp [NK]
 |k+1=>by
  have D:=Oy ts t C r A e k
  rcases fE k (aF e).length with h|h
  ·rw [Js (aI h),List.length_append];have:=yF ts t C r A (aF e)[k];omega
  have:NK ts t r e (k+1)=NK ts t r e k:=by
   unfold NK;rw [cY ai,cY h]
  rw [this];omega
def pA{A:Array Oper}{o:Oper}{a:Act}{Q:Exit->Act->af->Prop}(D:o.guard=none)(s x:Operand)(t:TypeId)
  (ho:o.op=.call {callee:=.builtin .append,args:=#[s,x],argTypes:=#[t,t]}) (v:ag) (hs:a.eval s=v) (hx:a.eval x=aw none 0 0)
  (hr:∀ty,(Builtin.append_ #[t,t] ty #[v,aw none 0 0]).run P w=.ok v w)
  (h:wpList P A Q rest (a.put o.dst v) w):wpList P A Q (o::rest) a w:=
 wpList_plain D fun _ C=>by
  refine Ow ?_;exact C _ _ h
def rJ(b Q ts tl t tv rl r bv e ev w)(h:MC b w Q ts tl)(af:RC b w tv t.rels rl)(bJ:bA b w r.body bv)(a8:r∈t.rels)(bz:bA b w e ev)(dg:(aF e).length<=1000):
  Calls prog 177 #[.agg #[Q],.agg #[ar t.place,aj t.name,tv],.agg #[ar r.place,aj r.name,bv],ev] w fun e' w'=>∃Q,e'=bj Q/\an w w'/\ii w.heap.size w' Q (dw ts t r e):=by
 obtain ⟨i0,hi,cg,ch,ci⟩:=eL Tryz.info291;have bV:=ak hi;have cQ:=ak cg;have cR:=ak ch;have cS:=ak ci;clear hi cg ch ci;obtain ⟨aX,mn,mc,rfl⟩:=h.form;obtain ⟨bi,bl,bk,rfl⟩:=af.form;obtain ⟨bh,rv,rfl⟩:=bJ.isI;obtain ⟨dq,ex,rfl⟩:=bz.isI;have W0:an w (((w.alloc (aY aw aX mn mc)).alloc (ba ar t.place aj t.name aw bi bl bk)).alloc (cC ar r.place aj r.name bh rv)):=((bp.alloc aH _).alloc au _).alloc aS _;have bX:=ak (h.below W0);have cJ:=ak (af.below W0);have cO:=ak (bJ.but (But.of_below W0));have cz:=ak (bz.but (But.of_below W0));have cX:=ak (((aL.new w #[aw aX mn mc] 75).alloc (ba ar t.place aj t.name aw bi bl bk)).alloc (cC ar r.place aj r.name bh rv));have db:=ak ((aL.new' (w.alloc (aY aw aX mn mc)) #[ar t.place,aj t.name,aw bi bl bk] 110 (w.heap.size+1) au).alloc (cC ar r.place aj r.name bh rv));have c5:=ak (aL.new' ((w.alloc (aY aw aX mn mc)).alloc (ba ar t.place aj t.name aw bi bl bk)) #[ar r.place,aj r.name,.iface bh rv] 159 (w.heap.size+2) au);have okp:=af.okp r a8;have okg:=af.okg r a8;have cN:=ak (af.wf r a8);have cH:=ak (Oy ts t af r okg e);have cG:=ak (yF ts t af r okg);have b0:=ak W0;clear W0 h af bJ a8 bz;go_enter func177,ntmps177;go_wp2_with fail;refine (oh e b _ _ (bX.u.blt) cz.u dg).mono ?_;rintro e1 Y ⟨dJ,rfl,Z,l,l1,l2,bM⟩;obtain ⟨dH,oc,rfl⟩:=ax bM;have dE:l.length=(aF e).length:=by rw [<-l1];simp
 have bT:=ak (b0.u.trans (Z.mono b0.u.size));have cT:=ak l1;have cU:=ak l2;have cV:=ak bM;have cW:=ak (bX.u.below Z);have c6:=ak (cJ.u.below Z);have da:=ak (cO.u.but (But.of_below Z));have b2:=ak (cX.u.below Z);have b4:=ak (db.u.below Z);have b3:=ak (c5.u.below Z);have cl:=bT.u.size;clear Z l1 l2 bM;have f0:=h7;have f1:=hJ;have f2:=hK;have f3:=eW;have f4:=gB;have f5:=h9;have dr:=l4;have ds:=l5;have dt:=ja;have du:=kI;have g5:=kK;have h2:=l6;have dv:=jb;have dy:=kJ;have dz:=kL;go_wp2_with fail
 go_loopw [9,20] (fun bQ dl wr=>∃(k:Nat)(Q:ag),k<=(aF e).length/\dl=ar k/\bQ=Q/\an Y wr/\ii Y.heap.size wr Q (NK ts t r e k)) (fun _ u _=>(aF e).length-(intOf u).toNat)
 ·exact ⟨0,_,ai,rfl,rfl,aA _ _,ii.nil _ _⟩
 ·obtain ⟨k,Q,ap,rfl,bL,I,ho⟩:=hrel;obtain ⟨sa,sc,bK⟩:=ho.form;have dC:=cH.u k;have bG:=ho.2;have bH:=ho.1;generalize b7:NK ts t r e k=L at*;have al:=ak b7;clear b7;subst bK;subst bL;have aG:=ak I;have a5:=ak bG;have am:=ak bH;have bS:=I.size
  by_cases dD:k<(aF e).length
  ·have bF:k<l.length:=by omega
   obtain ⟨bN,c1,e1,cj⟩:=aZ (az (w':=wr) cV.u (fun g cs f _ U=>I.block g (lt_of_some U))) k l[k].2 (by simp [aI bF]);simp only [aK] at e1;obtain ⟨rfl,_,rfl⟩:=e1;have av:=(cU.u l[k] (bu bF)).but (b:=b) (But.of_below I);have bE:(aF e)[k]? =some l[k].1:=by rw [<-cT.u];simp [aI bF]
   generalize l[k]=q at*;obtain ⟨bN,dI⟩:=q;simp only at cj av bE;have df:(k:Int)<((aF e).length:Int):=ai;have J:=ak (Js (ts:=ts) (t:=t) (r:=r) bE);have ac:=cG.u bN;have dF:wr.cell? (aN w.heap.size)=some (aw aX mn mc):=(b2.u.below I).cell rfl;have dG:=(b2.u.below I).lt;obtain ⟨dN,dO,dP⟩:=(b4.u.below I).three;have dQ:=(b4.u.below I).lt;obtain ⟨dS,dV,dW⟩:=(b3.u.below I).three;have dX:=(b3.u.below I).lt;have bY:=ak (cW.u.below I);have cL:=ak (c6.u.below I);have cP:=ak (da.u.but (But.of_below I));have dp:=bY.u.blt;clear I ho bG bH bE
   match bN,av,ac,J with
   |⟨nq,some xq,some yq⟩,⟨vx,vy,hv,rx,ry⟩,ac,J=>
    subst hv;clear rx ry
    rcases pw nq.kind with be|be|be
    all_goals
     rw [be] at cj;clear be;go_wp2;go_roundw
     ·exact ⟨k+1,aw sa L.length sc,ai,by go_num,rfl,aG.u,by rw [aE J,al.u];simp only [dU,List.append_nil];exact ⟨am.u,a5.u⟩⟩
     ·simp [intOf];omega
   |⟨nq,none,rq⟩,av,ac,J=>
    rcases av with ⟨ab,gv,hv,ce⟩|⟨ab,hv⟩|⟨ab,hv⟩
    ·obtain ⟨cq,ct,cr,rfl⟩:∃a n c,gv=aw a n c:=by
      obtain ⟨a,c,e⟩:=ax ce;exact ⟨a,_,c,e⟩
     have ad:dU ts t r ⟨nq,none,rq⟩=mf r:=by simp [dU,ab]
     rw [ad] at ac J;subst hv;have D:an wr (wr.alloc (.cells #[ar nq.place,aw cq ct cr] 236)):=bp.alloc aH _;have aJ:=ak (aG.u.trans (D.mono bS));have C:=ak (CZ b r _ _ aS (cP.u.but (But.of_below D)) okp okg cN.u);have bt:=ak (am.u.alloc (.cells #[ar nq.place,aw cq ct cr] 236));clear ce ab ad D;go_wp2_with fail;refine C.u.mono ?_;rintro e aB ⟨dk,rfl,V,bc⟩;have ah:=ak (aJ.u.trans (V.mono aJ.u.size));have bP:=ah.u.size;have bg:=az (w':=aB) bt.u (fun g cs f _ U=>V.block g (lt_of_some U));have aO:=ak bg
     by_cases aW:mf r=[]
     ·have dc:=bc.2 aW;subst dc;rw [aW] at J;have cy:=ak (fun ty=>run_append_owned_none (P:=prog) aB Y.heap.size 288 ty 291 i0 2 underlying288 bV.u (aw sa L.length sc) L.length (bI L) bg);clear V bc bg aW C;go_wp2_with (at_builtin;go_must (refine pA rfl _ _ 288 rfl (aw sa L.length sc) rfl rfl cy.u ?_));go_roundw
      ·exact ⟨k+1,aw sa L.length sc,ai,by go_num,rfl,ah.u,by rw [aE J,al.u,List.append_nil];exact ⟨aO.u,a5.u⟩⟩
      simp [intOf];omega
     have a9:0<(mf r).length:=lT.2 aW;obtain ⟨dd,gc,rfl,nl,ck⟩:=oi bc.1 a9;have cZ:=ak nl;have c2:=ak ck;clear V bc bg aW C nl ck;go_wp2_with (at_builtin;go_must (refine lX _ rfl _ _ 288 rfl Y.heap.size 291 i0 _ 2 32 underlying288 bV.u cQ.u cR.u cS.u rfl ay (aw sa L.length sc) L.length (bI L) rfl aO.u ⟨dd,0,none⟩ (mf r).length gc (bI (mf r)) rfl cZ.u c2.u (Ou _) a9 ?h63 ?hbytes bP aB.heap.size rfl ?hrest))
     case h63=>unfold maxLen;omega
     case hbytes=>omega
     case hrest=>
      intro aR aQ bR ae R aT cb;have aC:=ak (cA ah.u R bP (fun k ap=>(aO.u.lt k ap).1));have aP:=ak ae;clear ae R aT;go_wp2;go_roundw
      ·exact ⟨k+1,aw (some (aN aR)) (L.length+(mf r).length) aQ,ai,by go_num,rfl,aC.u,by rw [aE J,al.u];exact ⟨by rw [List.length_append,en];exact aP.u,fun h=>by simp at h;rw [h.2] at a9;simp at a9⟩⟩
      simp [intOf];omega
    ·have ad:dU ts t r ⟨nq,none,rq⟩=[(t.name,nq.n1)]:=by simp [dU,ab]
     rw [ad] at ac J;subst hv;clear ad ab;go_wp2_with (at_builtin;go_must (refine ez rfl underlying288 Tryz.info291 Y.heap.size ((am.u.alloc _).alloc _) (wr.heap.size+1) 1 (FO (t.name,nq.n1)) (wr.heap.size+2) ?hrest))
     case hrest=>
      intro aR aQ bR ae R aT cb;have aC:=ak (cA ((aG.u.alloc bS (.cells #[ar nq.place,aj nq.n1] 238)).alloc aS (jB aj t.name aj nq.n1)) R aS (fun k ap=>(((am.u.alloc (.cells #[ar nq.place,aj nq.n1] 238)).alloc (jB aj t.name aj nq.n1)).lt k ap).1));have aP:=ak ae;clear ae R aT;go_wp2;go_roundw
      ·exact ⟨k+1,aw (some (aN aR)) (L.length+1) aQ,ai,by go_num,rfl,aC.u,by rw [aE J,al.u];exact ⟨by rw [List.length_append,en];exact aP.u,fun h=>by simp at h⟩⟩
      simp [intOf];omega
    have ad:dU ts t r ⟨nq,none,rq⟩=(nk ts t nq.n1 nq.n2).map fun u=>(u.name,nq.n2):=by simp [dU,ab]
    rw [ad] at ac J;subst hv;have D:an wr (wr.alloc (.cells #[ar nq.place,ar nq.p1,aj nq.n1,ar nq.p2,aj nq.n2] 240)):=bp.alloc aH _;have aJ:=ak (aG.u.trans (D.mono bS));have C:=ak (Ov b nq.place nq.p1 nq.p2 nq.n1 nq.n2 _ ts tl t _ rl _ (bY.u.below D) (cL.u.below D));have bt:=ak (am.u.alloc (.cells #[ar nq.place,ar nq.p1,aj nq.n1,ar nq.p2,aj nq.n2] 240));have c8:=ak (aL.new wr #[ar nq.place,ar nq.p1,aj nq.n1,ar nq.p2,aj nq.n2] 240);clear D ad ab;go_wp2_with fail;refine C.u.mono ?_;rintro e aB ⟨dk,A,rfl,V,bw,b5,dx,b6⟩;obtain ⟨ta,tc,rfl⟩:=ax bw;have ah:=ak (aJ.u.trans (V.mono aJ.u.size));have bP:=ah.u.size;have c9:=ak (c8.u.below V);have aO:=ak (show ii Y.heap.size aB (aw sa L.length sc) L from ⟨az (w':=aB) bt.u (fun g cs f _ U=>V.block g (lt_of_some U)),a5.u⟩);have cw:=ak bw;have cx:=ak b6;have cd:(nk ts t nq.n1 nq.n2).map (fun u=>(u.name,nq.n2))=A.map (fun e=>(e.2.1,nq.n2)):=by
     have:=congrArg (List.map (fun n=>(n,nq.n2))) b5;simp only [fT] at this;exact this.symm
    rw [cd] at ac J;clear V bw b5 b6 cd C;go_wp2_with fail
    go_loopw [9,53] (fun bQ dm bo=>∃(j:Nat)(Q:ag),j<=A.length/\dm=ar j/\bQ=Q/\an Y bo/\aL bo wr.heap.size #[ar nq.place,ar nq.p1,aj nq.n1,ar nq.p2,aj nq.n2] 240/\bo.ownsRow 0 110 3 (aw ta A.length tc) A.length (A.flatMap c3)/\ii Y.heap.size bo Q (L++(A.take j).map (fun e=>(e.2.1,nq.n2)))) (fun _ u _=>A.length-(intOf u).toNat)
    ·exact ⟨0,_,ai,rfl,rfl,ah.u,c9.u,bn cw.u (Nat.zero_le _),by simpa using aO.u⟩
    obtain ⟨j,dK,dA,rfl,bL,a7,aV,bb,aU⟩:=hrel;obtain ⟨dh,di,bK⟩:=aU.form;generalize bx:L++(A.take j).map (fun e=>(e.2.1,nq.n2))=aM at*;have dB:aM.length<=L.length+j:=by
     rw [<-bx,List.length_append,bO,dZ];omega
    have bW:=ak bx;clear bx;have bB:=aU.2;have bC:=aU.1;subst bK;subst bL;have bU:=ak a7;have bs:=ak aV;have cI:=ak bb;have cB:=ak bB;have bq:=ak bC;have dn:=a7.size
    by_cases bD:j<A.length
    ·obtain ⟨q,c,e1,k0,k1,dj⟩:=h6.cell (T:=110) (v:=aw ta A.length tc) (l:=A) (w:=wr) bb j bD;simp only [aK] at e1;obtain ⟨rfl,_,rfl⟩:=e1;obtain ⟨cm,cp,co,cf⟩:=cx.u A[j] (bu bD);have bZ:=ak (show L++(A.take (j+1)).map (fun e=>(e.2.1,nq.n2))=aM++[(A[j].2.1,nq.n2)] from by
      rw [<-bW.u,cD bD,cK,List.append_assoc];rfl)
     generalize A[j]=y at*;obtain ⟨cu,a4,dR⟩:=y;simp only at k0 k1 dj cf bZ;subst cf;obtain ⟨t0,t1,t2,dL,t4⟩:=aV.five;have dM:=aV.lt;have de:(j:Int)<(A.length:Int):=ai;clear a7 aU bB bC aV bb;go_wp2_with (at_builtin;go_must (refine ez rfl underlying288 Tryz.info291 Y.heap.size ((bq.u.alloc _).alloc _) (wr.heap.size+1) 1 (FO (a4,nq.n2)) (wr.heap.size+2) ?hrest))
     case hrest=>
      intro aR aQ bR ae R aT cb;have a6:=(bq.u.alloc (ba ar cu aj a4 aw cm cp co)).alloc (jB aj a4 aj nq.n2);have D:=((aA wr.heap.size wr).alloc aH (ba ar cu aj a4 aw cm cp co)).alloc au (jB aj a4 aj nq.n2);have aC:=ak (cA (bU.u.trans (D.mono dn)) R aS (fun k ap=>(a6.lt k ap).1));have c7:=ak ((R.block _ (bs.u.below D).lt (own_ne a6 (bs.u.below D) ay)).trans (bs.u.below D));have c4:=ak (az (w':=bR) cI.u (fun g cs f _ U=>(R.block g (cM (lt_of_some U) D.size) (dT a6 ((D.block g (lt_of_some U)).trans U) ay)).trans (D.block g (lt_of_some U))));have aP:=ak ae;clear ae R aT a6 D;go_wp2;go_roundw
      ·exact ⟨j+1,aw (some (aN aR)) (aM.length+1) aQ,ai,by go_num,rfl,aC.u,c7.u,c4.u,by rw [aE bZ];exact ⟨by rw [List.length_append,en];exact aP.u,fun h=>by simp at h⟩⟩
      simp [intOf];omega
    have de:¬((j:Int)<(A.length:Int)):=ai;have b8:L++A.map (fun e=>(e.2.1,nq.n2))=aM:=by
     rw [<-bW.u,cY ai]
    have cE:=ak b8;clear a7 aU bB bC aV bb b8;go_wp2;go_roundw
    ·exact ⟨k+1,aw dh aM.length di,ai,by go_num,rfl,bU.u,by rw [aE J,al.u,cE.u];exact ⟨bq.u,cB.u⟩⟩
    simp [intOf];omega
   |⟨nq,some xq,none⟩,av,ac,J=>exact av.elim
  have df:¬((k:Int)<((aF e).length:Int)):=ai;have b9:L=dw ts t r e:=by
   rw [<-al.u];unfold NK dw;rw [cY ai]
  have cF:=ak b9;clear I ho bG bH b9;go_wp2;go_ret;exact ⟨aw sa L.length sc,rfl,bT.u.trans (aG.u.mono cl),by rw [<-cF.u];exact ⟨bn am.u cl,a5.u⟩⟩
