import Derived.Test.YtlbpnlngckgcbaaGreatDoorM03
set_option linter.all false
set_option maxHeartbeats 4000000
set_option maxRecDepth 100000
namespace Go.Proofs.YtlbpnlngckgcbaaGreatDoor
open Go.RowKit Go.PlainAid Go.Proofs.Tryz
variable {aD bq:Prop} {w:af} {v sv tv:ag} {base' k b:Nat} {ts:List Ty} {t:Ty} {r:Rl} {P:Program} {rest:List Oper}
abbrev jE(a0:ae)(a1:ae):Obj:=.cells #[an a0,an a1] 291
abbrev Sp:=ae×ae
def Gk(s:Sp):List ag:=[an s.1,an s.2]
def bI(l:List Sp):List ag:=l.flatMap Gk
def O0(s):∀(l:List Sp)(i:Nat),l[i]? =some s->(bI l)[i*2]? =some (an s.1)/\(bI l)[i*2+1]? =some (an s.2)
 | [],i,h=>by simp at h
 |e'::l,0,h=>by simp at h;subst h;simp [bI,Gk]
 |e'::l,i+1,h=>by
  have:=O0 s l i nv;rw [show bI (e'::l)=Gk e'++bI l from rfl,show (i+1)*2=i*2+2 by omega]
  simpa [Gk] using this
def Row2.cell{base l}(h:w.ownsRow base 291 2 v l.length (bI l))(i s)(hi:l[i]? =some s):
  ∃q c,v=aA (some (aP q)) l.length c/\w.cell? (aC q (i*2))=some (an s.1)/\w.cell? (aC q (i*2+1))=some (an s.2):=by
 obtain ⟨h0,h1⟩:=O0 s l i hi;obtain ⟨q,c,rfl,e0⟩:=aY h _ _ h0;obtain ⟨C,A,e',e1⟩:=aY h _ _ h1;simp only [aK,aR,cg] at e';obtain ⟨⟨rfl,_⟩,_⟩:=e';exact ⟨q,c,rfl,e0,e1⟩
def ep(a c):bI (a++c)=bI a++bI c:=by simp [bI]
def cE(a):(bI a).length=a.length*2:=by
 induction a with
 |nil=>rfl
 |cons g r ih=>simp [bI,Gk] at*;omega
def O1(l):∀u∈bI l,u.oneCell'=true:=by
 intro u h;unfold bI at h;rw [bZ] at h;obtain ⟨g,_,h⟩:=h;simp [Gk] at h
 rcases h with rfl|rfl<;>rfl
def Tryz.info291:(Tryz.prog.info? 291).map (fun i=>(i.zero,i.size,i.bytes))=some (some (.agg #[an ⟨#[]⟩,an ⟨#[]⟩]),2,32):=by kernel_rfl
def io(base:Nat)(w:af)(sv:ag)(l:List Sp):Prop:=w.ownsRow base 291 2 sv l.length (bI l)/\(l=[]->sv=aA none 0 0)
def io.nil(base w):io base w (aA none 0 0) []:=⟨bP,fun _=>rfl⟩
def io.form{base l}(h:io base w sv l):∃a c,sv=aA a l.length c:=aw h.1
def io.base{base l}(h:io base w sv l)(A:base'<=base):io base' w sv l:=⟨bk h.1 A,h.2⟩
def mo(g:Gr):Option Sp:=if g.reach=2 then some (g.ty,g.rel) else none
def A9(k:Nat)(gs:List Gr):List Sp:=(gs.take k).filterMap mo
def mq(r:Rl):List Sp:=(bS r.body).filterMap mo
def LP{gs g}(h:gs[k]? =some g):A9 (k+1) gs=A9 k gs++(mo g).toList:=by
 have C:k<gs.length:=by
  exact OU
 rw [aI C] at h;simp only [aR] at h;unfold A9;rw [cD C,List.filterMap_append,h]
 cases D:mo g<;>simp [D]
def Vl(k gs):(A9 k gs).length<=k:=by
 unfold A9;have:=vz mo (gs.take k);rw [eb] at this;omega
def Dz(b r v w)(aZ:b<w.heap.size)(h:bA b w r.body v)(aR:(aF r.body).length<=1000)(aM:(bS r.body).length<=1000)(aV:WF r.body):
  Calls prog 225 #[.agg #[au r.place,an r.name,v]] w fun e' w'=>∃sv,e'=bi sv/\am w w'/\io w.heap.size w' sv (mq r):=by
 obtain ⟨aW,rv,rfl⟩:=h.isI;go_enter func225,ntmps225;go_wp2_with fail;refine (pM r.place r.name b r.body _ _ aS (h.but ((But.refl b w).alloc _)) aR aM aV).mono ?_;rintro e J ⟨gv,rfl,ab,ak⟩;obtain ⟨ga,gc,rfl⟩:=aw ak;have Q:=((az _ w).alloc aH (cC r.place r.name aW rv)).trans (ab.mono ar);have al:=Q.size;clear ab;go_wp2_with fail
 go_loopw [3,9] (fun aX aY wr=>∃(k:Nat)(sv:ag),k<=(bS r.body).length/\aY=au k/\aX=sv/\am J wr/\io J.heap.size wr sv (A9 k (bS r.body))) (fun _ u _=>(bS r.body).length-(intOf u).toNat)
 ·exact ⟨0,_,ai,rfl,rfl,az _ _,io.nil _ _⟩
 ·obtain ⟨k,sv,ae,rfl,aU,A,ho⟩:=hrel;obtain ⟨sa,sc,aT⟩:=ho.form;have a6:=Vl k (bS r.body);have ah:=ho.2;have C:=ho.1;generalize V:A9 k (bS r.body)=L at*;have D:=aj V;clear V;subst aT;subst aU;have ap:=A.size
  by_cases af:k<(bS r.body).length
  ·have aO:(k:Int)<((bS r.body).length:Int):=by omega
   obtain ⟨q,c,e1,k0,k1,a7,k3,a8⟩:=Vg.cell (ay (w':=wr) ak (fun g cs f _ aN=>A.block g (lt_of_some aN))) k (bS r.body)[k] (aI af);simp only [aK] at e1;obtain ⟨rfl,_,rfl⟩:=e1;have ac:(bS r.body)[k]? =some (bS r.body)[k]:=aI af;generalize (bS r.body)[k]=g at*;have R:=aj (LP ac);clear ho ac
   by_cases h2:g.reach=2
   ·have aJ:((g.reach:Int)==2)=true:=by rw [h2];rfl
    have I:mo g=some (g.ty,g.rel):=by simp [mo,h2]
    clear h2;go_wp2_with (at_builtin;go_must (refine eB rfl underlying288 Tryz.info291 J.heap.size ((C.alloc _).alloc _) (wr.heap.size+1) 1 (Gk (g.ty,g.rel)) (wr.heap.size+2) ?hrest))
    case hrest=>
     intro aG aE a9 aQ ad aL a5;have U:=(C.alloc (gK g.tp g.ty g.reach g.rp g.rel)).alloc (jE g.ty g.rel);have av:=cA ((A.alloc ap (gK g.tp g.ty g.reach g.rp g.rel)).alloc aS (jE g.ty g.rel)) ad aS (fun k ae=>(U.lt k ae).1);clear ad aL U;go_wp2;go_roundw
     ·exact ⟨k+1,aA (some (aP aG)) (L.length+1) aE,ai,by go_num,rfl,av,by rw [R.u,I,D.u];exact ⟨by rw [Option.toList_some,List.length_append,ep];exact aQ,fun h=>by simp at h⟩⟩
     simp [intOf];omega
   have aJ:((g.reach:Int)==2)=false:=by rw [bR];omega
   have I:mo g=none:=by simp [mo,h2]
   have ax:=A.alloc ap (gK g.tp g.ty g.reach g.rp g.rel);have aC:=C.alloc (gK g.tp g.ty g.reach g.rp g.rel);clear h2;go_wp2;go_roundw
   ·exact ⟨k+1,aA sa L.length sc,ai,by go_num,rfl,ax,by rw [R.u,I,D.u];exact ⟨by simpa using aC,fun h=>ah nv⟩⟩
   simp [intOf];omega
  have aO:¬((k:Int)<((bS r.body).length:Int)):=ai;have Z:A9 k (bS r.body)=mq r:=by
   unfold A9 mq;rw [cX ai]
  have Y:L=mq r:=D.u.symm.trans Z;have aB:=aj Y;clear ho Z Y;go_wp2;go_ret;exact ⟨aA sa L.length sc,rfl,Q.trans (A.mono al),by rw [<-aB.u];exact ⟨bk C al,ah⟩⟩
def O2(b tp p1 p2:Nat)(n1 n2 sv ts tl t tv rl w)(h:MC b w sv ts tl)(I:RC b w tv t.rels rl):
  Calls prog 223 #[.agg #[sv],.agg #[au t.place,an t.name,tv],.agg #[au tp,au p1,an n1,au p2,an n2]] w fun e' w'=>∃(yz:ag)(A:List E3),e'=bi yz/\am w w'/\w'.ownsRow w.heap.size 110 3 yz A.length (A.flatMap c3)/\A.map (fun e=>e.2.1)=(nB ts t n1 n2).map Ty.name/\A.length<=1000/\∀e∈A,∃a n c,e.2.2=aA a n c:=by
 unfold nB
 cases D:b8 t n1 with
 |none=>
  refine (LO b tp p1 p2 n1 n2 sv ts tl t tv rl w h I D).mono ?_;rintro e w' ⟨rfl,C⟩;exact ⟨_,[],rfl,C,bP,rfl,ar,ar⟩
 |some r=>
  refine (zc b tp p1 p2 n1 n2 sv ts tl t tv rl w h I r D).mono ?_;rintro e w' ⟨yz,A,rfl,C,h1,h2,J⟩;refine ⟨_,A,rfl,C,h1,h2,?_,J⟩;have e1:=congrArg List.length h2;rw [bN,bN] at e1;have Q:=vz (iQ ts n2) (bS r.body);have R:=I.okg r (gI D);omega
abbrev fU:=@List.map_map
abbrev pP:=@Sem.run_bind
abbrev bY:=@List.map_cons
abbrev pQ:=@List.map_nil
def O3(q:bq) (h:cj bq->aD:=by
 intro zq;unfold Oper.wp execOp;simp only [ho,resolve,invoke,builtin,pP,Sem.run_pure,Result.andThen_ok,List.map_toArray,bY,pQ,hs,hx,hr];exact zq.1):aD:=h ⟨q⟩
def dW(ts:List Ty)(t:Ty)(r:Rl)(p:Ex):List Sp:=match p.l with
 |some _=>[]
 |none=>if p.nd.kind=0 then mq r
  else if p.nd.kind=1 then [(t.name,p.nd.n1)]
  else (nB ts t p.nd.n1 p.nd.n2).map fun u=>(u.name,p.nd.n2)
def dw(ts:List Ty)(t:Ty)(r:Rl)(e:Ex):List Sp:=(aF e).flatMap (dW ts t r)
def NK(ts:List Ty)(t:Ty)(r:Rl)(e:Ex)(k:Nat):List Sp:=((aF e).take k).flatMap (dW ts t r)
def JW{e p}(hk:(aF e)[k]? =some p):NK ts t r e (k+1)=NK ts t r e k++dW ts t r p:=by
 unfold NK;have A:k<(aF e).length:=by
  exact OG
 rw [cD A,cN];rw [aI A] at hk;simp only [aR] at hk;simp [hk]
def Vm(r):(mq r).length<=(bS r.body).length:=vz _ _
def O6{rl}(ts t)(A:RC b w tv t.rels rl)(x y):(nB ts t x y).length<=1000:=by
 unfold nB
 cases h:b8 t x with
 |none=>simp
 |some r=>
  have C:=vz (iQ ts y) (bS r.body);have D:=A.okg r (gI h);simp only;omega
def ze{rl}(ts t)(h:RC b w tv t.rels rl)(r)(A:(bS r.body).length<=1000)(p):(dW ts t r p).length<=1000:=by
 unfold dW;have h1:=Vm r
 split
 ·simp
 split
 ·omega
 split
 ·simp
 simpa using (O6 ts t h p.nd.n1 p.nd.n2)
def O7{b w tv rl}(ts t)(C:RC b w tv t.rels rl)(r)(A:(bS r.body).length<=1000)(e):∀k,(NK ts t r e k).length<=1000*k
 |0=>by simp [NK]
 |k+1=>by
  have D:=O7 ts t C r A e k
  rcases fD k (aF e).length with h|h
  ·rw [JW (aI h),List.length_append];have:=ze ts t C r A (aF e)[k];omega
  have:NK ts t r e (k+1)=NK ts t r e k:=by
   unfold NK;rw [cX ai,cX h]
  rw [this];omega
def pR{A:Array Oper}{o:Oper}{a:Act}{Q:Exit->Act->af->Prop}(D:o.guard=none)(s x:Operand)(t:TypeId)
  (ho:o.op=.call {callee:=.builtin .append,args:=#[s,x],argTypes:=#[t,t]}) (v:ag) (hs:a.eval s=v) (hx:a.eval x=aA none 0 0)
  (hr:∀ty,(Builtin.append_ #[t,t] ty #[v,aA none 0 0]).run P w=.ok v w)
  (h:wpList P A Q rest (a.put o.dst v) w):wpList P A Q (o::rest) a w:=
 wpList_plain D fun _ C=>by
  refine O3 ?_;exact C _ _ h
def sf(b Q ts tl t tv rl r bv e ev w)(h:MC b w Q ts tl)(af:RC b w tv t.rels rl)(bK:bA b w r.body bv)(a8:r∈t.rels)(bz:bA b w e ev)(dh:(aF e).length<=1000):
  Calls prog 177 #[.agg #[Q],.agg #[au t.place,an t.name,tv],.agg #[au r.place,an r.name,bv],ev] w fun e' w'=>∃Q,e'=bi Q/\am w w'/\io w.heap.size w' Q (dw ts t r e):=by
 obtain ⟨i0,hi,ch,ci,cj⟩:=eN Tryz.info291;have bW:=aj hi;have cR:=aj ch;have cS:=aj ci;have cT:=aj cj;clear hi ch ci cj;obtain ⟨aX,mn,mc,rfl⟩:=h.form;obtain ⟨bj,bn,bl,rfl⟩:=af.form;obtain ⟨bh,rv,rfl⟩:=bK.isI;obtain ⟨dr,ex,rfl⟩:=bz.isI;have W0:am w (((w.alloc (ba aX mn mc)).alloc (bG t.place t.name bj bn bl)).alloc (cC r.place r.name bh rv)):=((bo.alloc aH _).alloc ar _).alloc aS _;have bY:=aj (h.below W0);have cL:=aj (af.below W0);have cP:=aj (bK.but (But.of_below W0));have cB:=aj (bz.but (But.of_below W0));have cZ:=aj (((aL.new w #[aA aX mn mc] 75).alloc (bG t.place t.name bj bn bl)).alloc (cC r.place r.name bh rv));have dc:=aj ((aL.new' (w.alloc (ba aX mn mc)) (h8 t.place t.name bj bn bl) 110 (w.heap.size+1) ar).alloc (cC r.place r.name bh rv));have c6:=aj (aL.new' ((w.alloc (ba aX mn mc)).alloc (bG t.place t.name bj bn bl)) #[au r.place,an r.name,.iface bh rv] 159 (w.heap.size+2) ar);have okp:=af.okp r a8;have okg:=af.okg r a8;have cO:=aj (af.wf r a8);have cI:=aj (O7 ts t af r okg e);have cH:=aj (ze ts t af r okg);have b2:=aj W0;clear W0 h af bK a8 bz;go_enter func177,ntmps177;go_wp2_with fail;refine (oA e b _ _ (bY.u.blt) cB.u dh).mono ?_;rintro e1 Y ⟨dK,rfl,Z,l,l1,l2,bO⟩;obtain ⟨dI,oc,rfl⟩:=aw bO;have dF:l.length=(aF e).length:=by rw [<-l1];simp
 have bU:=aj (b2.u.trans (Z.mono b2.u.size));have cU:=aj l1;have cV:=aj l2;have cW:=aj bO;have cY:=aj (bY.u.below Z);have c7:=aj (cL.u.below Z);have db:=aj (cP.u.but (But.of_below Z));have b3:=aj (cZ.u.below Z);have b5:=aj (dc.u.below Z);have b4:=aj (c6.u.below Z);have cm:=bU.u.size;clear Z l1 l2 bO;have f0:=ie;have f1:=hN;have f2:=hO;have f3:=eW;have f4:=gC;have f5:=ii;have ds:=mh;have dt:=mi;have du:=jd;have dv:=kM;have g5:=kO;have h2:=mj;have dx:=je;have dz:=kN;have dA:=kP;go_wp2_with fail
 go_loopw [9,20] (fun bR dm wr=>∃(k:Nat)(Q:ag),k<=(aF e).length/\dm=au k/\bR=Q/\am Y wr/\io Y.heap.size wr Q (NK ts t r e k)) (fun _ u _=>(aF e).length-(intOf u).toNat)
 ·exact ⟨0,_,ai,rfl,rfl,az _ _,io.nil _ _⟩
 ·obtain ⟨k,Q,ap,rfl,bM,I,ho⟩:=hrel;obtain ⟨sa,sc,bL⟩:=ho.form;have dD:=cI.u k;have bH:=ho.2;have bJ:=ho.1;generalize b8:NK ts t r e k=L at*;have ak:=aj b8;clear b8;subst bL;subst bM;have aG:=aj I;have a5:=aj bH;have al:=aj bJ;have bT:=I.size
  by_cases dE:k<(aF e).length
  ·have bF:k<l.length:=by omega
   obtain ⟨bP,c1,e1,ck⟩:=aY (ay (w':=wr) cW.u (fun g cs f _ U=>I.block g (lt_of_some U))) k l[k].2 (by simp [aI bF]);simp only [aK] at e1;obtain ⟨rfl,_,rfl⟩:=e1;have av:=(cV.u l[k] (br bF)).but (b:=b) (But.of_below I);have bE:(aF e)[k]? =some l[k].1:=by rw [<-cU.u];simp [aI bF]
   generalize l[k]=q at*;obtain ⟨bP,dJ⟩:=q;simp only at ck av bE;have dg:(k:Int)<((aF e).length:Int):=ai;have J:=aj (JW (ts:=ts) (t:=t) (r:=r) bE);have ac:=cH.u bP;have dG:wr.cell? (aP w.heap.size)=some (aA aX mn mc):=(b3.u.below I).cell rfl;have dH:=(b3.u.below I).lt;obtain ⟨dO,dP,dQ⟩:=(b5.u.below I).three;have dR:=(b5.u.below I).lt;obtain ⟨dT,dU,dX⟩:=(b4.u.below I).three;have dY:=(b4.u.below I).lt;have bZ:=aj (cY.u.below I);have cN:=aj (c7.u.below I);have cQ:=aj (db.u.but (But.of_below I));have dq:=bZ.u.blt;clear I ho bH bJ bE
   match bP,av,ac,J with
   |⟨nq,some xq,some yq⟩,⟨vx,vy,hv,rx,ry⟩,ac,J=>
    subst hv;clear rx ry
    rcases pO nq.kind with bf|bf|bf
    all_goals
     rw [bf] at ck;clear bf;go_wp2;go_roundw
     ·exact ⟨k+1,aA sa L.length sc,ai,by go_num,rfl,aG.u,by rw [aE J,ak.u];simp only [dW,List.append_nil];exact ⟨al.u,a5.u⟩⟩
     ·simp [intOf];omega
   |⟨nq,none,rq⟩,av,ac,J=>
    rcases av with ⟨ab,gv,hv,cf⟩|⟨ab,hv⟩|⟨ab,hv⟩
    ·obtain ⟨cr,cu,ct,rfl⟩:∃a n c,gv=aA a n c:=by
      obtain ⟨a,c,e⟩:=aw cf;exact ⟨a,_,c,e⟩
     have ad:dW ts t r ⟨nq,none,rq⟩=mq r:=by simp [dW,ab]
     rw [ad] at ac J;subst hv;have D:am wr (wr.alloc (nz nq.place cr cu ct)):=bo.alloc aH _;have aJ:=aj (aG.u.trans (D.mono bT));have C:=aj (Dz b r _ _ aS (cQ.u.but (But.of_below D)) okp okg cO.u);have bu:=aj (al.u.alloc (nz nq.place cr cu ct));clear cf ab ad D;go_wp2_with fail;refine C.u.mono ?_;rintro e aB ⟨dl,rfl,V,bc⟩;have ah:=aj (aJ.u.trans (V.mono aJ.u.size));have bQ:=ah.u.size;have bg:=ay (w':=aB) bu.u (fun g cs f _ U=>V.block g (lt_of_some U));have aN:=aj bg
     by_cases aW:mq r=[]
     ·have dd:=bc.2 aW;subst dd;rw [aW] at J;have cz:=aj (fun ty=>run_append_owned_none (P:=prog) aB Y.heap.size 288 ty 291 i0 2 underlying288 bW.u (aA sa L.length sc) L.length (bI L) bg);clear V bc bg aW C;go_wp2_with (at_builtin;go_must (refine pR rfl _ _ 288 rfl (aA sa L.length sc) rfl rfl cz.u ?_));go_roundw
      ·exact ⟨k+1,aA sa L.length sc,ai,by go_num,rfl,ah.u,by rw [aE J,ak.u,List.append_nil];exact ⟨aN.u,a5.u⟩⟩
      simp [intOf];omega
     have a9:0<(mq r).length:=l5.2 aW;obtain ⟨de,gc,rfl,nl,cl⟩:=oB bc.1 a9;have c2:=aj nl;have c4:=aj cl;clear V bc bg aW C nl cl;go_wp2_with (at_builtin;go_must (refine l9 _ rfl _ _ 288 rfl Y.heap.size 291 i0 _ 2 32 underlying288 bW.u cR.u cS.u cT.u rfl ax (aA sa L.length sc) L.length (bI L) rfl aN.u ⟨de,0,none⟩ (mq r).length gc (bI (mq r)) rfl c2.u c4.u (O1 _) a9 ?h63 ?hbytes bQ aB.heap.size rfl ?hrest))
     case h63=>unfold maxLen;omega
     case hbytes=>omega
     case hrest=>
      intro aR aQ bS ae R aT cd;have aC:=aj (cA ah.u R bQ (fun k ap=>(aN.u.lt k ap).1));have aO:=aj ae;clear ae R aT;go_wp2;go_roundw
      ·exact ⟨k+1,aA (some (aP aR)) (L.length+(mq r).length) aQ,ai,by go_num,rfl,aC.u,by rw [aE J,ak.u];exact ⟨by rw [List.length_append,ep];exact aO.u,fun h=>by simp at h;rw [h.2] at a9;simp at a9⟩⟩
      simp [intOf];omega
    ·have ad:dW ts t r ⟨nq,none,rq⟩=[(t.name,nq.n1)]:=by simp [dW,ab]
     rw [ad] at ac J;subst hv;clear ad ab;go_wp2_with (at_builtin;go_must (refine eB rfl underlying288 Tryz.info291 Y.heap.size ((al.u.alloc _).alloc _) (wr.heap.size+1) 1 (Gk (t.name,nq.n1)) (wr.heap.size+2) ?hrest))
     case hrest=>
      intro aR aQ bS ae R aT cd;have aC:=aj (cA ((aG.u.alloc bT (.cells #[au nq.place,an nq.n1] 238)).alloc aS (jE t.name nq.n1)) R aS (fun k ap=>(((al.u.alloc (.cells #[au nq.place,an nq.n1] 238)).alloc (jE t.name nq.n1)).lt k ap).1));have aO:=aj ae;clear ae R aT;go_wp2;go_roundw
      ·exact ⟨k+1,aA (some (aP aR)) (L.length+1) aQ,ai,by go_num,rfl,aC.u,by rw [aE J,ak.u];exact ⟨by rw [List.length_append,ep];exact aO.u,fun h=>by simp at h⟩⟩
      simp [intOf];omega
    have ad:dW ts t r ⟨nq,none,rq⟩=(nB ts t nq.n1 nq.n2).map fun u=>(u.name,nq.n2):=by simp [dW,ab]
    rw [ad] at ac J;subst hv;have D:am wr (wr.alloc (k6 nq.place nq.p1 nq.n1 nq.p2 nq.n2)):=bo.alloc aH _;have aJ:=aj (aG.u.trans (D.mono bT));have C:=aj (O2 b nq.place nq.p1 nq.p2 nq.n1 nq.n2 _ ts tl t _ rl _ (bZ.u.below D) (cN.u.below D));have bu:=aj (al.u.alloc (k6 nq.place nq.p1 nq.n1 nq.p2 nq.n2));have c9:=aj (aL.new wr #[au nq.place,au nq.p1,an nq.n1,au nq.p2,an nq.n2] 240);clear D ad ab;go_wp2_with fail;refine C.u.mono ?_;rintro e aB ⟨dl,A,rfl,V,bw,b6,dy,b7⟩;obtain ⟨ta,tc,rfl⟩:=aw bw;have ah:=aj (aJ.u.trans (V.mono aJ.u.size));have bQ:=ah.u.size;have da:=aj (c9.u.below V);have aN:=aj (show io Y.heap.size aB (aA sa L.length sc) L from ⟨ay (w':=aB) bu.u (fun g cs f _ U=>V.block g (lt_of_some U)),a5.u⟩);have cx:=aj bw;have cy:=aj b7;have ce:(nB ts t nq.n1 nq.n2).map (fun u=>(u.name,nq.n2))=A.map (fun e=>(e.2.1,nq.n2)):=by
     have:=congrArg (List.map (fun n=>(n,nq.n2))) b6;simp only [fU] at this;exact this.symm
    rw [ce] at ac J;clear V bw b6 b7 ce C;go_wp2_with fail
    go_loopw [9,53] (fun bR dn bp=>∃(j:Nat)(Q:ag),j<=A.length/\dn=au j/\bR=Q/\am Y bp/\aL bp wr.heap.size #[au nq.place,au nq.p1,an nq.n1,au nq.p2,an nq.n2] 240/\bp.ownsRow 0 110 3 (aA ta A.length tc) A.length (A.flatMap c3)/\io Y.heap.size bp Q (L++(A.take j).map (fun e=>(e.2.1,nq.n2)))) (fun _ u _=>A.length-(intOf u).toNat)
    ·exact ⟨0,_,ai,rfl,rfl,ah.u,da.u,bk cx.u (Nat.zero_le _),by simpa using aN.u⟩
    obtain ⟨j,dL,dB,rfl,bM,a7,aV,bb,aU⟩:=hrel;obtain ⟨di,dj,bL⟩:=aU.form;generalize bx:L++(A.take j).map (fun e=>(e.2.1,nq.n2))=aM at*;have dC:aM.length<=L.length+j:=by
     rw [<-bx,List.length_append,bN,eb];omega
    have bX:=aj bx;clear bx;have bB:=aU.2;have bC:=aU.1;subst bL;subst bM;have bV:=aj a7;have bt:=aj aV;have cJ:=aj bb;have cE:=aj bB;have bs:=aj bC;have dp:=a7.size
    by_cases bD:j<A.length
    ·obtain ⟨q,c,e1,k0,k1,dk⟩:=ib.cell (T:=110) (v:=aA ta A.length tc) (l:=A) (w:=wr) bb j bD;simp only [aK] at e1;obtain ⟨rfl,_,rfl⟩:=e1;obtain ⟨co,cq,cp,cg⟩:=cy.u A[j] (br bD);have b0:=aj (show L++(A.take (j+1)).map (fun e=>(e.2.1,nq.n2))=aM++[(A[j].2.1,nq.n2)] from by
      rw [<-bX.u,cD bD,cK,List.append_assoc];rfl)
     generalize A[j]=y at*;obtain ⟨cw,aZ,dS⟩:=y;simp only at k0 k1 dk cg b0;subst cg;obtain ⟨t0,t1,t2,dM,t4⟩:=aV.five;have dN:=aV.lt;have df:(j:Int)<(A.length:Int):=ai;clear a7 aU bB bC aV bb;go_wp2_with (at_builtin;go_must (refine eB rfl underlying288 Tryz.info291 Y.heap.size ((bs.u.alloc _).alloc _) (wr.heap.size+1) 1 (Gk (aZ,nq.n2)) (wr.heap.size+2) ?hrest))
     case hrest=>
      intro aR aQ bS ae R aT cd;have a6:=(bs.u.alloc (bG cw aZ co cq cp)).alloc (jE aZ nq.n2);have D:=((az wr.heap.size wr).alloc aH (bG cw aZ co cq cp)).alloc ar (jE aZ nq.n2);have aC:=aj (cA (bV.u.trans (D.mono dp)) R aS (fun k ap=>(a6.lt k ap).1));have c8:=aj ((R.block _ (bt.u.below D).lt (own_ne a6 (bt.u.below D) ax)).trans (bt.u.below D));have c5:=aj (ay (w':=bS) cJ.u (fun g cs f _ U=>(R.block g (cM (lt_of_some U) D.size) (dV a6 ((D.block g (lt_of_some U)).trans U) ax)).trans (D.block g (lt_of_some U))));have aO:=aj ae;clear ae R aT a6 D;go_wp2;go_roundw
      ·exact ⟨j+1,aA (some (aP aR)) (aM.length+1) aQ,ai,by go_num,rfl,aC.u,c8.u,c5.u,by rw [aE b0];exact ⟨by rw [List.length_append,ep];exact aO.u,fun h=>by simp at h⟩⟩
      simp [intOf];omega
    have df:¬((j:Int)<(A.length:Int)):=ai;have b9:L++A.map (fun e=>(e.2.1,nq.n2))=aM:=by
     rw [<-bX.u,cX ai]
    have cF:=aj b9;clear a7 aU bB bC aV bb b9;go_wp2;go_roundw
    ·exact ⟨k+1,aA di aM.length dj,ai,by go_num,rfl,bV.u,by rw [aE J,ak.u,cF.u];exact ⟨bs.u,cE.u⟩⟩
    simp [intOf];omega
   |⟨nq,some xq,none⟩,av,ac,J=>exact av.elim
  have dg:¬((k:Int)<((aF e).length:Int)):=ai;have cb:L=dw ts t r e:=by
   rw [<-ak.u];unfold NK dw;rw [cX ai]
  have cG:=aj cb;clear I ho bH bJ cb;go_wp2;go_ret;exact ⟨aA sa L.length sc,rfl,bU.u.trans (aG.u.mono cm),by rw [<-cG.u];exact ⟨bk al.u cm,a5.u⟩⟩
