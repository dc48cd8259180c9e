import Derived.Test.YtlbpnlngckgcbaaGreatDoorM06
set_option linter.all false
set_option maxHeartbeats 4000000
set_option maxRecDepth 100000
namespace Go.Proofs.YtlbpnlngckgcbaaGreatDoor
open Go.RowKit Go.PlainAid Go.Proofs.Tryz
variable {aF cD:Prop} {ts:List Ty} {k base' b:Nat} {w:af} {v sv tv:ag} {t:Ty} {r:Rl} {P:Program} {rest:List Oper}
abbrev sU:=@List.length_filterMap_le
abbrev cK:=@List.length_map
abbrev de:=@List.map_append
abbrev kh(a0:Int)(a1:Int)(a2:ae)(a3:Int)(a4:ae):Obj:=.cells #[.int .i64 a0,.int .i64 a1,.string a2,.int .i64 a3,.string a4] 240
def PN (A:aF:=by
 rw [HST.u,ht1];simpa using ak HQ):aF:=A
def PO (O:aF:=by
 go_wp2_with fail;refine C.u.mono ?_;rintro e w5 ⟨rfl,D⟩;have I:=ai (SR.u.trans (D.mono SR.u.size));have J:=ai (ax (w':=w5) O4.u (fun g cs f _ Q=>D.block g (lt_of_some Q)));have R:=I.u.size;clear D;unfold bY;go_wp2;go_roundw
 case rel=>exact ⟨k+1,.slice sa sn sc,l3,aj,by go_num,rfl,I.u.alloc R _,J.u.alloc _,ai PN⟩
 case measure=>simp [intOf];omega):aF:=O
def Jp (h:aF:=by
 rcases ii k gs.length with A|A
 ·exact A
 rw [k7 A] at h;cases h):aF:=h
def ip(ts:List Ty)(y:ae)(g:Gr):Option Ty:=if g.reach=0 then (match bL ts g.ty with
 |none=>none
 |some u=>if (bP u y).isSome then some u else none) else none
def tk(ts:List Ty)(y:ae)(k:Nat)(gs:List Gr):List Ty:=(gs.take k).filterMap (ip ts y)
def mC(ts:List Ty)(t:Ty)(x y:ae):List Ty:=match bP t x with
 |none=>[]
 |some r=>(bZ r.body).filterMap (ip ts y)
theorem N5{y gs g}(h:gs[k]? =some g):tk ts y (k+1) gs=tk ts y k gs++(ip ts y g).toList:=by
 have C:k<gs.length:=by
  exact Jp
 rw [aG C] at h;simp only [aK] at h;unfold tk;rw [dS C,List.filterMap_append,h]
 cases D:ip ts y g<;>simp [D]
theorem tk_le(ts y k gs):(tk ts y k gs).length<=k:=by
 unfold tk;have:=sU (ip ts y) (gs.take k);rw [gj] at this;omega
theorem Gj(b tp p1 p2:Nat)(n1 n2 sv ts tl t tv rl w)(O:MC b w sv ts tl)(D:RC b w tv t.rels rl)(R:bP t n1=none):
  Calls prog 223 #[.agg #[sv],.agg #[.int .i64 t.place,.string t.name,tv],.agg #[.int .i64 tp,.int .i64 p1,.string n1,.int .i64 p2,.string n2]] w fun e' w'=>e'=.returned (.slice none 0 0)/\Below w.heap.size w w':=by
 obtain ⟨U,mn,mc,rfl⟩:=O.form;obtain ⟨V,Z,Y,rfl⟩:=D.form;have W0:Below w.heap.size w (((w.alloc (aN U mn mc)).alloc (bq t.place t.name V Z Y)).alloc (kh tp p1 n1 p2 n2)):=((ba.alloc az _).alloc an _).alloc aM _;have C:=ai (jA b t.place t.name _ t rl n1 _ (D.below W0) R);have J:=ai W0;clear W0 O D R;go_enter func223,ntmps223;go_wp2_with fail;refine C.u.mono ?_;rintro e w1 ⟨rfl,Q⟩;have I:=ai (J.u.trans (Q.mono J.u.size));have sz:=I.u.size;clear Q;unfold bY;go_wp2;go_ret;exact ⟨rfl,(bB I)⟩
theorem vz(b tp p1 p2:Nat)(n1 n2 sv ts tl t tv rl w)(aD:MC b w sv ts tl)(ap:RC b w tv t.rels rl)(r)(ac:bP t n1=some r):
  Calls prog 223 #[.agg #[sv],.agg #[.int .i64 t.place,.string t.name,tv],.agg #[.int .i64 tp,.int .i64 p1,.string n1,.int .i64 p2,.string n2]] w fun e' w'=>∃(uU:ag)(l3:List E3),e'=.returned uU/\Below w.heap.size w w'/\w'.ownsRow w.heap.size 110 3 uU l3.length (l3.flatMap c3)/\l3.map (fun e=>e.2.1)=((bZ r.body).filterMap (ip ts n2)).map Ty.name/\∀e∈l3,∃a n c,e.2.2=Value.slice a n c:=by
 obtain ⟨i0,hi,bt,bu,bv⟩:=bH Tryz.info110;have bO:=ai hi;have bV:=ai bt;have bW:=ai bu;have bX:=ai bv;clear hi bt bu bv;obtain ⟨aK,mn,mc,rfl⟩:=aD.form;obtain ⟨aZ,a6,a5,rfl⟩:=ap.form;have W0:Below w.heap.size w (((w.alloc (aN aK mn mc)).alloc (bq t.place t.name aZ a6 a5)).alloc (kh tp p1 n1 p2 n2)):=((ba.alloc az _).alloc an _).alloc aM _;obtain ⟨ci,rv,bs,aJ,ah⟩:=kJ b t.place t.name _ t rl n1 _ (ap.below W0) r ac;have okp:=ap.okp r aJ;have okg:=ap.okg r aJ;have wf:=ap.wf r aJ;have C:=ai ah;have bS:=ai bs;have bQ:=ai (aD.below W0);have b0:=ai (((aB.new w #[.slice aK mn mc] 75).alloc (bq t.place t.name aZ a6 a5)).alloc (kh tp p1 n1 p2 n2));have TB:=ai (aB.new' ((w.alloc (aN aK mn mc)).alloc (bq t.place t.name aZ a6 a5)) #[.int .i64 tp,.int .i64 p1,.string n1,.int .i64 p2,.string n2] 240 (w.heap.size+2) an);have bf:=ai W0;have blt:=aD.blt;have bU:=ai wf;clear W0 aD ap ac ah bs aJ wf;go_enter func223,ntmps223;go_wp2_with fail;refine C.u.mono ?_;rintro e w1 ⟨rfl,aW⟩;have b1:=aW.alloc aW.size (cp r.place r.name ci rv);have a7:=ai (bf.u.trans (b1.mono bf.u.size));have b2:=ai (b0.u.below b1);have b5:=ai (TB.u.below b1);have bc:=ai (bQ.u.below b1);have b4:=ai (bS.u.but (But.of_below b1));have b8:=bc.u.blt;clear aW b1 C;go_wp2_with fail;refine (oi r.place r.name b r.body _ _ b8 b4.u okp okg bU.u).mono ?_;rintro e aL ⟨gv,rfl,av,aY⟩;obtain ⟨ga,gc,rfl⟩:=ay aY;have a8:=ai (a7.u.trans (av.mono a7.u.size));have aP:=ai (b2.u.below av);have b6:=ai (b5.u.below av);have bR:=ai (bc.u.below av);have bT:=ai aY;have bx:=a8.u.size;clear av aY;go_wp2_with fail
 go_loopw [9,29] (fun cl ck wr=>∃(k:Nat)(uU:ag)(l3:List E3),k<=(bZ r.body).length/\ck=.int .i64 k/\cl=uU/\Below aL.heap.size aL wr/\wr.ownsRow aL.heap.size 110 3 uU l3.length (l3.flatMap c3)/\Hid (l3.map (fun e=>e.2.1)=(tk ts n2 k (bZ r.body)).map Ty.name/\∀e∈l3,∃a n c,e.2.2=Value.slice a n c)) (fun _ u _=>(bZ r.body).length-(intOf u).toNat)
 case atStart=>exact ⟨0,_,[],aj,rfl,rfl,aw _ _,bN,ai ⟨rfl,an⟩⟩
 case round=>
  obtain ⟨k,uU,l3,bn,rfl,cg,ag,ho,HQ⟩:=hrel;have cy:l3.length<=k:=by
   have:=congrArg List.length (ak HQ).1;rw [cK,cK] at this;have:=tk_le ts n2 k (bZ r.body);omega
  obtain ⟨sa,sn,sc,rfl⟩:∃a n c,uU=.slice a n c:=by
   obtain ⟨a,c,e⟩:=ay ho;exact ⟨a,_,c,e⟩
  subst cg;have bM:=ai ag;have be:=ai ho;have cm:=ag.size
  by_cases bo:k<(bZ r.body).length
  ·have cf:(k:Int)<((bZ r.body).length:Int):=by omega
   obtain ⟨q,c,e1,k0,k1,cz,k3,cA⟩:=Q2.cell (ax (w':=wr) bT.u (fun g cs f _ ae=>ag.block g (lt_of_some ae))) k (bZ r.body)[k] (aG bo);simp only [aI] at e1;obtain ⟨rfl,_,rfl⟩:=e1;have bk:(bZ r.body)[k]? =some (bZ r.body)[k]:=aG bo;generalize (bZ r.body)[k]=g at*;have HST:=ai (N5 (ts:=ts) (y:=n2) bk);have au:=ag.alloc cm (g9 g.tp g.ty g.reach g.rp g.rel);have al:=ai au;have bb:=ai (bR.u.below au);have cu:=ai (aP.u.below au);have aS:=ai (b6.u.below au);have ct:=ai (aB.new wr #[.int .i64 g.tp,.string g.ty,.int .i64 g.reach,.int .i64 g.rp,.string g.rel] 207);have aC:=ai (be.u.alloc (g9 g.tp g.ty g.reach g.rp g.rel));have cB:wr.cell? ⟨w.heap.size,0,none⟩=some (.slice aK mn mc):=(aP.u.below ag).cell rfl;have cC:=(aP.u.below ag).lt;clear ag ho au bk
   by_cases h0:g.reach=0
   ·have cd:((g.reach:Int) != 0)=false:=by rw [h0];rfl
    cases ac:bL ts g.ty with
    |none=>
     have ht1:ip ts n2 g=none:=by simp [ip,h0,ac]
     have C:=ai (o4 b _ ts tl g.ty _ bb.u ac);clear ac h0;go_wp2_with fail;refine C.u.mono ?_;rintro e ad ⟨rfl,U⟩;have af:=ai (al.u.trans (U.mono al.u.size));have ab:=aS.u.below U;have cw:=ai (ab.alloc cM);obtain ⟨bz,bA,bB,bC,bF⟩:=ab.five;have bG:=ab.lt;have O4:=ai ((ax (w':=ad) aC.u (fun g cs f _ ae=>U.block g (lt_of_some ae))).alloc cM);have aA:=af.u.size;have SR:=ai (af.u.alloc aA cM);clear U ab;have C:=ai (jA b 0 ⟨#[]⟩ (.slice none 0 0) ⟨em,0,[]⟩ [] n2 (ad.alloc cM) ⟨rfl,bN,an,an,an,an,an⟩ rfl);unfold bY;exact PO
    |some u=>
     obtain ⟨V,Z,Y,bw,br,ah⟩:=pW b _ ts tl g.ty _ bb.u u ac;have C:=ai ah;have bi:=ai br;clear ah br
     cases am:bP u n2 with
     |none=>
      have ht1:ip ts n2 g=none:=by simp [ip,h0,ac,am]
      have aO:=ai am;clear ac h0 am;go_wp2_with fail;refine C.u.mono ?_;rintro e ad ⟨rfl,U⟩;have aQ:=ai ((bi.u.below U).below ((aw ad.heap.size ad).alloc az (bq u.place u.name V Z Y)));have af:=ai (al.u.trans (U.mono al.u.size));have ab:=aS.u.below U;obtain ⟨bz,bA,bB,bC,bF⟩:=ab.five;have bG:=ab.lt;have O4:=ai ((ax (w':=ad) aC.u (fun g cs f _ ae=>U.block g (lt_of_some ae))).alloc (bq u.place u.name V Z Y));have aA:=af.u.size;have SR:=ai (af.u.alloc aA (bq u.place u.name V Z Y));clear U ab;have C:=ai (jA b u.place u.name _ u bw n2 _ aQ.u aO.u);exact PO
     |some r2=>
      have ht1:ip ts n2 g=some u:=by simp [ip,h0,ac,am]
      have aO:=ai am;clear ac h0 am;go_wp2_with fail;refine C.u.mono ?_;rintro e ad ⟨rfl,U⟩;have aQ:=ai ((bi.u.below U).below ((aw ad.heap.size ad).alloc az (bq u.place u.name V Z Y)));have b7:=ai (aB.new ad #[.int .i64 u.place,.string u.name,.slice V Z Y] 110);have af:=ai (al.u.trans (U.mono al.u.size));have ab:=aS.u.below U;obtain ⟨bz,bA,bB,bC,bF⟩:=ab.five;have bG:=ab.lt;have O4:=ai ((ax (w':=ad) aC.u (fun g cs f _ ae=>U.block g (lt_of_some ae))).alloc (bq u.place u.name V Z Y));have aA:=af.u.size;have SR:=ai (af.u.alloc aA (bq u.place u.name V Z Y));clear U ab;obtain ⟨bI,bJ,_,_,ah⟩:=kJ b u.place u.name _ u bw n2 _ aQ.u r2 aO.u;have C:=ai ah;clear ah;go_wp2_with fail;refine C.u.mono ?_;rintro e w5 ⟨rfl,aE⟩;have aU:=b7.u.below aE;obtain ⟨cE,cF,cG⟩:=aU.three;have cH:=aU.lt;clear aU;have a9:=ai (SR.u.trans (aE.mono SR.u.size));have bg:=ai (ax (w':=w5) O4.u (fun g cs f _ ae=>aE.block g (lt_of_some ae)));have cj:=a9.u.size;clear aE;go_wp2_with (at_builtin;go_must (refine bD _ rfl _ _ 73 rfl aL.heap.size 110 i0 _ 3 48 underlying73 bO.u bV.u bW.u bX.u rfl ar (.slice sa sn sc) l3.length (l3.flatMap c3) rfl ?hown ⟨w5.heap.size+1,0,none⟩ 1 1 (c3 (u.place,u.name,.slice V Z Y)) rfl rfl ?hnews ?hone ar ?h63 ?hbytes ?hbase (w5.heap.size+2) ?hH ?hrest))
      case hown=>exact (bg.u.alloc _).alloc _
      case hnews=>exact bE (B:=w5.heap.size+1) (cs:=#[.int .i64 u.place,.string u.name,.slice V Z Y]) (t:=110) (fr:=(0,0)) (aB.new' (w5.alloc _) _ _ _ an)
      case hone=>
       exact BU
      case h63=>unfold maxLen;omega
      case hbytes=>omega
      case hbase=>simp;omega
      case hH=>simp
      case hrest=>
       intro cb b9 cI bp bl ce cx;have bh:=(bg.u.alloc (cp r2.place r2.name bI bJ)).alloc (bq u.place u.name V Z Y);have bK:=ai (dc ((a9.u.alloc cj (cp r2.place r2.name bI bJ)).alloc aM (bq u.place u.name V Z Y)) bl aM (fun k bn=>(bh.lt k bn).1));have b3:=ai bp;clear bp bl ce bh;go_wp2;go_roundw
       case rel=>exact ⟨k+1,.slice (some ⟨cb,0,none⟩) (l3.length+1) b9,l3++[(u.place,u.name,.slice V Z Y)],aj,by go_num,rfl,bK.u,by rw [List.length_append,cX];exact b3.u,ai ⟨by rw [HST.u,ht1,de,de,(ak HQ).1];rfl,fun e aH=>by rw [aT,aR] at aH;rcases aH with aH|rfl;exact (ak HQ).2 e aH;exact ⟨V,Z,Y,rfl⟩⟩⟩
       case measure=>simp [intOf];omega
   have cd:((g.reach:Int) != 0)=true:=by rw [g8];omega
   have ht1:ip ts n2 g=none:=by simp [ip,h0]
   clear h0;go_wp2;go_roundw
   case rel=>exact ⟨k+1,.slice sa sn sc,l3,aj,by go_num,rfl,al.u,aC.u,ai PN⟩
   case measure=>simp [intOf];omega
  have cf:¬((k:Int)<((bZ r.body).length:Int)):=aj;have bj:tk ts n2 k (bZ r.body)=(bZ r.body).filterMap (ip ts n2):=by
   unfold tk;rw [eh aj]
  rw [bj] at HQ;clear ag ho bj;go_wp2;go_ret;exact ⟨.slice sa sn sc,rfl,a8.u.trans (bM.u.mono bx),l3,aX be.u bx,(ak HQ).1,fun co cq cr ch=>(ak HQ).2 (co,cq,cr) ch⟩
def Cg(ts:List Ty)(t:Ty)(n1:ae)(p1:Nat)(n2:ae)(p2:Nat):Option Nat:=match bP t n1 with
 |none=>some p1
 |some r=>if ((bZ r.body).filterMap (ip ts n2)).length=0 then some p2 else none
theorem xn(b tp p1 p2:Nat)(n1 n2 sv ts tl t tv rl w)(ae:MC b w sv ts tl)(af:RC b w tv t.rels rl):
  Calls prog 175 #[.agg #[sv],.agg #[.int .i64 t.place,.string t.name,tv],.agg #[.int .i64 tp,.int .i64 p1,.string n1,.int .i64 p2,.string n2]] w fun e' w'=>e'=.returned (gW 5 (Cg ts t n1 p1 n2 p2))/\Below w.heap.size w w':=by
 obtain ⟨R,mn,mc,rfl⟩:=ae.form;obtain ⟨Y,ab,Z,rfl⟩:=af.form;have W0:Below w.heap.size w (((w.alloc (aN R mn mc)).alloc (bq t.place t.name Y ab Z)).alloc (kh tp p1 n1 p2 n2)):=((ba.alloc az _).alloc an _).alloc aM _;have aC:=ai (ae.below W0);have ad:=ai (af.below W0);have ag:=ai (((aB.new w #[.slice R mn mc] 75).alloc (bq t.place t.name Y ab Z)).alloc (kh tp p1 n1 p2 n2));have aj:=ai ((aB.new' (w.alloc (aN R mn mc)) #[.int .i64 t.place,.string t.name,.slice Y ab Z] 110 (w.heap.size+1) an).alloc (kh tp p1 n1 p2 n2));have TB:=ai (aB.new' ((w.alloc (aN R mn mc)).alloc (bq t.place t.name Y ab Z)) #[.int .i64 tp,.int .i64 p1,.string n1,.int .i64 p2,.string n2] 240 (w.heap.size+2) an);have U:=ai W0;generalize I:Cg ts t n1 p1 n2 p2=aQ;unfold Cg at I;clear W0 ae af
 cases O:bP t n1 with
 |none=>
  have C:=ai (jA b t.place t.name _ t rl n1 _ ad.u O);rw [O] at I;have ac:=ai I;clear I O;go_enter func175,ntmps175;go_wp2_with fail;refine C.u.mono ?_;rintro e w1 ⟨rfl,J⟩;have Q:=ai (U.u.trans (J.mono U.u.size));obtain ⟨ar,au,av,aw,ax⟩:=(TB.u.below J).five;have aI:=(TB.u.below J).lt;have sz:=Q.u.size;clear J;unfold bY;go_wp2_with (go_at_call 73;refine (jy _ 5 _).mono ?_;rintro e aY ⟨rfl,rfl⟩);go_ret;rw [<-ac.u];exact ⟨rfl,(bB Q)⟩
 |some r=>
  obtain ⟨aJ,aK,_,_,ak⟩:=kJ b t.place t.name _ t rl n1 _ ad.u r O;have C:=ai ak;have aA:=ai O;rw [O] at I;have ac:=ai I;clear I O ak;go_enter func175,ntmps175;go_wp2_with fail;refine C.u.mono ?_;rintro e w1 ⟨rfl,J⟩;have b1:=J.alloc J.size (cp r.place r.name aJ aK);have Q:=ai (U.u.trans (b1.mono U.u.size));have aD:=ai (aC.u.below b1);have aE:=ai (ad.u.below b1);have ah:=ai (TB.u.below b1);obtain ⟨ar,au,av,aw,ax⟩:=(TB.u.below J).five;have aI:=(TB.u.below J).lt;obtain ⟨aL,aO,aP⟩:=(aj.u.below J).three;have aZ:=(aj.u.below J).lt;have aH:w1.cell? ⟨w.heap.size,0,none⟩=some (.slice R mn mc):=(ag.u.below J).cell rfl;have sz:=Q.u.size;have aR:=(ag.u.below J).lt;clear J b1 C;go_wp2_with fail;refine (vz b tp p1 p2 n1 n2 _ ts tl t _ rl _ aD.u aE.u r aA.u).mono ?_;rintro e aX ⟨aU,ap,rfl,V,ho,al,_⟩;have am:ap.length=((bZ r.body).filterMap (ip ts n2)).length:=by
   have:=congrArg List.length al
   rwa [cK,cK] at this
  obtain ⟨aS,aT,rfl⟩:=ay ho;have B2:=ai (Q.u.trans (V.mono Q.u.size));obtain ⟨a5,a6,a7,a8,a9⟩:=(ah.u.below V).five;have bb:=(ah.u.below V).lt;have aW:=B2.u.size;have I:=ac.u;rw [<-am] at I;generalize ap.length=ln at*;clear V ho al am ar au av aw ax aL aO aP aH
  by_cases h0:ln=0
  ·have aG:((ln:Int)==0)=true:=by rw [h0];rfl
   rw [if_pos h0] at I;have mf:=ai I;clear I h0;exact Jg
  have aG:((ln:Int)==0)=false:=by rw [bG];omega
  rw [if_neg h0] at I;have mf:=ai I;clear I h0;go_wp2;exact BT
abbrev sV:=@List.append_of_mem
def PQ (I:aF:=by
 rw [hn] at hR C;have mf:=ai hR;clear hn hR;go_wp2_with fail;refine (ak C).mono ?_;rintro e J ⟨rfl,D⟩;have B3:=ai (Gk.u.trans (D.mono Gk.u.size));clear D;unfold gW;go_wp2;exact Jq):aF:=I
def Jr (J:aF:=by
 rw [hn] at hR C;have I:=ai hR;clear hn hR;go_wp2_with fail;refine (ak C).mono ?_;rintro e O ⟨rfl,A⟩;have D:=ai (Gk.u.trans (A.mono Gk.u.size));clear A;unfold gW gp;go_wp2;go_ret;rw [<-I.u];exact ⟨rfl,B2.u.trans (D.u.mono NY)⟩):aF:=J
def Js (I:aF:=by
 have C:=ak HQ;rw [eK aj] at C;have J:¬((k:Int)<((aA r.body).length:Int)):=aj;have D:=ai C;clear hbr C;go_wp2;go_ret;rw [<-D.u];exact ⟨rfl,B2.u.trans (HB.u.mono NY)⟩):aF:=I
def Jq (C:aF:=by
 go_roundw
 case rel=>exact ⟨k+1,aj,by go_num,B3.u,mf⟩
 case measure=>simp [intOf];omega):aF:=C
def fW(ts:List Ty)(t:Ty)(p:Ex):Option Nat:=match p.l with
 |some _=>none
 |none=>if p.nd.kind=0 then nO ts p.nd.gs
  else if p.nd.kind=1 then (match bP t p.nd.n1 with
   |none=>some p.nd.place
   |some _=>none)
  else Cg ts t p.nd.n1 p.nd.p1 p.nd.n2 p.nd.p2
def gI(ts:List Ty)(t:Ty)(r:Rl):Option Nat:=(aA r.body).findSome? (fW ts t)
theorem nP{α β:Type}(f:α->Option β)(l:List α)(k)(a:α)(h:l[k]? =some a):(l.drop k).findSome? f=match f a with
  |some p=>some p
  |none=>(l.drop (k+1)).findSome? f:=by
 have C:k<l.length:=by
  rcases ii k l.length with A|A
  ·exact A
  rw [k7 A] at h;cases h
 rw [aG C] at h;simp only [aK] at h;rw [dw C,gq,h]
 cases f a<;>rfl
theorem Gl{e p}(D:p∈aA e)(C:p.l=none)(A:p.nd.kind=0):p.nd.gs.length<=(bZ e).length:=by
 unfold bZ;have:e7 p=p.nd.gs:=by simp [e7,C,A]
 rw [<-this];obtain ⟨a,c,h⟩:=sV D;rw [h];simp;omega
theorem ol(k):gA k=244\/gA k=245\/gA k=246:=by
 exact Je
theorem sW(b sv ts tl t tv rl r bv w)(al:MC b w sv ts tl)(ac:RC b w tv t.rels rl)(ar:bg b w r.body bv)(ap:r∈t.rels):
  Calls prog 117 #[.agg #[sv],.agg #[.int .i64 t.place,.string t.name,tv],.agg #[.int .i64 r.place,.string r.name,bv]] w fun e' w'=>e'=.returned (gW 5 (gI ts t r))/\Below w.heap.size w w':=by
 obtain ⟨ag,mn,mc,rfl⟩:=al.form;obtain ⟨aD,aH,aE,rfl⟩:=ac.form;obtain ⟨aC,rv,rfl⟩:=ar.isI;have W0:Below w.heap.size w (((w.alloc (aN ag mn mc)).alloc (bq t.place t.name aD aH aE)).alloc (cp r.place r.name aC rv)):=((ba.alloc az _).alloc an _).alloc aM _;have aK:=ai (al.below W0);have a5:=ai (ac.below W0);have a6:=ai (ar.but (But.of_below W0));have bc:=ai (((aB.new w #[.slice ag mn mc] 75).alloc (bq t.place t.name aD aH aE)).alloc (cp r.place r.name aC rv));have bf:=ai ((aB.new' (w.alloc (aN ag mn mc)) #[.int .i64 t.place,.string t.name,.slice aD aH aE] 110 (w.heap.size+1) an).alloc (cp r.place r.name aC rv));have okp:=ac.okp r ap;have okg:=ac.okg r ap;have aO:=ai W0;generalize hR:gI ts t r=aQ;have aY:=ai hR;have bh:=aK.u.blt;clear W0 al ac ar hR ap;go_enter func117,ntmps117;go_wp2_with fail;refine (ng r.body b _ _ bh a6.u okp).mono ?_;rintro e1 aX ⟨bO,rfl,Z,l,l1,aU,av⟩;obtain ⟨bL,bM,rfl⟩:=ay av;have bI:l.length=(aA r.body).length:=by rw [<-l1];simp
 have B2:=ai (aO.u.trans (Z.mono aO.u.size));have a7:=ai l1;have a8:=ai aU;have a9:=ai av;have bb:=ai (aK.u.below Z);have be:=ai (a5.u.below Z);have aP:=ai (bc.u.below Z);have aR:=ai (bf.u.below Z);have NY:=B2.u.size;clear Z l1 aU av;have f0:=dx;have f1:=dY;have f2:=dZ;have f3:=cQ;have f4:=dy;have f5:=dz;have bw:=fA;have bz:=fB;have bA:=dD;have bB:=eR;have g5:=eT;have h2:=fC;have bC:=dE;have bD:=eS;have bE:=eU;go_wp2_with fail
 go_loopw [17] (fun bn wr=>∃(k:Nat),k<=(aA r.body).length/\bn=.int .i64 k/\Below aX.heap.size aX wr/\Hid (((aA r.body).drop k).findSome? (fW ts t)=aQ)) (fun u _=>(aA r.body).length-(intOf u).toNat)
 case atStart=>exact ⟨0,aj,rfl,aw _ _,aY⟩
 case round=>
  obtain ⟨k,bF,rfl,hbr,HQ⟩:=hrel;have HB:=ai hbr;have aJ:=hbr.size
  by_cases bH:k<(aA r.body).length
  ·have hkl:k<l.length:=by omega
   obtain ⟨aW,c1,e1,aT⟩:=aZ (ax (w':=wr) a9.u (fun g cs f _ am=>hbr.block g (lt_of_some am))) k l[k].2 Jb;simp only [aI] at e1;obtain ⟨rfl,_,rfl⟩:=e1;have ab:=(a8.u l[k] (bu hkl)).but (b:=b) (But.of_below hbr);have ae:(aA r.body)[k]? =some l[k].1:=by rw [<-a7.u];simp [aG hkl]
   generalize l[k]=q at*;obtain ⟨aW,bN⟩:=q;simp only at aT ab ae;have bG:(k:Int)<((aA r.body).length:Int):=aj;have hR:=ak HQ;rw [nP _ _ _ _ ae] at hR;have Y:=bx ae;have bJ:wr.cell? ⟨w.heap.size,0,none⟩=some (.slice ag mn mc):=(aP.u.below hbr).cell rfl;have bK:=(aP.u.below hbr).lt;obtain ⟨bQ,bR,bS⟩:=(aR.u.below hbr).three;have bT:=(aR.u.below hbr).lt;have aL:=ai (bb.u.below hbr);have ah:=ai (be.u.below hbr);clear hbr ae HQ
   match aW,ab,hR,Y with
   |⟨nq,some xq,some yq⟩,⟨vx,vy,hv,rx,ry⟩,hR,Y=>
    have mf:=ai (show ((aA r.body).drop (k+1)).findSome? (fW ts t)=aQ from hR);subst hv;clear rx ry hR Y
    rcases ol nq.kind with af|af|af
    all_goals
     rw [af] at aT;clear af;go_wp2;go_roundw
     case rel=>exact ⟨k+1,aj,by go_num,HB.u,mf⟩
     case measure=>simp [intOf];omega
   |⟨nq,none,rq⟩,ab,hR,Y=>
    rcases ab with ⟨U,gv,hv,au⟩|⟨U,hv⟩|⟨U,hv⟩
    ·have bi:=Gl Y rfl U;have R:fW ts t ⟨nq,none,rq⟩=nO ts nq.gs:=by simp [fW,U]
     rw [R] at hR;obtain ⟨br,bt,bs,rfl⟩:∃a n c,gv=.slice a n c:=by
      obtain ⟨a,c,e⟩:=ay au;exact ⟨a,_,c,e⟩
     subst hv;have Q:Below wr.heap.size wr (wr.alloc (oh nq.place br bt bs)):=ba.alloc az _;have C:=ai (u2 b nq.place _ ts tl _ nq.gs _ (aL.u.below Q) (ax au (fun g cs f _ am=>Q.block g (lt_of_some am))) (by simp only at bi;omega));have Gk:=ai (HB.u.trans (Q.mono aJ));clear au Q R
     cases hn:nO ts nq.gs with
     |some p=>
      exact Jr
     |none=>
      exact PQ
    ·subst hv;have Q:Below wr.heap.size wr (wr.alloc (.cells #[.int .i64 nq.place,.string nq.n1] 238)):=ba.alloc az _;have Gk:=ai (HB.u.trans (Q.mono aJ));have ad:=ai (aB.new wr #[.int .i64 nq.place,.string nq.n1] 238)
     cases hn:bP t nq.n1 with
     |none=>
      have R:fW ts t ⟨nq,none,rq⟩=some nq.place:=by simp [fW,U,hn]
      rw [R] at hR;have mf:=ai hR;have C:=ai (jA b t.place t.name _ t rl nq.n1 _ (ah.u.below Q) hn);clear hn hR Q R U Y;go_wp2_with fail;refine (ak C).mono ?_;rintro e bo ⟨rfl,V⟩;have B3:=ai (Gk.u.trans (V.mono Gk.u.size));obtain ⟨bj,bk⟩:=(ad.u.below V).two;have bl:=(ad.u.below V).lt;clear V;unfold bY;go_wp2_with (go_at_call 73;refine (jy _ 5 _).mono ?_;rintro e bp ⟨rfl,rfl⟩;unfold gp bY);go_ret;rw [<-mf.u];exact ⟨rfl,B2.u.trans (B3.u.mono NY)⟩
     |some r2=>
      have R:fW ts t ⟨nq,none,rq⟩=none:=by simp [fW,U,hn]
      rw [R] at hR;have mf:=ai hR;obtain ⟨bU,bV,_,_,aS⟩:=kJ b t.place t.name _ t rl nq.n1 _ (ah.u.below Q) r2 hn;have C:=ai aS;clear hn hR Q R U Y aS;go_wp2_with fail;refine (ak C).mono ?_;rintro e bo ⟨rfl,V⟩;have B3:=ai (Gk.u.trans (V.mono Gk.u.size));obtain ⟨bj,bk⟩:=(ad.u.below V).two;have bl:=(ad.u.below V).lt;clear V;go_wp2_with (go_at_call 73;refine (I9 _ _).mono ?_;rintro e bp ⟨rfl,rfl⟩);exact Jq
    subst hv;have R:fW ts t ⟨nq,none,rq⟩=Cg ts t nq.n1 nq.p1 nq.n2 nq.p2:=by simp [fW,U]
    rw [R] at hR;have Q:Below wr.heap.size wr (wr.alloc (kh nq.place nq.p1 nq.n1 nq.p2 nq.n2)):=ba.alloc az _;have Gk:=ai (HB.u.trans (Q.mono aJ));have C:=ai (xn b nq.place nq.p1 nq.p2 nq.n1 nq.n2 _ ts tl t _ rl _ (aL.u.below Q) (ah.u.below Q));clear Q R U Y
    cases hn:Cg ts t nq.n1 nq.p1 nq.n2 nq.p2 with
    |some p=>
     exact Jr
    |none=>
     exact PQ
   |⟨nq,some xq,none⟩,ab,hR,Y=>exact ab.elim
  exact Js
abbrev hJ(a0:ae)(a1:ae):Obj:=.cells #[.string a0,.string a1] 291
def sX (C:aF:=by
 intro z A;simp [zh] at A
 rcases A with rfl|rfl<;>rfl):aF:=C
abbrev Sp:=ae×ae
def zh(s:Sp):List ag:=[.string s.1,.string s.2]
def bk(l:List Sp):List ag:=l.flatMap zh
theorem Jt(s):∀(l:List Sp)(i:Nat),l[i]? =some s->(bk l)[i*2]? =some (.string s.1)/\(bk l)[i*2+1]? =some (.string s.2)
 | [],i,h=>by simp at h
 |e'::l,0,h=>by simp at h;subst h;simp [bk,zh]
 |e'::l,i+1,h=>by
  have:=Jt s l i mw;rw [show bk (e'::l)=zh e'++bk l from rfl,show (i+1)*2=i*2+2 by omega]
  simpa [zh] using this
theorem Row2.cell{base l}(h:w.ownsRow base 291 2 v l.length (bk l))(i s)(hi:l[i]? =some s):
  ∃q c,v=.slice (some ⟨q,0,none⟩) l.length c/\w.cell? ⟨q,i*2,none⟩=some (.string s.1)/\w.cell? ⟨q,i*2+1,none⟩=some (.string s.2):=by
 obtain ⟨h0,h1⟩:=Jt s l i hi;obtain ⟨q,c,rfl,e0⟩:=aZ h _ _ h0;obtain ⟨C,A,e',e1⟩:=aZ h _ _ h1;simp only [aI,aK,cw] at e';obtain ⟨⟨rfl,_⟩,_⟩:=e';exact ⟨q,c,rfl,e0,e1⟩
theorem dO(a c):bk (a++c)=bk a++bk c:=by simp [bk]
theorem cd(a):(bk a).length=a.length*2:=by
 induction a with
 |nil=>rfl
 |cons g r ih=>simp [bk,zh] at*;omega
theorem Ju(l):∀u∈bk l,u.oneCell'=true:=by
 intro u h;unfold bk at h;rw [cb] at h;obtain ⟨g,_,h⟩:=h;simp [zh] at h
 rcases h with rfl|rfl<;>rfl
theorem Tryz.info291:(Tryz.prog.info? 291).map (fun i=>(i.zero,i.size,i.bytes))=some (some (.agg #[.string ⟨#[]⟩,.string ⟨#[]⟩]),2,32):=by kernel_rfl
def hM(base:Nat)(w:af)(sv:ag)(l:List Sp):Prop:=w.ownsRow base 291 2 sv l.length (bk l)/\(l=[]->sv=.slice none 0 0)
theorem hM.nil(base w):hM base w (.slice none 0 0) []:=⟨bN,fun _=>rfl⟩
theorem hM.form{base l}(h:hM base w sv l):∃a c,sv=.slice a l.length c:=ay h.1
theorem hM.base{base l}(h:hM base w sv l)(A:base'<=base):hM base' w sv l:=⟨aX h.1 A,h.2⟩
def ll(g:Gr):Option Sp:=if g.reach=2 then some (g.ty,g.rel) else none
def xo(k:Nat)(gs:List Gr):List Sp:=(gs.take k).filterMap ll
def lm(r:Rl):List Sp:=(bZ r.body).filterMap ll
theorem Gm{gs g}(h:gs[k]? =some g):xo (k+1) gs=xo k gs++(ll g).toList:=by
 have C:k<gs.length:=by
  exact Jp
 rw [aG C] at h;simp only [aK] at h;unfold xo;rw [dS C,List.filterMap_append,h]
 cases D:ll g<;>simp [D]
theorem N6(k gs):(xo k gs).length<=k:=by
 unfold xo;have:=sU ll (gs.take k);rw [gj] at this;omega
theorem zi(b r v w)(bi:b<w.heap.size)(h:bg b w r.body v)(ba:(aA r.body).length<=1000)(a7:(bZ r.body).length<=1000)(av:WF r.body):
  Calls prog 225 #[.agg #[.int .i64 r.place,.string r.name,v]] w fun e' w'=>∃sv,e'=.returned sv/\Below w.heap.size w w'/\hM w.heap.size w' sv (lm r):=by
 obtain ⟨i0,hi,aC,aD,aE⟩:=bH Tryz.info291;have aN:=ai hi;have aR:=ai aC;have aS:=ai aD;have aT:=ai aE;clear hi aC aD aE;obtain ⟨be,rv,rfl⟩:=h.isI;have H:=ai h;have aQ:=ai av;clear h av;go_enter func225,ntmps225;go_wp2_with fail;refine (oi r.place r.name b r.body _ _ aM (H.u.but ((But.refl b w).alloc _)) ba a7 aQ.u).mono ?_;rintro e J ⟨gv,rfl,ah,V⟩;obtain ⟨ga,gc,rfl⟩:=ay V;have Z:=ai (((aw _ w).alloc az (cp r.place r.name be rv)).trans (ah.mono an));have aP:=ai V;have aH:=Z.u.size;clear ah V;go_wp2_with fail
 go_loopw [3,9] (fun bf bh wr=>∃(k:Nat)(sv:ag),k<=(bZ r.body).length/\bh=.int .i64 k/\bf=sv/\Below J.heap.size J wr/\hM J.heap.size wr sv (xo k (bZ r.body))) (fun _ u _=>(bZ r.body).length-(intOf u).toNat)
 case atStart=>exact ⟨0,_,aj,rfl,rfl,aw _ _,hM.nil _ _⟩
 case round=>
  obtain ⟨k,sv,am,rfl,bc,D,ho⟩:=hrel;obtain ⟨sa,sc,bb⟩:=ho.form;have bl:=N6 k (bZ r.body);have R:=ho.2;have U:=ho.1;generalize ae:xo k (bZ r.body)=L at*;have Q:=ai ae;clear ae;subst bb;subst bc;have O:=ai D;have ab:=ai R;have I:=ai U;have aJ:=D.size
  by_cases ap:k<(bZ r.body).length
  ·have a9:(k:Int)<((bZ r.body).length:Int):=by omega
   obtain ⟨q,c,e1,k0,k1,bn,k3,bo⟩:=Q2.cell (ax (w':=wr) aP.u (fun g cs f _ a8=>D.block g (lt_of_some a8))) k (bZ r.body)[k] (aG ap);simp only [aI] at e1;obtain ⟨rfl,_,rfl⟩:=e1;have ak:(bZ r.body)[k]? =some (bZ r.body)[k]:=aG ap;generalize (bZ r.body)[k]=g at*;have ac:=ai (Gm ak);clear D ho R U ak
   by_cases h2:g.reach=2
   ·have a5:((g.reach:Int)==2)=true:=by rw [h2];rfl
    have Y:ll g=some (g.ty,g.rel):=by simp [ll,h2]
    clear h2;go_wp2_with (at_builtin;go_must (refine bD _ rfl _ _ 288 rfl J.heap.size 291 i0 _ 2 32 underlying288 aN.u aR.u aS.u aT.u rfl ar (.slice sa L.length sc) L.length (bk L) rfl ?hown ⟨wr.heap.size+1,0,none⟩ 1 1 (zh (g.ty,g.rel)) rfl rfl ?hnews ?hone ar ?h63 ?hbytes ?hbase (wr.heap.size+2) ?hH ?hrest))
    case hown=>exact (I.u.alloc _).alloc _
    case hnews=>exact bE (B:=wr.heap.size+1) (cs:=#[.string g.ty,.string g.rel]) (t:=291) (fr:=(0,0)) (aB.new' (wr.alloc _) _ _ _ an)
    case hone=>
     exact sX
    case h63=>unfold maxLen;omega
    case hbytes=>omega
    case hbase=>simp;omega
    case hH=>simp
    case hrest=>
     intro aZ aY bp au al a6 bj;have ad:=(I.u.alloc (g9 g.tp g.ty g.reach g.rp g.rel)).alloc (hJ g.ty g.rel);have aK:=ai (dc ((O.u.alloc aJ (g9 g.tp g.ty g.reach g.rp g.rel)).alloc aM (hJ g.ty g.rel)) al aM (fun k am=>(ad.lt k am).1));have aU:=ai au;clear au al a6 ad;go_wp2;go_roundw
     case rel=>exact ⟨k+1,.slice (some ⟨aZ,0,none⟩) (L.length+1) aY,aj,by go_num,rfl,aK.u,by rw [ac.u,Y,Q.u];exact ⟨by rw [Option.toList_some,List.length_append,dO];exact aU.u,fun h=>by simp at h⟩⟩
     case measure=>simp [intOf];omega
   have a5:((g.reach:Int)==2)=false:=by rw [bG];omega
   have Y:ll g=none:=by simp [ll,h2]
   have aL:=ai (O.u.alloc aJ (g9 g.tp g.ty g.reach g.rp g.rel));have aW:=ai (I.u.alloc (g9 g.tp g.ty g.reach g.rp g.rel));clear h2;go_wp2;go_roundw
   case rel=>exact ⟨k+1,.slice sa L.length sc,aj,by go_num,rfl,aL.u,by rw [ac.u,Y,Q.u];exact ⟨by simpa using aW.u,fun h=>ab.u mw⟩⟩
   case measure=>simp [intOf];omega
  have a9:¬((k:Int)<((bZ r.body).length:Int)):=aj;have ag:xo k (bZ r.body)=lm r:=by
   unfold xo lm;rw [eh aj]
  have af:L=lm r:=Q.u.symm.trans ag;have aO:=ai af;clear D ho R U ag af;go_wp2;go_ret;exact ⟨.slice sa L.length sc,rfl,Z.u.trans (O.u.mono aH),by rw [<-aO.u];exact ⟨aX I.u aH,ab.u⟩⟩
theorem Jv(b tp p1 p2:Nat)(n1 n2 sv ts tl t tv rl w)(O:MC b w sv ts tl)(J:RC b w tv t.rels rl):
  Calls prog 223 #[.agg #[sv],.agg #[.int .i64 t.place,.string t.name,tv],.agg #[.int .i64 tp,.int .i64 p1,.string n1,.int .i64 p2,.string n2]] w fun e' w'=>∃(uU:ag)(C:List E3),e'=.returned uU/\Below w.heap.size w w'/\w'.ownsRow w.heap.size 110 3 uU C.length (C.flatMap c3)/\C.map (fun e=>e.2.1)=(mC ts t n1 n2).map Ty.name/\C.length<=1000/\∀e∈C,∃a n c,e.2.2=.slice a n c:=by
 unfold mC
 cases I:bP t n1 with
 |none=>
  refine (Gj b tp p1 p2 n1 n2 sv ts tl t tv rl w O J I).mono ?_;rintro e w' ⟨rfl,D⟩;exact ⟨_,[],rfl,D,bN,rfl,an,an⟩
 |some r=>
  refine (vz b tp p1 p2 n1 n2 sv ts tl t tv rl w O J r I).mono ?_;rintro e w' ⟨uU,C,rfl,D,h1,h2,Q⟩;refine ⟨_,C,rfl,D,h1,h2,?_,Q⟩;have e1:=congrArg List.length h2;rw [cK,cK] at e1;have R:=sU (ip ts n2) (bZ r.body);have U:=J.okg r (gm I);omega
abbrev om:=@Sem.run_bind
abbrev cj:=@List.map_cons
abbrev p8:=@List.map_nil
abbrev mD:=@List.map_map
def dq(ts:List Ty)(t:Ty)(r:Rl)(p:Ex):List Sp:=match p.l with
 |some _=>[]
 |none=>if p.nd.kind=0 then lm r
  else if p.nd.kind=1 then [(t.name,p.nd.n1)]
  else (mC ts t p.nd.n1 p.nd.n2).map fun u=>(u.name,p.nd.n2)
def cY(ts:List Ty)(t:Ty)(r:Rl)(e:Ex):List Sp:=(aA e).flatMap (dq ts t r)
def NK(ts:List Ty)(t:Ty)(r:Rl)(e:Ex)(k:Nat):List Sp:=((aA e).take k).flatMap (dq ts t r)
theorem EL{e p}(hk:(aA e)[k]? =some p):NK ts t r e (k+1)=NK ts t r e k++dq ts t r p:=by
 unfold NK;have C:k<(aA e).length:=by
  exact Jd
 rw [dS C,cX];rw [aG C] at hk;simp only [aK] at hk;simp [hk]
theorem N7(r):(lm r).length<=(bZ r.body).length:=sU _ _
theorem Jw{rl}(ts t)(A:RC b w tv t.rels rl)(x y):(mC ts t x y).length<=1000:=by
 unfold mC
 cases h:bP t x with
 |none=>simp
 |some r=>
  have C:=sU (ip ts y) (bZ r.body);have D:=A.okg r (gm h);simp only;omega
theorem vA{rl}(ts t)(h:RC b w tv t.rels rl)(r)(A:(bZ r.body).length<=1000)(p):(dq ts t r p).length<=1000:=by
 unfold dq;have h1:=N7 r;have h2:=Jw ts t h p.nd.n1 p.nd.n2
 split
 ·simp
 split
 ·omega
 split
 ·simp
 simpa using h2
theorem Jx{b w tv rl}(ts t)(I:RC b w tv t.rels rl)(r)(D:(bZ r.body).length<=1000)(e):∀k,(NK ts t r e k).length<=1000*k
 |0=>by simp [NK]
 |k+1=>by
  have J:=Jx ts t I r D e k
  rcases ii k (aA e).length with C|C
  ·rw [EL (aG C),List.length_append];have:=vA ts t I r D (aA e)[k];omega
  have:NK ts t r e (k+1)=NK ts t r e k:=by
   unfold NK;rw [eh aj,eh C]
  rw [this];omega
theorem oo{h:Array Oper}{o:Oper}{a:Act}{Q:Exit->Act->af->Prop}(D:o.guard=none)(s x:Operand)(t:TypeId)
  (ho:o.op=.call {callee:=.builtin .append,args:=#[s,x],argTypes:=#[t,t]}) (v:ag) (hs:a.eval s=v) (J:a.eval x=.slice none 0 0)
  (I:∀ty,(Builtin.append_ #[t,t] ty #[v,.slice none 0 0]).run P w=.ok v w)
  (A:wpList P h Q rest (a.put o.dst v) w):wpList P h Q (o::rest) a w:=
 wpList_plain D fun _ C=>by
  unfold Oper.wp execOp;simp only [ho,resolve,invoke,builtin,om,Sem.run_pure,Result.andThen_ok,List.map_toArray,cj,p8,hs,J,I];exact C _ _ A
theorem p9(b Q ts tl t tv rl r bv e ev w)(U:MC b w Q ts tl)(ah:RC b w tv t.rels rl)(bK:bg b w r.body bv)(a7:r∈t.rels)(bz:bg b w e ev)(di:(aA e).length<=1000):
  Calls prog 177 #[.agg #[Q],.agg #[.int .i64 t.place,.string t.name,tv],.agg #[.int .i64 r.place,.string r.name,bv],ev] w fun e' w'=>∃Q,e'=.returned Q/\Below w.heap.size w w'/\hM w.heap.size w' Q (cY ts t r e):=by
 obtain ⟨i0,hi,cf,ch,ci⟩:=bH Tryz.info291;have aY:=ai hi;have bp:=ai cf;have br:=ai ch;have bs:=ai ci;clear hi cf ch ci;obtain ⟨aW,mn,mc,rfl⟩:=U.form;obtain ⟨bh,bj,bi,rfl⟩:=ah.form;obtain ⟨bf,rv,rfl⟩:=bK.isI;obtain ⟨dr,ex,rfl⟩:=bz.isI;have W0:Below w.heap.size w (((w.alloc (aN aW mn mc)).alloc (bq t.place t.name bh bj bi)).alloc (cp r.place r.name bf rv)):=((ba.alloc az _).alloc an _).alloc aM _;have bW:=ai (U.below W0);have cM:=ai (ah.below W0);have cP:=ai (bK.but (But.of_below W0));have cE:=ai (bz.but (But.of_below W0));have cW:=ai (((aB.new w #[.slice aW mn mc] 75).alloc (bq t.place t.name bh bj bi)).alloc (cp r.place r.name bf rv));have da:=ai ((aB.new' (w.alloc (aN aW mn mc)) #[.int .i64 t.place,.string t.name,.slice bh bj bi] 110 (w.heap.size+1) an).alloc (cp r.place r.name bf rv));have c4:=ai (aB.new' ((w.alloc (aN aW mn mc)).alloc (bq t.place t.name bh bj bi)) #[.int .i64 r.place,.string r.name,.iface bf rv] 159 (w.heap.size+2) an);have okp:=ah.okp r a7;have okg:=ah.okg r a7;have cO:=ai (ah.wf r a7);have cJ:=ai (Jx ts t ah r okg e);have cI:=ai (vA ts t ah r okg);have bZ:=ai W0;have db:=bW.u.blt;clear W0 U ah bK a7 bz;go_enter func177,ntmps177;go_wp2_with fail;refine (ng e b _ _ db cE.u di).mono ?_;rintro e1 R ⟨dQ,rfl,ac,l,l1,cm,bN⟩;obtain ⟨dM,dN,rfl⟩:=ay bN;have dJ:l.length=(aA e).length:=by rw [<-l1];simp
 have bT:=ai (bZ.u.trans (ac.mono bZ.u.size));have cS:=ai l1;have cT:=ai cm;have cU:=ai bN;have cV:=ai (bW.u.below ac);have c5:=ai (cM.u.below ac);have c9:=ai (cP.u.but (But.of_below ac));have b0:=ai (cW.u.below ac);have b3:=ai (da.u.below ac);have b2:=ai (c4.u.below ac);have cq:=bT.u.size;clear ac l1 cm bN;have f0:=dx;have f1:=dY;have f2:=dZ;have f3:=cQ;have f4:=dy;have f5:=dz;have ds:=fA;have dt:=fB;have du:=dD;have dv:=eR;have g5:=eT;have h2:=fC;have dw:=dE;have dB:=eS;have dC:=eU;go_wp2_with fail
 go_loopw [9,20] (fun bQ dl wr=>∃(k:Nat)(Q:ag),k<=(aA e).length/\dl=.int .i64 k/\bQ=Q/\Below R.heap.size R wr/\hM R.heap.size wr Q (NK ts t r e k)) (fun _ u _=>(aA e).length-(intOf u).toNat)
 case atStart=>exact ⟨0,_,aj,rfl,rfl,aw _ _,hM.nil _ _⟩
 case round=>
  obtain ⟨k,Q,av,rfl,bM,J,ho⟩:=hrel;obtain ⟨sa,sc,bL⟩:=ho.form;have dH:=cJ.u k;have bI:=ho.2;have bJ:=ho.1;generalize b6:NK ts t r e k=L at*;have ap:=ai b6;clear b6;subst bL;subst bM;have aJ:=ai J;have a5:=ai bI;have au:=ai bJ;have bS:=J.size
  by_cases dI:k<(aA e).length
  ·have bG:k<l.length:=by omega
   obtain ⟨bO,c1,e1,cl⟩:=aZ (ax (w':=wr) cU.u (fun g cs f _ Y=>J.block g (lt_of_some Y))) k l[k].2 (by simp [aG bG]);simp only [aI] at e1;obtain ⟨rfl,_,rfl⟩:=e1;have aC:=(cT.u l[k] (bu bG)).but (b:=b) (But.of_below J);have bF:(aA e)[k]? =some l[k].1:=by rw [<-cS.u];simp [aG bG]
   generalize l[k]=q at*;obtain ⟨bO,dP⟩:=q;simp only at cl aC bF;have dh:(k:Int)<((aA e).length:Int):=aj;have O:=ai (EL (ts:=ts) (t:=t) (r:=r) bF);have ae:=cI.u bO;have dK:wr.cell? ⟨w.heap.size,0,none⟩=some (.slice aW mn mc):=(b0.u.below J).cell rfl;have dL:=(b0.u.below J).lt;obtain ⟨dV,dW,dX⟩:=(b3.u.below J).three;have d0:=(b3.u.below J).lt;obtain ⟨d2,d3,d4⟩:=(b2.u.below J).three;have d5:=(b2.u.below J).lt;have bX:=ai (cV.u.below J);have cN:=ai (c5.u.below J);have cR:=ai (c9.u.but (But.of_below J));have dp:=bX.u.blt;clear J ho bI bJ bF
   match bO,aC,ae,O with
   |⟨nq,some xq,some yq⟩,⟨vx,vy,hv,rx,ry⟩,ae,O=>
    subst hv;clear rx ry
    rcases ol nq.kind with bc|bc|bc
    all_goals
     rw [bc] at cl;clear bc;go_wp2;go_roundw
     case rel=>exact ⟨k+1,.slice sa L.length sc,aj,by go_num,rfl,aJ.u,by rw [ak O,ap.u];simp only [dq,List.append_nil];exact ⟨au.u,a5.u⟩⟩
     case measure=>simp [intOf];omega
   |⟨nq,none,rq⟩,aC,ae,O=>
    rcases aC with ⟨ad,gv,hv,cd⟩|⟨ad,hv⟩|⟨ad,hv⟩
    ·obtain ⟨cw,cy,cx,rfl⟩:∃a n c,gv=.slice a n c:=by
      obtain ⟨a,c,e⟩:=ay cd;exact ⟨a,_,c,e⟩
     have af:dq ts t r ⟨nq,none,rq⟩=lm r:=by simp [dq,ad]
     rw [af] at ae O;subst hv;have I:Below wr.heap.size wr (wr.alloc (oh nq.place cw cy cx)):=ba.alloc az _;have aK:=ai (aJ.u.trans (I.mono bS));have C:=ai (zi b r _ _ aM (cR.u.but (But.of_below I)) okp okg cO.u);have bt:=ai (au.u.alloc (oh nq.place cw cy cx));clear cd ad af I;go_wp2_with fail;refine C.u.mono ?_;rintro e aD ⟨dk,rfl,Z,bb⟩;have am:=ai (aK.u.trans (Z.mono aK.u.size));have bP:=am.u.size;have be:=ax (w':=aD) bt.u (fun g cs f _ Y=>Z.block g (lt_of_some Y));have aL:=ai be
     by_cases aU:lm r=[]
     ·have dd:=bb.2 aU;subst dd;rw [aU] at O;have cC:=ai (fun ty=>run_append_owned_none (P:=prog) aD R.heap.size 288 ty 291 i0 2 underlying288 aY.u (.slice sa L.length sc) L.length (bk L) be);clear Z bb be aU C;go_wp2_with (at_builtin;go_must (refine oo rfl _ _ 288 rfl (.slice sa L.length sc) rfl rfl cC.u ?_));go_roundw
      case rel=>exact ⟨k+1,.slice sa L.length sc,aj,by go_num,rfl,am.u,by rw [ak O,ap.u,List.append_nil];exact ⟨aL.u,a5.u⟩⟩
      case measure=>simp [intOf];omega
     have a8:0<(lm r).length:=mg.2 aU;obtain ⟨df,gc,rfl,nl,co⟩:=nh bb.1 a8;have cX:=ai nl;have cZ:=ai co;clear Z bb be aU C nl co;go_wp2_with (at_builtin;go_must (refine bD _ rfl _ _ 288 rfl R.heap.size 291 i0 _ 2 32 underlying288 aY.u bp.u br.u bs.u rfl ar (.slice sa L.length sc) L.length (bk L) rfl aL.u ⟨df,0,none⟩ (lm r).length gc (bk (lm r)) rfl cX.u cZ.u (Ju _) a8 ?h63 ?hbytes bP aD.heap.size rfl ?hrest))
     case h63=>unfold maxLen;omega
     case hbytes=>omega
     case hrest=>
      intro aQ aP bR ag V aR b9;have aH:=ai (dc am.u V bP (fun k av=>(aL.u.lt k av).1));have aO:=ai ag;clear ag V aR;go_wp2;go_roundw
      case rel=>exact ⟨k+1,.slice (some ⟨aQ,0,none⟩) (L.length+(lm r).length) aP,aj,by go_num,rfl,aH.u,by rw [ak O,ap.u];exact ⟨by rw [List.length_append,dO];exact aO.u,fun U=>by simp at U;rw [U.2] at a8;simp at a8⟩⟩
      case measure=>simp [intOf];omega
    ·have af:dq ts t r ⟨nq,none,rq⟩=[(t.name,nq.n1)]:=by simp [dq,ad]
     rw [af] at ae O;subst hv;clear af ad;go_wp2_with (at_builtin;go_must (refine bD _ rfl _ _ 288 rfl R.heap.size 291 i0 _ 2 32 underlying288 aY.u bp.u br.u bs.u rfl ar (.slice sa L.length sc) L.length (bk L) rfl ?hown ⟨wr.heap.size+1,0,none⟩ 1 1 (zh (t.name,nq.n1)) rfl rfl ?hnews ?hone ar ?h63 ?hbytes ?hbase (wr.heap.size+2) ?hH ?hrest))
     case hown=>exact (au.u.alloc _).alloc _
     case hnews=>exact bE (B:=wr.heap.size+1) (cs:=#[.string t.name,.string nq.n1]) (t:=291) (fr:=(0,0)) (aB.new' (wr.alloc _) _ _ _ an)
     case hone=>
      exact sX
     case h63=>unfold maxLen;omega
     case hbytes=>omega
     case hbase=>simp;omega
     case hH=>simp
     case hrest=>
      intro aQ aP bR ag V aR b9;have al:=(au.u.alloc (.cells #[.int .i64 nq.place,.string nq.n1] 238)).alloc (hJ t.name nq.n1);have aH:=ai (dc ((aJ.u.alloc bS (.cells #[.int .i64 nq.place,.string nq.n1] 238)).alloc aM (hJ t.name nq.n1)) V aM (fun k av=>(al.lt k av).1));have aO:=ai ag;clear ag V aR al;go_wp2;go_roundw
      case rel=>exact ⟨k+1,.slice (some ⟨aQ,0,none⟩) (L.length+1) aP,aj,by go_num,rfl,aH.u,by rw [ak O,ap.u];exact ⟨by rw [List.length_append,dO];exact aO.u,fun U=>by simp at U⟩⟩
      case measure=>simp [intOf];omega
    have af:dq ts t r ⟨nq,none,rq⟩=(mC ts t nq.n1 nq.n2).map fun u=>(u.name,nq.n2):=by simp [dq,ad]
    rw [af] at ae O;subst hv;have I:Below wr.heap.size wr (wr.alloc (kh nq.place nq.p1 nq.n1 nq.p2 nq.n2)):=ba.alloc az _;have aK:=ai (aJ.u.trans (I.mono bS));have C:=ai (Jv b nq.place nq.p1 nq.p2 nq.n1 nq.n2 _ ts tl t _ rl _ (bX.u.below I) (cN.u.below I));have bt:=ai (au.u.alloc (kh nq.place nq.p1 nq.n1 nq.p2 nq.n2));have c7:=ai (aB.new wr #[.int .i64 nq.place,.int .i64 nq.p1,.string nq.n1,.int .i64 nq.p2,.string nq.n2] 240);clear I af ad;go_wp2_with fail;refine C.u.mono ?_;rintro e aD ⟨dk,D,rfl,Z,bw,b4,dA,b5⟩;obtain ⟨ta,tc,rfl⟩:=ay bw;have am:=ai (aK.u.trans (Z.mono aK.u.size));have bP:=am.u.size;have c8:=ai (c7.u.below Z);have aL:=ai (show hM R.heap.size aD (.slice sa L.length sc) L from ⟨ax (w':=aD) bt.u (fun g cs f _ Y=>Z.block g (lt_of_some Y)),a5.u⟩);have cA:=ai bw;have cB:=ai b5;have cb:(mC ts t nq.n1 nq.n2).map (fun u=>(u.name,nq.n2))=D.map (fun e=>(e.2.1,nq.n2)):=by
     have:=congrArg (List.map (fun n=>(n,nq.n2))) b4;simp only [mD] at this;exact this.symm
    rw [cb] at ae O;clear Z bw b4 b5 cb C;go_wp2_with fail
    go_loopw [9,53] (fun bQ dm bl=>∃(j:Nat)(Q:ag),j<=D.length/\dm=.int .i64 j/\bQ=Q/\Below R.heap.size R bl/\aB bl wr.heap.size #[.int .i64 nq.place,.int .i64 nq.p1,.string nq.n1,.int .i64 nq.p2,.string nq.n2] 240/\bl.ownsRow 0 110 3 (.slice ta D.length tc) D.length (D.flatMap c3)/\hM R.heap.size bl Q (L++(D.take j).map (fun e=>(e.2.1,nq.n2)))) (fun _ u _=>D.length-(intOf u).toNat)
    case atStart=>exact ⟨0,_,aj,rfl,rfl,am.u,c8.u,aX cA.u (Nat.zero_le _),by simpa using aL.u⟩
    case round=>
     obtain ⟨j,dR,dF,rfl,bM,a6,aT,a9,aS⟩:=hrel;obtain ⟨cj,ck,bL⟩:=aS.form;generalize bx:L++(D.take j).map (fun e=>(e.2.1,nq.n2))=ab at*;have dG:ab.length<=L.length+j:=by
      rw [<-bx,List.length_append,cK,gj];omega
     have bV:=ai bx;clear bx;have bA:=aS.2;have bB:=aS.1;subst bL;subst bM;have bU:=ai a6;have bo:=ai aT;have cL:=ai a9;have cF:=ai bA;have bn:=ai bB;have dn:=a6.size
     by_cases bC:j<D.length
     ·obtain ⟨q,c,e1,k0,k1,dj⟩:=g4.cell (T:=110) (v:=.slice ta D.length tc) (l:=D) (w:=wr) a9 j bC;simp only [aI] at e1;obtain ⟨rfl,_,rfl⟩:=e1;obtain ⟨cr,cu,ct,ce⟩:=cB.u D[j] (bu bC);have bY:=ai (show L++(D.take (j+1)).map (fun e=>(e.2.1,nq.n2))=ab++[(D[j].2.1,nq.n2)] from by
       rw [<-bV.u,dS bC,de,List.append_assoc];rfl)
      generalize D[j]=y at*;obtain ⟨cz,aE,d1⟩:=y;simp only at k0 k1 dj ce bY;subst ce;obtain ⟨t0,t1,t2,dT,t4⟩:=aT.five;have dU:=aT.lt;have dg:(j:Int)<(D.length:Int):=aj;clear a6 aS bA bB aT a9;go_wp2_with (at_builtin;go_must (refine bD _ rfl _ _ 288 rfl R.heap.size 291 i0 _ 2 32 underlying288 aY.u bp.u br.u bs.u rfl ar (.slice cj ab.length ck) ab.length (bk ab) rfl ?hown ⟨wr.heap.size+1,0,none⟩ 1 1 (zh (aE,nq.n2)) rfl rfl ?hnews ?hone ar ?h63 ?hbytes ?hbase (wr.heap.size+2) ?hH ?hrest))
      case hown=>exact (bn.u.alloc _).alloc _
      case hnews=>exact bE (B:=wr.heap.size+1) (cs:=#[.string aE,.string nq.n2]) (t:=291) (fr:=(0,0)) (aB.new' (wr.alloc _) _ _ _ an)
      case hone=>
       exact sX
      case h63=>unfold maxLen;omega
      case hbytes=>omega
      case hbase=>simp;omega
      case hH=>simp
      case hrest=>
       intro aQ aP bR ag V aR b9;have al:=(bn.u.alloc (bq cz aE cr cu ct)).alloc (hJ aE nq.n2);have I:=((aw wr.heap.size wr).alloc az (bq cz aE cr cu ct)).alloc an (hJ aE nq.n2);have aH:=ai (dc (bU.u.trans (I.mono dn)) V aM (fun k av=>(al.lt k av).1));have c6:=ai ((V.block _ (bo.u.below I).lt (own_ne al (bo.u.below I) ar)).trans (bo.u.below I));have c2:=ai (ax (w':=bR) cL.u (fun g cs f _ Y=>(V.block g (cg (lt_of_some Y) I.size) (eo al ((I.block g (lt_of_some Y)).trans Y) ar)).trans (I.block g (lt_of_some Y))));have aO:=ai ag;clear ag V aR al I;go_wp2;go_roundw
       case rel=>exact ⟨j+1,.slice (some ⟨aQ,0,none⟩) (ab.length+1) aP,aj,by go_num,rfl,aH.u,c6.u,c2.u,by rw [ak bY];exact ⟨by rw [List.length_append,dO];exact aO.u,fun U=>by simp at U⟩⟩
       case measure=>simp [intOf];omega
     have dg:¬((j:Int)<(D.length:Int)):=aj;have b7:L++D.map (fun e=>(e.2.1,nq.n2))=ab:=by
      rw [<-bV.u,eh aj]
     have cG:=ai b7;clear a6 aS bA bB aT a9 b7;go_wp2;go_roundw
     case rel=>exact ⟨k+1,.slice cj ab.length ck,aj,by go_num,rfl,bU.u,by rw [ak O,ap.u,cG.u];exact ⟨bn.u,cF.u⟩⟩
     case measure=>simp [intOf];omega
   |⟨nq,some xq,none⟩,aC,ae,O=>exact aC.elim
  have dh:¬((k:Int)<((aA e).length:Int)):=aj;have b8:L=cY ts t r e:=by
   rw [<-ap.u];unfold NK cY;rw [eh aj]
  have cH:=ai b8;clear J ho bI bJ b8;go_wp2;go_ret;exact ⟨.slice sa L.length sc,rfl,bT.u.trans (aJ.u.mono cq),by rw [<-cH.u];exact ⟨aX au.u cq,a5.u⟩⟩
