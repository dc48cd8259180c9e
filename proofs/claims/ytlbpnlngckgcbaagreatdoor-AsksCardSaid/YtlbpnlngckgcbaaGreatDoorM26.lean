import Derived.Test.YtlbpnlngckgcbaaGreatDoorM19
set_option linter.all false
set_option maxHeartbeats 4000000
set_option maxRecDepth 100000
namespace Go.Proofs.YtlbpnlngckgcbaaGreatDoor
open Go.RowKit Go.PlainAid Go.Proofs.Tryz
variable {aA aU:Prop} {y z:af}
abbrev rV:Obj:=.cells #[.slice none 0 0] 114
def bG.then{S x}(h:bG S x y)(k:Below x.heap.size y z):bG S x z:=⟨k.os.trans h.os,k.tape.trans h.tape,k.output.trans h.output,aP h.size k.size,fun i hi hs=>(k.block i hi).trans (h.block i hi hs)⟩
def P2:OfC YN:=by
 intro b sv ts tl w h;obtain ⟨i0,cq,cE,cF,cG⟩:=bK Tryz.infoLn;obtain ⟨cH,cr,cB,cC,cD⟩:=bK Tryz.infoLns;obtain ⟨aX,mn,mc,rfl⟩:=h.form;obtain ⟨al,hF⟩:=Pc h;have aG:an w (((w.alloc (aW aX mn mc)).alloc rV).alloc rV):=(((az _ w).alloc aD _).alloc ar _).alloc aM _;have bR:aE (((w.alloc (aW aX mn mc)).alloc rV).alloc rV) (w.heap.size+1) o3 114:=(aE.new' (w.alloc (aW aX mn mc)) _ _ (w.heap.size+1) ar).alloc _;have bQ:aE (((w.alloc (aW aX mn mc)).alloc rV).alloc rV) (w.heap.size+2) o3 114:=aE.new' _ _ _ _ ar;have bt:=ai (Lj b _ ts tl _ (h.below aG) al (fun p af=>(hF p af).below aG));have ce:=ai (show ∀x∈qt al tl,bB b w x.2.1.body x.2.2/\(aC x.2.1.body).length<=1000 from fun x bj=>by
  obtain ⟨_,rl,bh,ab⟩:=FL hF x bj;exact ⟨bh.ex _ ab,bh.okp _ (by rw [<-bh.fst];exact aN.2 ⟨_,ab,rfl⟩)⟩)
 have cb:=ai (Lp hF h.fst);have bF:=ai (show (qt al tl).length<=1000000 from by
  have h2:(qt al tl).length<=tl.length*1000:=hV _ 1000 tl (fun p af=>by have:=(hF p af).llen;simpa using this);have Z:tl.length<=1000:=by have:=h.llen;simpa using this
  omega)
 have aZ:=ai aG;have bC:=ai bR;have bx:=ai bQ;generalize cm:qt al tl=L at*;clear h hF aG bR bQ cm;go_enter func59,ntmps59;go_wp2_with fail;refine bt.u.mono ?_;rintro e w1 ⟨v1,ps,rfl,aK,bi,bZ,cS,ab⟩;obtain ⟨sa,sc,rfl⟩:=ax bi.row;have B1:=ai (aZ.u.trans (aK.mono aZ.u.size));have ck:=ai (bC.u.below aK);have bp:=ai (bx.u.below aK);have ci:=ai bi;have bN:=ai bZ;have bE:=ai ab;clear aK bi bZ ab bt aZ bC bx;go_wp2_with fail
 go_loopw [12] (fun u wr=>∃(j:Nat) (lv:ag) (qs:List (ag×List (It×ag))),j<=ps.length/\u=.int .i64 j/\bG (fun k=>k=w.heap.size+2) w1 wr/\aE wr (w.heap.size+2) #[lv] 114/\Gc w1.heap.size wr lv qs/\Hid (qs.map (fun q=>q.2.map Prod.fst)=(ps.take j).map Prod.snd)) (fun u _=>ps.length-(intOf u).toNat)
 case atStart=>exact ⟨0,.slice none 0 0,[],aj,rfl,bG.refl _ _,bp.u,⟨bL,fun _ h=>by cases h⟩,ai ar⟩
 case round=>
  obtain ⟨j,lv,qs,cQ,rfl,Q,D,ad,av⟩:=hrel;obtain ⟨I,co⟩:∃I,I=wr:=⟨_,rfl⟩;subst co;obtain ⟨aR,aV,rfl⟩:=ax ad.row;have b0:=Q.size;have cV:qs.length<=j/\j<=qs.length:=by have:=congrArg List.length (ak av);simp at this;omega
  by_cases ac:j<ps.length
  ·have cu:(j:Int)<(ps.length:Int):=by omega
   have V:=ci.u.frame (fun g cs T f ba cA=>Q.block g (lt_of_some ba) (fun e=>by
    have:=bp.u;subst e;unfold aE at this;rw [this] at ba
    cases ba
    exact absurd cA au))
   obtain ⟨g,c,e1,k0⟩:=aS V.row j _ (by rw [eo,aH ac];rfl);simp only [aI,bU] at e1;obtain ⟨rfl,rfl⟩:=e1;have aP:=V.inn _ (bn ac);have bO:=ai (by rw [cJ ac,cO];rfl:(ps.take (j+1)).map Prod.snd=(ps.take j).map Prod.snd++[ps[j].2]);have bJ:=ai (fun x bj=>Dm (by rw [<-bN.u];exact aN.2 ⟨_,bn ac,rfl⟩) bj:∀x∈ps[j].2,x∈L);have bY:=bE.u _ (bn ac);generalize ps[j]=p at*;obtain ⟨pv,pl⟩:=p;simp only at k0 aP bY bO bJ;obtain ⟨pa,pc,rfl⟩:=ax aP;have cU:pl.length<=1000000:=by have:=bF.u;omega
   have ch:=ai aP;have b8:=ai Q;have b6:=ai D;have cg:=ai ad;have bs:=ai (B1.u.trans (Q.below (B:=w.heap.size) OU (fun g e=>aj)));clear V aP Q D ad bY;go_wp2_with fail
   go_loopw [6,18] (fun cL bo b3=>∃(k:Nat) (ls:List (It×ag)),k<=pl.length/\bo=.int .i64 k/\an I b3/\BS I.heap.size b3 cL ls/\Hid (ls.map Prod.fst=pl.take k)) (fun _ bo _=>pl.length-(intOf bo).toNat)
   case atStart=>exact ⟨0,[],aj,rfl,az _ _,⟨bL,fun _ h=>by cases h⟩,ai ar⟩
   case round=>
    obtain ⟨k,ls,cR,rfl,J,aL,a5⟩:=hrel;obtain ⟨ga,gc,rfl⟩:=ax aL.row;have cT:ls.length<=k/\k<=ls.length:=by have:=congrArg List.length (ak a5);simp at this;omega
    have V:=J.size;have bA:=ai J;have bD:=ai aL
    by_cases bb:k<pl.length
    ·have cw:(k:Int)<(pl.length:Int):=by omega
     obtain ⟨g',cN,bS,hc⟩:=bf Ue 4 (fun _=>rfl) (aB ch.u J) k pl[k] (aH bb);simp only [aI,bU] at bS;obtain ⟨rfl,rfl⟩:=bS;have cj:=ai (cJ bb:pl.take (k+1)=pl.take k++[pl[k]]);obtain ⟨aQ,be⟩:=ce.u _ (ak bJ _ (bn bb));generalize pl[k]=x at*;obtain ⟨⟨t,tv⟩,⟨r,cM⟩⟩:=x;obtain ⟨ah,rv,bV⟩:=aQ.isI;simp only at bV aQ be;subst bV;have k1:wr.cell? ⟨g',k*4,none⟩=some (.string t.name):=hc 0 _ aj rfl;have cI:wr.cell? ⟨g',k*4+1,none⟩=some (.int .i64 r.place):=hc 1 _ aj rfl;have k3:wr.cell? ⟨g',k*4+2,none⟩=some (.string r.name):=hc 2 _ aj rfl;have cK:wr.cell? ⟨g',k*4+3,none⟩=some (.iface ah rv):=hc 3 _ aj rfl;have a8:=(az wr.heap.size wr).alloc aD (k6 t.name r.place r.name ah rv);have bv:=ai (Ga b t.name r.name r.place r.body (.iface ah rv) _ (aQ.but (But.of_below (bs.u.trans ((J.trans (a8.mono V)).mono bs.u.size)))) be);have bz:=ai a8;clear hc aQ be a8 J aL;go_wp2_with fail;refine bv.u.mono ?_;rintro e am ⟨cW,rfl,bT,aO⟩;have cd:=ai aO;obtain ⟨il,bW⟩:∃il,il=(fY r.name r.body).length:=⟨_,rfl⟩;rw [<-bW] at aO;obtain ⟨bk,bl,rfl⟩:=ax aO;have a7:=bz.u.trans (bT.mono bz.u.size);have br:=ai (bA.u.trans (a7.mono V));have bw:=ai (bD.u.below a7);have cy:=br.u.size;have cz:I.heap.size<=(wr.alloc (k6 t.name r.place r.name ah rv)).heap.size:=aM;clear aO bW a7 bv k1 cI k3 cK bT;go_wp2_with (at_builtin;go_must (refine bI _ rfl _ _ 190 rfl I.heap.size 201 i0 _ 3 56 underlying190 cq cE cF cG rfl au (.slice ga ls.length gc) ls.length (ls.flatMap lnC) rfl ?hown ⟨am.heap.size,0,none⟩ 1 1 [.string t.name,.string r.name,.slice bk il bl] rfl rfl ?hnews ?hone au ?h63 ?hbytes ?hbase (am.heap.size+1) ?hH ?hrest))
     case hown=>exact bw.u.row.alloc _
     case hnews=>exact bu (B:=am.heap.size) (cs:=#[.string t.name,.string r.name,.slice bk il bl]) (t:=201) (fr:=(0,0)) (aE.new _ _ _)
     case hone=>
      exact rB
     case h63=>unfold maxLen;omega
     case hbytes=>omega
     case hbase=>simp;omega
     case hH=>simp
     case hrest=>
      intro g5 aT w5 ae R a9 cp;have C:=(az am.heap.size am).alloc aD (.cells #[.string t.name,.string r.name,.slice bk il bl] 201);have aY:=bw.u.below C;have b9:=ai (aY.push (x:=((t,tv),(r,.iface ah rv))) R ae (bg (aB cd.u C) cz));have ap:=ai (ct (br.u.trans (C.mono cy)) R aM (fun q U=>(aY.row.lt q U).1));clear C aY ae R a9;go_wp2;go_roundw
      case rel=>exact ⟨k+1,_,aj,by go_num,ap.u,b9.u,by
       have h1:=ak a5;have h2:=cj.u;exact ai (by rw [cO,h1,h2];rfl)⟩
      case measure=>simp [intOf];omega
    have cw:¬((k:Int)<(pl.length:Int)):=aj;have D:=b6.u.below J;have a0:wr.cell? ⟨w.heap.size+2,0,none⟩=some (.slice aR qs.length aV):=D.cell rfl;have cl:=D.fz;have b5:=ai D;have bH:=ai (cg.u.below J);clear D J aL;go_wp2_with (at_builtin;go_must (refine bI _ rfl _ _ 112 rfl w1.heap.size 190 cH _ 1 24 underlying112 cr cB cC cD rfl au (.slice aR qs.length aV) qs.length (qs.map Prod.fst) rfl ?hown2 ⟨wr.heap.size,0,none⟩ 1 1 [.slice ga ls.length gc] rfl rfl ?P3 ?P4 au ?YO ?AK ?Ge (wr.heap.size+1) ?hH2 ?Gf))
    case hown2=>exact bH.u.row.alloc _
    case P4=>first|rfl|(intro u b2;simp at b2;subst b2;rfl)
    case YO=>first|omega|(unfold maxLen;omega)
    case AK=>omega
    case Ge=>first|omega|(simp;omega)
    case Gf=>
     intro g5 aT w5 ae R a9 cp;have C:=(az wr.heap.size wr).alloc aD (.cells #[.slice ga ls.length gc] 190);have aF:=bH.u.below C;have ay:=b5.u.below C;have Y:aE w5 (w.heap.size+2) _ 114:=(R.block _ ay.lt (own_ne aF.row ay au)).trans ay;have cX:=Y.cell (o:=0) rfl;have cY:=Y.fz;have bP:=aF.push R ae ((bD.u.below C).lower b0);have ap:=ct ((bA.u.mono b0).trans (C.mono aj)) R aM (fun q U=>(aF.row.lt q U).1);have b7:=ai ((bG.then b8.u ap).set (rfl:(fun k=>k=w.heap.size+2) (⟨w.heap.size+2,0,none⟩:Addr).block) (.slice (some ⟨g5,0,none⟩) (qs.length+1) aT));have cf:=ai (Y.set 0 (.slice (some ⟨g5,0,none⟩) (qs.length+1) aT));have a6:=ai (bP.frame (YM Y yO 0 (.slice (some ⟨g5,0,none⟩) (qs.length+1) aT)));clear C aF ay Y bP ap ae R a9 a0 cl;go_wp2;go_roundw
     case rel=>exact ⟨j+1,_,_,aj,by go_num,b7.u,cf.u,a6.u,by
      have h1:=ak av;have h2:=ak bO;have Z:=ak a5;rw [dy aj] at Z;exact ai (by rw [cO,h1,h2];simp [Z])⟩
     case measure=>simp [intOf];omega
  have cu:¬((j:Int)<(ps.length:Int)):=aj;have a0:I.cell? ⟨w.heap.size+2,0,none⟩=some (.slice aR qs.length aV):=D.cell rfl;have aJ:=Q.blk ck.u aj;have cZ:I.cell? ⟨w.heap.size+1,0,none⟩=some (.slice none 0 0):=aJ.cell rfl;have c1:=aJ.fz;have bM:=ai aJ;have b4:=ai (B1.u.trans (Q.below (B:=w.heap.size) OU (fun g e=>aj)));have a6:=ai ad;clear aJ Q D ad;go_wp2_with fail;refine bq (v:=.agg #[.slice aR qs.length aV]) (Xt results59 _ _ (w.heap.size+1) _ 114 _ rfl ?hB underlying114 rfl aw) rfl ?post
  case hB=>exact ⟨_,bM.u.set 0 _,bc⟩
  case post=>
   rw [dy aj] at av;have U:=ak av;refine ⟨_,_,_,rfl,b4.u.setCell (p:=⟨w.heap.size+1,0,none⟩) ar _,qs,(a6.u.frame (YM bM.u yO 0 _)).lower (gH _),?_,aj,fun q cx=> ?_⟩
   ·have h1:=congrArg (List.map (List.map P1)) U;rw [bN.u,cb.u] at h1;rw [<-h1,gq];simp
   have h1:q.2.map Prod.fst∈ps.map Prod.snd:=by rw [<-U];exact aN.2 ⟨q,cx,rfl⟩
   obtain ⟨p,af,e⟩:=aN.1 h1;have h2:=bE.u p af;have Z:=congrArg List.length e;rw [bX] at Z;have cP:=bF.u;omega
