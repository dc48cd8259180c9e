import Derived.Test.YtlbpnlngckgcbaaGreatDoorM19
import Derived.Shelf.Strconv.Itoa3
import Derived.Lib.ItoaLen
set_option linter.all false
set_option maxHeartbeats 4000000
set_option maxRecDepth 100000
namespace Go.Proofs.YtlbpnlngckgcbaaGreatDoor
open Go.RowKit Go.PlainAid
theorem bW.then {S:Nat→Prop} {x y z:World} (h:bW S x y) (k:Below x.heap.size y z):bW S x z:=⟨k.os.trans h.os,k.tape.trans h.tape,k.output.trans h.output,Nat.le_trans h.size k.size,fun i hi hs=>(k.block i hi).trans (h.block i hi hs)⟩
theorem QE:OfC LXp:=by
 intro b sv ts tl w h;obtain ⟨i0,hi0,hz0,hz1,hz2⟩:=info_parts Tryz.infoLn;obtain ⟨i1,hi1,hy0,hy1,hy2⟩:=info_parts Tryz.infoLns;obtain ⟨ma,mn,mc,rfl⟩:=h.form;obtain ⟨jF,hF⟩:=JC h;have b0:Below w.heap.size w (((w.alloc (.cells #[.slice ma mn mc] 75)).alloc (.cells #[.slice none 0 0] 114)).alloc (.cells #[.slice none 0 0] 114)):=(((Below.refl _ w).alloc aeg _).alloc (by simp) _).alloc (by simp;omega) _;have bR:ai (((w.alloc (.cells #[.slice ma mn mc] 75)).alloc (.cells #[.slice none 0 0] 114)).alloc (.cells #[.slice none 0 0] 114)) (w.heap.size+1) #[.slice none 0 0] 114:=(ai.new' (w.alloc (.cells #[.slice ma mn mc] 75)) _ _ (w.heap.size+1) (by simp)).alloc _;have bA:ai (((w.alloc (.cells #[.slice ma mn mc] 75)).alloc (.cells #[.slice none 0 0] 114)).alloc (.cells #[.slice none 0 0] 114)) (w.heap.size+2) #[.slice none 0 0] 114:=ai.new' _ _ _ _ (by simp);have C1:=af (Np b _ ts tl _ (h.below b0) jF (fun p hp=>(hF p hp).below b0));have HIT:=af (show ∀x∈uq jF tl,aH b w x.2.1.body x.2.2∧(ax x.2.1.body).length≤1000 from fun x hx=>by
  obtain ⟨_,rl,hrc,hin⟩:=DK hF x hx;exact ⟨hrc.ex _ hin,hrc.okp _ (by rw [←hrc.fst];exact List.mem_map.2 ⟨_,hin,rfl⟩)⟩)
 have Au:=af (Ny hF h.fst);have Du:=af (show (uq jF tl).length≤1000000 from by
  have h2:(uq jF tl).length≤tl.length*1000:=jS _ 1000 tl (fun p hp=>by have:=(hF p hp).llen;simpa using this);have h3:tl.length≤1000:=by have:=h.llen;simpa using this
  omega)
 have Sg:=af b0;have HBR:=af bR;have Cf:=af bA;generalize hLL:uq jF tl=L at*;clear h hF b0 bR bA hLL;go_enter Tryz.func59,Tryz.ntmps59;go_wp2_with fail;refine (ae C1).mono ?_;rintro e w1 ⟨v1,ps,rfl,hb1,hst,aaR,hlen,hin⟩;obtain ⟨sa,sc,rfl⟩:=au hst.row;have B1:=af ((ae Sg).trans (hb1.mono (ae Sg).size));have R1:=af ((ae HBR).below hb1);have A1:=af ((ae Cf).below hb1);have HST:=af hst;have aaS:=af aaR;have HIN:=af hin;have hA1:=(ae A1).lt;clear hb1 hst aaR hin C1 Sg HBR Cf;go_wp2_with fail
 go_loopw [12] (fun u wr=>∃(j:Nat) (lv:Value) (qs:List (Value×List (It×Value))),j≤ps.length∧u=.int .i64 j∧bW (fun k=>k=w.heap.size+2) w1 wr∧ai wr (w.heap.size+2) #[lv] 114∧LB w1.heap.size wr lv qs∧Hid (qs.map (fun q=>q.2.map Prod.fst)=(ps.take j).map Prod.snd)) (fun u _=>ps.length-(intOf u).toNat)
 case atStart=>exact ⟨0,.slice none 0 0,[],by omega,rfl,bW.refl _ _,ae A1,⟨World.ownsRow_nil _ _ _ _,fun _ h=>by cases h⟩,af (by simp)⟩
 case round=>
  obtain ⟨j,lv,qs,hj,rfl,tN,hblk,VU,HQ⟩:=hrel;obtain ⟨WO,hWO⟩:∃WO,WO=wr:=⟨_,rfl⟩;subst hWO;obtain ⟨la,lc,rfl⟩:=au VU.row;have hsw:=tN.size;have hqs:qs.length≤j∧j≤qs.length:=by have:=congrArg List.length (ae HQ);simp at this;omega
  by_cases EA:j<ps.length
  ·have hjn:(j:Int)<(ps.length:Int):=by omega
   have Nq:=(ae HST).frame (fun g cs T f hh ht=>tN.block g (lt_of_some hh) (fun e=>by
    have:=ae A1;subst e;unfold ai at this;rw [this] at hh
    cases hh
    exact absurd ht (by decide)))
   obtain ⟨g,c,e1,k0⟩:=aK Nq.row j _ (by rw [List.getElem?_map,aeh EA];rfl);simp only [Value.slice.injEq,true_and] at e1;obtain ⟨rfl,rfl⟩:=e1;have UV:=Nq.inn _ (List.getElem_mem EA);have HTK:=af (show (ps.take (j+1)).map Prod.snd=(ps.take j).map Prod.snd++[ps[j].2] from by rw [List.take_succ_eq_append_getElem EA,List.map_append];rfl);have HPI:=af (show ∀x∈ps[j].2,x∈L from fun x hx=>Gh (by rw [←ae aaS];exact List.mem_map.2 ⟨_,List.getElem_mem EA,rfl⟩) hx);have hpl:=ae HIN _ (List.getElem_mem EA);generalize ps[j]=p at*;obtain ⟨pv,pl⟩:=p;simp only at k0 UV hpl HTK HPI;obtain ⟨pa,pc,rfl⟩:=au UV;have hpl':pl.length≤1000000:=by have:=ae Du;omega
   have Zq:=af UV;have HBUT:=af tN;have HBLK:=af hblk;have HLN:=af VU;have BWO:=af ((ae B1).trans (tN.below (B:=w.heap.size) (by have:=(ae B1).size;omega) (fun g e=>by omega)));clear Nq UV tN hblk VU hpl;go_wp2_with fail
   go_loopw [6,18] (fun u6 u18 wi=>∃(k:Nat) (ls:List (It×Value)),k≤pl.length∧u18=.int .i64 k∧Below WO.heap.size WO wi∧Gi WO.heap.size wi u6 ls∧Hid (ls.map Prod.fst=pl.take k)) (fun _ u18 _=>pl.length-(intOf u18).toNat)
   case atStart=>exact ⟨0,[],by omega,rfl,Below.refl _ _,⟨World.ownsRow_nil _ _ _ _,fun _ h=>by cases h⟩,af (by simp)⟩
   case round=>
    obtain ⟨k,ls,hk,rfl,qU,hg,HL⟩:=hrel;obtain ⟨ga,gc,rfl⟩:=au hg.row;have hls:ls.length≤k∧k≤ls.length:=by have:=congrArg List.length (ae HL);simp at this;omega
    have Nq:=qU.size;have uM:=af qU;have HG:=af hg
    by_cases vB:k<pl.length
    ·have hkn:(k:Int)<(pl.length:Int):=by omega
     obtain ⟨g',c',e2,hc⟩:=bP OD 4 (fun _=>rfl) (ay (ae Zq) qU) k pl[k] (aeh vB);simp only [Value.slice.injEq,true_and] at e2;obtain ⟨rfl,rfl⟩:=e2;have HTK2:=af (show pl.take (k+1)=pl.take k++[pl[k]] from List.take_succ_eq_append_getElem vB);obtain ⟨dF,hpa⟩:=ae HIT _ (ae HPI _ (List.getElem_mem vB));generalize pl[k]=x at*;obtain ⟨⟨t,tv⟩,⟨r,bv⟩⟩:=x;obtain ⟨ra,rv,BD⟩:=dF.isI;simp only at BD dF hpa;subst BD;have k1:wr.cell? ⟨g',k*4,none⟩=some (.string t.name):=hc 0 _ (by omega) rfl;have k2:wr.cell? ⟨g',k*4+1,none⟩=some (.int .i64 r.place):=hc 1 _ (by omega) rfl;have k3:wr.cell? ⟨g',k*4+2,none⟩=some (.string r.name):=hc 2 _ (by omega) rfl;have k4:wr.cell? ⟨g',k*4+3,none⟩=some (.iface ra rv):=hc 3 _ (by omega) rfl;have bb:=(Below.refl wr.heap.size wr).alloc aeg (.cells #[.string t.name,.int .i64 r.place,.string r.name,.iface ra rv] 198);have CL:=af (JW b t.name r.name r.place r.body (.iface ra rv) _ (dF.but (But.of_below ((ae BWO).trans ((qU.trans (bb.mono Nq)).mono (ae BWO).size)))) hpa);have Zp:=af bb;clear hc dF hpa bb qU hg;go_wp2_with fail;refine (ae CL).mono ?_;rintro e w2 ⟨iv,rfl,hb2,hins⟩;have HINS:=af hins;obtain ⟨il,hil⟩:∃il,il=(vw r.name r.body).length:=⟨_,rfl⟩;rw [←hil] at hins;obtain ⟨ia,ic,rfl⟩:=au hins;have b2:=(ae Zp).trans (hb2.mono (ae Zp).size);have B2:=af ((ae uM).trans (b2.mono Nq));have G2:=af ((ae HG).below b2);have hs2:=(ae B2).size;have hs3:WO.heap.size≤(wr.alloc (.cells #[.string t.name,.int .i64 r.place,.string r.name,.iface ra rv] 198)).heap.size:=by simp;omega
     clear hins hil b2 CL k1 k2 k3 k4 hb2;go_wp2_with (at_builtin;go_must (refine wpList_append_lies _ rfl _ _ 190 rfl WO.heap.size 201 i0 _ 3 56 Tryz.underlying190 hi0 hz0 hz1 hz2 rfl (by decide) (.slice ga ls.length gc) ls.length (ls.flatMap lnC) rfl ?hown ⟨w2.heap.size,0,none⟩ 1 1 [.string t.name,.string r.name,.slice ia il ic] rfl rfl ?hnews ?hone (by decide) ?h63 ?hbytes ?hbase (w2.heap.size+1) ?hH ?hrest))
     case hown=>exact (ae G2).row.alloc _
     case hnews=>exact World.news_of_block (B:=w2.heap.size) (cs:=#[.string t.name,.string r.name,.slice ia il ic]) (t:=201) (fr:=(0,0)) (ai.new _ _ _)
     case hone=>
      intro u hu;simp at hu
      rcases hu with rfl|rfl|rfl<;>rfl
     case h63=>unfold maxLen;omega
     case hbytes=>omega
     case hbase=>simp;omega
     case hH=>simp
     case hrest=>
      intro g5 aD w5 aC aj aP di;have b3:=(Below.refl w2.heap.size w2).alloc aeg (.cells #[.string t.name,.string r.name,.slice ia il ic] 201);have G3:=(ae G2).below b3;have uG:=af (G3.push (x:=((t,tv),(r,.iface ra rv))) aj aC (aO (ay (ae HINS) b3) hs3));have HB5:=af (Below.grown ((ae B2).trans (b3.mono hs2)) aj (by simp;omega) (fun q hq=>(G3.row.lt q hq).1));clear b3 G3 aC aj aP;go_wp2;go_roundw
      case rel=>exact ⟨k+1,_,by omega,by go_num,ae HB5,ae uG,by
       have h1:=ae HL;have h2:=ae HTK2;exact af (by rw [List.map_append,h1,h2];rfl)⟩
      case measure=>simp [intOf];omega
    ·have hkn:¬((k:Int)<(pl.length:Int)):=by omega
     have hblk:=(ae HBLK).below qU;have a0:wr.cell? ⟨w.heap.size+2,0,none⟩=some (.slice la qs.length lc):=hblk.cell rfl;have az:=hblk.fz;have uO:=af hblk;have aaV:=af ((ae HLN).below qU);have hll:ls.length≤1000000:=by omega
     clear hblk qU hg;go_wp2_with (at_builtin;go_must (refine wpList_append_lies _ rfl _ _ 112 rfl w1.heap.size 190 i1 _ 1 24 Tryz.underlying112 hi1 hy0 hy1 hy2 rfl (by decide) (.slice la qs.length lc) qs.length (qs.map Prod.fst) rfl ?hown2 ⟨wr.heap.size,0,none⟩ 1 1 [.slice ga ls.length gc] rfl rfl ?hnews2 ?hone2 (by decide) ?h632 ?UW ?Yv (wr.heap.size+1) ?hH2 ?DY))
     case hown2=>exact (ae aaV).row.alloc _
     case hone2=>first|rfl|(intro u hu;simp at hu;subst hu;rfl)
     case h632=>first|omega|(unfold maxLen;omega)
     case UW=>omega
     case Yv=>first|omega|(simp;omega)
     case DY=>
      intro g5 aD w5 aC aj aP di;have b3:=(Below.refl wr.heap.size wr).alloc aeg (.cells #[.slice ga ls.length gc] 190);have L3:=(ae aaV).below b3;have KA:=(ae uO).below b3;have K5:ai w5 (w.heap.size+2) _ 114:=(aj.block _ KA.lt (own_ne L3.row KA (by decide))).trans KA;have q0:=K5.cell (o:=0) rfl;have qz:=K5.fz;have L5:=L3.push aj aC (((ae HG).below b3).lower hsw);have HB5:=Below.grown (((ae uM).mono hsw).trans (b3.mono (by omega))) aj (by simp;omega) (fun q hq=>(L3.row.lt q hq).1);have HBN:=af ((bW.then (ae HBUT) HB5).set (show (fun k=>k=w.heap.size+2) (⟨w.heap.size+2,0,none⟩:Addr).block from rfl) (.slice (some ⟨g5,0,none⟩) (qs.length+1) aD));have HKN:=af (K5.set 0 (.slice (some ⟨g5,0,none⟩) (qs.length+1) aD));have HLA:=af (L5.frame (Yu K5 (by unfold LT;decide) 0 (.slice (some ⟨g5,0,none⟩) (qs.length+1) aD)));clear b3 L3 KA K5 L5 HB5 aC aj aP a0 az;go_wp2;go_roundw
      case rel=>exact ⟨j+1,_,_,by omega,by go_num,ae HBN,ae HKN,ae HLA,by
       have h1:=ae HQ;have h2:=ae HTK;have h3:=ae HL;rw [List.take_of_length_le (by omega)] at h3;exact af (by rw [List.map_append,h1,h2];simp [h3])⟩
      case measure=>simp [intOf];omega
  ·have hjn:¬((j:Int)<(ps.length:Int)):=by omega
   have a0:WO.cell? ⟨w.heap.size+2,0,none⟩=some (.slice la qs.length lc):=hblk.cell rfl;have hRb:=tN.blk (ae R1) (by omega);have r0:WO.cell? ⟨w.heap.size+1,0,none⟩=some (.slice none 0 0):=hRb.cell rfl;have rz:=hRb.fz;have HR:=af hRb;have HB:=af ((ae B1).trans (tN.below (B:=w.heap.size) (by have:=(ae B1).size;omega) (fun g e=>by omega)));have HLA:=af VU;clear hRb tN hblk VU;go_wp2_with fail;refine bodyPost_ret (v:=.agg #[.slice la qs.length lc]) (V7 Tryz.results59 _ _ (w.heap.size+1) _ 114 _ rfl ?hB Tryz.underlying114 rfl (by kernel_rfl)) rfl ?post
   case hB=>exact ⟨_,(ae HR).set 0 _,by rfl⟩
   case post=>
    rw [List.take_of_length_le (by omega)] at HQ;have hq:=ae HQ;refine ⟨_,_,_,rfl,(ae HB).setCell (p:=⟨w.heap.size+1,0,none⟩) (by simp) _,qs,((ae HLA).frame (Yu (ae HR) (by unfold LT;decide) 0 _)).lower (Nat.zero_le _),?_,by omega,fun q hq'=> ?_⟩
    ·have h1:=congrArg (List.map (List.map Zr)) hq;rw [ae aaS,ae Au] at h1;rw [←h1,List.map_map];simp
    ·have h1:q.2.map Prod.fst∈ps.map Prod.snd:=by rw [←hq];exact List.mem_map.2 ⟨q,hq',rfl⟩
     obtain ⟨p,hp,e⟩:=List.mem_map.1 h1;have h2:=ae HIN p hp;have h3:=congrArg List.length e;rw [List.length_map] at h3;have h4:=ae Du;omega
end Go.Proofs.YtlbpnlngckgcbaaGreatDoor
namespace Go.Proofs
open Go.Shelf
def Tryz.laysM171_ren:Go.Shelf.Ren:=⟨fun|171=>142|243=>201|246=>235|283=>257|284=>258|285=>259|286=>260|129=>167|317=>267|318=>268|319=>269|320=>270|337=>275|338=>276|n=>n,fun|3=>3|9=>9|2=>2|4=>4|171=>403|0=>0|53=>192|37=>151|5=>5|173=>405|212=>413|51=>313|20=>20|213=>414|46=>215|232=>417|233=>418|n=>n,fun|17=>2|18=>3|19=>4|n=>n⟩
theorem Tryz.laysM171:Go.Proofs.LaysM.n171 Tryz.prog Tryz.laysM171_ren:={
 mixed:=by kernel_rfl
 f129:=Tryz.func167.trans (congrArg some (by kernel_rfl))
 f171:=Tryz.func142.trans (congrArg some (by kernel_rfl))
 f243:=Tryz.func201.trans (congrArg some (by kernel_rfl))
 f246:=Tryz.func235.trans (congrArg some (by kernel_rfl))
 f283:=Tryz.func257.trans (congrArg some (by kernel_rfl))
 f284:=Tryz.func258.trans (congrArg some (by kernel_rfl))
 f285:=Tryz.func259.trans (congrArg some (by kernel_rfl))
 f286:=Tryz.func260.trans (congrArg some (by kernel_rfl))
 f317:=Tryz.func267.trans (congrArg some (by kernel_rfl))
 f318:=Tryz.func268.trans (congrArg some (by kernel_rfl))
 f319:=Tryz.func269.trans (congrArg some (by kernel_rfl))
 f320:=Tryz.func270.trans (congrArg some (by kernel_rfl))
 f337:=Tryz.func275.trans (congrArg some (by kernel_rfl))
 f338:=Tryz.func276.trans (congrArg some (by kernel_rfl))
 t0:=Tryz.underlying0
 a0:=Tryz.isAgg0
 z0:=Tryz.sizeOf0
 v0:=Tryz.zeroValue0
 t2:=Tryz.underlying2
 a2:=Tryz.isAgg2
 z2:=Tryz.sizeOf2
 v2:=Tryz.zeroValue2
 t3:=Tryz.underlying3
 a3:=Tryz.isAgg3
 z3:=Tryz.sizeOf3
 v3:=Tryz.zeroValue3
 t4:=Tryz.underlying4
 a4:=Tryz.isAgg4
 z4:=Tryz.sizeOf4
 v4:=Tryz.zeroValue4
 t5:=Tryz.underlying5
 a5:=Tryz.isAgg5
 z5:=Tryz.sizeOf5
 v5:=Tryz.zeroValue5
 t9:=Tryz.underlying9
 a9:=Tryz.isAgg9
 z9:=Tryz.sizeOf9
 v9:=Tryz.zeroValue9
 t20:=Tryz.underlying20
 a20:=Tryz.isAgg20
 z20:=Tryz.sizeOf20
 v20:=Tryz.zeroValue20
 t37:=Tryz.underlying151
 a37:=Tryz.isAgg151
 z37:=Tryz.sizeOf151
 v37:=Tryz.zeroValue151
 t46:=Tryz.underlying215
 a46:=Tryz.isAgg215
 z46:=Tryz.sizeOf215
 v46:=Tryz.zeroValue215
 t51:=Tryz.underlying313
 a51:=Tryz.isAgg313
 z51:=Tryz.sizeOf313
 v51:=Tryz.zeroValue313
 t53:=Tryz.underlying192
 a53:=Tryz.isAgg192
 z53:=Tryz.sizeOf192
 v53:=Tryz.zeroValue192
 t171:=Tryz.underlying403
 a171:=Tryz.isAgg403
 z171:=Tryz.sizeOf403
 v171:=Tryz.zeroValue403
 t173:=Tryz.underlying405
 a173:=Tryz.isAgg405
 z173:=Tryz.sizeOf405
 v173:=Tryz.zeroValue405
 t212:=Tryz.underlying413
 a212:=Tryz.isAgg413
 z212:=Tryz.sizeOf413
 v212:=Tryz.zeroValue413
 t213:=Tryz.underlying414
 a213:=Tryz.isAgg414
 z213:=Tryz.sizeOf414
 t232:=Tryz.underlying417
 a232:=Tryz.isAgg417
 z232:=Tryz.sizeOf417
 v232:=Tryz.zeroValue417
 t233:=Tryz.underlying418
 a233:=Tryz.isAgg418
 z233:=Tryz.sizeOf418
 v233:=Tryz.zeroValue418
 g17:=by kernel_rfl
 g18:=by kernel_rfl
 g19:=by kernel_rfl
 i0:=by kernel_rfl
 i2:=by kernel_rfl
 i3:=by kernel_rfl
 i4:=by kernel_rfl
 i5:=by kernel_rfl
 i9:=by kernel_rfl
 i20:=by kernel_rfl
 i37:=by kernel_rfl
 i46:=by kernel_rfl
 i51:=by kernel_rfl
 i53:=by kernel_rfl
 i171:=by kernel_rfl
 i173:=by kernel_rfl
 i212:=by kernel_rfl
 i232:=by kernel_rfl
 i233:=by kernel_rfl
 m17:=by kernel_rfl
 m18:=by kernel_rfl
 m19:=by kernel_rfl}
end Go.Proofs
namespace Go.Proofs.YtlbpnlngckgcbaaGreatDoor
open Go.RowKit Go.PlainAid
def qA (w:World):Prop:=Lib.TabIs Tryz.prog w "internal/strconv.uint64pow10" .u64 Lib.pow10Tab
def qB (k:Nat):ByteArray:=⟨#[109,97,114,107]⟩++⟨(Lib.itoa (k:Int)).toArray⟩
theorem qA.below {w w':World} {B:Nat} (h:qA w) (k:Below B w w') (hB:2<B):qA w':=by
 have hg:Tryz.prog.globalNamed "internal/strconv.uint64pow10"=some 2:=by kernel_rfl
 unfold qA Lib.TabIs World.var? at*;rw [hg] at h ⊢;simp only [Option.bind_eq_bind,Option.bind_some] at h ⊢;rw [k.block 2 hB];exact h
theorem JZ (w:World) (k:Nat) (os:Array Obj):Below w.heap.size w (Go.Sort.grow (w.drewN k) os):=
 ⟨rfl,rfl,rfl,by simp [Go.Sort.grow,World.drewN],fun i hi=>by simp only [Go.Sort.grow,World.drewN];exact Array.getElem?_append_left hi⟩
theorem Gj (k:Nat) (w:World) (hk:k≤9223372036854775807) (hp:qA w):
  Calls Tryz.prog 91 #[.int .i64 k] w fun e w'=>e=.returned (.string (qB k))∧Below w.heap.size w w':=by
 have C:=af (Any.strconv_Itoa Tryz.laysM171 (k:Int) (by omega) (by omega) w hp);have hl:=Lib.itoa_length_le (k:Int) (by omega) (by omega);have hsz:(⟨(Lib.itoa (k:Int)).toArray⟩:ByteArray).size=(Lib.itoa (k:Int)).length:=by simp [ByteArray.size]
 unfold qB;generalize (⟨(Lib.itoa (k:Int)).toArray⟩:ByteArray)=t at*;have hb:¬9223372036854775807<(⟨#[109,97,114,107]⟩:ByteArray).size+t.size:=by
  rw [show (⟨#[109,97,114,107]⟩:ByteArray).size=4 from rfl];omega
 clear hl hsz;go_enter Tryz.func91,Tryz.ntmps91;go_wp2_with fail;refine (ae C).mono ?_;rintro e w' ⟨rfl,n,os,rfl⟩;have HB:=af (JZ w n os);generalize Go.Sort.grow (w.drewN n) os=W at*;clear C;go_wp2;go_ret;exact ⟨rfl,ae HB⟩
end Go.Proofs.YtlbpnlngckgcbaaGreatDoor
namespace Go.Proofs.YtlbpnlngckgcbaaGreatDoor
open Go.RowKit Go.PlainAid
def RT (T:TypeId):Prop:=T=252∨T=170∨T=172∨T=255∨T=257∨T=3∨T=259
def KD (w w':World):Prop:=∀(g:Nat) (cs:Array Value) (T:TypeId) (f:Nat×Nat),w.heap[g]? =some (Obj.cells cs T f)→RT T→w'.heap[g]? =w.heap[g]?
theorem KD.of_butS {S:Nat→Prop} {w w':World} (h:bW S w w') (hS:∀g cs T f,S g→w.heap[g]? =some (Obj.cells cs T f)→¬RT T):KD w w':=fun g cs T f hh ht=>h.block g (lt_of_some hh) (fun hs=>hS g cs T f hs hh ht)
theorem KD.below {w w':World} (h:Below w.heap.size w w'):KD w w':=fun g cs T f hh _=>h.block g (lt_of_some hh)
structure DMT (w:World) (b:Nat) (kv rv pv:Value) (kl:List (aei×Nat)) (rl:List RV) (pl:List PV) (l:List PX):Prop where
 dm:DM w b kv rv pv kl rl pl l
 blk:∃cs,ai w b cs 252
theorem KD.set {w:World} {g:Nat} {cs:Array Value} {T:TypeId} (h:ai w g cs T) (ht:¬RT T) (o:Nat) (u:Value):KD w (w.setCell ⟨g,o,none⟩ u):=fun g' cs' T' f hh ht'=>Below.heap_setCell _ _ _ _ (fun (e':g'=g)=>by
 subst e';unfold ai at h;rw [h] at hh;simp only [Option.some.injEq,Obj.cells.injEq] at hh;exact ht (by rw [hh.2.1];exact ht'))
theorem KD.trans {x y z:World} (h:KD x y) (k:KD y z):KD x z:=fun g cs T f hh ht=>(k g cs T f ((h g cs T f hh ht).trans hh) ht).trans (h g cs T f hh ht)
theorem Nz (b:Nat) (s:aei) (w:World) (mp tv:Value) (ss:List aei) (h:DU w b mp tv ss) (c p:Nat) (hc:c≠0) (C:Calls Tryz.prog 80 #[.string s] w fun e w'=>e=.returned (.tuple #[.pointer none,.int .i64 c,.int .i64 p])∧Below w.heap.size w w'):
  Calls Tryz.prog 83 #[.pointer (some ⟨b,0,none⟩),.string s] w fun e w'=>e=.returned (.int .i64 c)∧Below w.heap.size w w':=by
 have hc':((c:Int)==0)=false:=by rw [beq_eq_false_iff_ne];omega
 have HC:=af C;clear C h;go_enter Tryz.func83,Tryz.ntmps83;go_wp2_with fail;refine (ae HC).mono ?_;rintro e w1 ⟨rfl,hb1⟩;have B1:=af hb1;clear hb1 HC;go_wp2;go_ret;exact ⟨rfl,ae B1⟩
def Yw (b:Nat) (X:Nat→World→Prop) (w:World) (e:Ending) (w':World):Prop:=∃bm,e=.returned (.int .i64 0)∧DU w' b (.pointer (some ⟨bm,5,none⟩)) (.slice none 0 0) []∧X bm w'∧bW (fun k=>k=b) w w'
theorem QG (b:Nat) (s:aei) (w:World) (mp tv:Value) (ss:List aei) (h:DU w b mp tv ss) (X:Nat→World→Prop) (hX:∀bm w w',X bm w→KD w w'→X bm w') (C:Calls Tryz.prog 80 #[.string s] w fun e w'=>∃bm,e=.returned (.tuple #[.pointer (some ⟨bm,5,none⟩),.int .i64 0,.int .i64 0])∧Below w.heap.size w w'∧X bm w'):
  Calls Tryz.prog 83 #[.pointer (some ⟨b,0,none⟩),.string s] w (Yw b X w):=by
 have HC:=af C;have H:=af h;have HX:=af hX;obtain ⟨ta,tc,rfl⟩:=au h.row;clear C h hX;go_enter Tryz.func83,Tryz.ntmps83;go_wp2_with fail;refine (ae HC).mono ?_;rintro e w1 ⟨bm,rfl,hb1,hx1⟩;have hB:=((ae H).below hb1).blk;obtain ⟨u0,u1⟩:=iH hB;have uz:=hB.fz;have UB:=af hB;have B1:=af hb1;have X1:=af hx1;clear hb1 HC hB hx1;go_wp2;go_ret;have k1:=(ae UB).set 0 (.pointer (some ⟨bm,5,none⟩));have k2:=k1.set 1 (.slice none 0 0);exact ⟨bm,rfl,⟨k2,World.ownsRow_nil _ _ _ _,fun g n c e=>by simp at e,by simp⟩,ae HX bm w1 _ (ae X1) ((KD.set (ae UB) (by unfold RT;decide) 0 _).trans (KD.set k1 (by unfold RT;decide) 1 _)),((bW.of_below (ae B1)).set (show (fun k=>k=b) (⟨b,0,none⟩:Addr).block from rfl) _).set (show (fun k=>k=b) (⟨b,1,none⟩:Addr).block from rfl) _⟩
theorem QH (s:aei) (w:World) (c p:Nat) (hc:c≠0) (C:Calls Tryz.prog 80 #[.string s] w fun e w'=>e=.returned (.tuple #[.pointer none,.int .i64 c,.int .i64 p])∧Below w.heap.size w w'):
  Calls Tryz.prog 82 #[.string s] w fun e w'=>e=.returned (.tuple #[.pointer none,.int .i64 c])∧Below w.heap.size w w':=by
 have hc':((c:Int)==0)=false:=by rw [beq_eq_false_iff_ne];omega
 have hc2:((c:Int) != 0)=true:=bne_iff_ne.2 (by omega);have HC:=af C;clear C;go_enter Tryz.func82,Tryz.ntmps82;go_wp2_with fail;refine (ae HC).mono ?_;rintro e w1 ⟨rfl,hb1⟩;have B1:=af hb1;clear hb1 HC;go_wp2;go_ret2;exact ⟨rfl,ae B1⟩
def Yx (X:Nat→World→Prop) (w:World) (e:Ending) (w':World):Prop:=∃bm b,e=.returned (.tuple #[.pointer (some ⟨b,0,none⟩),.int .i64 0])∧DU w' b (.pointer (some ⟨bm,5,none⟩)) (.slice none 0 0) []∧X bm w'∧Below w.heap.size w w'∧w.heap.size≤b
theorem UX (s:aei) (w:World) (X:Nat→World→Prop) (hX:∀bm w w',X bm w→KD w w'→X bm w') (C:Calls Tryz.prog 80 #[.string s] w fun e w'=>∃bm,e=.returned (.tuple #[.pointer (some ⟨bm,5,none⟩),.int .i64 0,.int .i64 0])∧Below w.heap.size w w'∧X bm w'):
  Calls Tryz.prog 82 #[.string s] w (Yx X w):=by
 have HC:=af C;have HX:=af hX;clear C hX;go_enter Tryz.func82,Tryz.ntmps82;go_wp2_with fail;refine (ae HC).mono ?_;rintro e w1 ⟨bm,rfl,hb1,hx1⟩;have B1:=af hb1;have X1:=af hx1;have l1:=hb1.size;clear hb1 HC hx1;go_wp2;go_ret2;have k1:=ai.new w1 #[.pointer (some ⟨bm,5,none⟩),.slice none 0 0] 262;exact ⟨bm,w1.heap.size,rfl,⟨k1,World.ownsRow_nil _ _ _ _,fun g n c e=>by simp at e,by simp⟩,ae HX bm w1 _ (ae X1) (KD.below ((Below.refl _ w1).alloc aeg _)),(ae B1).alloc l1 _,l1⟩
def aA (pl:List PV):Nat→Nat→List Nat
 |0,_=>[]
 |f+1,n=>match pl[n]? with
  |none=>[]
  |some p=>if p.kind=4∨p.kind=5 then p.ps.flatMap (aA pl f) else [n]
def aN:Ex→List Ex
 |⟨_,some x,some y⟩=>aN x++aN y
 |⟨n,none,r⟩=>[⟨n,none,r⟩]
 |⟨_,some _,none⟩=>[]
theorem bQ.app {R:Nat→Ex→Prop} {c:List Nat} {cs:List Ex} (k:bQ R c cs):∀(ns:List Nat) (xs:List Ex),bQ R ns xs→bQ R (ns++c) (xs++cs)
 | [],[],_=>k
 |n::ns,x::xs,h=>⟨h.1,bQ.app k ns xs h.2⟩
 | [],_::_,h=>h.elim
 |_::_,[],h=>h.elim
theorem bQ.len {R:Nat→Ex→Prop}:∀(ns:List Nat) (xs:List Ex),bQ R ns xs→ns.length=xs.length
 | [],[],_=>rfl
 |n::ns,x::xs,h=>by simp [bQ.len ns xs h.2]
 | [],_::_,h=>h.elim
 |_::_,[],h=>h.elim
theorem oN:∀(rs:List (aei×Nat×Ex)) (x:Ex),aN (kV x rs)=aN x++(rs.map fun r=>r.2.2).flatMap aN
 | [],x=>by simp [kV]
 |(t,p,y)::rs,x=>by
  rw [kV,oN rs];simp [jZ,aN]
theorem tQ {pl:List PV} {f:Nat} (ih:∀n x,Tr pl f n x→bQ (Tr pl 1) (aA pl f n) (aN x)):∀(ns:List Nat) (xs:List Ex),bQ (Tr pl f) ns xs→bQ (Tr pl 1) (ns.flatMap (aA pl f)) (xs.flatMap aN)
 | [],[],_=>trivial
 |n::ns,x::xs,h=>by
  simp only [List.flatMap_cons];exact bQ.app (tQ ih ns xs h.2) _ _ (ih n x h.1)
 | [],_::_,h=>h.elim
 |_::_,[],h=>h.elim
theorem dB (pl:List PV):∀(f n:Nat) (x:Ex),Tr pl f n x→bQ (Tr pl 1) (aA pl f n) (aN x)
 |0,_,_,h=>h.elim
 |f+1,n,x,⟨p,hp,h⟩=>by
  rw [aA,hp]
  rcases h with ⟨h1,hn,h2⟩|⟨h1,h0,hn,h2⟩|⟨h1,h0,hn,h2⟩|⟨h1,h0,n0,ns,x0,rs,h3,h4,h5,h6,h7,h8⟩|⟨h1,h0,h0',n0,ns,x0,rs,h3,h4,h5,h6,h7,h8⟩
  ·simp only [h1,Nat.reduceEqDiff,or_self,if_false,h2,aN];exact ⟨⟨p,hp,.inl ⟨h1,hn,rfl⟩⟩,trivial⟩
  ·simp only [h1,Nat.reduceEqDiff,or_self,if_false,h2,aN];exact ⟨⟨p,hp,.inr (.inl ⟨h1,h0,hn,rfl⟩)⟩,trivial⟩
  ·simp only [h1,Nat.reduceEqDiff,or_self,if_false,h2,aN];exact ⟨⟨p,hp,.inr (.inr (.inl ⟨h1,h0,hn,rfl⟩))⟩,trivial⟩
  ·simp only [h1,true_or,if_true,h8,h3,oN,List.flatMap_cons];exact bQ.app (tQ (dB pl f) _ _ h5) _ _ (dB pl f _ _ h4)
  ·simp only [h1,or_true,if_true,h8,h3,oN,List.flatMap_cons];exact bQ.app (tQ (dB pl f) _ _ h5) _ _ (dB pl f _ _ h4)
section
variable {w w':World} {b:Nat} {kv rv pv:Value} {kl:List (aei×Nat)} {rl:List RV} {pl:List PV} {l:List PX}
theorem DM.pat (h:DM w b kv rv pv kl rl pl l) (i:Nat) (p:PV) (hi:pl[i]? =some p):∃g c ga gc pa pc sa sc,pv=.slice (some ⟨g,0,none⟩) pl.length c∧nD w (p,.slice ga p.gs.length gc,.slice pa p.ps.length pc,.slice sa p.sg.length sc)∧
  w.cell? ⟨g,i*8,none⟩=some (.int .i64 p.kind)∧w.cell? ⟨g,i*8+1,none⟩=some (.slice ga p.gs.length gc)∧w.cell? ⟨g,i*8+2,none⟩=some (.string p.nb)∧w.cell? ⟨g,i*8+3,none⟩=some (.string p.nr)∧w.cell? ⟨g,i*8+4,none⟩=some (.int .i64 p.pa)∧w.cell? ⟨g,i*8+5,none⟩=some (.int .i64 p.pr)∧w.cell? ⟨g,i*8+6,none⟩=some (.slice pa p.ps.length pc)∧w.cell? ⟨g,i*8+7,none⟩=some (.slice sa p.sg.length sc):=by
 have hl:pl.length=l.length:=by rw [←h.pt.fst,List.length_map]
 rw [←h.pt.fst,List.getElem?_map] at hi;obtain ⟨x,hx,rfl⟩:=Option.map_eq_some_iff.1 hi;have hrow:=h.pt.row;rw [hl] at hrow;obtain ⟨g,c,e,hc⟩:=bP nC 8 (fun _=>rfl) hrow i x hx;have hr:=h.pt.rep x (List.mem_of_getElem? hx);obtain ⟨p,gv,qv,sv⟩:=x;obtain ⟨ga,gc,e1⟩:=au hr.g;obtain ⟨pa,pc,e2⟩:=au hr.p;obtain ⟨sa,sc,e3⟩:=au hr.s;simp only at e1 e2 e3;subst e1 e2 e3;exact ⟨g,c,ga,gc,pa,pc,sa,sc,by rw [e,hl],hr,hc 0 _ (by omega) rfl,hc 1 _ (by omega) rfl,hc 2 _ (by omega) rfl,hc 3 _ (by omega) rfl,hc 4 _ (by omega) rfl,hc 5 _ (by omega) rfl,hc 6 _ (by omega) rfl,hc 7 _ (by omega) rfl⟩
end
def ji (pl:List PV) (n:Nat) (lv:List Nat):Prop:=∀(b:Nat) (kv rv pv:Value) (kl:List (aei×Nat)) (rl:List RV) (l:List PX) (w:World),DM w b kv rv pv kl rl pl l→
 Calls Tryz.prog 191 #[.pointer (some ⟨b,5,none⟩),.int .i64 n] w fun e w'=>∃sv,e=.returned sv∧Below w.heap.size w w'∧w'.ownsRow w.heap.size 3 1 sv lv.length (lv.map fun n:Nat=> .int .i64 n)
theorem qC (pl:List PV) (n:Nat) (p:PV) (hp:pl[n]? =some p) (h4:p.kind≠4) (h5:p.kind≠5):ji pl n [n]:=by
 intro b kv rv pv kl rl l w h;obtain ⟨g,c,ga,gc,pa,pc,sa,sc,rfl,hr,k0,k1,k2,k3,k4,k5,k6,k7⟩:=h.pat n p hp;have c7:=h.c7;have hn:=(List.getElem?_eq_some_iff.1 hp).1;have V9:=h.pn;have hn':(n:Int)<(pl.length:Int):=by omega
 have h4':¬((p.kind:Int)=4):=by omega
 have WE:¬((p.kind:Int)=5):=by omega
 have h4b:((p.kind:Int) != 4)=true:=bne_iff_ne.2 h4';have h5b:((p.kind:Int) != 5)=true:=bne_iff_ne.2 WE;have glt:=bU k0;clear h hr hp;go_enter Tryz.func191,Tryz.ntmps191;go_wp2;go_ret;refine ⟨_,rfl,((Below.refl _ w).alloc aeg _).alloc (by simp) _,rfl,.inr ⟨w.heap.size+1,1,#[.int .i64 n],rfl,by omega,?_,by omega,by unfold maxLen;omega,rfl,rfl⟩⟩;exact ai.new' (w.alloc _) _ _ _ (by simp)
theorem jG {α β:Type} (f:α→List β) (l:List α) (k:Nat) (a:α) (h:l[k]? =some a):(l.take (k+1)).flatMap f=(l.take k).flatMap f++f a:=by
 obtain ⟨hk,rfl⟩:=List.getElem?_eq_some_iff.1 h;rw [List.take_succ_eq_append_getElem hk,List.flatMap_append];simp
theorem mZ {α β:Type} (f:α→List β) (l:List α) (k:Nat):((l.take k).flatMap f).length≤(l.flatMap f).length:=by
 have:l.flatMap f=(l.take k).flatMap f++(l.drop k).flatMap f:=by rw [←List.flatMap_append,List.take_append_drop]
 rw [this,List.length_append];omega
theorem DZ (pl:List PV) (n:Nat) (p:PV) (hp:pl[n]? =some p) (hk:p.kind=4) (lf:Nat→List Nat) (hc:∀m∈p.ps,ji pl m (lf m)∧0<(lf m).length) (hl:(p.ps.flatMap lf).length≤1000) (hps:p.ps.length≤1000):ji pl n (p.ps.flatMap lf):=by
 generalize hG:p.ps.flatMap lf=G at*;have HG:=af hG;clear hG;intro b kv rv pv kl rl l w h;obtain ⟨iI,hi1,hy0,hy1,hy2⟩:=info_parts Tryz.infoInt;have II:=af hi1;have xe:=af hy0;have xg:=af hy1;have xh:=af hy2;clear hi1 hy0 hy1 hy2;obtain ⟨g,c,ga,gc,pa,pc,sa,sc,rfl,hr,k0,k1,k2,k3,k4,k5,k6,k7⟩:=h.pat n p hp;have c7:=h.c7;have hn:=(List.getElem?_eq_some_iff.1 hp).1;have V9:=h.pn;have hn':(n:Int)<(pl.length:Int):=by omega
 have hkk:((p.kind:Int) != 4)=false:=by rw [hk];rfl
 have hk4:((p.kind:Int) != 4)=false:=by rw [hk];rfl
 have hkq:((p.kind:Int) != 4&&(p.kind:Int) != 5)=false:=by rw [hk];rfl
 clear hk;have glt:=bU k0;have HD:=af h;have RP:=af hr.p;have HC:=af hc;have B0:=af (show Below w.heap.size w (w.alloc (.cells #[.int .i64 p.kind,.slice ga p.gs.length gc,.string p.nb,.string p.nr,.int .i64 p.pa,.int .i64 p.pr,.slice pa p.ps.length pc,.slice sa p.sg.length sc] 255)) from (Below.refl _ w).alloc aeg _);have PB0:=af (ai.new w #[.int .i64 p.kind,.slice ga p.gs.length gc,.string p.nb,.string p.nr,.int .i64 p.pa,.int .i64 p.pr,.slice pa p.ps.length pc,.slice sa p.sg.length sc] 255);clear h hr hp hc;go_enter Tryz.func191,Tryz.ntmps191;go_wp2_with fail;clear k0 k1 k2 k3 k4 k5 k6 k7 c7 hkk hkq hk4
 go_loopw [6,7] (fun u6 u7 wr=>∃(k:Nat) (fv:List Nat) (fa:Option Addr) (fc:Nat),k≤p.ps.length∧u7=.int .i64 k∧u6=.slice fa fv.length fc∧Below w.heap.size w wr∧ai wr w.heap.size #[.int .i64 p.kind,.slice ga p.gs.length gc,.string p.nb,.string p.nr,.int .i64 p.pa,.int .i64 p.pr,.slice pa p.ps.length pc,.slice sa p.sg.length sc] 255∧wr.ownsRow w.heap.size 3 1 (.slice fa fv.length fc) fv.length (fv.map fun n:Nat=> .int .i64 n)∧Hid (fv=(p.ps.take k).flatMap lf)) (fun _ u7 _=>p.ps.length-(intOf u7).toNat)
 case atStart=>exact ⟨0,[],none,0,by omega,rfl,rfl,ae B0,ae PB0,World.ownsRow_nil _ _ _ _,af (by simp)⟩
 case round=>
  clear B0 PB0;obtain ⟨k,fv,fa,fc,hk1,rfl,rfl,hb,hpb,hrow,HF⟩:=hrel;have HB:=af hb;have wM:=af hpb;have iL:=af hrow;obtain ⟨p0,p1,p2,p3,p4,p5,p6,p7⟩:=hpb.eight;have hwr:=hb.size
  by_cases hlt:k<p.ps.length
  ·have hm:=List.getElem_mem hlt;obtain ⟨q,cq,e1,kc⟩:=aK (ay (ae RP) hb) k (.int .i64 (p.ps[k]:Nat)) (by simp [aeh hlt]);simp only [Value.slice.injEq,true_and] at e1;obtain ⟨rfl,rfl⟩:=e1;obtain ⟨hcm,hpos⟩:=ae HC _ hm;have C:=af (hcm b kv rv _ kl rl l wr ((ae HD).below hb));have rR:=af (jG lf p.ps k _ (aeh hlt));have hle:=mZ lf p.ps (k+1);rw [ae rR,←ae HF,List.length_append,ae HG] at hle;have hkn:(k:Int)<(p.ps.length:Int):=by omega
   generalize p.ps[k]=m at*;clear hb hpb hrow hcm hm;go_wp2_with fail;refine (ae C).mono ?_;rintro e w1 ⟨sv,rfl,hb1,hs1⟩;obtain ⟨g1,c1,rfl,nl1,nw1⟩:=pV hs1 hpos;have B1:=af ((ae HB).trans (hb1.mono hwr));have LC:=af ((ae wM).below hb1);have R1:=af (ay (ae iL) hb1);have Ap:=(ae B1).size;have NL1:=af nl1;have NW1:=af nw1;have Uo:=(ae LC).lt;clear hb1 hs1 C HB wM iL nl1 nw1;go_wp2_with (at_builtin;go_must (refine wpList_append_lies _ rfl _ _ 29 rfl w.heap.size 3 iI _ 1 8 Tryz.underlying29 (ae II) (ae xe) (ae xg) (ae xh) rfl (by decide) (.slice fa fv.length fc) fv.length (fv.map fun n:Nat=> .int .i64 n) rfl (ae R1) ⟨g1,0,none⟩ (lf m).length c1 ((lf m).map fun n:Nat=> .int .i64 n) rfl (ae NL1) (ae NW1) ?hone hpos ?h63 ?hbytes Ap w1.heap.size rfl ?hrest))
   case hone=>
    intro u hu;obtain ⟨n,_,rfl⟩:=List.mem_map.1 hu
    rfl
   case h63=>unfold maxLen;omega
   case hbytes=>omega
   intro g5 aD w5 aC aj aP di;have B5:=af (Below.grown (ae B1) aj Ap (fun k hk=>((ae R1).lt k hk).1));have Zt:=af (show ai w5 w.heap.size _ 255 from (aj.block _ (ae LC).lt (own_ne (ae R1) (ae LC) (by decide))).trans (ae LC));have R5:=af aC;clear aC aj aP di B1 LC R1 NL1 NW1;go_wp2;go_roundw
   case rel=>exact ⟨k+1,fv++lf m,some ⟨g5,0,none⟩,aD,by omega,by go_num,by simp,ae B5,ae Zt,by simpa using ae R5,af (by rw [ae HF,ae rR])⟩
   case measure=>simp [intOf];omega
  ·have hkn:¬((k:Int)<(p.ps.length:Int)):=by omega
   have Gl:fv=G:=by rw [ae HF,List.take_of_length_le (by omega),ae HG]
   have QI:=af Gl;clear hb hpb hrow Gl;go_wp2;go_ret;rw [←ae QI];exact ⟨_,rfl,ae HB,ae iL⟩
theorem D7 (pl:List PV) (n:Nat) (p:PV) (hp:pl[n]? =some p) (hk:p.kind=5) (lf:Nat→List Nat) (hc:∀m∈p.ps,ji pl m (lf m)∧0<(lf m).length) (hl:(p.ps.flatMap lf).length≤1000) (hps:p.ps.length≤1000):ji pl n (p.ps.flatMap lf):=by
 generalize hG:p.ps.flatMap lf=G at*;have HG:=af hG;clear hG;intro b kv rv pv kl rl l w h;obtain ⟨iI,hi1,hy0,hy1,hy2⟩:=info_parts Tryz.infoInt;have II:=af hi1;have xe:=af hy0;have xg:=af hy1;have xh:=af hy2;clear hi1 hy0 hy1 hy2;obtain ⟨g,c,ga,gc,pa,pc,sa,sc,rfl,hr,k0,k1,k2,k3,k4,k5,k6,k7⟩:=h.pat n p hp;have c7:=h.c7;have hn:=(List.getElem?_eq_some_iff.1 hp).1;have V9:=h.pn;have hn':(n:Int)<(pl.length:Int):=by omega
 have hkk:((p.kind:Int) != 5)=false:=by rw [hk];rfl
 have hk4:((p.kind:Int) != 4)=true:=by rw [hk];rfl
 have hkq:((p.kind:Int) != 4&&(p.kind:Int) != 5)=false:=by rw [hk];rfl
 clear hk;have glt:=bU k0;have HD:=af h;have RP:=af hr.p;have HC:=af hc;have B0:=af (show Below w.heap.size w (w.alloc (.cells #[.int .i64 p.kind,.slice ga p.gs.length gc,.string p.nb,.string p.nr,.int .i64 p.pa,.int .i64 p.pr,.slice pa p.ps.length pc,.slice sa p.sg.length sc] 255)) from (Below.refl _ w).alloc aeg _);have PB0:=af (ai.new w #[.int .i64 p.kind,.slice ga p.gs.length gc,.string p.nb,.string p.nr,.int .i64 p.pa,.int .i64 p.pr,.slice pa p.ps.length pc,.slice sa p.sg.length sc] 255);clear h hr hp hc;go_enter Tryz.func191,Tryz.ntmps191;go_wp2_with fail;clear k0 k1 k2 k3 k4 k5 k6 k7 c7 hkk hkq hk4
 go_loopw [6,7] (fun u6 u7 wr=>∃(k:Nat) (fv:List Nat) (fa:Option Addr) (fc:Nat),k≤p.ps.length∧u7=.int .i64 k∧u6=.slice fa fv.length fc∧Below w.heap.size w wr∧ai wr w.heap.size #[.int .i64 p.kind,.slice ga p.gs.length gc,.string p.nb,.string p.nr,.int .i64 p.pa,.int .i64 p.pr,.slice pa p.ps.length pc,.slice sa p.sg.length sc] 255∧wr.ownsRow w.heap.size 3 1 (.slice fa fv.length fc) fv.length (fv.map fun n:Nat=> .int .i64 n)∧Hid (fv=(p.ps.take k).flatMap lf)) (fun _ u7 _=>p.ps.length-(intOf u7).toNat)
 case atStart=>exact ⟨0,[],none,0,by omega,rfl,rfl,ae B0,ae PB0,World.ownsRow_nil _ _ _ _,af (by simp)⟩
 case round=>
  clear B0 PB0;obtain ⟨k,fv,fa,fc,hk1,rfl,rfl,hb,hpb,hrow,HF⟩:=hrel;have HB:=af hb;have wM:=af hpb;have iL:=af hrow;obtain ⟨p0,p1,p2,p3,p4,p5,p6,p7⟩:=hpb.eight;have hwr:=hb.size
  by_cases hlt:k<p.ps.length
  ·have hm:=List.getElem_mem hlt;obtain ⟨q,cq,e1,kc⟩:=aK (ay (ae RP) hb) k (.int .i64 (p.ps[k]:Nat)) (by simp [aeh hlt]);simp only [Value.slice.injEq,true_and] at e1;obtain ⟨rfl,rfl⟩:=e1;obtain ⟨hcm,hpos⟩:=ae HC _ hm;have C:=af (hcm b kv rv _ kl rl l wr ((ae HD).below hb));have rR:=af (jG lf p.ps k _ (aeh hlt));have hle:=mZ lf p.ps (k+1);rw [ae rR,←ae HF,List.length_append,ae HG] at hle;have hkn:(k:Int)<(p.ps.length:Int):=by omega
   generalize p.ps[k]=m at*;clear hb hpb hrow hcm hm;go_wp2_with fail;refine (ae C).mono ?_;rintro e w1 ⟨sv,rfl,hb1,hs1⟩;obtain ⟨g1,c1,rfl,nl1,nw1⟩:=pV hs1 hpos;have B1:=af ((ae HB).trans (hb1.mono hwr));have LC:=af ((ae wM).below hb1);have R1:=af (ay (ae iL) hb1);have Ap:=(ae B1).size;have NL1:=af nl1;have NW1:=af nw1;have Uo:=(ae LC).lt;clear hb1 hs1 C HB wM iL nl1 nw1;go_wp2_with (at_builtin;go_must (refine wpList_append_lies _ rfl _ _ 29 rfl w.heap.size 3 iI _ 1 8 Tryz.underlying29 (ae II) (ae xe) (ae xg) (ae xh) rfl (by decide) (.slice fa fv.length fc) fv.length (fv.map fun n:Nat=> .int .i64 n) rfl (ae R1) ⟨g1,0,none⟩ (lf m).length c1 ((lf m).map fun n:Nat=> .int .i64 n) rfl (ae NL1) (ae NW1) ?hone hpos ?h63 ?hbytes Ap w1.heap.size rfl ?hrest))
   case hone=>
    intro u hu;obtain ⟨n,_,rfl⟩:=List.mem_map.1 hu
    rfl
   case h63=>unfold maxLen;omega
   case hbytes=>omega
   intro g5 aD w5 aC aj aP di;have B5:=af (Below.grown (ae B1) aj Ap (fun k hk=>((ae R1).lt k hk).1));have Zt:=af (show ai w5 w.heap.size _ 255 from (aj.block _ (ae LC).lt (own_ne (ae R1) (ae LC) (by decide))).trans (ae LC));have R5:=af aC;clear aC aj aP di B1 LC R1 NL1 NW1;go_wp2;go_roundw
   case rel=>exact ⟨k+1,fv++lf m,some ⟨g5,0,none⟩,aD,by omega,by go_num,by simp,ae B5,ae Zt,by simpa using ae R5,af (by rw [ae HF,ae rR])⟩
   case measure=>simp [intOf];omega
  ·have hkn:¬((k:Int)<(p.ps.length:Int)):=by omega
   have Gl:fv=G:=by rw [ae HF,List.take_of_length_le (by omega),ae HG]
   have QI:=af Gl;clear hb hpb hrow Gl;go_wp2;go_ret;rw [←ae QI];exact ⟨_,rfl,ae HB,ae iL⟩
theorem LD {P:Program} {w:World} {base size:Nat} {E T:TypeId} (hT:P.underlying T=some (.slice E)) {v:Value} {n:Nat} {xs:List Value} (h:w.ownsRow base E size v n xs) (h1:∀u∈xs,u.oneCell'=true):Src P size T v n xs w:=by
 rcases h with ⟨h0,⟨rfl,h2⟩|⟨g,cap,cur,rfl,hg,hh,hle,hm,hs,ht⟩⟩
 ·subst h2;have:xs=[]:=List.eq_nil_of_length_eq_zero (by simpa using h0);subst this;exact Src.ofNil w hT 0
 ·refine Src.ofSlice w hT _ _ _ _ h0 ?_ h1;intro j u hj;have hlt:=(List.getElem?_eq_some_iff.1 hj).1;rw [←ht,List.getElem?_take] at hj
  split at hj
  ·rw [Addr.add_lit];simp [World.cell?,hh] at hj ⊢;exact hj
  ·simp at hj
theorem ng {w:World} {base size:Nat} {E:TypeId} {a:Option Addr} {n c m:Nat} {xs:List Value} (h:w.ownsRow base E size (.slice a m c) n xs):n≤c:=by
 rcases h with ⟨_,⟨e,h2⟩|⟨g,cap,cur,e,_,_,hle,_⟩⟩
 ·omega
 ·simp only [Value.slice.injEq] at e;omega
theorem jr {P:Program} {w:World} {ops:Array Oper} {rest:List Oper} {o:Oper} {a:Act} {Q:Exit→Act→World→Prop} (hgd:o.guard=none) (s x:Operand) (t:TypeId)
  (ho:o.op=.call {callee:=.builtin .append,args:=#[s,x],argTypes:=#[t,t]})
  (base:Nat) (e:TypeId) (i:TypeInfo) (z:Value) (size bytes:Nat) (ht:P.underlying t=some (.slice e)) (hi:P.info? e=some i) (hz:i.zero=some z)
  (hsize:i.size=size) (hby:i.bytes=bytes) (hzs:z.cells.size=size) (hsz:0<size)
  (v:Value) (n:Nat) (xs:List Value) (hs:a.eval s=v) (hown:w.ownsRow base e size v n xs)
  (xv:Value) (m:Nat) (news:List Value) (hx:a.eval x=xv) (QJ:Nat) (hnews:w.ownsRow QJ e size xv m news) (h1:∀u∈news,u.oneCell'=true)
  (h63:n+m≤maxLen) (hbytes:(n+m)*bytes≤140737488355328) (hbase:base≤w.heap.size)
  (h:∀av cv w',w'.ownsRow base e size (.slice av (n+m) cv) (n+m) (xs++news)→w.grownBy w' v.ownBlock→(∀g,(Value.slice av (n+m) cv).ownBlock=some g→v.ownBlock=some g∨g=w.heap.size)→wpList P ops Q rest (a.put o.dst (.slice av (n+m) cv)) w'):wpList P ops Q (o::rest) a w:=by
 by_cases hm:0<m
 ·obtain ⟨g,c,rfl,hl,hn⟩:=qR hnews hm;refine wpList_append_lies w hgd s x t ho base e i z size bytes ht hi hz hsize hby hzs hsz v n xs hs hown ⟨g,0,none⟩ m c news hx hl hn h1 hm h63 hbytes hbase _ rfl ?_;intro g5 cap w' h2 h3 h4 h5;refine h _ cap w' h2 h3 (fun q hq=> ?_);simp only [Value.ownBlock,Option.some.injEq] at hq;subst hq;exact h4
 ·obtain rfl:m=0:=by omega
  have hnil:news=[]:=List.eq_nil_of_length_eq_zero (by simpa using hnews.1);subst hnil;obtain ⟨av,cv,rfl⟩:=au hown;refine wpList_plain hgd fun K hK=> ?_
  have hrun:=run_append_nothing (P:=P) w t t o.type e i ht hi av n cv (ng hown) xv (by rw [hsize];exact LD ht hnews h1);unfold Oper.wp execOp;simp only [ho,resolve,invoke,builtin,Sem.run_bind,Sem.run_pure,Result.andThen_ok,List.map_toArray,List.map_cons,List.map_nil,hs,hx,hrun];exact hK _ _ (h av cv w (by simpa using hown) ⟨rfl,rfl,rfl,Nat.le_refl _,fun _ _ _=>rfl⟩ (fun g hg=> .inl hg))
theorem wm {P:Program} {w:World} {ops:Array Oper} {o:Oper} {a:Act} {K:Act→World→Prop} {Q:Exit→Act→World→Prop} {E:Prop} (hgd:o.guard=none) (s x:Operand) (t:TypeId)
  (ho:o.op=.call {callee:=.builtin .append,args:=#[s,x],argTypes:=#[t,t]})
  (base:Nat) (e:TypeId) (i:TypeInfo) (z:Value) (size bytes:Nat) (ht:P.underlying t=some (.slice e)) (hi:P.info? e=some i) (hz:i.zero=some z)
  (hsize:i.size=size) (hby:i.bytes=bytes) (hzs:z.cells.size=size) (hsz:0<size)
  (v:Value) (n:Nat) (xs:List Value) (hs:a.eval s=v) (hown:w.ownsRow base e size v n xs)
  (xv:Value) (m:Nat) (news:List Value) (hx:a.eval x=xv) (QJ:Nat) (hnews:w.ownsRow QJ e size xv m news) (h1:∀u∈news,u.oneCell'=true)
  (h63:n+m≤maxLen) (hbytes:(n+m)*bytes≤140737488355328) (hbase:base≤w.heap.size)
  (h:∀av cv w',w'.ownsRow base e size (.slice av (n+m) cv) (n+m) (xs++news)→w.grownBy w' v.ownBlock→K (a.put o.dst (.slice av (n+m) cv)) w'):
  if Region.wanted o (yielded ops a.tmps)=true then Oper.wp P o a w K Q else E:=by
 by_cases hm:0<m
 ·obtain ⟨g,c,rfl,hl,hn⟩:=qR hnews hm;exact step_append_lies w hgd s x t ho base e i z size bytes ht hi hz hsize hby hzs hsz v n xs hs hown ⟨g,0,none⟩ m c news hx hl hn h1 hm h63 hbytes hbase _ rfl (fun g5 cap w' h2 h3 h4 h5=>h _ cap w' h2 h3)
 ·obtain rfl:m=0:=by omega
  have hnil:news=[]:=List.eq_nil_of_length_eq_zero (by simpa using hnews.1);subst hnil;obtain ⟨av,cv,rfl⟩:=au hown;have hw:Region.wanted o (yielded ops a.tmps)=true:=by simp [Region.wanted,hgd]
  rw [if_pos hw];have hrun:=run_append_nothing (P:=P) w t t o.type e i ht hi av n cv (ng hown) xv (by rw [hsize];exact LD ht hnews h1);unfold Oper.wp execOp;simp only [ho,resolve,invoke,builtin,Sem.run_bind,Sem.run_pure,Result.andThen_ok,List.map_toArray,List.map_cons,List.map_nil,hs,hx,hrun];exact h av cv w (by simpa using hown) ⟨rfl,rfl,rfl,Nat.le_refl _,fun _ _ _=>rfl⟩
theorem rf {W w5:World} {b1 s1 n1 base size n:Nat} {E1 E:TypeId} {v1 v:Value} {xs1 xs:List Value} (h:W.ownsRow b1 E1 s1 v1 n1 xs1) (k:W.ownsRow base E size v n xs) (hg:W.grownBy w5 v.ownBlock) (hne:E1≠E):w5.ownsRow b1 E1 s1 v1 n1 xs1:=ak h (fun g cs f _ hh=>hg.block g (lt_of_some hh) (cO k hh hne))
theorem fE {w W w5:World} {size n:Nat} {E:TypeId} {v:Value} {xs:List Value} (hB:Below w.heap.size w W) (k:W.ownsRow w.heap.size E size v n xs) (hg:W.grownBy w5 v.ownBlock):Below w.heap.size w w5:=Below.grown hB hg hB.size (fun j hj=>(k.lt j hj).1)
theorem via2 {Goal:Prop} {P:Option Addr→Nat→World→Prop} {A:Option Addr→Nat→World→Act} {Wf:Option Addr→Nat→World→World} {K:Act→World→Prop} (main:(∀g c w,P g c w→K (A g c w) (Wf g c w))→Goal) (key:∀g c w,P g c w→K (A g c w) (Wf g c w)):Goal:=main key
theorem bQ.mem {R:Nat→Ex→Prop}:∀(ns:List Nat) (xs:List Ex),bQ R ns xs→∀n∈ns,∃x∈xs,R n x
 | [],[],_,n,hn=>by simp at hn
 |m::ns,x::xs,h,n,hn=>by
  rcases List.mem_cons.1 hn with rfl|hn
  ·exact ⟨x,by simp,h.1⟩
  ·obtain ⟨y,hy,hr⟩:=bQ.mem ns xs h.2 n hn;exact ⟨y,by simp [hy],hr⟩
 | [],_::_,h,_,_=>h.elim
 |_::_,[],h,_,_=>h.elim
theorem qD {α β:Type} (f:α→List β):∀(l:List α),(∀m∈l,0<(f m).length)→l.length≤(l.flatMap f).length
 | [],_=>by simp
 |a::l,h=>by
  have h1:=h a (by simp);have h2:=qD f l (fun m hm=>h m (by simp [hm]));simp only [List.flatMap_cons,List.length_append,List.length_cons];omega
theorem qE {α β:Type} (f:α→List β) (l:List α) (a:α) (h:a∈l):(f a).length≤(l.flatMap f).length:=by
 obtain ⟨p,q,rfl⟩:=List.append_of_mem h;simp only [List.flatMap_append,List.flatMap_cons,List.length_append];omega
theorem kL (pl:List PV):∀(f n:Nat) (x:Ex),Tr pl f n x→0<(aA pl f n).length
 |0,_,_,h=>h.elim
 |f+1,n,x,⟨p,hp,h⟩=>by
  rw [aA,hp]
  rcases h with ⟨h1,hn,h2⟩|⟨h1,h0,hn,h2⟩|⟨h1,h0,hn,h2⟩|⟨h1,h0,n0,ns,x0,rs,h3,h4,h5,h6,h7,h8⟩|⟨h1,h0,h0',n0,ns,x0,rs,h3,h4,h5,h6,h7,h8⟩
  ·simp [h1]
  ·simp [h1]
  ·simp [h1]
  ·have:=kL pl f _ _ h4;simp only [h1,true_or,if_true,h3,List.flatMap_cons,List.length_append];omega
  ·have:=kL pl f _ _ h4;simp only [h1,or_true,if_true,h3,List.flatMap_cons,List.length_append];omega
theorem ni (pl:List PV):∀(f n:Nat) (x:Ex),Tr pl f n x→(aA pl f n).length≤1000→ji pl n (aA pl f n)
 |0,_,_,h,_=>h.elim
 |f+1,n,x,⟨p,hp,h⟩,hl=>by
  have ih:=ni pl f;rw [aA,hp] at hl ⊢
  rcases h with ⟨h1,hn,h2⟩|⟨h1,h0,hn,h2⟩|⟨h1,h0,hn,h2⟩|⟨h1,h0,n0,ns,x0,rs,h3,h4,h5,h6,h7,h8⟩|⟨h1,h0,h0',n0,ns,x0,rs,h3,h4,h5,h6,h7,h8⟩
  ·simp only [h1,Nat.reduceEqDiff,or_self,if_false];exact qC pl n p hp (by omega) (by omega)
  ·simp only [h1,Nat.reduceEqDiff,or_self,if_false];exact qC pl n p hp (by omega) (by omega)
  ·simp only [h1,Nat.reduceEqDiff,or_self,if_false];exact qC pl n p hp (by omega) (by omega)
  ·simp only [h1,true_or,if_true] at hl ⊢;have key:∀m∈p.ps,∃y,Tr pl f m y:=fun m hm=>by
    rw [h3] at hm
    rcases List.mem_cons.1 hm with rfl|hm
    ·exact ⟨x0,h4⟩
    ·obtain ⟨y,_,hy⟩:=bQ.mem _ _ h5 m hm;exact ⟨y,hy⟩
   refine DZ pl n p hp h1 (aA pl f) (fun m hm=> ?_) hl ?_
   ·obtain ⟨y,hy⟩:=key m hm;exact ⟨ih m y hy (Nat.le_trans (qE _ _ _ hm) hl),kL pl f m y hy⟩
   ·exact Nat.le_trans (qD (aA pl f) _ (fun m hm=>by obtain ⟨y,hy⟩:=key m hm;exact kL pl f m y hy)) hl
  ·simp only [h1,or_true,if_true] at hl ⊢;have key:∀m∈p.ps,∃y,Tr pl f m y:=fun m hm=>by
    rw [h3] at hm
    rcases List.mem_cons.1 hm with rfl|hm
    ·exact ⟨x0,h4⟩
    ·obtain ⟨y,_,hy⟩:=bQ.mem _ _ h5 m hm;exact ⟨y,hy⟩
   refine D7 pl n p hp h1 (aA pl f) (fun m hm=> ?_) hl ?_
   ·obtain ⟨y,hy⟩:=key m hm;exact ⟨ih m y hy (Nat.le_trans (qE _ _ _ hm) hl),kL pl f m y hy⟩
   ·exact Nat.le_trans (qD (aA pl f) _ (fun m hm=>by obtain ⟨y,hy⟩:=key m hm;exact kL pl f m y hy)) hl
def lF (pl:List PV) (m:Nat):List Gr:=match pl[m]? with
 |some p=>p.gs
 |none=>[]
theorem Yy (gs:List Gr):∀u∈gs.flatMap aJ,u.oneCell'=true:=by
 intro u hu;obtain ⟨g,_,hg⟩:=List.mem_flatMap.1 hu;simp only [aJ,List.mem_cons,List.not_mem_nil,or_false] at hg
 rcases hg with rfl|rfl|rfl|rfl<;>rfl
theorem Gm (b:Nat) (kv rv pv:Value) (kl:List (aei×Nat)) (rl:List RV) (pl:List PV) (l:List PX) (r:Nat) (x:RV) (lv:List Nat) (G:List Gr) (w:World) (h:DM w b kv rv pv kl rl pl l) (hx:rl[r]? =some x) (hL:ji pl x.ex lv) (hlv:∀m∈lv,m<pl.length) (hG:lv.flatMap (lF pl)=G) (hGl:G.length≤1000000) (hll:lv.length≤1000):
  Calls Tryz.prog 196 #[.pointer (some ⟨b,5,none⟩),.int .i64 r] w fun e w'=>∃sv,e=.returned sv∧Below w.heap.size w w'∧w'.ownsRow w.heap.size 257 4 sv G.length (G.flatMap aJ):=by
 obtain ⟨iG,hi1,hy0,hy1,hy2⟩:=info_parts Tryz.infoGr;have II:=af hi1;have xe:=af hy0;have xg:=af hy1;have xh:=af hy2;clear hi1 hy0 hy1 hy2;obtain ⟨g,c,rfl,k0,k1,k2,k3⟩:=h.rat r x hx;have c6:=h.c6;have hr:=(List.getElem?_eq_some_iff.1 hx).1;have hr':(r:Int)<(rl.length:Int):=by omega
 have IM:=h.rn;have HD:=af h;have HG:=af hG;have HLV:=af hlv;have C:=af (hL b kv _ pv kl rl l w h);clear h hx hL hG hlv;go_enter Tryz.func196,Tryz.ntmps196;go_wp2_with fail;refine (ae C).mono ?_;rintro e w1 ⟨sv,rfl,hb1,hs1⟩;obtain ⟨la,lc,rfl⟩:=au hs1;have B1:=af hb1;have AU:=af hs1;have Ap:=hb1.size;simp only [List.length_map] at*;clear hb1 hs1 C k0 k1 k2 k3 c6;go_wp2_with fail
 go_loopw [5,7] (fun u5 u7 wr=>∃(k:Nat) (fv:List Gr) (fa:Option Addr) (fc:Nat),k≤lv.length∧u7=.int .i64 k∧u5=.slice fa fv.length fc∧Below w.heap.size w wr∧wr.ownsRow w.heap.size 3 1 (.slice la lv.length lc) lv.length (lv.map fun n:Nat=> .int .i64 n)∧wr.ownsRow w.heap.size 257 4 (.slice fa fv.length fc) fv.length (fv.flatMap aJ)∧Hid (fv=(lv.take k).flatMap (lF pl))) (fun _ u7 _=>lv.length-(intOf u7).toNat)
 case atStart=>exact ⟨0,[],none,0,by omega,rfl,rfl,ae B1,ae AU,World.ownsRow_nil _ _ _ _,af (by simp)⟩
 case round=>
  clear B1 AU;obtain ⟨k,fv,fa,fc,hk1,rfl,rfl,hb,hrow,hgr,HF⟩:=hrel;have HB:=af hb;have iL:=af hrow;have Au:=af hgr;have hwr:=hb.size
  by_cases hlt:k<lv.length
  ·have hm:=ae HLV _ (List.getElem_mem hlt);obtain ⟨q,cq,e1,kc⟩:=aK hrow k (.int .i64 (lv[k]:Nat)) (by simp [aeh hlt]);simp only [Value.slice.injEq,true_and] at e1;obtain ⟨rfl,rfl⟩:=e1;have hd:=(ae HD).below hb;have rR:=af (jG (lF pl) lv k _ (aeh hlt));have hle:=mZ (lF pl) lv (k+1);rw [ae rR,←ae HF,List.length_append,ae HG] at hle;have hkn:(k:Int)<(lv.length:Int):=by omega
   generalize lv[k]=m at*;obtain ⟨gp,cp,ga,gc,pa,pc,sa,sc,rfl,hr,q0,q1,q2,q3,q4,q5,q6,q7⟩:=hd.pat m pl[m] (aeh hm);have hgs:lF pl m=pl[m].gs:=by unfold lF;rw [aeh hm]
   rw [hgs] at rR hle;have c7:=hd.c7;have V9:=hd.pn;have hm':(m:Int)<(pl.length:Int):=by omega
   have RG:=af hr.g;generalize pl[m]=p at*;clear hb hrow hgr hd hr hgs;go_wp2_with fail;have Dy:=af (show fv.length+p.gs.length≤maxLen from by unfold maxLen;omega);have AC:=af (show (fv.length+p.gs.length)*48≤140737488355328 from by omega);rename_i K hK;apply via2 (K:=K) (P:=fun av cv w5=>wr.drew.grownBy w5 (Value.slice fa fv.length fc).ownBlock∧w5.ownsRow w.heap.size 257 4 (.slice av (fv.length+p.gs.length) cv) (fv.length+p.gs.length) (fv.flatMap aJ++p.gs.flatMap aJ))
   case main=>
    intro key;have KEY:=af key;clear key
    go_region_law (refine wm rfl (.tmp 24) (.tmp 35) 253 rfl w.heap.size 257 iG _ 4 48 Tryz.underlying253 (ae II) (ae xe) (ae xg) (ae xh) rfl (by decide) (.slice fa fv.length fc) fv.length (fv.flatMap aJ) (by simp [Act.eval,Act.put]) (bK (ae Au)) (.slice ga p.gs.length gc) p.gs.length (p.gs.flatMap aJ) (by simp [Act.eval,Act.put]) 0 (bK (ae RG)) (Yy _) (ae Dy) (ae AC) hwr ?_;intro av cv w5 aC aj;have G5:=af aj;have O5:=af aC;clear aj aC)
    all_goals exact ae KEY av cv w5 ⟨ae G5,ae O5⟩
   case key=>
    rintro av cv w5 ⟨aj,aC⟩;have B5:=af (fE (ae HB).drew (bK (ae Au)) aj);have R5:=af (rf (bK (ae iL)) (bK (ae Au)) aj (by decide));have O5:=af aC;clear aC aj HB Au iL RG Dy AC q0 q1 q2 q3 q4 q5 q6 q7 c7 kc;refine hK _ _ ?_;clear hK;go_wp2;go_roundw
    case rel=>exact ⟨k+1,fv++p.gs,av,cv,by omega,by go_num,by simp,ae B5,ae R5,by simpa using ae O5,af (by rw [ae HF,ae rR])⟩
    case measure=>simp [intOf];omega
  ·have hkn:¬((k:Int)<(lv.length:Int)):=by omega
   have Gl:fv=G:=by rw [ae HF,List.take_of_length_le (by omega),ae HG]
   have QI:=af Gl;clear hb hrow hgr Gl;go_wp2;go_ret;rw [←ae QI];exact ⟨_,rfl,ae HB,ae Au⟩
