import Derived.Test.YtlbpnlngckgcbaaGreatDoorM22
set_option linter.all false
set_option maxHeartbeats 4000000
set_option maxRecDepth 100000
namespace Go.Proofs.YtlbpnlngckgcbaaGreatDoor
open Go.RowKit Go.PlainAid
def NI (rl:List RV) (p:PV):List Nat:=p.gs.flatMap (dL rl)
theorem Ed (b:Nat) (kv rv pv:Value) (kl:List (aei×Nat)) (rl:List RV) (pl:List PV) (l:List PX) (n:Nat) (lv:List Nat) (T:List Nat) (w:World) (h:DM w b kv rv pv kl rl pl l) (hL:ji pl n lv) (hll:lv.length≤1000)
  (IL:∀m∈lv,∃p,pl[m]? =some p∧p.gs.length≤1000) (hT:lv.flatMap (wo (NI rl) pl)=T) (hTl:T.length≤1000000000):
  Calls Tryz.prog 254 #[.pointer (some ⟨b,5,none⟩),.int .i64 n] w fun e w'=>∃sv,e=.returned sv∧Below w.heap.size w w'∧w'.ownsRow w.heap.size 3 1 sv T.length (T.map fun n:Nat=> .int .i64 n):=by
 obtain ⟨iI,hi1,hy0,hy1,hy2⟩:=info_parts Tryz.infoInt;have II:=af hi1;have xe:=af hy0;have xg:=af hy1;have xh:=af hy2;clear hi1 hy0 hy1 hy2;have HD:=af h;have Pp:=af IL;have HT:=af hT;have IM:=h.rn;have V9:=h.pn;have C:=af (hL b kv rv pv kl rl l w h);clear h hL IL hT;go_enter Tryz.func254,Tryz.ntmps254;go_wp2_with fail;refine (ae C).mono ?_;rintro e w1 ⟨sv,rfl,hb1,hs1⟩;obtain ⟨la,lc,rfl⟩:=au hs1;have B1:=af hb1;have Ap:=hb1.size;have AU:=af hs1;clear hb1 hs1 C;go_wp2_with fail
 go_loopw [5,7] (fun u7 u9 wr=>∃(i:Nat) (fv:List Nat) (fa:Option Addr) (fc:Nat),i≤lv.length∧u9=.int .i64 i∧u7=.slice fa fv.length fc∧Below w.heap.size w wr∧Below w1.heap.size w1 wr∧wr.ownsRow w1.heap.size 3 1 (.slice fa fv.length fc) fv.length (fv.map fun n:Nat=> .int .i64 n)∧Hid (fv=(lv.take i).flatMap (wo (NI rl) pl))) (fun _ u9 _=>lv.length-(intOf u9).toNat)
 case atStart=>exact ⟨0,[],none,0,by omega,rfl,rfl,ae B1,Below.refl _ _,World.ownsRow_nil _ _ _ _,af (by simp)⟩
 case round=>
  obtain ⟨i,fv,fa,fc,hi1,rfl,rfl,hb,bF,hrow,HF⟩:=hrel;have HB:=af hb;have pK:=af bF;have iL:=af hrow;have hwr:=hb.size;have QV:=bF.size
  by_cases hlt:i<lv.length
  ·obtain ⟨q,cq,e1,kc⟩:=aK (ay (ae AU) bF) i (.int .i64 (lv[i]:Nat)) (by simp [aeh hlt]);simp only [Value.slice.injEq,true_and] at e1;obtain ⟨rfl,rfl⟩:=e1;obtain ⟨p,hp,hpg⟩:=ae Pp _ (List.getElem_mem hlt);have rR:=af (jG (wo (NI rl) pl) lv i _ (aeh hlt));have hle:=mZ (wo (NI rl) pl) lv (i+1);rw [ae rR,←ae HF,List.length_append,ae HT] at hle;have hkn:(i:Int)<(lv.length:Int):=by omega
   generalize lv[i]=m at*;have hd:=(ae HD).below hb;obtain ⟨gp,cp,ga,gc,pa,pc,sa,sc,hpv,hr,q0,q1,q2,q3,q4,q5,q6,q7⟩:=hd.pat m p hp;have hm:=(List.getElem?_eq_some_iff.1 hp).1;have hm':(m:Int)<(pl.length:Int):=by omega
   have hat:wo (NI rl) pl m=NI rl p:=by unfold wo;rw [hp]
   rw [hat] at rR hle;have c7:=hd.c7;rw [hpv] at c7;have HRG:=af hr.g;have m7:=World.new_ne wr _ c7;have mk:=World.new_ne wr _ kc;have mq:=World.new_ne wr _ q0;clear hb bF hrow hd hr hp hpv hat;go_wp2_with fail
   go_region_held3 (fun w'=>w'.cell? ⟨b,7,none⟩=some (.slice (some ⟨gp,0,none⟩) pl.length cp)∧w'.cell? ⟨q,i,none⟩=some (.int .i64 m)∧w'.cell? ⟨gp,m*8,none⟩=some (.int .i64 p.kind)∧w'.cell? ⟨gp,m*8+1,none⟩=some (.slice ga p.gs.length gc)∧w'.cell? ⟨gp,m*8+2,none⟩=some (.string p.nb)∧w'.cell? ⟨gp,m*8+3,none⟩=some (.string p.nr)∧w'.cell? ⟨gp,m*8+4,none⟩=some (.int .i64 p.pa)∧w'.cell? ⟨gp,m*8+5,none⟩=some (.int .i64 p.pr)∧w'.cell? ⟨gp,m*8+6,none⟩=some (.slice pa p.ps.length pc)∧w'.cell? ⟨gp,m*8+7,none⟩=some (.slice sa p.sg.length sc)) (go_keep) (fail)
   rename_i hh;clear hh q0 q1 q2 q3 q4 q5 q6 q7 c7 kc m7 mk mq;have b2:Below wr.heap.size wr ((wr.alloc (.cells #[.int .i64 p.kind,.slice ga p.gs.length gc,.string p.nb,.string p.nr,.int .i64 p.pa,.int .i64 p.pr,.slice pa p.ps.length pc,.slice sa p.sg.length sc] 255)).drew):=((Below.refl _ wr).alloc aeg _).drew;have NE:=af (ai.new wr #[.int .i64 p.kind,.slice ga p.gs.length gc,.string p.nb,.string p.nr,.int .i64 p.pa,.int .i64 p.pr,.slice pa p.ps.length pc,.slice sa p.sg.length sc] 255).drew;have B2:=af ((ae HB).trans (b2.mono hwr));have nX:=af ((ae pK).trans (b2.mono QV));have R2:=af (ay (ae iL) b2);have RG2:=af (ay (ae HRG) b2);clear b2 HB pK iL HRG;go_wp2_with fail;generalize (wr.alloc (.cells #[.int .i64 p.kind,.slice ga p.gs.length gc,.string p.nb,.string p.nr,.int .i64 p.pa,.int .i64 p.pr,.slice pa p.ps.length pc,.slice sa p.sg.length sc] 255)).drew=W2 at*;generalize wr.heap.size=pb at*;have HHL:=af (show (NI rl p).length=(p.gs.flatMap (dL rl)).length from rfl)
   go_loopw [5,9] (fun u7 u11 wi=>∃(k:Nat) (f2:List Nat) (fa:Option Addr) (fc:Nat),k≤p.gs.length∧u11=.int .i64 k∧u7=.slice fa f2.length fc∧Below w.heap.size w wi∧Below w1.heap.size w1 wi∧ai wi pb #[.int .i64 p.kind,.slice ga p.gs.length gc,.string p.nb,.string p.nr,.int .i64 p.pa,.int .i64 p.pr,.slice pa p.ps.length pc,.slice sa p.sg.length sc] 255∧wi.ownsRow 0 257 4 (.slice ga p.gs.length gc) p.gs.length (p.gs.flatMap aJ)∧wi.ownsRow w1.heap.size 3 1 (.slice fa f2.length fc) f2.length (f2.map fun n:Nat=> .int .i64 n)∧Hid (f2=fv++(p.gs.take k).flatMap (dL rl))) (fun _ u11 _=>p.gs.length-(intOf u11).toNat)
   case atStart=>exact ⟨0,fv,fa,fc,by omega,rfl,rfl,ae B2,ae nX,ae NE,ae RG2,ae R2,af (by simp)⟩
   case round=>
    clear B2 nX NE RG2 R2 hwr QV;obtain ⟨k,f2,fa,fc,hk1,rfl,rfl,hb,bF,hpb,hgr,hrow,J6⟩:=hrel;have HB:=af hb;have pK:=af bF;have wM:=af hpb;have Au:=af hgr;have iL:=af hrow;have IQ:=hb.size;have Kb:=bF.size;obtain ⟨p0,p1,p2,p3,p4,p5,p6,p7⟩:=hpb.eight;have pl0:=hpb.lt
    by_cases vB:k<p.gs.length
    ·obtain ⟨gg,cg,e1,hc⟩:=bP aJ 4 (fun _=>rfl) hgr k p.gs[k] (aeh vB);simp only [Value.slice.injEq,true_and] at e1;obtain ⟨rfl,rfl⟩:=e1;have YF:=af (jG (dL rl) p.gs k _ (aeh vB));have NG:=mZ (dL rl) p.gs (k+1);have hf2:=congrArg List.length (ae J6);rw [ae YF,List.length_append] at NG;rw [List.length_append] at hf2;have zw:(k:Int)<(p.gs.length:Int):=by omega
     generalize p.gs[k]=x at*;have k0:wr.cell? ⟨gg,k*4,none⟩=some (.string x.ty):=hc 0 _ (by omega) rfl;have k1:wr.cell? ⟨gg,k*4+1,none⟩=some (.string (bB x)):=hc 1 _ (by omega) rfl;have C:=af (gT b kv rv pv kl rl pl l x.ty (bB x) wr.drew ((ae HD).below ((ae HB).trans ((Below.refl _ _).drew.mono IQ))));have AV:f2.length+(dL rl x).length≤1000000000:=by have:=ae HHL;omega
     clear hb bF hpb hgr hrow hc hf2 NG
     rcases cK x.ty (bB x) rl 0 with hfi|⟨j,hfi,Oz,OE⟩
     ·rw [hfi] at C;have IR:dL rl x=[]:=by unfold dL;rw [hfi];simp
      have NH:=af (show f2=fv++(p.gs.take (k+1)).flatMap (dL rl) from by rw [ae YF,IR,List.append_nil];exact ae J6);clear IR hfi;go_wp2_with fail
      go_region_held3 (fun w'=>w'.cell? ⟨pb,1,none⟩=some (.slice (some ⟨gg,0,none⟩) p.gs.length gc)∧w'.cell? ⟨gg,k*4,none⟩=some (.string x.ty)∧w'.cell? ⟨gg,k*4+1,none⟩=some (.string (bB x))) (go_keep)
       ((go_at_call 132;refine (ae C).mono ?_;rintro e w5 ⟨rfl,bV⟩;have BB:=af (show Below wr.heap.size wr w5 from (Below.refl _ wr).drew.trans bV);have d0:=ag p1 (ae BB);have d1:=ag k0 (ae BB);have d2:=ag k1 (ae BB);clear bV))
      clear p0 p1 p2 p3 p4 p5 p6 p7 k0 k1 d0 d1 d2 C;have B6:=af ((ae HB).trans ((ae BB).mono IQ));have wZ:=af ((ae pK).trans ((ae BB).mono Kb));have IU:=af ((ae wM).below (ae BB));have G6:=af (ay (ae Au) (ae BB));have R6:=af (ay (ae iL) (ae BB));clear HB pK wM Au iL;go_wp2;go_roundw
      case rel=>exact ⟨k+1,f2,fa,fc,by omega,by go_num,rfl,ae B6,ae wZ,ae IU,ae G6,ae R6,NH⟩
      case measure=>simp [intOf];omega
     ·rw [hfi] at C;have IR:dL rl x=[j]:=by unfold dL;rw [hfi];simp
      rw [IR] at AV;simp only [List.length_cons,List.length_nil] at AV;have NH:=af (show f2++[j]=fv++(p.gs.take (k+1)).flatMap (dL rl) from by rw [ae YF,IR,←List.append_assoc,←ae J6]);have YC:(0:Int)≤(j:Int):=by omega
      clear IR hfi;go_wp2_with fail
      go_region_held3 (fun w'=>w'.cell? ⟨pb,1,none⟩=some (.slice (some ⟨gg,0,none⟩) p.gs.length gc)∧w'.cell? ⟨gg,k*4,none⟩=some (.string x.ty)∧w'.cell? ⟨gg,k*4+1,none⟩=some (.string (bB x))) (go_keep)
       ((go_at_call 132;refine (ae C).mono ?_;rintro e w5 ⟨rfl,bV⟩;have BB:=af (show Below wr.heap.size wr w5 from (Below.refl _ wr).drew.trans bV);have d0:=ag p1 (ae BB);have d1:=ag k0 (ae BB);have d2:=ag k1 (ae BB);clear bV))
      clear p0 p1 p2 p3 p4 p5 p6 p7 k0 k1 d0 d1 d2 C;have B6:=af ((ae HB).trans ((ae BB).mono IQ));have wZ:=af ((ae pK).trans ((ae BB).mono Kb));have IU:=af ((ae wM).below (ae BB));have G6:=af (ay (ae Au) (ae BB));have R6:=af (ay (ae iL) (ae BB));have ML:=(ae B6).size;have Kc:=(ae wZ).size;clear HB pK wM Au iL;go_wp2_with (at_builtin;go_must (refine wpList_append_lies _ rfl _ _ 29 rfl w1.heap.size 3 iI _ 1 8 Tryz.underlying29 (ae II) (ae xe) (ae xg) (ae xh) rfl (by decide) (.slice fa f2.length fc) f2.length (f2.map fun n:Nat=> .int .i64 n) rfl ((ae R6).alloc _) ⟨w5.heap.size,0,none⟩ 1 1 [.int .i64 j] rfl rfl ?mf ?nS (by decide) ?oC ?dX ?mg (w5.heap.size+1) ?Pg ?kw))
      case mf=>exact World.news_of_block (B:=w5.heap.size) (cs:=#[.int .i64 j]) (t:=3) (fr:=(0,0)) (ai.new' _ _ _ _ rfl)
      case nS=>
       intro u hu;simp only [List.mem_cons,List.not_mem_nil,or_false] at hu
       rcases hu with rfl
       rfl
      case oC=>unfold maxLen;omega
      case dX=>omega
      case mg=>simp;omega
      case Pg=>simp
      intro g5 aD w6 aC aj aP di;have B7:=af (lN ((ae B6).alloc ML _) Ap ((ae R6).alloc _) aj);have BW7:=af (fE ((ae wZ).alloc Kc _) ((ae R6).alloc _) aj);have YG:=af (rA ((ae IU).alloc _) ((ae R6).alloc _) aj (by decide));have G7:=af (rf ((ae G6).alloc _) ((ae R6).alloc _) aj (by decide));have O7:=af aC;clear aC aj aP di B6 wZ IU G6 R6;go_wp2;go_roundw
      case rel=>exact ⟨k+1,f2++[j],some ⟨g5,0,none⟩,aD,by omega,by go_num,by simp,ae B7,ae BW7,ae YG,ae G7,by simpa using ae O7,NH⟩
      case measure=>simp [intOf];omega
    ·have zw:¬((k:Int)<(p.gs.length:Int)):=by omega
     have hf2:f2=fv++p.gs.flatMap (dL rl):=by rw [ae J6,List.take_of_length_le (by omega)]
     have NH:=af hf2;have QW:=congrArg List.length hf2;rw [List.length_append] at QW;clear hb bF hpb hgr hrow hf2 QW;have YH:=af (show f2=(lv.take (i+1)).flatMap (wo (NI rl) pl) from by rw [ae rR,←ae HF,ae NH];rfl);go_wp2;go_roundw
     case rel=>exact ⟨i+1,f2,fa,fc,by omega,by go_num,rfl,ae HB,ae pK,ae iL,YH⟩
     case measure=>simp [intOf];omega
  ·have hkn:¬((i:Int)<(lv.length:Int)):=by omega
   have Gl:fv=T:=by rw [ae HF,List.take_of_length_le (by omega),ae HT]
   have QI:=af Gl;have hw1:=(ae B1).size;clear hb bF hrow Gl;go_wp2;go_ret;rw [←ae QI];exact ⟨_,rfl,ae HB,aO (ae iL) hw1⟩
theorem Ke (b:Nat) (kv rv pv:Value) (kl:List (aei×Nat)) (rl:List RV) (pl:List PV) (l:List PX) (n:Nat) (lv:List Nat) (w:World) (h:DM w b kv rv pv kl rl pl l) (hL:ji pl n lv) (hll:lv.length≤1000) (IL:∀m∈lv,∃p,pl[m]? =some p∧p.gs.length≤1000):
  Calls Tryz.prog 253 #[.pointer (some ⟨b,5,none⟩),.int .i64 n] w fun e w'=>e=.returned (.bool (lv.any fun m=>decide (0<(lF pl m).length)))∧Below w.heap.size w w':=by
 have HD:=af h;have Pp:=af IL;have V9:=h.pn;have C:=af (hL b kv rv pv kl rl l w h);generalize hR:(lv.any fun m=>decide (0<(lF pl m).length))=R;have HR:=af (show ((lv.drop 0).any fun m=>decide (0<(lF pl m).length))=R from hR);clear h hL IL hR;go_enter Tryz.func253,Tryz.ntmps253;go_wp2_with fail;refine (ae C).mono ?_;rintro e w1 ⟨sv,rfl,hb1,hs1⟩;obtain ⟨la,lc,rfl⟩:=au hs1;have B1:=af hb1;have Ap:=hb1.size;have AU:=af hs1;clear hb1 hs1 C;go_wp2_with fail
 go_loopw [6] (fun u6 wr=>∃(i:Nat),i≤lv.length∧u6=.int .i64 i∧Below w1.heap.size w1 wr∧Hid (((lv.drop i).any fun m=>decide (0<(lF pl m).length))=R)) (fun u6 _=>lv.length-(intOf u6).toNat)
 case atStart=>exact ⟨0,by omega,rfl,Below.refl _ _,HR⟩
 case round=>
  clear HR;obtain ⟨i,hi1,rfl,hb,HQ⟩:=hrel;have hB:=(ae B1).trans (hb.mono Ap);have HB:=af hb;have pK:=af hB
  by_cases hlt:i<lv.length
  ·obtain ⟨q,cq,e1,kc⟩:=aK (ay (ae AU) hb) i (.int .i64 (lv[i]:Nat)) (by simp [aeh hlt]);simp only [Value.slice.injEq,true_and] at e1;obtain ⟨rfl,rfl⟩:=e1;obtain ⟨p,hp,hpg⟩:=ae Pp _ (List.getElem_mem hlt);have hq:=ae HQ;rw [List.drop_eq_getElem_cons hlt,List.any_cons] at hq;have hkn:(i:Int)<(lv.length:Int):=by omega
   generalize lv[i]=m at*;have hd:=(ae HD).below hB;obtain ⟨gp,cp,ga,gc,pa,pc,sa,sc,hpv,hr,q0,q1,q2,q3,q4,q5,q6,q7⟩:=hd.pat m p hp;have hm:=(List.getElem?_eq_some_iff.1 hp).1;have hm':(m:Int)<(pl.length:Int):=by omega
   have hat:lF pl m=p.gs:=by unfold lF;rw [hp]
   rw [hat] at hq;have c7:=hd.c7;rw [hpv] at c7
   by_cases hz:0<p.gs.length
   ·rw [decide_eq_true hz,Bool.true_or] at hq;have og:=af hq;have hz':(0:Int)<(p.gs.length:Int):=by omega
    clear hb hB hd hr hp hpv hat HQ hq;go_wp2
    go_quiet (fail)
    go_wp2;go_ret;exact ⟨by rw [←ae og];rfl,below_drewN (ae pK) _⟩
   ·rw [decide_eq_false hz,Bool.false_or] at hq;have qN:=af hq;have hz':¬((0:Int)<(p.gs.length:Int)):=by omega
    clear hb hB hd hr hp hpv hat HQ hq;go_wp2
    go_quiet (fail)
    go_wp2;go_roundw
    case rel=>exact ⟨i+1,by omega,by go_num,below_drewN (ae HB) _,qN⟩
    case measure=>simp [intOf];omega
  ·have hkn:¬((i:Int)<(lv.length:Int)):=by omega
   have hq:=ae HQ;rw [List.drop_of_length_le (by omega),List.any_nil] at hq;have og:=af hq;clear hb hB HQ hq;go_wp2;go_ret;exact ⟨by rw [←ae og];rfl,ae pK⟩
def oQ (rl:List RV) (pl:List PV) (kd:aei) (n:Nat) (lv:List Nat):Prop:=ji pl n lv∧lv.length≤1000∧∀m∈lv,∃p,pl[m]? =some p∧p.gs.length≤1000∧(p.kind=2→0≤aQ kd p.nr rl 0)∧(p.kind=3→0≤aQ kd p.nb rl 0)
def jT (rl:List RV) (pl:List PV) (bz:Nat→List Gr) (kd:aei) (lv:List Nat):List Nat:=lv.flatMap (wo (iT rl bz kd) pl)
def OG (rl:List RV) (pl:List PV) (lv:List Nat):List Nat:=lv.flatMap (wo (NI rl) pl)
def je (rl:List RV) (pl:List PV) (bz:Nat→List Gr) (kd:aei) (lv Cw:List Nat):List Nat:=jT rl pl bz kd lv++(if (lv.any fun m=>decide (0<(lF pl m).length))=true then OG rl pl Cw else [])
theorem oQ.gs {rl:List RV} {pl:List PV} {kd:aei} {n:Nat} {lv:List Nat} (h:oQ rl pl kd n lv):∀m∈lv,∃p,pl[m]? =some p∧p.gs.length≤1000:=fun m hm=>by
 obtain ⟨p,h1,h2,_⟩:=h.2.2 m hm;exact ⟨p,h1,h2⟩
theorem Kg (b:Nat) (kv rv pv:Value) (kl:List (aei×Nat)) (rl:List RV) (pl:List PV) (l:List PX) (bz:Nat→List Gr) (kd:aei) (n ex:Nat) (lv Cw:List Nat) (w:World) (h:DM w b kv rv pv kl rl pl l) (hG:vD rl pl bz) (hP:oQ rl pl kd n lv) (hE:oQ rl pl kd ex Cw) (h1:(jT rl pl bz kd lv).length≤1000000000) (h2:(OG rl pl Cw).length≤1000000000):
  Calls Tryz.prog 231 #[.pointer (some ⟨b,5,none⟩),.string kd,.int .i64 n,.int .i64 ex] w fun e w'=>∃sv,e=.returned sv∧Below w.heap.size w w'∧w'.ownsRow w.heap.size 3 1 sv (je rl pl bz kd lv Cw).length ((je rl pl bz kd lv Cw).map fun n:Nat=> .int .i64 n):=by
 obtain ⟨iI,hi1,hy0,hy1,hy2⟩:=info_parts Tryz.infoInt;have II:=af hi1;have xe:=af hy0;have xg:=af hy1;have xh:=af hy2;clear hi1 hy0 hy1 hy2;have HD:=af h;have HP:=af hP;have HE:=af hE;have C:=af (zG b kv rv pv kl rl pl l bz kd n lv _ w h hG hP.1 hP.2.1 hP.2.2 rfl h1);generalize hN:je rl pl bz kd lv Cw=NN;have HN:=af hN;clear hN;change Hid (Calls _ _ _ _ fun e w'=>∃sv,e=.returned sv∧Below w.heap.size w w'∧w'.ownsRow w.heap.size 3 1 sv (jT rl pl bz kd lv).length ((jT rl pl bz kd lv).map fun n:Nat=> .int .i64 n)) at C;generalize hT:jT rl pl bz kd lv=T at*;have HT:=af hT;clear hT;clear h hG hP hE;go_enter Tryz.func231,Tryz.ntmps231;go_wp2_with fail;refine (ae C).mono ?_;rintro e w1 ⟨sv,rfl,hb1,hs1⟩;obtain ⟨la,lc,rfl⟩:=au hs1;have B1:=af hb1;have Ap:=hb1.size;have AU:=af hs1;clear hb1 hs1 C;have C:=af (Ke b kv rv pv kl rl pl l n lv w1 ((ae HD).below (ae B1)) (ae HP).1 (ae HP).2.1 (ae HP).gs);go_wp2_with fail;refine (ae C).mono ?_;rintro e w2 ⟨rfl,hb2⟩;have B2:=af ((ae B1).trans (hb2.mono Ap));have nQ:=(ae B2).size;have S2:=af (ay (ae AU) hb2);clear hb2 C B1 AU
 cases hl:(lv.any fun m=>decide (0<(lF pl m).length))
 ·have HNN:=af (show T=NN from by rw [←ae HN,je,ae HT,hl];simp);clear hl;go_wp2;go_ret;rw [←ae HNN];exact ⟨_,rfl,ae B2,ae S2⟩
 ·have C:=af (Ed b kv rv pv kl rl pl l ex Cw _ w2 ((ae HD).below (ae B2)) (ae HE).1 (ae HE).2.1 (ae HE).gs rfl h2);change Hid (Calls _ _ _ _ fun e w'=>∃sv,e=.returned sv∧Below w2.heap.size w2 w'∧w'.ownsRow w2.heap.size 3 1 sv (OG rl pl Cw).length ((OG rl pl Cw).map fun n:Nat=> .int .i64 n)) at C;generalize hU:OG rl pl Cw=U at*;have HU:=af hU;clear hU;go_wp2_with fail;refine (ae C).mono ?_;rintro e w3 ⟨sv,rfl,hb3,hs3⟩;obtain ⟨ta,tc,rfl⟩:=au hs3;have B3:=af ((ae B2).trans (hb3.mono nQ));have xH:=(ae B3).size;have S3:=af (ay (ae S2) hb3);have U3:=af hs3;clear hb3 hs3 C B2 S2;go_wp2_with (at_builtin;go_must (refine jr rfl _ _ 29 rfl w.heap.size 3 iI _ 1 8 Tryz.underlying29 (ae II) (ae xe) (ae xg) (ae xh) rfl (by decide) (.slice la T.length lc) T.length (T.map fun n:Nat=> .int .i64 n) rfl (ae S3) (.slice ta U.length tc) U.length (U.map fun n:Nat=> .int .i64 n) rfl _ (ae U3) ?hone ?h63 ?hbytes xH ?hrest))
  case hone=>
   intro u hu;obtain ⟨n,_,rfl⟩:=List.mem_map.1 hu
   rfl
  case h63=>unfold maxLen;omega
  case hbytes=>omega
  intro av cv w9 Gy wu YI;have B9:=af (fE (ae B3) (ae S3) wu);have O9:=af Gy;clear Gy wu YI B3 S3 U3;go_wp2;go_ret;have hNN:T++U=NN:=by rw [←ae HN,je,ae HT,hl,ae HU];simp
  rw [←hNN];exact ⟨_,rfl,ae B9,by simpa using ae O9⟩
def kY (o:List Nat) (x:Nat):List Nat:=if (o.any fun k=>k==x) then o else o++[x]
def oo (o l:List Nat):List Nat:=l.foldl kY o
def zH (H:Nat→List Nat):Nat→List Nat→Nat→List Nat
 |0,o,_=>o
 |f+1,o,i=>match o[i]? with
  |none=>o
  |some r=>zH H f (oo o (H r)) (i+1)
def jw (s:List Nat) (m:Nat) (o:List Nat):Prop:=∃ex,o=s++ex∧ex.Nodup∧∀x∈ex,x<m
theorem Gz:∀(m:Nat) (l:List Nat),l.Nodup→(∀x∈l,x<m)→l.length≤m
 |0,l,_,h=>by
  cases l with
  |nil=>simp
  |cons a l=>have:=h a (by simp);omega
 |m+1,l,hn,h=>by
  have h1:(l.erase m).Nodup:=hn.erase m;have h2:∀x∈l.erase m,x<m:=fun x hx=>by
   have:=(List.Nodup.mem_erase_iff hn).1 hx;have:=h x this.2;omega
  have h3:=Gz m _ h1 h2;have h4:=List.length_erase (a:=m) (l:=l)
  split at h4<;>omega
theorem jw.le {s o:List Nat} {m:Nat} (h:jw s m o):o.length≤s.length+m:=by
 obtain ⟨ex,rfl,h1,h2⟩:=h;have:=Gz m ex h1 h2;simp;omega
theorem jw.add {s o:List Nat} {m:Nat} (h:jw s m o) {x:Nat} (hx:x<m):jw s m (kY o x):=by
 obtain ⟨ex,rfl,h1,h2⟩:=h;unfold kY
 cases ha:(s++ex).any (fun k=>k==x)
 ·refine ⟨ex++[x],by simp,?_,?_⟩
  ·rw [List.nodup_append];refine ⟨h1,by simp,?_⟩;intro a ha' c hc hac;simp at hc;subst hc;subst hac;rw [List.any_eq_false] at ha;exact ha a (by simp [ha']) (by simp)
  ·intro y hy;rw [List.mem_append,List.mem_singleton] at hy
   rcases hy with hy|rfl
   ·exact h2 y hy
   ·exact hx
 ·exact ⟨ex,rfl,h1,h2⟩
theorem GA:∀(o l:List Nat),o.length≤(oo o l).length
 |o,[]=>Nat.le_refl _
 |o,y::l=>by
  have h1:=GA (kY o y) l;have h2:o.length≤(kY o y).length:=by unfold kY;split<;>simp
  exact Nat.le_trans h2 h1
theorem Kh (o l:List Nat) (j:Nat) (hj:j<l.length):oo o (l.take (j+1))=kY (oo o (l.take j)) l[j]:=by
 unfold oo;rw [List.take_succ_eq_append_getElem hj,List.foldl_append]
 rfl
theorem jw.lt {s o:List Nat} {m:Nat} (h:jw s m o) (hs:∀x∈s,x<m):∀x∈o,x<m:=by
 obtain ⟨ex,rfl,h1,h2⟩:=h;intro x hx
 rcases List.mem_append.1 hx with hx|hx
 ·exact hs x hx
 ·exact h2 x hx
def qG (rl:List RV) (pl:List PV) (bz:Nat→List Gr) (aW:Nat→List Nat) (r:Nat):List Nat:=match rl[r]? with
 |some x=>jT rl pl bz x.kd (aW x.ex)
 |none=>[]
def nL (rl:List RV) (pl:List PV) (bz:Nat→List Gr) (aW:Nat→List Nat):Prop:=∀x∈rl,oQ rl pl x.kd x.ex (aW x.ex)∧(jT rl pl bz x.kd (aW x.ex)).length≤1000000000∧∀r∈jT rl pl bz x.kd (aW x.ex),r<rl.length
def Ee (rl:List RV) (pl:List PV) (bz:Nat→List Gr) (aW:Nat→List Nat) (S:List Nat):List Nat:=zH (qG rl pl bz aW) (S.length+rl.length+1) S 0
theorem AX {w w':World} {base:Nat} {e:TypeId} {size:Nat} {v:Value} {n:Nat} {xs:List Value} (h:w.ownsRow base e size v n xs)
  (k:∀g cs f,v.ownBlock=some g→w.heap[g]? =some (.cells cs e f)→w'.heap[g]? =w.heap[g]?):w'.ownsRow base e size v n xs:=by
 obtain ⟨h1,h2⟩:=h;refine ⟨h1,?_⟩
 rcases h2 with h2|⟨g,cap,cur,hv,hg,hh,r⟩
 ·exact Or.inl h2
 ·exact Or.inr ⟨g,cap,cur,hv,hg,(k g cur (0,0) (by rw [hv];rfl) hh).trans hh,r⟩
theorem NJ {W w6:World} {b1 s1 n1:Nat} {E:TypeId} {v v1:Value} {xs1:List Value} (h1:W.ownsRow b1 E s1 v1 n1 xs1) (hg:W.grownBy w6 v.ownBlock) (hne:∀q,v1.ownBlock=some q→v.ownBlock≠some q):w6.ownsRow b1 E s1 v1 n1 xs1:=
 AX h1 (fun g cs f hg' hh=>hg.block g (lt_of_some hh) (fun e=>hne g hg' e.symm))
theorem QX (b:Nat) (kv rv pv:Value) (kl:List (aei×Nat)) (rl:List RV) (pl:List PV) (l:List PX) (bz:Nat→List Gr) (aW:Nat→List Nat) (kd:aei) (n ex:Nat) (lv Cw:List Nat) (w:World) (h:DM w b kv rv pv kl rl pl l) (hG:vD rl pl bz) (hP:oQ rl pl kd n lv) (hE:oQ rl pl kd ex Cw) (h1:(jT rl pl bz kd lv).length≤1000000000) (h2:(OG rl pl Cw).length≤1000000000)
  (hR:nL rl pl bz aW) (hS:∀r∈je rl pl bz kd lv Cw,r<rl.length) (hSl:(je rl pl bz kd lv Cw).length≤900000000):
  Calls Tryz.prog 193 #[.pointer (some ⟨b,5,none⟩),.string kd,.int .i64 n,.int .i64 ex] w fun e w'=>∃sv,e=.returned sv∧Below w.heap.size w w'∧w'.ownsRow w.heap.size 3 1 sv (Ee rl pl bz aW (je rl pl bz kd lv Cw)).length ((Ee rl pl bz aW (je rl pl bz kd lv Cw)).map fun n:Nat=> .int .i64 n):=by
 obtain ⟨iI,hi1,hy0,hy1,hy2⟩:=info_parts Tryz.infoInt;have II:=af hi1;have xe:=af hy0;have xg:=af hy1;have xh:=af hy2;clear hi1 hy0 hy1 hy2;obtain ⟨ra,rc,rfl⟩:=au h.rt;have HD:=af h;have HG:=af hG;have VO:=af hR;have IM:=h.rn;have C:=af (Kg b kv _ pv kl rl pl l bz kd n ex lv Cw w h hG hP hE h1 h2);generalize je rl pl bz kd lv Cw=S at*;have HSB:=af hS;generalize hA:Ee rl pl bz aW S=R;have HA:=af (show zH (qG rl pl bz aW) (S.length+rl.length+1) S 0=R from hA);clear h hG hP hE h1 h2 hR hS hA;go_enter Tryz.func193,Tryz.ntmps193;go_wp2_with fail;refine (ae C).mono ?_;rintro e w1 ⟨sv,rfl,hb1,hs1⟩;obtain ⟨la,lc,rfl⟩:=au hs1;have B1:=af hb1;have AU:=af hs1;clear hb1 hs1 C;go_wp2_with fail
 go_loopg [9,10] (S.length+rl.length+1) (fun k u9 u10 wr=>∃(i:Nat) (o:List Nat) (oa:Option Addr) (oc:Nat),u10=.int .i64 i∧u9=.slice oa o.length oc∧i≤o.length∧k=S.length+rl.length+1-i∧Below w.heap.size w wr∧wr.ownsRow w.heap.size 3 1 (.slice oa o.length oc) o.length (o.map fun n:Nat=> .int .i64 n)∧Hid (jw S rl.length o∧zH (qG rl pl bz aW) k o i=R))
 case atStart=>exact ⟨0,S,la,lc,rfl,rfl,by omega,by omega,ae B1,ae AU,af ⟨⟨[],by simp,by simp,by simp⟩,ae HA⟩⟩
 case round=>
  clear B1 AU HA;obtain ⟨i,o,oa,oc,rfl,rfl,hio,rfl,hb,hrow,HQ⟩:=hrel;have hle:=(ae HQ).1.le;have HB:=af hb;have iL:=af hrow;have hwr:=hb.size
  by_cases hlt:i<o.length
  ·have hkn:(i:Int)<(o.length:Int):=by omega
   have hr:=(ae HQ).1.lt (ae HSB) _ (List.getElem_mem hlt);obtain ⟨q,cq,e1,kc⟩:=aK hrow i (.int .i64 (o[i]:Nat)) (by simp [aeh hlt]);simp only [Value.slice.injEq,true_and] at e1;obtain ⟨rfl,rfl⟩:=e1;obtain ⟨rX,lJ⟩:=ae HQ;rw [show S.length+rl.length+1-i=(S.length+rl.length-i)+1 by omega,zH,aeh hlt] at lJ;simp only at lJ;generalize o[i]=r at*;have hd:=(ae HD).below hb;obtain ⟨gr,cr,e1,x0,x1,x2,x3⟩:=hd.rat r rl[r] (aeh hr);simp only [Value.slice.injEq,true_and] at e1;obtain ⟨rfl,rfl⟩:=e1;obtain ⟨hpk,hhl,hhb⟩:=ae VO _ (List.getElem_mem hr);have hhr:qG rl pl bz aW r=jT rl pl bz rl[r].kd (aW rl[r].ex):=by unfold qG;rw [aeh hr]
   rw [hhr] at lJ;have hr':(r:Int)<(rl.length:Int):=by omega
   have c6:=hd.c6;generalize rl[r]=x at*;have C:=af (zG b kv _ pv kl rl pl l bz x.kd x.ex (aW x.ex) _ wr.drew (hd.below (Below.refl _ _).drew) (ae HG) hpk.1 hpk.2.1 hpk.2.2 rfl hhl);change Hid (Calls _ _ _ _ fun e w'=>∃sv,e=.returned sv∧Below wr.drew.heap.size wr.drew w'∧w'.ownsRow wr.drew.heap.size 3 1 sv (jT rl pl bz x.kd (aW x.ex)).length ((jT rl pl bz x.kd (aW x.ex)).map fun n:Nat=> .int .i64 n)) at C;generalize jT rl pl bz x.kd (aW x.ex)=hl at*;have HHB:=af hhb;have HQ1:=af rX;have qN:=af lJ;clear hb hrow hd hpk hhr hhb rX lJ HQ;go_wp2_with fail
   go_region_held3 (fun w'=>w'.cell? ⟨b,6,none⟩=some (.slice (some ⟨gr,0,none⟩) rl.length rc)∧w'.cell? ⟨q,i,none⟩=some (.int .i64 r)∧w'.cell? ⟨gr,r*4,none⟩=some (.string x.kd)∧w'.cell? ⟨gr,r*4+3,none⟩=some (.int .i64 x.ex)) (go_keep)
    ((go_at_call 232;refine (ae C).mono ?_;rintro e w5 ⟨sv,rfl,bV,hs5⟩;have BB:=af (show Below wr.heap.size wr w5 from (Below.refl _ wr).drew.trans bV);have d0:=ag c6 (ae BB);have d1:=ag kc (ae BB);have d2:=ag x0 (ae BB);have d3:=ag x3 (ae BB);have xw:=af hs5;obtain ⟨ha,Lj,rfl⟩:=au (ae xw);clear bV hs5))
   clear c6 kc x0 x1 x2 x3 d0 d1 d2 d3 C;have B5:=af ((ae HB).trans ((ae BB).mono hwr));have R5:=af (ay (ae iL) (ae BB));have L5:=af (show w5.ownsRow wr.heap.size 3 1 (.slice ha hl.length Lj) hl.length (hl.map fun n:Nat=> .int .i64 n) from ae xw);have HNB:=af (show ∀q',(Value.slice ha hl.length Lj).ownBlock=some q'→(Value.slice (some ⟨q,0,none⟩) o.length oc).ownBlock≠some q'∧q'<w5.heap.size from fun q' hq'=>by
    have e1:=(ae L5).lt q' hq';refine ⟨fun e2=> ?_,e1.2⟩;have e3:=((ae iL).lt q' e2).2;omega)
   have hw5:=(ae BB).size;clear HB iL BB xw;go_wp2_with fail
   go_loopw [9,12] (fun u9 u12 wi=>∃(j:Nat) (o2:List Nat) (oa:Option Addr) (oc:Nat),u12=.int .i64 j∧u9=.slice oa o2.length oc∧j≤hl.length∧Below w.heap.size w wi∧w5.heap.size≤wi.heap.size∧wi.ownsRow w.heap.size 3 1 (.slice oa o2.length oc) o2.length (o2.map fun n:Nat=> .int .i64 n)∧wi.ownsRow wr.heap.size 3 1 (.slice ha hl.length Lj) hl.length (hl.map fun n:Nat=> .int .i64 n)∧
    Hid (oo o (hl.take j)=o2∧jw S rl.length o2∧∀q',(Value.slice ha hl.length Lj).ownBlock=some q'→(Value.slice oa o2.length oc).ownBlock≠some q'∧q'<w5.heap.size)) (fun _ u12 _=>hl.length-(intOf u12).toNat)
   case atStart=>exact ⟨0,o,_,oc,rfl,rfl,by omega,ae B5,Nat.le_refl _,ae R5,ae L5,af ⟨rfl,ae HQ1,ae HNB⟩⟩
   case round=>
    clear B5 R5 L5 HNB;obtain ⟨j,o2,oa,oc,rfl,rfl,hj,hb,hsz,hrow,hlr,HI⟩:=hrel;have NG:=(ae HI).2.1.le;have HB:=af hb;have iL:=af hrow;have HLR:=af hlr;have IQ:=hb.size
    by_cases EA:j<hl.length
    ·have hjn:(j:Int)<(hl.length:Int):=by omega
     obtain ⟨q2,cq2,e1,kc⟩:=aK hlr j (.int .i64 (hl[j]:Nat)) (by simp [aeh EA]);simp only [Value.slice.injEq,true_and] at e1;obtain ⟨rfl,rfl⟩:=e1;have HST:=af (Kh o hl j EA);have hyb:=ae HHB _ (List.getElem_mem EA);have HJ:=af (aeh EA);generalize hl[j]=y at*;rw [(ae HI).1] at HST;have C:=af (Gn w.heap.size _ o2 y wr hrow (by omega));clear hb hrow hlr;go_wp2_with fail;refine (ae C).mono ?_;rintro e w7 ⟨rfl,qg⟩;have B7:=af ((ae HB).trans (qg.mono IQ));have R7:=af (ay (ae iL) qg);have L7:=af (ay (ae HLR) qg);have sz7:=qg.size;have sz7b:=(ae B7).size;have kc7:=ag kc qg;clear qg C HB iL HLR kc;have Ef:=ae HST;unfold kY at Ef
     cases ha2:(o2.any fun k=>k==y)
     ·rw [ha2] at Ef;simp only [Bool.false_eq_true,if_false] at Ef;have hadd:kY o2 y=o2++[y]:=by unfold kY;rw [ha2];simp
      have HG2:=(ae HI).2.1.add hyb;rw [hadd] at HG2;have uC:=af HG2;have YJ:=af Ef;clear ha2 Ef HST hadd HG2;go_wp2_with (at_builtin;go_must (refine wpList_append_lies _ rfl _ _ 29 rfl w.heap.size 3 iI _ 1 8 Tryz.underlying29 (ae II) (ae xe) (ae xg) (ae xh) rfl (by decide) (.slice oa o2.length oc) o2.length (o2.map fun n:Nat=> .int .i64 n) rfl ((ae R7).alloc _) ⟨w7.heap.size,0,none⟩ 1 1 [.int .i64 y] rfl rfl ?hnews ?hone (by decide) ?h63 ?hbytes ?hbase (w7.heap.size+1) ?hH ?hrest))
      case hnews=>exact World.news_of_block (B:=w7.heap.size) (cs:=#[.int .i64 y]) (t:=3) (fr:=(0,0)) (ai.new' _ _ _ _ rfl)
      case hone=>
       intro u hu;simp only [List.mem_cons,List.not_mem_nil,or_false] at hu
       rcases hu with rfl
       rfl
      case h63=>unfold maxLen;omega
      case hbytes=>omega
      case hbase=>simp;omega
      case hH=>simp
      intro g8 MV w8 Wi Eg abg hgl8;have B8:=af (fE ((ae B7).alloc sz7b _) ((ae R7).alloc _) Eg);have L8:=af (NJ ((ae L7).alloc _) Eg (fun q' hq'=>((ae HI).2.2 q' hq').1));have O8:=af Wi;have sz8:w7.heap.size≤w8.heap.size:=by have:=Eg.size;simp at this;omega
      have HNB8:=af (show ∀q',(Value.slice (some ⟨q2,0,none⟩) hl.length Lj).ownBlock=some q'→(Value.slice (some ⟨g8,0,none⟩) (o2++[y]).length MV).ownBlock≠some q'∧q'<w5.heap.size from fun q' hq'=>by
       obtain ⟨e1,e2⟩:=(ae HI).2.2 q' hq';refine ⟨fun e3=> ?_,e2⟩;simp only [Value.ownBlock,Option.some.injEq] at e3
       rcases abg with e4|e4
       ·exact e1 (by rw [e4,e3])
       ·omega)
      clear Wi Eg abg hgl8 B7 R7 L7 kc7;go_wp2;go_roundw
      case rel=>exact ⟨j+1,o2++[y],some ⟨g8,0,none⟩,MV,by go_num,by simp,by omega,ae B8,by omega,by simpa using ae O8,ae L8,af ⟨ae YJ,ae uC,ae HNB8⟩⟩
      case measure=>simp [intOf];omega
     ·rw [ha2] at Ef;simp only [if_true] at Ef;have YJ:=af Ef;clear ha2 Ef HST;go_wp2;go_roundw
      case rel=>exact ⟨j+1,o2,oa,oc,by go_num,rfl,by omega,ae B7,by omega,ae R7,ae L7,af ⟨ae YJ,(ae HI).2.1,(ae HI).2.2⟩⟩
      case measure=>simp [intOf];omega
    ·have hjn:¬((j:Int)<(hl.length:Int)):=by omega
     have hi2:=(ae HI).1;rw [List.take_of_length_le (by omega)] at hi2;have ED:=af hi2;have hlo:=(ae HI).2.1.le;have hlo1:o.length≤o2.length:=by
      have:=GA o hl;rw [hi2] at this;exact this
     clear hb hrow hlr hi2;go_wp2
     go_roundg (S.length+rl.length-i)
     case measure=>omega
     case rel=>exact ⟨i+1,o2,oa,oc,by go_num,rfl,by omega,by omega,ae HB,ae iL,af ⟨(ae HI).2.1,by rw [←ae ED];exact ae qN⟩⟩
  ·have hkn:¬((i:Int)<(o.length:Int)):=by omega
   obtain ⟨rX,lJ⟩:=ae HQ;rw [show S.length+rl.length+1-i=(S.length+rl.length-i)+1 by omega,zH,List.getElem?_eq_none (by omega)] at lJ;simp only at lJ;have og:=af lJ;clear hb hrow rX lJ;go_wp2;go_ret;rw [←ae og];exact ⟨_,rfl,ae HB,ae iL⟩
def minus (t:Tk):Bool:=(mk t.text).toList== [45]
def OH (bad:Nat→Bool):List Nat→List Tk→Int→Int
 |m::ms,t::ts,c=>OH bad ms ts (if minus t&&bad m then fF c t.place else c)
 |_,_,c=>c
def sj (bad:Nat→Bool) (pl:List PV):Nat→List Nat→Int→Int
 |0,_,c=>c
 |_+1,[],c=>c
 |f+1,n::q,c=>match pl[n]? with
  |none=>sj bad pl f q c
  |some p=>sj bad pl f (q++p.ps) (OH bad (p.ps.drop 1) (p.sg.drop 1) c)
def zI (rl:List RV) (pl:List PV) (bz:Nat→List Gr) (aW:Nat→List Nat) (i:Nat) (x:RV) (m:Nat):Bool:=(Ee rl pl bz aW (je rl pl bz x.kd (aW m) (aW x.ex))).any fun k=>k==i
structure Ki (rl:List RV) (pl:List PV) (bz:Nat→List Gr) (aW:Nat→List Nat) (x:RV) (Q:Nat→Prop) (sz:Nat→Nat):Prop where
 root:Q x.ex
 szr:sz x.ex≤1000
 step:∀n,Q n→∃p,pl[n]? =some p∧p.sg.length≤p.ps.length∧(p.ps.map sz).sum<sz n∧∀m∈p.ps,Q m∧oQ rl pl x.kd m (aW m)∧(jT rl pl bz x.kd (aW m)).length≤1000000000∧(∀r∈je rl pl bz x.kd (aW m) (aW x.ex),r<rl.length)∧(je rl pl bz x.kd (aW m) (aW x.ex)).length≤900000000
 ex:oQ rl pl x.kd x.ex (aW x.ex)∧(OG rl pl (aW x.ex)).length≤1000000000
theorem Kj (sz:Nat→Nat):∀(l:List Nat),(∀m∈l,0<sz m)→l.length≤(l.map sz).sum
 | [],_=>by simp
 |a::l,h=>by
  have h1:=h a (by simp);have h2:=Kj sz l (fun m hm=>h m (by simp [hm]));simp only [List.length_cons,List.map_cons,List.sum_cons];omega
def loopsR (rl:List RV) (pl:List PV) (bz:Nat→List Gr) (aW:Nat→List Nat) (jU:RV→Nat→Nat):List RV→Nat→Int→Int
 | [],_,c=>c
 |x::xs,i,c=>loopsR rl pl bz aW jU xs (i+1) (sj (zI rl pl bz aW i x) pl (jU x x.ex+1) [x.ex] c)
theorem qH {s:List Nat} {m:Nat}:∀(l o:List Nat),jw s m o→(∀x∈l,x<m)→jw s m (oo o l)
 | [],o,h,_=>h
 |y::l,o,h,hl=>qH l (kY o y) (h.add (hl y (by simp))) (fun x hx=>hl x (by simp [hx]))
theorem zJ {s:List Nat} {m:Nat} (H:Nat→List Nat) (hH:∀r,∀x∈H r,x<m):∀(f:Nat) (o:List Nat) (i:Nat),jw s m o→jw s m (zH H f o i)
 |0,o,i,h=>h
 |f+1,o,i,h=>by
  rw [zH]
  split
  ·exact h
  ·exact zJ H hH f _ _ (qH _ _ h (hH _))
theorem QY (rl:List RV) (pl:List PV) (bz:Nat→List Gr) (aW:Nat→List Nat) (h:nL rl pl bz aW) (S:List Nat):(Ee rl pl bz aW S).length≤S.length+rl.length:=by
 refine jw.le (zJ _ (fun r x hx=> ?_) _ _ _ ⟨[],by simp,by simp,by simp⟩);unfold qG at hx
 cases hr:rl[r]? with
 |none=>rw [hr] at hx;simp at hx
 |some y=>
  rw [hr] at hx;exact (h y (List.mem_of_getElem? hr)).2.2 x hx
theorem Kk (b:Nat) (kv rv pv:Value) (kl:List (aei×Nat)) (rl:List RV) (pl:List PV) (l:List PX) (bz:Nat→List Gr) (aW:Nat→List Nat) (YK:RV→Nat→Prop) (jU:RV→Nat→Nat) (w:World) (h:DM w b kv rv pv kl rl pl l) (hG:vD rl pl bz) (hR:nL rl pl bz aW) (hT:∀x∈rl,Ki rl pl bz aW x (YK x) (jU x)):
  Calls Tryz.prog 130 #[.pointer (some ⟨b,5,none⟩)] w fun e w'=>e=.returned (.int .i64 (loopsR rl pl bz aW jU rl 0 (-1)))∧Below w.heap.size w w':=by
 obtain ⟨iI,hi1,hy0,hy1,hy2⟩:=info_parts Tryz.infoInt;have II:=af hi1;have xe:=af hy0;have xg:=af hy1;have xh:=af hy2;clear hi1 hy0 hy1 hy2;obtain ⟨ra,rc,rfl⟩:=au h.rt;have HD:=af h;have HG:=af hG;have VO:=af hR;have HTO:=af hT;have IM:=h.rn;have V9:=h.pn;generalize hA:loopsR rl pl bz aW jU rl 0 (-1)=R;have HA:=af (show loopsR rl pl bz aW jU (rl.drop 0) 0 (-1)=R from hA);clear h hG hR hT hA;go_enter Tryz.func130,Tryz.ntmps130;go_wp2_with fail
 go_loopw [3,4] (fun u3 u4 wr=>∃(i:Nat) (c:Int),i≤rl.length∧u4=.int .i64 i∧u3=.int .i64 c∧Below w.heap.size w wr∧Hid (loopsR rl pl bz aW jU (rl.drop i) i c=R)) (fun _ u4 _=>rl.length-(intOf u4).toNat)
 case atStart=>exact ⟨0,-1,by omega,rfl,rfl,Below.refl _ _,HA⟩
 case round=>
  clear HA;obtain ⟨i,c,hi,rfl,rfl,hb,HQ⟩:=hrel;have c6:=((ae HD).below hb).c6;have HB:=af hb;have hwr:=hb.size
  by_cases hlt:i<rl.length
  ·have hkn:(i:Int)<(rl.length:Int):=by omega
   obtain ⟨gr,cr,e1,X0,X1,X2,X3⟩:=(ae HD).rat i rl[i] (aeh hlt);simp only [Value.slice.injEq,true_and] at e1;obtain ⟨rfl,rfl⟩:=e1;have hq:=ae HQ;rw [List.drop_eq_getElem_cons hlt,loopsR] at hq;have ZA:=ae HTO _ (List.getElem_mem hlt);generalize rl[i]=x at*;have x3:=ag X3 hb;have Ji:=af X0;have HX3:=af X3;have Le:=af ZA;have hroot:=ZA.szr;generalize hbm:sj (zI rl pl bz aW i x) pl (jU x x.ex+1) [x.ex] c=Rm at hq;have HBM:=af hbm;have qN:=af hq;have bx:Below wr.heap.size wr (wr.alloc (.cells #[.int .i64 x.ex] 3)):=(Below.refl _ _).alloc aeg _;have B1:=af ((ae HB).trans (bx.mono hwr));have R1:=af (show (wr.alloc (.cells #[.int .i64 x.ex] 3)).ownsRow w.heap.size 3 1 (.slice (some ⟨wr.heap.size,0,none⟩) 1 1) 1 ([x.ex].map fun n:Nat=> .int .i64 n) from ⟨rfl,.inr ⟨wr.heap.size,1,#[.int .i64 x.ex],rfl,hwr,ai.new wr _ _,by omega,by unfold maxLen;omega,rfl,rfl⟩⟩);clear hb HQ hq ZA X0 X1 X2 X3 hbm bx;go_wp2_with fail
   go_loopg [3,5,6] (jU x x.ex+1) (fun gk u3 u5 u6 wi=>∃(k:Nat) (inn:List Nat) (ia:Option Addr) (ic:Nat) (c:Int),u6=.int .i64 k∧u5=.slice ia inn.length ic∧u3=.int .i64 c∧k≤inn.length∧gk=jU x x.ex+1-k∧Below w.heap.size w wi∧wi.ownsRow w.heap.size 3 1 (.slice ia inn.length ic) inn.length (inn.map fun n:Nat=> .int .i64 n)∧Hid (k+((inn.drop k).map (jU x)).sum≤jU x x.ex∧(∀m∈inn.drop k,YK x m)∧sj (zI rl pl bz aW i x) pl gk (inn.drop k) c=Rm))
   case atStart=>exact ⟨0,[x.ex],_,1,c,rfl,rfl,rfl,by omega,by omega,ae B1,ae R1,af ⟨by simp,fun m hm=>by simp at hm;subst hm;exact (ae Le).root,ae HBM⟩⟩
   case round=>
    clear B1 R1 HBM x3 c6;obtain ⟨k,inn,ia,ic,c,rfl,rfl,rfl,hkl,rfl,hb,hrow,HI⟩:=hrel;have HB:=af hb;have iL:=af hrow;have IQ:=hb.size;have hpos:∀m∈inn.drop k,0<jU x m:=fun m hm=>by
     obtain ⟨p,_,_,h3,_⟩:=(ae Le).step m ((ae HI).2.1 m hm);omega
    have hlen:=Kj (jU x) (inn.drop k) hpos;have hsum:=(ae HI).1;rw [List.length_drop] at hlen
    by_cases vB:k<inn.length
    ·have zw:(k:Int)<(inn.length:Int):=by omega
     obtain ⟨q,cq,e1,kc⟩:=aK hrow k (.int .i64 (inn[k]:Nat)) (by simp [aeh vB]);simp only [Value.slice.injEq,true_and] at e1;obtain ⟨rfl,rfl⟩:=e1;obtain ⟨hI1,ZB,Wj⟩:=ae HI;rw [List.drop_eq_getElem_cons vB] at hI1 ZB Wj;obtain ⟨p,hp,hps,hsz,hch⟩:=(ae Le).step inn[k] (ZB inn[k] List.mem_cons_self);rw [show jU x x.ex+1-k=(jU x x.ex-k)+1 by omega,sj,hp] at Wj;simp only [List.map_cons,List.sum_cons] at hI1;generalize inn[k]=m at*;obtain ⟨gp,cp,ga,gc,pa,pc,sa,sc,hpv,hr,q0,q1,q2,q3,q4,q5,q6,q7⟩:=(ae HD).pat m p hp;have hm:=(List.getElem?_eq_some_iff.1 hp).1;have hm':(m:Int)<(pl.length:Int):=by omega
     have c7:=((ae HD).below hb).c7;rw [hpv] at c7;have HPS:=af hr.p;have HSG:=af hr.s;have HCH:=af hch;have WJ:=af Wj;have hpl:p.ps.length≤1000:=by
      have hp':∀m∈p.ps,0<jU x m:=fun m hm=>by
       obtain ⟨p,_,_,h3,_⟩:=(ae Le).step m (hch m hm).1;omega
      have:=Kj (jU x) p.ps hp';omega
     have hQ3:(k+1)+(((inn++p.ps).drop (k+1)).map (jU x)).sum≤jU x x.ex:=by
      rw [List.drop_append_of_le_length (by omega),List.map_append,List.sum_append];omega
     have hQ4:∀m∈(inn++p.ps).drop (k+1),YK x m:=fun m hm=>by
      rw [List.drop_append_of_le_length (by omega)] at hm
      rcases List.mem_append.1 hm with hm|hm
      ·exact ZB m (List.mem_cons_of_mem _ hm)
      ·exact (hch m hm).1
     have abj:=af (And.intro hQ3 hQ4);have z0:=ag q0 hb;have z1:=ag q1 hb;have z2:=ag q2 hb;have z3:=ag q3 hb;have z4:=ag q4 hb;have z5:=ag q5 hb;have z6:=ag q6 hb;have z7:=ag q7 hb;have m7:=World.new_ne wr _ c7;have mk:=World.new_ne wr _ kc;have mq:=World.new_ne wr _ z0;clear hb hrow hr hp hpv hch hI1 ZB Wj HI hQ3 hQ4 q0 q1 q2 q3 q4 q5 q6 q7 hpos;go_wp2_with fail
     go_region_held3 (fun w'=>w'.cell? ⟨b,7,none⟩=some (.slice (some ⟨gp,0,none⟩) pl.length cp)∧w'.cell? ⟨q,k,none⟩=some (.int .i64 m)∧w'.cell? ⟨gp,m*8,none⟩=some (.int .i64 p.kind)∧w'.cell? ⟨gp,m*8+1,none⟩=some (.slice ga p.gs.length gc)∧w'.cell? ⟨gp,m*8+2,none⟩=some (.string p.nb)∧w'.cell? ⟨gp,m*8+3,none⟩=some (.string p.nr)∧w'.cell? ⟨gp,m*8+4,none⟩=some (.int .i64 p.pa)∧w'.cell? ⟨gp,m*8+5,none⟩=some (.int .i64 p.pr)∧w'.cell? ⟨gp,m*8+6,none⟩=some (.slice pa p.ps.length pc)∧w'.cell? ⟨gp,m*8+7,none⟩=some (.slice sa p.sg.length sc)) (go_keep) (fail)
     rename_i hh;clear hh z0 z1 z2 z3 z4 z5 z6 z7 c7 kc m7 mk mq;have b2:Below wr.heap.size wr ((wr.alloc (.cells #[.int .i64 p.kind,.slice ga p.gs.length gc,.string p.nb,.string p.nr,.int .i64 p.pa,.int .i64 p.pr,.slice pa p.ps.length pc,.slice sa p.sg.length sc] 255)).drew):=((Below.refl _ wr).alloc aeg _).drew;have NE:=af (ai.new wr #[.int .i64 p.kind,.slice ga p.gs.length gc,.string p.nb,.string p.nr,.int .i64 p.pa,.int .i64 p.pr,.slice pa p.ps.length pc,.slice sa p.sg.length sc] 255).drew;have B2:=af ((ae HB).trans (b2.mono IQ));have R2:=af (ay (ae iL) b2);have nQ:=(ae B2).size;obtain ⟨p0,p1,p2,p3,p4,p5,p6,p7⟩:=(ae NE).eight;have pl2:=(ae NE).lt;have S2:=af (ay (ae HPS) (ae B2));clear b2 HB iL;generalize (wr.alloc (.cells #[.int .i64 p.kind,.slice ga p.gs.length gc,.string p.nb,.string p.nr,.int .i64 p.pa,.int .i64 p.pr,.slice pa p.ps.length pc,.slice sa p.sg.length sc] 255)).drew=W2 at*;generalize wr.heap.size=pb at*;go_wp2_with (at_builtin;go_must (refine jr rfl _ _ 29 rfl w.heap.size 3 iI _ 1 8 Tryz.underlying29 (ae II) (ae xe) (ae xg) (ae xh) rfl (by decide) (.slice (some ⟨q,0,none⟩) inn.length ic) inn.length (inn.map fun n:Nat=> .int .i64 n) rfl (ae R2) (.slice pa p.ps.length pc) p.ps.length (p.ps.map fun n:Nat=> .int .i64 n) rfl _ (ae S2) ?nS ?oC ?dX nQ ?kw))
     case nS=>
      intro u hu;obtain ⟨n,_,rfl⟩:=List.mem_map.1 hu
      rfl
     case oC=>unfold maxLen;omega
     case dX=>omega
     intro av cv w3 jC dz Jd;have B3:=af (fE (ae B2) (ae R2) dz);have PB3:=af (rA (ae NE) (ae R2) dz (by decide));have O3:=af jC;clear jC dz Jd B2 R2 NE S2 p0 p1 p2 p3 p4 p5 p6 p7 pl2;go_wp2_with fail;have xH:=(ae B3).size;have hsg:p.sg.length≤1000:=by omega
     go_loopw [3,8] (fun u3 u8 wi=>∃(j:Nat) (c':Int),1≤j∧j≤p.sg.length+1∧u8=.int .i64 j∧u3=.int .i64 c'∧Below w.heap.size w wi∧Below w3.heap.size w3 wi∧Hid (OH (zI rl pl bz aW i x) (p.ps.drop j) (p.sg.drop j) c'=OH (zI rl pl bz aW i x) (p.ps.drop 1) (p.sg.drop 1) c)) (fun _ u8 _=>p.sg.length+1-(intOf u8).toNat)
     case atStart=>exact ⟨1,c,by omega,by omega,rfl,rfl,ae B3,Below.refl _ _,af rfl⟩
     case round=>
      obtain ⟨j,c',Oz,OE,rfl,rfl,hb,hc3,Wl⟩:=hrel;have HB:=af hb;have HC3:=af hc3;have hwj:=hb.size;have hwc:=hc3.size;have hpb:=(ae PB3).below hc3;obtain ⟨p0,p1,p2,p3,p4,p5,p6,p7⟩:=hpb.eight;have plj:=hpb.lt
      by_cases EA:j<p.sg.length
      ·have hjn:(j:Int)<(p.sg.length:Int):=by omega
       have hjp:j<p.ps.length:=by omega
       have hjpn:(j:Int)<(p.ps.length:Int):=by omega
       obtain ⟨qp,cqp,e1,kp⟩:=aK (ay (ae HPS) hb) j (.int .i64 (p.ps[j]:Nat)) (by simp [aeh hjp]);simp only [Value.slice.injEq,true_and] at e1;obtain ⟨rfl,rfl⟩:=e1;obtain ⟨qs,cqs,e1,hcs⟩:=bP gG 3 (fun _=>rfl) (ay (ae HSG) hb) j p.sg[j] (aeh EA);simp only [Value.slice.injEq,true_and] at e1;obtain ⟨rfl,rfl⟩:=e1;have uo:=ae Wl;rw [List.drop_eq_getElem_cons hjp,List.drop_eq_getElem_cons EA,OH] at uo;obtain ⟨_,hpo,IR,Aq,OZ⟩:=ae HCH _ (List.getElem_mem hjp);generalize p.ps[j]=mm at*;generalize p.sg[j]=t at*;have s0:wr.cell? ⟨qs,j*3,none⟩=some (.string (mk t.text)):=hcs 0 _ (by omega) rfl;have s1:wr.cell? ⟨qs,j*3+1,none⟩=some (.int .i64 t.place):=hcs 1 _ (by omega) rfl;have c6:=((ae HD).below hb).c6;have x0:=ag (ae Ji) hb;have x3:=ag (ae HX3) hb;have hal:=QY rl pl bz aW (ae VO) (je rl pl bz x.kd (aW mm) (aW x.ex));have CA:=af (QX b kv _ pv kl rl pl l bz aW x.kd mm x.ex (aW mm) (aW x.ex) wr.drew ((ae HD).below (hb.drew)) (ae HG) hpo (ae Le).ex.1 IR (ae Le).ex.2 (ae VO) Aq OZ);have hbd:zI rl pl bz aW i x mm=(Ee rl pl bz aW (je rl pl bz x.kd (aW mm) (aW x.ex))).any fun k=>k==i:=rfl
       rw [hbd] at uo;generalize hND:je rl pl bz x.kd (aW mm) (aW x.ex)=ND at*;generalize Ee rl pl bz aW ND=AL at*;have hal2:AL.length≤1000000000:=by omega
       clear hb hc3 hpo IR Aq hcs hbd hal hND hpb;go_wp2_with fail
       go_region_held3 (fun w'=>w'.cell? ⟨b,6,none⟩=some (.slice (some ⟨gr,0,none⟩) rl.length rc)∧w'.cell? ⟨gr,i*4,none⟩=some (.string x.kd)∧w'.cell? ⟨gr,i*4+3,none⟩=some (.int .i64 x.ex)∧w'.cell? ⟨pb,6,none⟩=some (.slice (some ⟨qp,0,none⟩) p.ps.length pc)∧w'.cell? ⟨qp,j,none⟩=some (.int .i64 mm)) (go_keep)
        ((go_at_call 193;refine (ae CA).mono ?_;rintro e w5 ⟨sv,rfl,bV,hs5⟩;have BB:=af (show Below wr.heap.size wr w5 from (Below.refl _ wr).drew.trans bV);have d0:=ag c6 (ae BB);have d1:=ag x0 (ae BB);have d2:=ag x3 (ae BB);have d3:=ag p6 (ae BB);have d4:=ag kp (ae BB);have xw:=af hs5;obtain ⟨ha,Lj,rfl⟩:=au (ae xw);clear bV hs5))
       have B5:=af ((ae HB).trans ((ae BB).mono hwj));have C5:=af ((ae HC3).trans ((ae BB).mono hwc));have CI:=af (Gn _ _ AL i w5 (ae xw) hal2);have t0:=ag s0 (ae BB);have t1:=ag s1 (ae BB);have v7:=ag p7 (ae BB);have szb:=(ae BB).size;clear c6 x0 x3 p0 p1 p2 p3 p4 p5 p6 p7 kp s0 s1 d0 d1 d2 d3 d4 CA HB HC3 BB xw;go_wp2_with fail;refine (ae CI).mono ?_;rintro e w7 ⟨rfl,qg⟩;have B7:=af ((ae B5).trans (qg.mono (ae B5).size));have C7:=af ((ae C5).trans (qg.mono (ae C5).size));have f0:=ag t0 qg;have f1:=ag t1 qg;have f7:=ag v7 qg;clear qg CI B5 C5 t0 t1 v7;generalize (AL.any fun k=>k==i)=bd at*
       cases hmi:minus t
       ·rw [hmi,Bool.false_and] at uo;simp only [Bool.false_eq_true,if_false] at uo;unfold minus at hmi;have QZ:=af uo;clear uo Wl;go_wp2;go_roundw
        case rel=>exact ⟨j+1,_,by omega,by omega,by go_num,rfl,ae B7,ae C7,QZ⟩
        case measure=>simp [intOf];omega
       ·rw [hmi,Bool.true_and] at uo;unfold minus at hmi
        cases bd
        ·simp only [Bool.false_eq_true,if_false] at uo;have QZ:=af uo;clear uo Wl;go_wp2;go_roundw
         case rel=>exact ⟨j+1,_,by omega,by omega,by go_num,rfl,ae B7,ae C7,QZ⟩
         case measure=>simp [intOf];omega
        ·simp only [if_true] at uo
         by_cases h0:c'<0
         ·rw [show fF c' t.place=t.place from by simp [fF,h0]] at uo;have QZ:=af uo;clear uo Wl;go_wp2;go_roundw
          case rel=>exact ⟨j+1,_,by omega,by omega,by go_num,rfl,ae B7,ae C7,QZ⟩
          case measure=>simp [intOf];omega
         ·by_cases h1:(t.place:Int)<c'
          ·rw [show fF c' t.place=t.place from by simp [fF,h1]] at uo;have QZ:=af uo;clear uo Wl;go_wp2;go_roundw
           case rel=>exact ⟨j+1,_,by omega,by omega,by go_num,rfl,ae B7,ae C7,QZ⟩
           case measure=>simp [intOf];omega
          ·rw [show fF c' t.place=c' from by simp [fF,h0,h1]] at uo;have QZ:=af uo;clear uo Wl;go_wp2;go_roundw
           case rel=>exact ⟨j+1,_,by omega,by omega,by go_num,rfl,ae B7,ae C7,QZ⟩
           case measure=>simp [intOf];omega
      ·have hjn:¬((j:Int)<(p.sg.length:Int)):=by omega
       have uo:=ae Wl;rw [show OH (zI rl pl bz aW i x) (p.ps.drop j) (p.sg.drop j) c'=c' from by rw [List.drop_of_length_le (show p.sg.length≤j by omega)];cases p.ps.drop j<;>rfl] at uo;have QZ:=af uo;have RR:=af (ay (ae O3) hc3);clear hb hc3 uo Wl hpb;go_wp2
       go_roundg (jU x x.ex-k)
       case measure=>omega
       case rel=>exact ⟨k+1,inn++p.ps,av,cv,c',by go_num,by simp,rfl,by simp;omega,by omega,ae HB,by simpa using ae RR,af ⟨(ae abj).1,(ae abj).2,by rw [List.drop_append_of_le_length (by omega),ae QZ];exact ae WJ⟩⟩
    ·have zw:¬((k:Int)<(inn.length:Int)):=by omega
     obtain ⟨hI1,ZB,Wj⟩:=ae HI;rw [List.drop_of_length_le (by omega),show jU x x.ex+1-k=(jU x x.ex-k)+1 by omega,sj] at Wj;have HC:=af Wj;clear hb hrow hI1 ZB Wj HI hpos;go_wp2;go_roundw
     case rel=>exact ⟨i+1,c,by omega,by go_num,rfl,ae HB,af (by rw [ae HC];exact ae qN)⟩
     case measure=>simp [intOf];omega
  ·have hkn:¬((i:Int)<(rl.length:Int)):=by omega
   have hq:=ae HQ;rw [List.drop_of_length_le (by omega),loopsR] at hq;have og:=af hq;clear hb HQ hq;go_wp2;go_ret;exact ⟨by rw [←ae og];rfl,ae HB⟩
def Q0 (kl:List (aei×Nat)) (rl:List RV) (pl:List PV) (ts:List Ty):Prop:=
 ∃(bz:Nat→List Gr) (aW:Nat→List Nat) (YK:RV→Nat→Prop) (jU:RV→Nat→Nat),vD rl pl bz∧YE rl pl aW∧zu kl rl=nI (IP [] ts)∧(IP [] ts=none→nK kl rl pl bz aW=gD (kF ts) ts∧(gD (kF ts) ts=none→nL rl pl bz aW∧(∀x∈rl,Ki rl pl bz aW x (YK x) (jU x))∧loopsR rl pl bz aW jU rl 0 (-1)=nI (gD (mr ts) ts)))
def Q3 (s:aei) (w:World) (e:Ending) (w':World):Prop:=Below w.heap.size w w'∧(match gF (TT s) (PP s) with
 | .error (c,jj)=>c≠0∧e=.returned (.tuple #[.pointer none,.int .i64 c,.int .i64 (PP s jj)])
 | .ok (ts,m)=>match kJ ts with
  |some (p,c)=>e=.returned (.tuple #[.pointer none,.int .i64 c,.int .i64 p])
  |none=>∃b kv rv pv kl rl pl l,e=.returned (.tuple #[.pointer (some ⟨b,5,none⟩),.int .i64 0,.int .i64 0])∧DM w' b kv rv pv kl rl pl l∧D9 pl kl rl ts∧Gd s m∧(∃cs,ai w' b cs 252)∧∀x∈l,lH w.heap.size x)
theorem RM.dm {base:Nat} {w:World} {b:Nat} {s:aei} {tv:Value} {i d e a:Nat} {kv rv pv:Value} {kl:List (aei×Nat)} {rl:List RV} {pl:List PV} {l:List PX} (h:RM base w b s tv i d e a kv rv pv kl rl pl l) (h1:kl.length≤5) (h2:rl.length≤500) (h3:pl.length≤500):DM w b kv rv pv kl rl pl l:=by
 obtain ⟨_,_,_,_,_,c5,c6,c7⟩:=h.rs.blk.eight;exact ⟨c5,c6,c7,fB h.kt,fB h.rt,⟨h.pt.fst,fB h.pt.row,h.pt.rep⟩,h1,h2,h3⟩
theorem Kl (s:aei) (w:World) (hs:500<s.size):Calls Tryz.prog 80 #[.string s] w fun e w'=>e=.returned (.tuple #[.pointer none,.int .i64 1,.int .i64 0])∧Below w.heap.size w w':=by
 have hs':(500:Int)<(s.size:Int):=by omega
 go_enter Tryz.func80,Tryz.ntmps80;go_wp2;go_ret3;exact ⟨rfl,Below.refl _ _⟩
theorem NM (s:aei) (w:World) (hs:s.size≤500) (PR:∀kl rl pl ts m,gF (TT s) (PP s)=.ok (ts,m)→Gd s m→D9 pl kl rl ts→Q0 kl rl pl ts):Calls Tryz.prog 80 #[.string s] w (Q3 s w):=by
 have hs':¬((500:Int)<(s.size:Int)):=by omega
 have Zq:=af PR;have C:=af (EY s w hs);have HSZ:=af hs;clear PR hs;go_enter Tryz.func80,Tryz.ntmps80;go_wp2_with fail;refine (ae C).mono ?_;rintro e w1 ⟨v,rfl,hb1,hs1⟩;obtain ⟨ta,tc,rfl⟩:=au hs1;have b2:=hb1.alloc hb1.size (.cells #[.slice ta (jM s).length tc,.int .i64 0,.int .i64 0,.int .i64 0,.int .i64 0,.slice none 0 0,.slice none 0 0,.slice none 0 0] 252);have hsz1:=hb1.size;have RM1:=af (show RM w.heap.size (w1.alloc (.cells #[.slice ta (jM s).length tc,.int .i64 0,.int .i64 0,.int .i64 0,.int .i64 0,.slice none 0 0,.slice none 0 0,.slice none 0 0] 252)) w1.heap.size s (.slice ta (jM s).length tc) 0 0 0 0 (.slice none 0 0) (.slice none 0 0) (.slice none 0 0) [] [] [] [] from
  ⟨⟨ai.new w1 _ _,fB (hs1.alloc _),fun j hj=>by omega,⟨⟨_,_,_,rfl⟩,⟨_,_,_,rfl⟩,⟨_,_,_,rfl⟩⟩,ae HSZ⟩,⟨rfl,World.ownsRow_nil _ _ _ _,by simp⟩,World.ownsRow_nil _ _ _ _,World.ownsRow_nil _ _ _ _,by simp⟩)
 have B2:=af b2;have C2:=af (J5 w.heap.size w1.heap.size s _ _ _ _ [] _ (ae RM1) hsz1 (by simp;omega));clear hb1 hs1 C b2 RM1;go_wp2_with fail;refine (ae C2).mono ?_;rintro e w3 ⟨rfl,hb3,kv,rv,pv,kl,rl,pl,l,j,e3,a3,Wd,hres⟩;have B3:=af ((ae B2).trans hb3);have xH:=(ae B3).size;obtain ⟨r0,r1,r2,r3,r4,r5,r6,r7⟩:=Wd.rs.blk.eight;have ZC:=af Wd;have hrl:=Wd.rs.lt;generalize hb0:w1.heap.size=b at*;clear hb0 hb3 Wd C2 B2
 cases hm:gF (TT s) (PP s) with
 |error er=>
  obtain ⟨c,jj⟩:=er;rw [hm] at hres;obtain ⟨hc,rfl,rfl⟩:=hres;have hc':¬((e3:Int)=0):=by omega
  have hc2:((e3:Int) != 0)=true:=bne_iff_ne.2 hc';have HM:=af hm;clear hm;go_wp2
  go_quiet (fail)
  go_wp2;go_ret3;exact ⟨below_drewN (ae B3) _,by rw [ae HM];exact ⟨by omega,rfl⟩⟩
 |ok y=>
  obtain ⟨ts,m⟩:=y;rw [hm] at hres;obtain ⟨rfl,rfl,h1,h2,h3,hmb⟩:=hres;obtain ⟨bz,aW,YK,jU,hG,hL,ZE,hrest⟩:=ae Zq kl rl pl ts _ hm (ae ZC).rs.gd hmb;have HDM:=af ((ae ZC).dm h1 h2 h3);have QQ:=af hmb;have HGD:=af (ae ZC).rs.gd;have HBL:=af (ae ZC).rs.blk;have HFH:=af (ae ZC).fh;have HM:=af hm;have HG:=af hG;have HL:=af hL;have HRE:=af hrest;have C:=af (J2 b kv rv pv kl rl pl l w3 (ae HDM));rw [ZE] at C;clear hm hmb hG hL ZE hrest ZC Zq
  cases ht:IP [] ts with
  |some p=>
   rw [ht] at C;have HT:=af ht;unfold nI at C;simp only at C;clear ht;have hp0:(0:Int)≤(p:Int):=by omega
   go_wp2_with fail;refine (ae C).mono ?_;rintro e w4 ⟨rfl,hb4⟩;have B4:=af ((ae B3).trans (hb4.mono xH));clear hb4 C;go_wp2;go_ret3;exact ⟨ae B4,by rw [ae HM];simp only [kJ,ae HT];rfl⟩
  |none=>
   rw [ht] at C;have HT:=af ht;obtain ⟨hnm,DY⟩:=ae HRE ht;have abk:=af DY;have HNM:=af hnm;unfold nI at C;simp only at C;clear ht HRE hnm DY;go_wp2_with fail;refine (ae C).mono ?_;rintro e w4 ⟨rfl,hb4⟩;have B4:=af ((ae B3).trans (hb4.mono xH));have nN:=(ae B4).size;have D4:=af ((ae HDM).below hb4);have K4:=af ((ae HBL).below hb4);clear hb4 C;have C:=af (Ka b kv rv pv kl rl pl l bz aW w4 (ae D4) (ae HG) (ae HL));rw [ae HNM] at C
   cases hn:gD (kF ts) ts with
   |some p=>
    rw [hn] at C;have HN:=af hn;unfold nI at C;simp only at C;clear hn;have hp0:(0:Int)≤(p:Int):=by omega
    go_wp2_with fail;refine (ae C).mono ?_;rintro e w5 ⟨rfl,bV⟩;have B5:=af ((ae B4).trans (bV.mono nN));clear bV C;go_wp2;go_ret3;exact ⟨ae B5,by rw [ae HM];simp only [kJ,ae HT,ae HN];rfl⟩
   |none=>
    rw [hn] at C;have HN:=af hn;obtain ⟨hro,ZA,hlo⟩:=ae abk hn;have VO:=af hro;have HTO:=af ZA;have HLO:=af hlo;unfold nI at C;simp only at C;clear hn abk hro ZA hlo;go_wp2_with fail;refine (ae C).mono ?_;rintro e w5 ⟨rfl,bV⟩;have B5:=af ((ae B4).trans (bV.mono nN));have Ld:=(ae B5).size;have D5:=af ((ae D4).below bV);have K5:=af ((ae K4).below bV);clear bV C D4 HDM;have C:=af (Kk b kv rv pv kl rl pl l bz aW YK jU w5 (ae D5) (ae HG) (ae VO) (ae HTO));rw [ae HLO] at C
    cases hl:gD (mr ts) ts with
    |some p=>
     rw [hl] at C;have Du:=af hl;unfold nI at C;simp only at C;clear hl;have hp0:(0:Int)≤(p:Int):=by omega
     go_wp2_with fail;refine (ae C).mono ?_;rintro e w6 ⟨rfl,tL⟩;have B6:=af ((ae B5).trans (tL.mono Ld));clear tL C;go_wp2;go_ret3;exact ⟨ae B6,by rw [ae HM];simp only [kJ,ae HT,ae HN,ae Du];rfl⟩
    |none=>
     rw [hl] at C;have Du:=af hl;unfold nI at C;simp only at C;clear hl;go_wp2_with fail;refine (ae C).mono ?_;rintro e w6 ⟨rfl,tL⟩;have B6:=af ((ae B5).trans (tL.mono Ld));have D6:=af ((ae D5).below tL);have K6:=af ((ae K5).below tL);clear tL C D5;go_wp2;go_ret3;exact ⟨ae B6,by rw [ae HM];simp only [kJ,ae HT,ae HN,ae Du];exact ⟨b,kv,rv,pv,kl,rl,pl,l,rfl,ae D6,ae QQ,ae HGD,⟨_,ae K6⟩,ae HFH⟩⟩
