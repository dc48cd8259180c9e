import Derived.Test.YtlbpnlngckgcbaaGreatDoorM28
set_option linter.all false
set_option maxHeartbeats 4000000
set_option maxRecDepth 100000
namespace Go.Proofs.YtlbpnlngckgcbaaGreatDoor
open Go.RowKit Go.PlainAid
theorem aQ.then {S:Nat→Prop} {x y z:World} (h:aQ S x y) (k:Below x.heap.size y z):aQ S x z:=⟨k.os.trans h.os,k.tape.trans h.tape,k.output.trans h.output,Nat.le_trans h.size k.size,fun i hi hs=>(k.block i hi).trans (h.block i hi hs)⟩
theorem FQ:PR Mo:=by
 intro b sv ts tl w h;obtain ⟨i0,hi0,hz0,hz1,hz2⟩:=info_parts Tryz.infoLn;obtain ⟨i1,hi1,hy0,hy1,hy2⟩:=info_parts Tryz.infoLns;obtain ⟨ma,mn,mc,rfl⟩:=h.form;obtain ⟨eT,hF⟩:=zA h;have b0:Below w.heap.size w (((w.alloc (.cells #[.slice ma mn mc] 75)).alloc (.cells #[.slice none 0 0] 114)).alloc (.cells #[.slice none 0 0] 114)):=(((Below.refl _ w).alloc Qv _).alloc (by simp) _).alloc (by simp;omega) _;have bR:ag (((w.alloc (.cells #[.slice ma mn mc] 75)).alloc (.cells #[.slice none 0 0] 114)).alloc (.cells #[.slice none 0 0] 114)) (w.heap.size+1) #[.slice none 0 0] 114:=(ag.new' (w.alloc (.cells #[.slice ma mn mc] 75)) _ _ (w.heap.size+1) (by simp)).alloc _;have bA:ag (((w.alloc (.cells #[.slice ma mn mc] 75)).alloc (.cells #[.slice none 0 0] 114)).alloc (.cells #[.slice none 0 0] 114)) (w.heap.size+2) #[.slice none 0 0] 114:=ag.new' _ _ _ _ (by simp);have C1:=ae (Di b _ ts tl _ (h.below b0) eT (fun p hp=>(hF p hp).below b0));have HIT:=ae (show ∀x∈mP eT tl,ay b w x.2.1.body x.2.2∧(aj x.2.1.body).length≤1000 from fun x hx=>by
  obtain ⟨_,rl,hrc,hin⟩:=uM hF x hx;exact ⟨hrc.ex _ hin,hrc.okp _ (by rw [←hrc.fst];exact List.mem_map.2 ⟨_,hin,rfl⟩)⟩)
 have HGR:=ae (Dq hF h.fst);have BO:=ae (show (mP eT tl).length≤1000000 from by
  have h2:(mP eT tl).length≤tl.length*1000:=fw _ 1000 tl (fun p hp=>by have:=(hF p hp).llen;simpa using this);have h3:tl.length≤1000:=by have:=h.llen;simpa using this
  omega)
 have Lu:=ae b0;have HBR:=ae bR;have mG:=ae bA;generalize hLL:mP eT tl=L at*;clear h hF b0 bR bA hLL;go_enter Tryz.func59,Tryz.ntmps59;go_wp2_with fail;refine (aa C1).mono ?_;rintro e w1 ⟨v1,ps,rfl,hb1,hst,Oa,hlen,hin⟩;obtain ⟨sa,sc,rfl⟩:=ak hst.row;have B1:=ae ((aa Lu).trans (hb1.mono (aa Lu).size));have R1:=ae ((aa HBR).below hb1);have A1:=ae ((aa mG).below hb1);have HST:=ae hst;have Ob:=ae Oa;have HIN:=ae hin;have hA1:=(aa A1).lt;clear hb1 hst Oa hin C1 Lu HBR mG;go_wp2_with fail
 go_loopw [12] (fun u wr=>∃(j:Nat) (lv:Value) (qs:List (Value×List (It×Value))),j≤ps.length∧u=.int .i64 j∧aQ (fun k=>k=w.heap.size+2) w1 wr∧ag wr (w.heap.size+2) #[lv] 114∧z8 w1.heap.size wr lv qs∧Hid (qs.map (fun q=>q.2.map Prod.fst)=(ps.take j).map Prod.snd)) (fun u _=>ps.length-(intOf u).toNat)
 case atStart=>exact ⟨0,.slice none 0 0,[],by omega,rfl,aQ.refl _ _,aa A1,⟨World.ownsRow_nil _ _ _ _,fun _ h=>by cases h⟩,ae (by simp)⟩
 case round=>
  obtain ⟨j,lv,qs,hj,rfl,oD,hblk,rM,HQ⟩:=hrel;obtain ⟨WO,hWO⟩:∃WO,WO=wr:=⟨_,rfl⟩;subst hWO;obtain ⟨la,lc,rfl⟩:=ak rM.row;have hsw:=oD.size;have hqs:qs.length≤j∧j≤qs.length:=by have:=congrArg List.length (aa HQ);simp at this;omega
  by_cases AA:j<ps.length
  ·have hjn:(j:Int)<(ps.length:Int):=by omega
   have Dj:=(aa HST).frame (fun g cs T f hh ht=>oD.block g (lt_of_some hh) (fun e=>by
    have:=aa A1;subst e;unfold ag at this;rw [this] at hh
    cases hh
    exact absurd ht (by decide)))
   obtain ⟨g,c,e1,k0⟩:=aS Dj.row j _ (by rw [List.getElem?_map,Qw AA];rfl);simp only [Value.slice.injEq,true_and] at e1;obtain ⟨rfl,rfl⟩:=e1;have rT:=Dj.inn _ (List.getElem_mem AA);have NU:=ae (show (ps.take (j+1)).map Prod.snd=(ps.take j).map Prod.snd++[ps[j].2] from by rw [List.take_succ_eq_append_getElem AA,List.map_append];rfl);have HPI:=ae (show ∀x∈ps[j].2,x∈L from fun x hx=>xB (by rw [←aa Ob];exact List.mem_map.2 ⟨_,List.getElem_mem AA,rfl⟩) hx);have hpl:=aa HIN _ (List.getElem_mem AA);generalize ps[j]=p at*;obtain ⟨pv,pl⟩:=p;simp only at k0 rT hpl NU HPI;obtain ⟨pa,pc,rfl⟩:=ak rT;have hpl':pl.length≤1000000:=by have:=aa BO;omega
   have Iu:=ae rT;have HBUT:=ae oD;have HBLK:=ae hblk;have HLN:=ae rM;have BWO:=ae ((aa B1).trans (oD.below (B:=w.heap.size) (by have:=(aa B1).size;omega) (fun g e=>by omega)));clear Dj rT oD hblk rM hpl;go_wp2_with fail
   go_loopw [6,18] (fun u6 u18 wi=>∃(k:Nat) (ls:List (It×Value)),k≤pl.length∧u18=.int .i64 k∧Below WO.heap.size WO wi∧vG WO.heap.size wi u6 ls∧Hid (ls.map Prod.fst=pl.take k)) (fun _ u18 _=>pl.length-(intOf u18).toNat)
   case atStart=>exact ⟨0,[],by omega,rfl,Below.refl _ _,⟨World.ownsRow_nil _ _ _ _,fun _ h=>by cases h⟩,ae (by simp)⟩
   case round=>
    obtain ⟨k,ls,hk,rfl,BP,hg,HL⟩:=hrel;obtain ⟨ga,gc,rfl⟩:=ak hg.row;have hls:ls.length≤k∧k≤ls.length:=by have:=congrArg List.length (aa HL);simp at this;omega
    have Dj:=BP.size;have M9:=ae BP;have HG:=ae hg
    by_cases Mm:k<pl.length
    ·have hkn:(k:Int)<(pl.length:Int):=by omega
     obtain ⟨g',c',e2,hc⟩:=aZ DZ 4 (fun _=>rfl) (aM (aa Iu) BP) k pl[k] (Qw Mm);simp only [Value.slice.injEq,true_and] at e2;obtain ⟨rfl,rfl⟩:=e2;have HTK2:=ae (show pl.take (k+1)=pl.take k++[pl[k]] from List.take_succ_eq_append_getElem Mm);obtain ⟨bf,Qn⟩:=aa HIT _ (aa HPI _ (List.getElem_mem Mm));generalize pl[k]=x at*;obtain ⟨⟨t,tv⟩,⟨r,bv⟩⟩:=x;obtain ⟨ra,rv,sM⟩:=bf.isI;simp only at sM bf Qn;subst sM;have k1:wr.cell? ⟨g',k*4,none⟩=some (.string t.name):=hc 0 _ (by omega) rfl;have k2:wr.cell? ⟨g',k*4+1,none⟩=some (.int .i64 r.place):=hc 1 _ (by omega) rfl;have k3:wr.cell? ⟨g',k*4+2,none⟩=some (.string r.name):=hc 2 _ (by omega) rfl;have k4:wr.cell? ⟨g',k*4+3,none⟩=some (.iface ra rv):=hc 3 _ (by omega) rfl;have bb:=(Below.refl wr.heap.size wr).alloc Qv (.cells #[.string t.name,.int .i64 r.place,.string r.name,.iface ra rv] 198);have CL:=ae (zX b t.name r.name r.place r.body (.iface ra rv) _ (bf.but (But.of_below ((aa BWO).trans ((BP.trans (bb.mono Dj)).mono (aa BWO).size)))) Qn);have OG:=ae bb;clear hc bf Qn bb BP hg;go_wp2_with fail;refine (aa CL).mono ?_;rintro e w2 ⟨iv,rfl,hb2,hins⟩;have HINS:=ae hins;obtain ⟨il,hil⟩:∃il,il=(dZ r.name r.body).length:=⟨_,rfl⟩;rw [←hil] at hins;obtain ⟨ia,ic,rfl⟩:=ak hins;have b2:=(aa OG).trans (hb2.mono (aa OG).size);have B2:=ae ((aa M9).trans (b2.mono Dj));have G2:=ae ((aa HG).below b2);have hs2:=(aa B2).size;have hs3:WO.heap.size≤(wr.alloc (.cells #[.string t.name,.int .i64 r.place,.string r.name,.iface ra rv] 198)).heap.size:=by simp;omega
     clear hins hil b2 CL k1 k2 k3 k4 hb2;go_wp2_with (at_builtin;go_must (refine wpList_append_lies _ rfl _ _ 190 rfl WO.heap.size 201 i0 _ 3 56 Tryz.underlying190 hi0 hz0 hz1 hz2 rfl (by decide) (.slice ga ls.length gc) ls.length (ls.flatMap NJ) rfl ?hown ⟨w2.heap.size,0,none⟩ 1 1 [.string t.name,.string r.name,.slice ia il ic] rfl rfl ?hnews ?hone (by decide) ?h63 ?hbytes ?hbase (w2.heap.size+1) ?hH ?hrest))
     case hown=>exact (aa G2).row.alloc _
     case hnews=>exact World.news_of_block (B:=w2.heap.size) (cs:=#[.string t.name,.string r.name,.slice ia il ic]) (t:=201) (fr:=(0,0)) (ag.new _ _ _)
     case hone=>
      intro u hu;simp at hu
      rcases hu with rfl|rfl|rfl<;>rfl
     case h63=>unfold maxLen;omega
     case hbytes=>omega
     case hbase=>simp;omega
     case hH=>simp
     case hrest=>
      intro g5 bP w5 aK ax bZ jD;have b3:=(Below.refl w2.heap.size w2).alloc Qv (.cells #[.string t.name,.string r.name,.slice ia il ic] 201);have G3:=(aa G2).below b3;have ng:=ae (G3.push (x:=((t,tv),(r,.iface ra rv))) ax aK (aC (aM (aa HINS) b3) hs3));have IK:=ae (Below.grown ((aa B2).trans (b3.mono hs2)) ax (by simp;omega) (fun q hq=>(G3.row.lt q hq).1));clear b3 G3 aK ax bZ;go_wp2;go_roundw
      case rel=>exact ⟨k+1,_,by omega,by go_num,aa IK,aa ng,by
       have h1:=aa HL;have h2:=aa HTK2;exact ae (by rw [List.map_append,h1,h2];rfl)⟩
      case measure=>simp [intOf];omega
    ·have hkn:¬((k:Int)<(pl.length:Int)):=by omega
     have hblk:=(aa HBLK).below BP;have a0:wr.cell? ⟨w.heap.size+2,0,none⟩=some (.slice la qs.length lc):=hblk.cell rfl;have az:=hblk.fz;have Cy:=ae hblk;have Oc:=ae ((aa HLN).below BP);have hll:ls.length≤1000000:=by omega
     clear hblk BP hg;go_wp2_with (at_builtin;go_must (refine wpList_append_lies _ rfl _ _ 112 rfl w1.heap.size 190 i1 _ 1 24 Tryz.underlying112 hi1 hy0 hy1 hy2 rfl (by decide) (.slice la qs.length lc) qs.length (qs.map Prod.fst) rfl ?hown2 ⟨wr.heap.size,0,none⟩ 1 1 [.slice ga ls.length gc] rfl rfl ?hnews2 ?hone2 (by decide) ?h632 ?IL ?LK (wr.heap.size+1) ?hH2 ?LM))
     case hown2=>exact (aa Oc).row.alloc _
     case hone2=>first|rfl|(intro u hu;simp at hu;subst hu;rfl)
     case h632=>first|omega|(unfold maxLen;omega)
     case IL=>omega
     case LK=>first|omega|(simp;omega)
     case LM=>
      intro g5 bP w5 aK ax bZ jD;have b3:=(Below.refl wr.heap.size wr).alloc Qv (.cells #[.slice ga ls.length gc] 190);have L3:=(aa Oc).below b3;have KA:=(aa Cy).below b3;have K5:ag w5 (w.heap.size+2) _ 114:=(ax.block _ KA.lt (own_ne L3.row KA (by decide))).trans KA;have q0:=K5.cell (o:=0) rfl;have qz:=K5.fz;have L5:=L3.push ax aK (((aa HG).below b3).lower hsw);have IK:=Below.grown (((aa M9).mono hsw).trans (b3.mono (by omega))) ax (by simp;omega) (fun q hq=>(L3.row.lt q hq).1);have HBN:=ae ((aQ.then (aa HBUT) IK).set (show (fun k=>k=w.heap.size+2) (⟨w.heap.size+2,0,none⟩:Addr).block from rfl) (.slice (some ⟨g5,0,none⟩) (qs.length+1) bP));have Qj:=ae (K5.set 0 (.slice (some ⟨g5,0,none⟩) (qs.length+1) bP));have OM:=ae (L5.frame (Lg K5 (by unfold LT;decide) 0 (.slice (some ⟨g5,0,none⟩) (qs.length+1) bP)));clear b3 L3 KA K5 L5 IK aK ax bZ a0 az;go_wp2;go_roundw
      case rel=>exact ⟨j+1,_,_,by omega,by go_num,aa HBN,aa Qj,aa OM,by
       have h1:=aa HQ;have h2:=aa NU;have h3:=aa HL;rw [List.take_of_length_le (by omega)] at h3;exact ae (by rw [List.map_append,h1,h2];simp [h3])⟩
      case measure=>simp [intOf];omega
  ·have hjn:¬((j:Int)<(ps.length:Int)):=by omega
   have a0:WO.cell? ⟨w.heap.size+2,0,none⟩=some (.slice la qs.length lc):=hblk.cell rfl;have OQ:=oD.blk (aa R1) (by omega);have r0:WO.cell? ⟨w.heap.size+1,0,none⟩=some (.slice none 0 0):=OQ.cell rfl;have rz:=OQ.fz;have HR:=ae OQ;have HB:=ae ((aa B1).trans (oD.below (B:=w.heap.size) (by have:=(aa B1).size;omega) (fun g e=>by omega)));have OM:=ae rM;clear OQ oD hblk rM;go_wp2_with fail;refine bodyPost_ret (v:=.agg #[.slice la qs.length lc]) (JC Tryz.results59 _ _ (w.heap.size+1) _ 114 _ rfl ?hB Tryz.underlying114 rfl (by kernel_rfl)) rfl ?post
   case hB=>exact ⟨_,(aa HR).set 0 _,by rfl⟩
   case post=>
    rw [List.take_of_length_le (by omega)] at HQ;have hq:=aa HQ;refine ⟨_,_,_,rfl,(aa HB).setCell (p:=⟨w.heap.size+1,0,none⟩) (by simp) _,qs,((aa OM).frame (Lg (aa HR) (by unfold LT;decide) 0 _)).lower (Nat.zero_le _),?_,by omega,fun q hq'=> ?_⟩
    ·have h1:=congrArg (List.map (List.map Fq)) hq;rw [aa Ob,aa HGR] at h1;rw [←h1,List.map_map];simp
    ·have h1:q.2.map Prod.fst∈ps.map Prod.snd:=by rw [←hq];exact List.mem_map.2 ⟨q,hq',rfl⟩
     obtain ⟨p,hp,e⟩:=List.mem_map.1 h1;have h2:=aa HIN p hp;have h3:=congrArg List.length e;rw [List.length_map] at h3;have h4:=aa BO;omega
def LP (LX:List Ty→Value→World→Prop) (ts:List Ty) (w:World) (e:Ending) (w':World):Prop:=∃mv lv bm tl b,e=.returned (.tuple #[.pointer (some ⟨b,0,none⟩),.int .i64 0])∧PU w' b mv lv (.slice none 0 0) []∧MC bm w' mv ts tl∧LX ts lv w'∧Below w.heap.size w w'∧w.heap.size≤b
theorem IM (LX:List Ty→Value→World→Prop) (hO:PR LX) (NI:Le LX) (s:Qx) (w:World) (ts:List Ty) (hr:iL s=.ok ts) (hg:Laid w):
  Calls Tryz.prog 50 #[.string s] w (LP LX ts w):=by
 have hl:=hg.lt;have B0:=ae ((Below.refl w.heap.size w).alloc Qv (.cells #[.slice none 0 0,.slice none 0 0,.slice none 0 0] 117));have C:=ae (xy LX hO NI w.heap.size s _ _ _ _ (ag.new w #[.slice none 0 0,.slice none 0 0,.slice none 0 0] 117) ts hr (hg.below (aa B0) hl));clear hr hg hO NI;go_enter Tryz.func50,Tryz.ntmps50;go_wp2_with fail;refine (aa C).mono ?_;rintro e w2 ⟨mv,lv,bm,tl,rfl,hu,hm,hx,hb⟩;have HU:=ae hu;have HM:=ae hm;have HX:=ae hx;have HB:=ae hb;clear hu hm hx hb C;go_wp2;go_ret2;exact ⟨mv,lv,bm,tl,w.heap.size,rfl,aa HU,aa HM,aa HX,(aa B0).trans ((aa HB).below (aa B0).size (fun g e=>by omega)),Nat.le_refl _⟩
section
variable {w w':World} {b:Nat} {kv rv pv:Value} {kl:List (Qx×Nat)}
end
section
variable (T:Nat→Qx) (P:Nat→Nat)
end
section
variable (T:Nat→Qx) (P:Nat→Nat)
end
section
variable {ts:List Ty} {F:Nat}
end
section
variable {ts:List Ty} {F:Nat}
end
section
variable {ts:List Ty} {F:Nat}
end
section
variable (T:Nat→Qx) (P:Nat→Nat)
end
section
variable {ts:List Ty} {F:Nat}
end
section
variable (T:Nat→Qx) (P:Nat→Nat)
end
section
variable {ts:List Ty} {F:Nat}
end
section
variable {ts:List Ty} {F:Nat}
end
theorem IP:yZ:=by
 intro s c w hs ⟨m,hm⟩;refine (Any.strings_Cut Tryz.lays145 s (mk [c]) m w (by omega) hm).mono ?_;rintro e w' ⟨rfl,n,rfl⟩;refine ⟨?_,⟨rfl,rfl,rfl,Nat.le_refl _,fun _ _=>rfl⟩⟩;have e:=G8 s.data.toList c;rw [show (mk [c]).data.toList=[c] from by simp [mk],e]
 rfl
structure UQ (w:World) (x:Nat) (mv lv gv:Value) (ts:List Ty) (gs:List Tu):Prop where
 p:PU w x mv lv gv gs
 m:∃bm tl,MC bm w mv ts tl
 l:Mo ts lv w
def MQ (T:TypeId):Prop:=(T=207∨T=159∨T=110)∨LT T
theorem DL {w:World} {base:Nat} {e:TypeId} {size:Nat} {v:Value} {n:Nat} {xs:List Value} (h:w.ownsRow base e size v n xs) {k:Nat} (hk:v.ownBlock=some k):∃m c,v=.slice (some ⟨k,0,none⟩) m c:=by
 rcases h.2 with ⟨rfl,_⟩|⟨g,cap,cur,rfl,_⟩
 ·cases hk
 ·simp only [Value.ownBlock,Option.some.injEq] at hk;subst hk;exact ⟨_,_,rfl⟩
section
variable {w w':World} {x:Nat} {mv lv gv:Value} {ts:List Ty} {gs:List Tu}
theorem UQ.ty (h:UQ w x mv lv gv ts gs) {k:Nat} (hk:wP x gv k):∃cs T,ag w k cs T∧(T=117∨T=123):=by
 rcases hk with rfl|⟨n,c,e⟩
 ·exact ⟨_,_,h.p.blk,.inl rfl⟩
 ·have hr:=h.p.row;rw [e] at hr;obtain ⟨cur,hb,_⟩:=fT hr;exact ⟨_,_,hb,.inr rfl⟩
theorem UQ.lt (h:UQ w x mv lv gv ts gs) {k:Nat} (hk:wP x gv k):k<w.heap.size:=by
 obtain ⟨cs,T,hb,_⟩:=h.ty hk;exact hb.lt
theorem UQ.nty (h:UQ w x mv lv gv ts gs) {k:Nat} {cs:Array Value} {T:TypeId} {f:Nat×Nat} (hk:wP x gv k) (hh:w.heap[k]? =some (.cells cs T f)):¬MQ T:=by
 obtain ⟨cs',T',hb,ht⟩:=h.ty hk;unfold ag at hb;rw [hb] at hh
 cases hh
 rcases ht with rfl|rfl<;>(unfold MQ LT;decide)
theorem UQ.keep {S:Nat→Prop} (h:UQ w x mv lv gv ts gs) (k:aQ S w w') (hS:∀k,wP x gv k→¬S k) (hT:∀(k:Nat) (cs:Array Value) (T:TypeId) (f:Nat×Nat),S k→w.heap[k]? =some (Obj.cells cs T f)→¬MQ T):UQ w' x mv lv gv ts gs where
 p:=⟨k.blk h.p.blk (hS _ (.inl rfl)),dO h.p.row (fun g cs f hg hh=>k.block g (lt_of_some hh) (hS g (.inr (DL h.p.row hg)))),h.p.apart,h.p.most⟩
 m:=by
  obtain ⟨bm,tl,hm⟩:=h.m;exact ⟨bm,tl,hm.kt (fun g cs T f hh ht=>k.block g (lt_of_some hh) (fun hs=>hT g cs T f hs hh (.inl ht))) k.size⟩
 l:=by
  obtain ⟨qs,h1,h2⟩:=h.l;exact ⟨qs,h1.frame (fun g cs T f hh ht=>k.block g (lt_of_some hh) (fun hs=>hT g cs T f hs hh (.inr ht))),h2⟩
theorem UQ.below (h:UQ w x mv lv gv ts gs) (k:Below w.heap.size w w'):UQ w' x mv lv gv ts gs:=h.keep (S:=fun _=>False) (.of_below k) (fun _ _ e=>e) (fun _ _ _ _ e=>e.elim)
def FR (w:World) (x:Nat) (gv:Value) (c:Nat) (ts:List Ty) (gs:List Tu) (e:Ending) (w':World):Prop:=∃mv lv rP,e=.returned (.int .i64 c)∧UQ w' x mv lv rP ts gs∧aQ (wP x gv) w w'∧∀k,wP x rP k→wP x gv k∨w.heap.size≤k
theorem Bc {r:Nat×List Tu} {e:Ending} (hu:UQ w x mv lv gv ts gs) (h:gH x mv lv gv w r e w'):FR w x gv r.1 ts r.2 e w':=by
 obtain ⟨rP,he,hp,hb,hf⟩:=h;refine ⟨_,_,rP,he,⟨hp,?_,?_⟩,hb,hf⟩
 ·obtain ⟨bm,tl,hm⟩:=hu.m;exact ⟨bm,tl,hm.kt (fun g cs T f hh ht=>hb.block g (lt_of_some hh) (fun hs=>hu.nty hs hh (.inl ht))) hb.size⟩
 ·obtain ⟨qs,h1,h2⟩:=hu.l;exact ⟨qs,h1.frame (fun g cs T f hh ht=>hb.block g (lt_of_some hh) (fun hs=>hu.nty hs hh (.inr ht))),h2⟩
theorem LQ (hu:UQ w x mv lv gv ts gs) (s:Qx) (hm:jZ w) (h1:1<w.heap.size) (hg:Laid w) (Ii:gs.length<1000):
  Calls Tryz.prog 28 #[.pointer (some ⟨x,0,none⟩),.string s] w (FR w x gv (Ju ts gs s).1 ts (Ju ts gs s).2):=by
 obtain ⟨bm,tl,wF⟩:=hu.m;exact (zR IP x bm s w _ _ _ _ ts tl hu.p wF hm h1 hg Ii).mono fun e w' h=>Bc hu h
theorem IQ (hu:UQ w x mv lv gv ts gs) (s:Qx) (hm:jZ w) (h1:1<w.heap.size):
  Calls Tryz.prog 35 #[.pointer (some ⟨x,0,none⟩),.string s] w (FR w x gv (nE gs s).1 ts (nE gs s).2):=
 (wQ IP x s w _ _ _ _ hu.p hm h1).mono fun e w' h=>Bc hu h
theorem qload (hu:UQ w x mv lv gv ts gs) (s:Qx) (ts':List Ty) (hr:iL s=.ok ts') (hg:Laid w):
  Calls Tryz.prog 27 #[.pointer (some ⟨x,0,none⟩),.string s] w (FR w x gv 0 ts' []):=
 (xy Mo FQ uU x s w _ _ _ hu.p.blk ts' hr hg).mono fun e w' ⟨mv,lv,bm,tl,he,hp,wF,hlx,hb⟩=>
  ⟨mv,lv,_,he,⟨hp,⟨bm,tl,wF⟩,hlx⟩,hb.mono (fun k e=> .inl e),fun k hk=>by
   rcases hk with e|⟨n,c,e⟩
   ·exact .inl (.inl e)
   ·cases e⟩
def QNew (ts:List Ty) (w:World) (e:Ending) (w':World):Prop:=∃mv lv b,e=.returned (.tuple #[.pointer (some ⟨b,0,none⟩),.int .i64 0])∧UQ w' b mv lv (.slice none 0 0) ts []∧Below w.heap.size w w'∧w.heap.size≤b
theorem qnew (s:Qx) (ts:List Ty) (hr:iL s=.ok ts) (hg:Laid w):Calls Tryz.prog 50 #[.string s] w (QNew ts w):=
 (IM Mo FQ uU s w ts hr hg).mono fun e w' ⟨mv,lv,bm,tl,b,he,hp,wF,hlx,hb,hl⟩=>⟨mv,lv,b,he,⟨hp,⟨bm,tl,wF⟩,hlx⟩,hb,hl⟩
end
theorem FT (x bm:Nat) (mv lv gv:Value) (ts:List Ty) (gs:List Tu) (tl:List (Ty×Value)) (w:World) (h:PU w x mv lv gv gs) (hM:MC bm w mv ts tl) (th rel:Qx) (hs:th.size≤1000) (Od:dh th=true) (hrs:rel.size≤maxLen) (hrf:bg rel=true) (t:Ty) (hf:bF ts (au th 58).1=some t) (r:Rl) (hq:aV t rel=some r) (hm:jZ w) (hw:1<w.heap.size):
  Calls Tryz.prog 56 #[.pointer (some ⟨x,0,none⟩),.string th,.string rel] w fun e w'=>e=.returned (.tuple #[.agg #[.string (au th 58).1,.string (au th 58).2.1,.string rel],.int .i64 0])∧Below w.heap.size w w':=by
 have b0:Below w.heap.size w (w.alloc (.cells #[.string ⟨#[]⟩,.string ⟨#[]⟩,.string ⟨#[]⟩] 102)):=(Below.refl _ w).alloc Qv _;have C1:=ae (fU IP th _ hs (hm.below b0 hw) (by simp;omega));rw [Od] at C1;have R0:=ae (ag.new w #[.string ⟨#[]⟩,.string ⟨#[]⟩,.string ⟨#[]⟩] 102);have B0:=ae b0;obtain ⟨ma,mn,mc,rfl⟩:=hM.form;have CF:=ae (show ∀w',Below w.heap.size w w'→Calls Tryz.prog 94 #[.agg #[.slice ma mn mc],.string (au th 58).1,.string rel] w' fun e w''=>∃va vn vc ra rv,e=.returned (.tuple #[.agg #[.int .i64 t.place,.string t.name,.slice va vn vc],.agg #[.int .i64 r.place,.string r.name,.iface ra rv],.nilIface])∧Below w'.heap.size w' w'' from fun w' k=>by
  obtain ⟨va,vn,vc,rl,ra,rv,_,_,_,D⟩:=nY bm _ ts tl (au th 58).1 rel w' (hM.below k) t hf r hq;exact D.mono fun e w'' h=>⟨va,vn,vc,ra,rv,h⟩)
 have CW:=ae (fun w=>ji rel w hrs);have H:=ae h;rw [hrf] at CW;generalize au th 58=X at*;obtain ⟨a,b,ok⟩:=X;simp only at C1 CF ⊢;have hxl:=h.blk.lt;clear b0 hm hw hs Od hrs hrf hf hq hM h;go_enter Tryz.func56,Tryz.ntmps56;go_wp2_with fail;refine (aa C1).mono ?_;rintro e w1 ⟨rfl,hb1⟩;have b1:=hb1.alloc hb1.size (.cells #[.string a,.string b] 98);have B1:=ae ((aa B0).trans (b1.mono (aa B0).size));have R1:=ae ((aa R0).below b1);have T1:=ae (ag.new w1 #[.string a,.string b] 98);have n1:¬(w1.heap.size=w.heap.size):=by have:=((aa R0).below hb1).lt;omega
 have n2:¬(w.heap.size=w1.heap.size):=by omega
 clear b1 hb1 C1 B0 R0;go_wp2_with fail;refine (aa CW _).mono ?_;rintro e w2 ⟨rfl,rfl⟩;generalize hWW:w1.alloc (.cells #[.string a,.string b] 98)=W at*;have BR:=ae (Below.refl W.heap.size W);have U:=(aa H).blk.below (aa B1);obtain ⟨u0,u1,u2⟩:=three U;have t0:W.cell? ⟨w1.heap.size,0,none⟩=some (.string a):=(aa T1).cell rfl;have t1:W.cell? ⟨w1.heap.size,1,none⟩=some (.string b):=(aa T1).cell rfl;go_wp2_with fail;have l1:=(aa B1).size;have lt1:=(aa T1).lt;have lr1:=(aa R1).lt;have nx:¬(x=W.heap.size):=by have:=U.lt;omega
 have nt:¬(w1.heap.size=W.heap.size):=by omega
 have nr:¬(w.heap.size=W.heap.size):=by omega
 clear U
 go_region_held3 (fun w'=>w'.cell? ⟨x,0,none⟩=some (.slice ma mn mc)∧w'.cell? ⟨w1.heap.size,0,none⟩=some (.string a)) ((first|go_keep|refine ⟨af u0 ?_,af t0 ?_⟩<;>(with_reducible repeat (first|exact aa BB|exact aa BR|refine Below.drew ?_|(refine Below.setCell ?_ ?_ _;rotate_left;exact (by first|omega|(simp;omega)|simp))|(refine Below.alloc ?_ ?_ _;rotate_left;exact (by first|omega|(simp;omega)|simp))))))
  ((go_at_call 94;refine (aa CF _ (show Below w.heap.size w _ from (by with_reducible repeat (first|exact aa B1|refine Below.drew ?_|(refine Below.setCell ?_ ?_ _;rotate_left;exact (by first|omega|(simp;omega)|simp))|(refine Below.alloc ?_ ?_ _;rotate_left;exact (by first|omega|(simp;omega)|simp)))))).mono ?_;rintro e w3 ⟨va,vn,vc,ra,rv,rfl,hb3⟩;have BB:=ae (Below.trans (a:=W) (B:=W.heap.size) (show Below W.heap.size W _ from (by with_reducible repeat (first|exact aa BR|refine Below.drew ?_|(refine Below.setCell ?_ ?_ _;rotate_left;exact (by first|omega|(simp;omega)|simp))|(refine Below.alloc ?_ ?_ _;rotate_left;exact (by first|omega|(simp;omega)|simp))))) (hb3.mono (by first|omega|(simp;omega)|simp)));have d0:=af u0 (aa BB);have d1:=af t0 (aa BB);(first|(have z1:=(ag.new W #[.int .i64 0,.string ⟨#[]⟩,.slice none 0 0] 110).drew.below hb3;obtain ⟨e10,e11,e12⟩:=three z1;have Qo:=z1.fz;have Qp:=z1.lt;clear z1)|(have z2:=(ag.new W #[.int .i64 0,.string ⟨#[]⟩,.nilIface] 159).drew.below hb3;obtain ⟨e20,e21,e22⟩:=three z2;have ez2:=z2.fz;have el2:=z2.lt;clear z2)|(have z1:=((ag.new W #[.int .i64 0,.string ⟨#[]⟩,.slice none 0 0] 110).alloc (.cells #[.int .i64 0,.string ⟨#[]⟩,.nilIface] 159)).drew.below hb3;have z2:=(ag.new' (W.alloc (.cells #[.int .i64 0,.string ⟨#[]⟩,.slice none 0 0] 110)) #[.int .i64 0,.string ⟨#[]⟩,.nilIface] 159 (W.heap.size+1) (by simp)).drew.below hb3;obtain ⟨e10,e11,e12⟩:=three z1;have Qo:=z1.fz;have Qp:=z1.lt;obtain ⟨e20,e21,e22⟩:=three z2;have ez2:=z2.fz;have el2:=z2.lt;clear z1 z2)|(have z2:=((ag.new W #[.int .i64 0,.string ⟨#[]⟩,.nilIface] 159).alloc (.cells #[.int .i64 0,.string ⟨#[]⟩,.slice none 0 0] 110)).drew.below hb3;have z1:=(ag.new' (W.alloc (.cells #[.int .i64 0,.string ⟨#[]⟩,.nilIface] 159)) #[.int .i64 0,.string ⟨#[]⟩,.slice none 0 0] 110 (W.heap.size+1) (by simp)).drew.below hb3;obtain ⟨e10,e11,e12⟩:=three z1;have Qo:=z1.fz;have Qp:=z1.lt;obtain ⟨e20,e21,e22⟩:=three z2;have ez2:=z2.fz;have el2:=z2.lt;clear z1 z2)|skip);have bz:=(aa BB).size;clear hb3))
 all_goals (
  go_wp2_with fail;refine (nD _).mono ?_;rintro e w4 ⟨rfl,hb4⟩;have BX:=Below.trans (a:=W) (B:=W.heap.size) (show Below W.heap.size W _ from (by with_reducible repeat (first|exact aa BB|refine Below.drew ?_|(refine Below.setCell ?_ ?_ _;rotate_left;exact (by first|omega|(simp;omega)|simp))|(refine Below.alloc ?_ ?_ _;rotate_left;exact (by first|omega|(simp;omega)|simp))))) (hb4.mono (by first|omega|(simp;omega)));have BF:=ae ((aa B1).trans (BX.mono l1));have t4:=af t0 BX;have t5:=af t1 BX;have R4:=ae ((aa R1).below BX);obtain ⟨r0,r1,r2⟩:=three (aa R4);have rz:=(aa R4).fz;clear hb4 BX;go_wp2;refine bodyPost_ret (v:=.tuple #[.agg #[.string a,.string b,.string rel],.int .i64 0]) (aH Tryz.results56 _ _ w.heap.size _ 102 _ _ rfl rfl ?hB Tryz.underlying102 rfl (by kernel_rfl)) rfl ?post
  case hB=>exact ⟨_,(by with_reducible repeat (first|exact aa R4|apply ag.alloc|apply ag.drew|apply ag.set|(apply ag.other;case ha=>exact (by first|omega|(simp;omega)|simp)))),by rfl⟩
  case post=>exact ⟨rfl,(by with_reducible repeat (first|exact aa BF|refine Below.drew ?_|(refine Below.setCell ?_ ?_ _;rotate_left;exact (by first|omega|(simp;omega)|simp))|(refine Below.alloc ?_ ?_ _;rotate_left;exact (by first|omega|(simp;omega)|simp))))⟩)
structure PuR (ts:List Ty) (gs:List Tu):Prop where
 few:gs.length≤1000
 low:∀t∈gs,t.kind.size≤maxLen∧t.id.size≤maxLen∧lg (fB t)
 ln:∀g∈bH ts,∀x∈g,Ms x
 ok:Du (bH ts) (dn gs)
 sum:((bH ts).map List.length).sum≤1000000
def LU (ts:List Ty) (gs:List Tu) (s:Sj) (who:Tg) (w:World) (e:Ending) (w':World):Prop:=∃kb,e=.returned (.tuple #[.bool (kb s),.int .i64 0])∧Below w.heap.size w w'∧jv who (dn gs) ((bH ts).map (List.map JE)) (fun _=>false) kb
theorem FU (X:Nat) (t:Tg):(dw X [t] 1).length=if X.testBit 0 then 1 else 0:=by
 cases h:X.testBit 0 with
 |true=>rw [tJ (t:=t) rfl h];simp [dw]
 |false=>rw [xN (t:=t) rfl h];simp [dw]
theorem FV (x:Nat) (mv lv gv:Value) (ts:List Ty) (gs:List Tu) (w:World) (h:UQ w x mv lv gv ts gs) (hp:PuR ts gs) (th rel who:Qx) (hs:th.size≤1000) (Od:dh th=true) (hrs:rel.size≤1000) (hrf:bg rel=true) (t:Ty) (hf:bF ts (au th 58).1=some t) (r:Rl) (hq:aV t rel=some r)
  (hws:who.size≤1000) (hwf:dh who=true) (t':Ty) (hf':bF ts (au who 58).1=some t') (hm:jZ w) (hw:1<w.heap.size):
  Calls Tryz.prog 26 #[.pointer (some ⟨x,0,none⟩),.string th,.string rel,.string who] w (LU ts gs ⟨(au th 58).1,(au th 58).2.1,rel⟩ ⟨(au who 58).1,(au who 58).2.1⟩ w):=by
 obtain ⟨bm,tl,hM⟩:=h.m;have z1:=gW th 58;have z2:=gW who 58;have C1:=ae (fU IP who w hws hm hw);rw [hwf] at C1;have CA:=ae (fun w' (k:Below w.heap.size w w')=>FT x bm mv lv gv ts gs tl w' (h.p.below k) (hM.below k) th rel hs Od (by unfold maxLen;omega) hrf t hf r hq (hm.below k hw) (Nat.lt_of_lt_of_le hw k.size));obtain ⟨ma,mn,mc,rfl⟩:=hM.form;have CF:=ae (show ∀w',Below w.heap.size w w'→Calls Tryz.prog 57 #[.agg #[.slice ma mn mc],.string (au who 58).1] w' fun e w''=>∃va vn vc,e=.returned (.tuple #[.agg #[.int .i64 t'.place,.string t'.name,.slice va vn vc],.nilIface])∧Below w'.heap.size w' w'' from fun w' k=>by
  obtain ⟨va,vn,vc,rl,_,D⟩:=vZ bm _ ts tl (au who 58).1 w hM t' hf';exact (D w' k).mono fun e w'' h=>⟨va,vn,vc,h⟩)
 have hxl:=h.p.blk.lt;obtain ⟨ga,gc,rfl⟩:=ak h.p.row;obtain ⟨qs,Ai,_⟩:=h.l;obtain ⟨la,lc,rfl⟩:=ak Ai.row;obtain ⟨ln,rM⟩:∃n,n=qs.length:=⟨_,rfl⟩;rw [←rM] at h;obtain ⟨gn,Me⟩:∃n,n=gs.length:=⟨_,rfl⟩;rw [←Me] at h;have CT:=ae (fun w' g (k:Below w.heap.size w w') (cr:vF w' (.slice (some ⟨g,0,none⟩) 1 1) [⟨(au who 58).1,(au who 58).2.1⟩])=>DK la ga ln lc g 1 1 gn gc w' ts gs [⟨(au who 58).1,(au who 58).2.1⟩] ⟨(au th 58).1,(au th 58).2.1,rel⟩ ⟨uU.below _ _ _ _ h.l k,cr,aM h.p.row k,hp.few,hp.low,⟨by unfold maxLen;show (au th 58).1.size≤_;omega,by unfold maxLen;show (au th 58).2.1.size≤_;omega,by unfold maxLen;show rel.size≤_;omega⟩,hp.ln,hp.ok,hp.sum⟩ (by simp) Qv (by unfold maxLen;omega));have GI:=ae (fun g hg x hx=>(hp.ln g hg x hx).wf);have H:=ae h.p;generalize au th 58=X at*;obtain ⟨k,i,ok⟩:=X;generalize au who 58=Y at*;obtain ⟨a,b,ok'⟩:=Y;simp only at C1 CA CF CT ⊢;clear hm hw hs Od hrs hrf hf hq hM h hp hws hwf hf' z1 z2 rM Me Ai;go_enter Tryz.func26,Tryz.ntmps26;go_wp2_with fail;refine (aa C1).mono ?_;rintro e w1 ⟨rfl,hb1⟩;have B1:=ae (hb1.alloc hb1.size (.cells #[.string a,.string b] 98));have T1:=ae (ag.new w1 #[.string a,.string b] 98);have l1:=hb1.size;have C2:=ae (aa CA _ (aa B1));clear hb1 C1 CA;go_wp2_with fail;refine (aa C2).mono ?_;rintro e w2 ⟨rfl,hb2⟩;have b2:=hb2.alloc hb2.size (.cells #[.string k,.string i,.string rel] 102);have B2:=ae ((aa B1).trans (b2.mono (aa B1).size));have T2:=ae ((aa T1).below b2);have S2:=ae (ag.new w2 #[.string k,.string i,.string rel] 102);have l2:w1.heap.size<w2.heap.size:=by have:=hb2.size;simp at this;omega
 clear hb2 C2 T1 B1 b2;go_wp2_with fail;generalize (w2.alloc (.cells #[.string k,.string i,.string rel] 102))=W at*;have BR:=ae (Below.refl W.heap.size W);have U:=((aa H).below (aa B2)).blk;obtain ⟨u0,u1,u2⟩:=three U;have t0:W.cell? ⟨w1.heap.size,0,none⟩=some (.string a):=(aa T2).cell rfl;have lW:=(aa B2).size;have OY:=(aa T2).lt;have ls2:=(aa S2).lt;have nx:¬(x=W.heap.size):=by have:=U.lt;omega
 have nt:¬(w1.heap.size=W.heap.size):=by omega
 have ns:¬(w2.heap.size=W.heap.size):=by omega
 clear U
 go_region_held3 (fun w'=>w'.cell? ⟨x,0,none⟩=some (.slice ma mn mc)∧w'.cell? ⟨w1.heap.size,0,none⟩=some (.string a)) ((first|go_keep|refine ⟨af u0 ?_,af t0 ?_⟩<;>(with_reducible repeat (first|exact aa BB|exact aa BR|refine Below.drew ?_|(refine Below.setCell ?_ ?_ _;rotate_left;exact (by first|omega|(simp;omega)|simp))|(refine Below.alloc ?_ ?_ _;rotate_left;exact (by first|omega|(simp;omega)|simp))))))
  ((go_at_call 57;refine (aa CF _ (show Below w.heap.size w _ from (by with_reducible repeat (first|exact aa B2|refine Below.drew ?_|(refine Below.setCell ?_ ?_ _;rotate_left;exact (by first|omega|(simp;omega)|simp))|(refine Below.alloc ?_ ?_ _;rotate_left;exact (by first|omega|(simp;omega)|simp)))))).mono ?_;rintro e w3 ⟨va,vn,vc,rfl,hb3⟩;have BB:=ae (Below.trans (a:=W) (B:=W.heap.size) (show Below W.heap.size W _ from (by with_reducible repeat (first|exact aa BR|refine Below.drew ?_|(refine Below.setCell ?_ ?_ _;rotate_left;exact (by first|omega|(simp;omega)|simp))|(refine Below.alloc ?_ ?_ _;rotate_left;exact (by first|omega|(simp;omega)|simp))))) (hb3.mono (by first|omega|(simp;omega)|simp)));have d0:=af u0 (aa BB);have d1:=af t0 (aa BB);(first|(have z1:=(ag.new W #[.int .i64 0,.string ⟨#[]⟩,.slice none 0 0] 110).drew.below hb3;obtain ⟨e10,e11,e12⟩:=three z1;have Qo:=z1.fz;have Qp:=z1.lt;clear z1)|skip);have bz:=(aa BB).size;clear hb3))
 all_goals (
  go_wp2_with fail;refine (nD _).mono ?_;rintro e w4 ⟨rfl,hb4⟩;have BX:=Below.trans (a:=W) (B:=W.heap.size) (show Below W.heap.size W _ from (by with_reducible repeat (first|exact aa BB|refine Below.drew ?_|(refine Below.setCell ?_ ?_ _;rotate_left;exact (by first|omega|(simp;omega)|simp))|(refine Below.alloc ?_ ?_ _;rotate_left;exact (by first|omega|(simp;omega)|simp))))) (hb4.mono (by first|omega|(simp;omega)));have B4:=ae ((aa B2).trans (BX.mono lW));obtain ⟨v0,v1,v2⟩:=three ((aa H).below (aa B4)).blk;have x0:w4.cell? ⟨w1.heap.size,0,none⟩=some (.string a):=((aa T2).below BX).cell rfl;have x1:w4.cell? ⟨w1.heap.size,1,none⟩=some (.string b):=((aa T2).below BX).cell rfl;obtain ⟨y0,y1,y2⟩:=three ((aa S2).below BX);have ba:=((Below.refl w4.heap.size w4).alloc Qv (.cells #[.string a,.string b] 98)).drew;have tb:=(ag.new w4 #[.string a,.string b] 98).drew;have cr:vF (w4.alloc (.cells #[.string a,.string b] 98)).drew (.slice (some ⟨w4.heap.size,0,none⟩) 1 1) [⟨a,b⟩]:=⟨w4.heap.size,0,1,rfl,tb.lt,by simp,fun j y hj=>by
   rcases j with _|j
   ·simp only [List.getElem?_cons_zero,Option.some.injEq] at hj;subst hj;exact ⟨tb.cell rfl,tb.cell rfl⟩
   ·simp at hj⟩
  have D:=ae (aa CT _ w4.heap.size ((aa B4).trans (ba.mono (aa B4).size)) cr);have mG:=ae ba;have B4':=ae ((aa B4).trans (ba.mono (aa B4).size));have n1:=World.new_ne w4 _ v1;have n2:=World.new_ne w4 _ x0;have n3:=World.new_ne w4 _ y0;clear hb4 BX ba tb cr CT;go_wp2_with fail
  go_region_held3 (fun w'=>w'.cell? ⟨x,1,none⟩=some (.slice la ln lc)∧w'.cell? ⟨x,2,none⟩=some (.slice ga gn gc)∧w'.cell? ⟨w1.heap.size,0,none⟩=some (.string a)∧w'.cell? ⟨w1.heap.size,1,none⟩=some (.string b)∧w'.cell? ⟨w2.heap.size,0,none⟩=some (.string k)∧w'.cell? ⟨w2.heap.size,1,none⟩=some (.string i)∧w'.cell? ⟨w2.heap.size,2,none⟩=some (.string rel)) (go_keep)
   ((go_at_call 58;refine (aa D).mono ?_;rintro e w5 ⟨v,K,rfl,eD,hrun,hown⟩;obtain ⟨pa,pc,rfl⟩:=ak hown;have HRN:=ae hrun;have Qq:=FU (K ⟨k,i,rel⟩) ⟨a,b⟩;change (dw (K ⟨k,i,rel⟩) [⟨a,b⟩] [(⟨a,b⟩:Tg)].length).length=_ at Qq;generalize (dw (K ⟨k,i,rel⟩) [⟨a,b⟩] [(⟨a,b⟩:Tg)].length).length=pn at*;have HPN:=ae Qq;have B5:=ae ((aa B4').trans (eD.mono (aa B4').size));have f0:=af (af v1 (aa mG)) eD;have f1:=af (af v2 (aa mG)) eD;have f2:=af (af x0 (aa mG)) eD;have f3:=af (af x1 (aa mG)) eD;have f4:=af (af y0 (aa mG)) eD;have f5:=af (af y1 (aa mG)) eD;have f6:=af (af y2 (aa mG)) eD;clear eD hown hrun Qq))
  have OP:=ae (show jv ⟨a,b⟩ (dn gs) ((bH ts).map (List.map JE)) (fun _=>false) (fun s=>(K s).testBit 0) from by
   have:=JF (i:=0) (who:=⟨a,b⟩) (by simp) rfl (aa GI) (aa HRN)
   simpa using this)
  clear f0 f1 f2 f3 f4 f5 f6 HRN
  cases nU:(K ⟨k,i,rel⟩).testBit 0
  ·obtain rfl:pn=0:=by rw [aa HPN,nU];rfl
   go_wp2;go_ret2;refine ⟨_,?_,aa B5,aa OP⟩
   show _=Ending.returned (.tuple #[.bool ((K ⟨k,i,rel⟩).testBit 0),.int .i64 0])
   rw [nU]
   rfl
  ·obtain rfl:pn=1:=by rw [aa HPN,nU];rfl
   go_wp2;go_ret2;refine ⟨_,?_,aa B5,aa OP⟩
   show _=Ending.returned (.tuple #[.bool ((K ⟨k,i,rel⟩).testBit 0),.int .i64 0])
   rw [nU]
   rfl)
