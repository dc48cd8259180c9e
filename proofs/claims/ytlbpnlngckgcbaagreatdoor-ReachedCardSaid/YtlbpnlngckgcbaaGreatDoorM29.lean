import Derived.Test.YtlbpnlngckgcbaaGreatDoorM28
set_option linter.all false
set_option maxHeartbeats 4000000
set_option maxRecDepth 100000
namespace Go.Proofs.YtlbpnlngckgcbaaGreatDoor
open Go.RowKit Go.PlainAid
theorem aS.then {S:Nat→Prop} {x y z:World} (h:aS S x y) (k:Below x.heap.size y z):aS S x z:=⟨k.os.trans h.os,k.tape.trans h.tape,k.output.trans h.output,Nat.le_trans h.size k.size,fun i hi hs=>(k.block i hi).trans (h.block i hi hs)⟩
theorem GL:Q5 NC:=by
 intro b sv ts tl w h;obtain ⟨i0,hi0,hz0,hz1,hz2⟩:=info_parts Tryz.infoLn;obtain ⟨i1,hi1,hy0,hy1,hy2⟩:=info_parts Tryz.infoLns;obtain ⟨ma,mn,mc,rfl⟩:=h.form;obtain ⟨fo,hF⟩:=zW h;have b0:Below w.heap.size w (((w.alloc (.cells #[.slice ma mn mc] 75)).alloc (.cells #[.slice none 0 0] 114)).alloc (.cells #[.slice none 0 0] 114)):=(((Below.refl _ w).alloc RH _).alloc (by simp) _).alloc (by simp;omega) _;have bR:ag (((w.alloc (.cells #[.slice ma mn mc] 75)).alloc (.cells #[.slice none 0 0] 114)).alloc (.cells #[.slice none 0 0] 114)) (w.heap.size+1) #[.slice none 0 0] 114:=(ag.new' (w.alloc (.cells #[.slice ma mn mc] 75)) _ _ (w.heap.size+1) (by simp)).alloc _;have bA:ag (((w.alloc (.cells #[.slice ma mn mc] 75)).alloc (.cells #[.slice none 0 0] 114)).alloc (.cells #[.slice none 0 0] 114)) (w.heap.size+2) #[.slice none 0 0] 114:=ag.new' _ _ _ _ (by simp);have C1:=ae (DZ b _ ts tl _ (h.below b0) fo (fun p hp=>(hF p hp).below b0));have HIT:=ae (show ∀x∈ng fo tl,ay b w x.2.1.body x.2.2∧(aj x.2.1.body).length≤1000 from fun x hx=>by
  obtain ⟨_,rl,hrc,hin⟩:=vz hF x hx;exact ⟨hrc.ex _ hin,hrc.okp _ (by rw [←hrc.fst];exact List.mem_map.2 ⟨_,hin,rfl⟩)⟩)
 have HGR:=ae (Eb hF h.fst);have CO:=ae (show (ng fo tl).length≤1000000 from by
  have h2:(ng fo tl).length≤tl.length*1000:=fH _ 1000 tl (fun p hp=>by have:=(hF p hp).llen;simpa using this);have h3:tl.length≤1000:=by have:=h.llen;simpa using this
  omega)
 have MO:=ae b0;have HBR:=ae bR;have rM:=ae bA;generalize Ql:ng fo tl=L at*;clear h hF b0 bR bA Ql;go_enter Tryz.func59,Tryz.ntmps59;go_wp2_with fail;refine (aa C1).mono ?_;rintro e w1 ⟨v1,ps,rfl,hb1,hst,Pw,hlen,hin⟩;obtain ⟨sa,sc,rfl⟩:=ak hst.row;have B1:=ae ((aa MO).trans (hb1.mono (aa MO).size));have R1:=ae ((aa HBR).below hb1);have A1:=ae ((aa rM).below hb1);have HST:=ae hst;have Px:=ae Pw;have Qm:=ae hin;have hA1:=(aa A1).lt;clear hb1 hst Pw hin C1 MO HBR rM;go_wp2_with fail
 go_loopw [12] (fun u wr=>∃(j:Nat) (lv:Value) (qs:List (Value×List (It×Value))),j≤ps.length∧u=.int .i64 j∧aS (fun k=>k=w.heap.size+2) w1 wr∧ag wr (w.heap.size+2) #[lv] 114∧Av w1.heap.size wr lv qs∧Hid (qs.map (fun q=>q.2.map Prod.fst)=(ps.take j).map Prod.snd)) (fun u _=>ps.length-(intOf u).toNat)
 case atStart=>exact ⟨0,.slice none 0 0,[],by omega,rfl,aS.refl _ _,aa A1,⟨World.ownsRow_nil _ _ _ _,fun _ h=>by cases h⟩,ae (by simp)⟩
 case round=>
  obtain ⟨j,lv,qs,hj,rfl,oL,hblk,sG,HQ⟩:=hrel;obtain ⟨WO,hWO⟩:∃WO,WO=wr:=⟨_,rfl⟩;subst hWO;obtain ⟨la,lc,rfl⟩:=ak sG.row;have hsw:=oL.size;have hqs:qs.length≤j∧j≤qs.length:=by have:=congrArg List.length (aa HQ);simp at this;omega
  by_cases vg:j<ps.length
  ·have hjn:(j:Int)<(ps.length:Int):=by omega
   have D5:=(aa HST).frame (fun g cs T f hh ht=>oL.block g (lt_of_some hh) (fun e=>by
    have:=aa A1;subst e;unfold ag at this;rw [this] at hh
    cases hh
    exact absurd ht (by decide)))
   obtain ⟨g,c,e1,k0⟩:=aQ D5.row j _ (by rw [List.getElem?_map,RI vg];rfl);simp only [Value.slice.injEq,true_and] at e1;obtain ⟨rfl,rfl⟩:=e1;have sK:=D5.inn _ (List.getElem_mem vg);have AL:=ae (show (ps.take (j+1)).map Prod.snd=(ps.take j).map Prod.snd++[ps[j].2] from by rw [List.take_succ_eq_append_getElem vg,List.map_append];rfl);have HPI:=ae (show ∀x∈ps[j].2,x∈L from fun x hx=>yo (by rw [←aa Px];exact List.mem_map.2 ⟨_,List.getElem_mem vg,rfl⟩) hx);have hpl:=aa Qm _ (List.getElem_mem vg);generalize ps[j]=p at*;obtain ⟨pv,pl⟩:=p;simp only at k0 sK hpl AL HPI;obtain ⟨pa,pc,rfl⟩:=ak sK;have hpl':pl.length≤1000000:=by have:=aa CO;omega
   have JG:=ae sK;have HBUT:=ae oL;have HBLK:=ae hblk;have HLN:=ae sG;have BWO:=ae ((aa B1).trans (oL.below (B:=w.heap.size) (by have:=(aa B1).size;omega) (fun g e=>by omega)));clear D5 sK oL hblk sG hpl;go_wp2_with fail
   go_loopw [6,18] (fun u6 u18 wi=>∃(k:Nat) (ls:List (It×Value)),k≤pl.length∧u18=.int .i64 k∧Below WO.heap.size WO wi∧wu WO.heap.size wi u6 ls∧Hid (ls.map Prod.fst=pl.take k)) (fun _ u18 _=>pl.length-(intOf u18).toNat)
   case atStart=>exact ⟨0,[],by omega,rfl,Below.refl _ _,⟨World.ownsRow_nil _ _ _ _,fun _ h=>by cases h⟩,ae (by simp)⟩
   case round=>
    obtain ⟨k,ls,hk,rfl,CR,hg,HL⟩:=hrel;obtain ⟨ga,gc,rfl⟩:=ak hg.row;have hls:ls.length≤k∧k≤ls.length:=by have:=congrArg List.length (aa HL);simp at this;omega
    have D5:=CR.size;have Ot:=ae CR;have HG:=ae hg
    by_cases Ar:k<pl.length
    ·have hkn:(k:Int)<(pl.length:Int):=by omega
     obtain ⟨g',c',e2,hc⟩:=aU EN 4 (fun _=>rfl) (aF (aa JG) CR) k pl[k] (RI Ar);simp only [Value.slice.injEq,true_and] at e2;obtain ⟨rfl,rfl⟩:=e2;have HTK2:=ae (show pl.take (k+1)=pl.take k++[pl[k]] from List.take_succ_eq_append_getElem Ar);obtain ⟨bi,Rt⟩:=aa HIT _ (aa HPI _ (List.getElem_mem Ar));generalize pl[k]=x at*;obtain ⟨⟨t,tv⟩,⟨r,bv⟩⟩:=x;obtain ⟨ra,rv,tN⟩:=bi.isI;simp only at tN bi Rt;subst tN;have k1:wr.cell? ⟨g',k*4,none⟩=some (.string t.name):=hc 0 _ (by omega) rfl;have k2:wr.cell? ⟨g',k*4+1,none⟩=some (.int .i64 r.place):=hc 1 _ (by omega) rfl;have k3:wr.cell? ⟨g',k*4+2,none⟩=some (.string r.name):=hc 2 _ (by omega) rfl;have k4:wr.cell? ⟨g',k*4+3,none⟩=some (.iface ra rv):=hc 3 _ (by omega) rfl;have bb:=(Below.refl wr.heap.size wr).alloc RH (.cells #[.string t.name,.int .i64 r.place,.string r.name,.iface ra rv] 198);have CL:=ae (Ap b t.name r.name r.place r.body (.iface ra rv) _ (bi.but (But.of_below ((aa BWO).trans ((CR.trans (bb.mono D5)).mono (aa BWO).size)))) Rt);have Qf:=ae bb;clear hc bi Rt bb CR hg;go_wp2_with fail;refine (aa CL).mono ?_;rintro e w2 ⟨iv,rfl,hb2,hins⟩;have HINS:=ae hins;obtain ⟨il,hil⟩:∃il,il=(eF r.name r.body).length:=⟨_,rfl⟩;rw [←hil] at hins;obtain ⟨ia,ic,rfl⟩:=ak hins;have b2:=(aa Qf).trans (hb2.mono (aa Qf).size);have B2:=ae ((aa Ot).trans (b2.mono D5));have G2:=ae ((aa HG).below b2);have hs2:=(aa B2).size;have hs3:WO.heap.size≤(wr.alloc (.cells #[.string t.name,.int .i64 r.place,.string r.name,.iface ra rv] 198)).heap.size:=by simp;omega
     clear hins hil b2 CL k1 k2 k3 k4 hb2;go_wp2_with (at_builtin;go_must (refine wpList_append_lies _ rfl _ _ 190 rfl WO.heap.size 201 i0 _ 3 56 Tryz.underlying190 hi0 hz0 hz1 hz2 rfl (by decide) (.slice ga ls.length gc) ls.length (ls.flatMap Pg) rfl ?hown ⟨w2.heap.size,0,none⟩ 1 1 [.string t.name,.string r.name,.slice ia il ic] rfl rfl ?hnews ?hone (by decide) ?h63 ?hbytes ?hbase (w2.heap.size+1) ?hH ?hrest))
     case hown=>exact (aa G2).row.alloc _
     case hnews=>exact World.news_of_block (B:=w2.heap.size) (cs:=#[.string t.name,.string r.name,.slice ia il ic]) (t:=201) (fr:=(0,0)) (ag.new _ _ _)
     case hone=>
      intro u hu;simp at hu
      rcases hu with rfl|rfl|rfl<;>rfl
     case h63=>unfold maxLen;omega
     case hbytes=>omega
     case hbase=>simp;omega
     case hH=>simp
     case hrest=>
      intro g5 bu w5 aJ au bI jk;have b3:=(Below.refl w2.heap.size w2).alloc RH (.cells #[.string t.name,.string r.name,.slice ia il ic] 201);have G3:=(aa G2).below b3;have nG:=ae (G3.push (x:=((t,tv),(r,.iface ra rv))) au aJ (aA (aF (aa HINS) b3) hs3));have Qn:=ae (Below.grown ((aa B2).trans (b3.mono hs2)) au (by simp;omega) (fun q hq=>(G3.row.lt q hq).1));clear b3 G3 aJ au bI;go_wp2;go_roundw
      case rel=>exact ⟨k+1,_,by omega,by go_num,aa Qn,aa nG,by
       have h1:=aa HL;have h2:=aa HTK2;exact ae (by rw [List.map_append,h1,h2];rfl)⟩
      case measure=>simp [intOf];omega
    ·have hkn:¬((k:Int)<(pl.length:Int)):=by omega
     have hblk:=(aa HBLK).below CR;have a0:wr.cell? ⟨w.heap.size+2,0,none⟩=some (.slice la qs.length lc):=hblk.cell rfl;have az:=hblk.fz;have Dv:=ae hblk;have Py:=ae ((aa HLN).below CR);have hll:ls.length≤1000000:=by omega
     clear hblk CR hg;go_wp2_with (at_builtin;go_must (refine wpList_append_lies _ rfl _ _ 112 rfl w1.heap.size 190 i1 _ 1 24 Tryz.underlying112 hi1 hy0 hy1 hy2 rfl (by decide) (.slice la qs.length lc) qs.length (qs.map Prod.fst) rfl ?hown2 ⟨wr.heap.size,0,none⟩ 1 1 [.slice ga ls.length gc] rfl rfl ?GM ?GN (by decide) ?M5 ?vQ ?AP (wr.heap.size+1) ?hH2 ?AQ))
     case hown2=>exact (aa Py).row.alloc _
     case GN=>first|rfl|(intro u hu;simp at hu;subst hu;rfl)
     case M5=>first|omega|(unfold maxLen;omega)
     case vQ=>omega
     case AP=>first|omega|(simp;omega)
     case AQ=>
      intro g5 bu w5 aJ au bI jk;have b3:=(Below.refl wr.heap.size wr).alloc RH (.cells #[.slice ga ls.length gc] 190);have L3:=(aa Py).below b3;have KA:=(aa Dv).below b3;have K5:ag w5 (w.heap.size+2) _ 114:=(au.block _ KA.lt (own_ne L3.row KA (by decide))).trans KA;have q0:=K5.cell (o:=0) rfl;have qz:=K5.fz;have L5:=L3.push au aJ (((aa HG).below b3).lower hsw);have Qn:=Below.grown (((aa Ot).mono hsw).trans (b3.mono (by omega))) au (by simp;omega) (fun q hq=>(L3.row.lt q hq).1);have HBN:=ae ((aS.then (aa HBUT) Qn).set (show (fun k=>k=w.heap.size+2) (⟨w.heap.size+2,0,none⟩:Addr).block from rfl) (.slice (some ⟨g5,0,none⟩) (qs.length+1) bu));have Ro:=ae (K5.set 0 (.slice (some ⟨g5,0,none⟩) (qs.length+1) bu));have Qj:=ae (L5.frame (ME K5 (by unfold LT;decide) 0 (.slice (some ⟨g5,0,none⟩) (qs.length+1) bu)));clear b3 L3 KA K5 L5 Qn aJ au bI a0 az;go_wp2;go_roundw
      case rel=>exact ⟨j+1,_,_,by omega,by go_num,aa HBN,aa Ro,aa Qj,by
       have h1:=aa HQ;have h2:=aa AL;have h3:=aa HL;rw [List.take_of_length_le (by omega)] at h3;exact ae (by rw [List.map_append,h1,h2];simp [h3])⟩
      case measure=>simp [intOf];omega
  ·have hjn:¬((j:Int)<(ps.length:Int)):=by omega
   have a0:WO.cell? ⟨w.heap.size+2,0,none⟩=some (.slice la qs.length lc):=hblk.cell rfl;have Qo:=oL.blk (aa R1) (by omega);have r0:WO.cell? ⟨w.heap.size+1,0,none⟩=some (.slice none 0 0):=Qo.cell rfl;have rz:=Qo.fz;have HR:=ae Qo;have HB:=ae ((aa B1).trans (oL.below (B:=w.heap.size) (by have:=(aa B1).size;omega) (fun g e=>by omega)));have Qj:=ae sG;clear Qo oL hblk sG;go_wp2_with fail;refine bodyPost_ret (v:=.agg #[.slice la qs.length lc]) (KH Tryz.results59 _ _ (w.heap.size+1) _ 114 _ rfl ?hB Tryz.underlying114 rfl (by kernel_rfl)) rfl ?post
   case hB=>exact ⟨_,(aa HR).set 0 _,by rfl⟩
   case post=>
    rw [List.take_of_length_le (by omega)] at HQ;have hq:=aa HQ;refine ⟨_,_,_,rfl,(aa HB).setCell (p:=⟨w.heap.size+1,0,none⟩) (by simp) _,qs,((aa Qj).frame (ME (aa HR) (by unfold LT;decide) 0 _)).lower (Nat.zero_le _),?_,by omega,fun q hq'=> ?_⟩
    ·have h1:=congrArg (List.map (List.map Gm)) hq;rw [aa Px,aa HGR] at h1;rw [←h1,List.map_map];simp
    ·have h1:q.2.map Prod.fst∈ps.map Prod.snd:=by rw [←hq];exact List.mem_map.2 ⟨q,hq',rfl⟩
     obtain ⟨p,hp,e⟩:=List.mem_map.1 h1;have h2:=aa Qm p hp;have h3:=congrArg List.length e;rw [List.length_map] at h3;have h4:=aa CO;omega
def M6 (LX:List Ty→Value→World→Prop) (ts:List Ty) (w:World) (e:Ending) (w':World):Prop:=∃mv lv bm tl b,e=.returned (.tuple #[.pointer (some ⟨b,0,none⟩),.int .i64 0])∧PU w' b mv lv (.slice none 0 0) []∧MC bm w' mv ts tl∧LX ts lv w'∧Below w.heap.size w w'∧w.heap.size≤b
theorem JQ (LX:List Ty→Value→World→Prop) (hO:Q5 LX) (Pf:Mw LX) (s:RJ) (w:World) (ts:List Ty) (hr:lM s=.ok ts) (hg:Laid w):
  Calls Tryz.prog 50 #[.string s] w (M6 LX ts w):=by
 have hl:=hg.lt;have B0:=ae ((Below.refl w.heap.size w).alloc RH (.cells #[.slice none 0 0,.slice none 0 0,.slice none 0 0] 117));have C:=ae (yj LX hO Pf w.heap.size s _ _ _ _ (ag.new w #[.slice none 0 0,.slice none 0 0,.slice none 0 0] 117) ts hr (hg.below (aa B0) hl));clear hr hg hO Pf;go_enter Tryz.func50,Tryz.ntmps50;go_wp2_with fail;refine (aa C).mono ?_;rintro e w2 ⟨mv,lv,bm,tl,rfl,hu,hm,hx,hb⟩;have HU:=ae hu;have HM:=ae hm;have HX:=ae hx;have HB:=ae hb;clear hu hm hx hb C;go_wp2;go_ret2;exact ⟨mv,lv,bm,tl,w.heap.size,rfl,aa HU,aa HM,aa HX,(aa B0).trans ((aa HB).below (aa B0).size (fun g e=>by omega)),Nat.le_refl _⟩
section
variable {w w':World} {b:Nat} {kv rv pv:Value} {kl:List (RJ×Nat)}
end
section
variable (T:Nat→RJ) (P:Nat→Nat)
end
section
variable (T:Nat→RJ) (P:Nat→Nat)
end
section
variable {ts:List Ty} {F:Nat}
end
section
variable {ts:List Ty} {F:Nat}
end
section
variable {ts:List Ty} {F:Nat}
end
section
variable (T:Nat→RJ) (P:Nat→Nat)
end
theorem AR (k i:RJ) (w:World) (hz:k.size+i.size≤1000):
  Calls Tryz.prog 66 #[.agg #[.string k,.string i]] w fun e w'=>e=.returned (.string ((k++sg 58)++i))∧Below w.heap.size w w':=by
 have B0:=ae (Below.refl w.heap.size w);go_enter Tryz.func66,Tryz.ntmps66;go_wp2;go_ret;exact ⟨rfl,(by with_reducible repeat (first|exact aa B0|refine Below.drew ?_|(refine Below.setCell ?_ ?_ _;rotate_left;exact (by first|omega|(simp;omega)|simp))|(refine Below.alloc ?_ ?_ _;rotate_left;exact (by first|omega|(simp;omega)|simp))))⟩
section
variable {ts:List Ty} {F:Nat}
end
section
variable (T:Nat→RJ) (P:Nat→Nat)
end
section
variable {ts:List Ty} {F:Nat}
end
section
variable {ts:List Ty} {F:Nat}
end
theorem Pz:CY:=by
 intro s c w hs ⟨m,hm⟩;refine (Any.strings_Cut Tryz.lays145 s (mk [c]) m w (by omega) hm).mono ?_;rintro e w' ⟨rfl,n,rfl⟩;refine ⟨?_,⟨rfl,rfl,rfl,Nat.le_refl _,fun _ _=>rfl⟩⟩;have e:=Jb s.data.toList c;rw [show (mk [c]).data.toList=[c] from by simp [mk],e]
 rfl
structure UQ (w:World) (x:Nat) (mv lv gv:Value) (ts:List Ty) (gs:List Tu):Prop where
 p:PU w x mv lv gv gs
 m:∃bm tl,MC bm w mv ts tl
 l:NC ts lv w
def MQ (T:TypeId):Prop:=(T=207∨T=159∨T=110)∨LT T
theorem Et {w:World} {base:Nat} {e:TypeId} {size:Nat} {v:Value} {n:Nat} {xs:List Value} (h:w.ownsRow base e size v n xs) {k:Nat} (hk:v.ownBlock=some k):∃m c,v=.slice (some ⟨k,0,none⟩) m c:=by
 rcases h.2 with ⟨rfl,_⟩|⟨g,cap,cur,rfl,_⟩
 ·cases hk
 ·simp only [Value.ownBlock,Option.some.injEq] at hk;subst hk;exact ⟨_,_,rfl⟩
section
variable {w w':World} {x:Nat} {mv lv gv:Value} {ts:List Ty} {gs:List Tu}
theorem UQ.ty (h:UQ w x mv lv gv ts gs) {k:Nat} (hk:FM x gv k):∃cs T,ag w k cs T∧(T=117∨T=123):=by
 rcases hk with rfl|⟨n,c,e⟩
 ·exact ⟨_,_,h.p.blk,.inl rfl⟩
 ·have hr:=h.p.row;rw [e] at hr;obtain ⟨cur,hb,_⟩:=dS hr;exact ⟨_,_,hb,.inr rfl⟩
theorem UQ.nty (h:UQ w x mv lv gv ts gs) {k:Nat} {cs:Array Value} {T:TypeId} {f:Nat×Nat} (hk:FM x gv k) (hh:w.heap[k]? =some (.cells cs T f)):¬MQ T:=by
 obtain ⟨cs',T',hb,ht⟩:=h.ty hk;unfold ag at hb;rw [hb] at hh
 cases hh
 rcases ht with rfl|rfl<;>(unfold MQ LT;decide)
theorem UQ.keep {S:Nat→Prop} (h:UQ w x mv lv gv ts gs) (k:aS S w w') (hS:∀k,FM x gv k→¬S k) (hT:∀(k:Nat) (cs:Array Value) (T:TypeId) (f:Nat×Nat),S k→w.heap[k]? =some (Obj.cells cs T f)→¬MQ T):UQ w' x mv lv gv ts gs where
 p:=⟨k.blk h.p.blk (hS _ (.inl rfl)),dU h.p.row (fun g cs f hg hh=>k.block g (lt_of_some hh) (hS g (.inr (Et h.p.row hg)))),h.p.apart,h.p.most⟩
 m:=by
  obtain ⟨bm,tl,hm⟩:=h.m;exact ⟨bm,tl,hm.kt (fun g cs T f hh ht=>k.block g (lt_of_some hh) (fun hs=>hT g cs T f hs hh (.inl ht))) k.size⟩
 l:=by
  obtain ⟨qs,h1,h2⟩:=h.l;exact ⟨qs,h1.frame (fun g cs T f hh ht=>k.block g (lt_of_some hh) (fun hs=>hT g cs T f hs hh (.inr ht))),h2⟩
theorem UQ.below (h:UQ w x mv lv gv ts gs) (k:Below w.heap.size w w'):UQ w' x mv lv gv ts gs:=h.keep (S:=fun _=>False) (.of_below k) (fun _ _ e=>e) (fun _ _ _ _ e=>e.elim)
def JR (w:World) (x:Nat) (gv:Value) (c:Nat) (ts:List Ty) (gs:List Tu) (e:Ending) (w':World):Prop:=∃mv lv L8,e=.returned (.int .i64 c)∧UQ w' x mv lv L8 ts gs∧aS (FM x gv) w w'∧∀k,FM x L8 k→FM x gv k∨w.heap.size≤k
theorem JS {r:Nat×List Tu} {e:Ending} (hu:UQ w x mv lv gv ts gs) (h:jS x mv lv gv w r e w'):JR w x gv r.1 ts r.2 e w':=by
 obtain ⟨L8,he,hp,hb,hf⟩:=h;refine ⟨_,_,L8,he,⟨hp,?_,?_⟩,hb,hf⟩
 ·obtain ⟨bm,tl,hm⟩:=hu.m;exact ⟨bm,tl,hm.kt (fun g cs T f hh ht=>hb.block g (lt_of_some hh) (fun hs=>hu.nty hs hh (.inl ht))) hb.size⟩
 ·obtain ⟨qs,h1,h2⟩:=hu.l;exact ⟨qs,h1.frame (fun g cs T f hh ht=>hb.block g (lt_of_some hh) (fun hs=>hu.nty hs hh (.inr ht))),h2⟩
theorem M7 (hu:UQ w x mv lv gv ts gs) (s:RJ) (hm:ow w) (h1:1<w.heap.size) (hg:Laid w) (OT:gs.length<1000):
  Calls Tryz.prog 28 #[.pointer (some ⟨x,0,none⟩),.string s] w (JR w x gv (Nv ts gs s).1 ts (Nv ts gs s).2):=by
 obtain ⟨bm,tl,xw⟩:=hu.m;exact (Ak Pz x bm s w _ _ _ _ ts tl hu.p xw hm h1 hg OT).mono fun e w' h=>JS hu h
theorem qload (hu:UQ w x mv lv gv ts gs) (s:RJ) (ts':List Ty) (hr:lM s=.ok ts') (hg:Laid w):
  Calls Tryz.prog 27 #[.pointer (some ⟨x,0,none⟩),.string s] w (JR w x gv 0 ts' []):=
 (yj NC GL vI x s w _ _ _ hu.p.blk ts' hr hg).mono fun e w' ⟨mv,lv,bm,tl,he,hp,xw,hlx,hb⟩=>
  ⟨mv,lv,_,he,⟨hp,⟨bm,tl,xw⟩,hlx⟩,hb.mono (fun k e=> .inl e),fun k hk=>by
   rcases hk with e|⟨n,c,e⟩
   ·exact .inl (.inl e)
   ·cases e⟩
def QNew (ts:List Ty) (w:World) (e:Ending) (w':World):Prop:=∃mv lv b,e=.returned (.tuple #[.pointer (some ⟨b,0,none⟩),.int .i64 0])∧UQ w' b mv lv (.slice none 0 0) ts []∧Below w.heap.size w w'∧w.heap.size≤b
theorem qnew (s:RJ) (ts:List Ty) (hr:lM s=.ok ts) (hg:Laid w):Calls Tryz.prog 50 #[.string s] w (QNew ts w):=
 (JQ NC GL vI s w ts hr hg).mono fun e w' ⟨mv,lv,bm,tl,b,he,hp,xw,hlx,hb,hl⟩=>⟨mv,lv,b,he,⟨hp,⟨bm,tl,xw⟩,hlx⟩,hb,hl⟩
end
theorem GQ (x bm:Nat) (mv lv gv:Value) (ts:List Ty) (gs:List Tu) (tl:List (Ty×Value)) (w:World) (h:PU w x mv lv gv gs) (hM:MC bm w mv ts tl) (th rel:RJ) (hs:th.size≤1000) (PD:dR th=true) (hrs:rel.size≤maxLen) (hrf:dG rel=true) (t:Ty) (hf:cu ts (ax th 58).1=some t) (r:Rl) (hq:aW t rel=some r) (hm:ow w) (hw:1<w.heap.size):
  Calls Tryz.prog 56 #[.pointer (some ⟨x,0,none⟩),.string th,.string rel] w fun e w'=>e=.returned (.tuple #[.agg #[.string (ax th 58).1,.string (ax th 58).2.1,.string rel],.int .i64 0])∧Below w.heap.size w w':=by
 have b0:Below w.heap.size w (w.alloc (.cells #[.string ⟨#[]⟩,.string ⟨#[]⟩,.string ⟨#[]⟩] 102)):=(Below.refl _ w).alloc RH _;have C1:=ae (jm Pz th _ hs (hm.below b0 hw) (by simp;omega));rw [PD] at C1;have R0:=ae (ag.new w #[.string ⟨#[]⟩,.string ⟨#[]⟩,.string ⟨#[]⟩] 102);have B0:=ae b0;obtain ⟨ma,mn,mc,rfl⟩:=hM.form;have CF:=ae (show ∀w',Below w.heap.size w w'→Calls Tryz.prog 94 #[.agg #[.slice ma mn mc],.string (ax th 58).1,.string rel] w' fun e w''=>∃va vn vc ra rv,e=.returned (.tuple #[.agg #[.int .i64 t.place,.string t.name,.slice va vn vc],.agg #[.int .i64 r.place,.string r.name,.iface ra rv],.nilIface])∧Below w'.heap.size w' w'' from fun w' k=>by
  obtain ⟨va,vn,vc,rl,ra,rv,_,_,_,D⟩:=oq bm _ ts tl (ax th 58).1 rel w' (hM.below k) t hf r hq;exact D.mono fun e w'' h=>⟨va,vn,vc,ra,rv,h⟩)
 have CW:=ae (fun w=>jA rel w hrs);have H:=ae h;rw [hrf] at CW;generalize ax th 58=X at*;obtain ⟨a,b,ok⟩:=X;simp only at C1 CF ⊢;have hxl:=h.blk.lt;clear b0 hm hw hs PD hrs hrf hf hq hM h;go_enter Tryz.func56,Tryz.ntmps56;go_wp2_with fail;refine (aa C1).mono ?_;rintro e w1 ⟨rfl,hb1⟩;have b1:=hb1.alloc hb1.size (.cells #[.string a,.string b] 98);have B1:=ae ((aa B0).trans (b1.mono (aa B0).size));have R1:=ae ((aa R0).below b1);have T1:=ae (ag.new w1 #[.string a,.string b] 98);have n1:¬(w1.heap.size=w.heap.size):=by have:=((aa R0).below hb1).lt;omega
 have n2:¬(w.heap.size=w1.heap.size):=by omega
 clear b1 hb1 C1 B0 R0;go_wp2_with fail;refine (aa CW _).mono ?_;rintro e w2 ⟨rfl,rfl⟩;generalize hWW:w1.alloc (.cells #[.string a,.string b] 98)=W at*;have BR:=ae (Below.refl W.heap.size W);have U:=(aa H).blk.below (aa B1);obtain ⟨u0,u1,u2⟩:=three U;have t0:W.cell? ⟨w1.heap.size,0,none⟩=some (.string a):=(aa T1).cell rfl;have t1:W.cell? ⟨w1.heap.size,1,none⟩=some (.string b):=(aa T1).cell rfl;go_wp2_with fail;have l1:=(aa B1).size;have lt1:=(aa T1).lt;have lr1:=(aa R1).lt;have nx:¬(x=W.heap.size):=by have:=U.lt;omega
 have nt:¬(w1.heap.size=W.heap.size):=by omega
 have nr:¬(w.heap.size=W.heap.size):=by omega
 clear U
 go_region_held3 (fun w'=>w'.cell? ⟨x,0,none⟩=some (.slice ma mn mc)∧w'.cell? ⟨w1.heap.size,0,none⟩=some (.string a)) ((first|go_keep|refine ⟨af u0 ?_,af t0 ?_⟩<;>(with_reducible repeat (first|exact aa BB|exact aa BR|refine Below.drew ?_|(refine Below.setCell ?_ ?_ _;rotate_left;exact (by first|omega|(simp;omega)|simp))|(refine Below.alloc ?_ ?_ _;rotate_left;exact (by first|omega|(simp;omega)|simp))))))
  ((go_at_call 94;refine (aa CF _ (show Below w.heap.size w _ from (by with_reducible repeat (first|exact aa B1|refine Below.drew ?_|(refine Below.setCell ?_ ?_ _;rotate_left;exact (by first|omega|(simp;omega)|simp))|(refine Below.alloc ?_ ?_ _;rotate_left;exact (by first|omega|(simp;omega)|simp)))))).mono ?_;rintro e w3 ⟨va,vn,vc,ra,rv,rfl,hb3⟩;have BB:=ae (Below.trans (a:=W) (B:=W.heap.size) (show Below W.heap.size W _ from (by with_reducible repeat (first|exact aa BR|refine Below.drew ?_|(refine Below.setCell ?_ ?_ _;rotate_left;exact (by first|omega|(simp;omega)|simp))|(refine Below.alloc ?_ ?_ _;rotate_left;exact (by first|omega|(simp;omega)|simp))))) (hb3.mono (by first|omega|(simp;omega)|simp)));have d0:=af u0 (aa BB);have d1:=af t0 (aa BB);(first|(have z1:=(ag.new W #[.int .i64 0,.string ⟨#[]⟩,.slice none 0 0] 110).drew.below hb3;obtain ⟨e10,e11,e12⟩:=three z1;have ez1:=z1.fz;have el1:=z1.lt;clear z1)|(have z2:=(ag.new W #[.int .i64 0,.string ⟨#[]⟩,.nilIface] 159).drew.below hb3;obtain ⟨e20,e21,e22⟩:=three z2;have ez2:=z2.fz;have el2:=z2.lt;clear z2)|(have z1:=((ag.new W #[.int .i64 0,.string ⟨#[]⟩,.slice none 0 0] 110).alloc (.cells #[.int .i64 0,.string ⟨#[]⟩,.nilIface] 159)).drew.below hb3;have z2:=(ag.new' (W.alloc (.cells #[.int .i64 0,.string ⟨#[]⟩,.slice none 0 0] 110)) #[.int .i64 0,.string ⟨#[]⟩,.nilIface] 159 (W.heap.size+1) (by simp)).drew.below hb3;obtain ⟨e10,e11,e12⟩:=three z1;have ez1:=z1.fz;have el1:=z1.lt;obtain ⟨e20,e21,e22⟩:=three z2;have ez2:=z2.fz;have el2:=z2.lt;clear z1 z2)|(have z2:=((ag.new W #[.int .i64 0,.string ⟨#[]⟩,.nilIface] 159).alloc (.cells #[.int .i64 0,.string ⟨#[]⟩,.slice none 0 0] 110)).drew.below hb3;have z1:=(ag.new' (W.alloc (.cells #[.int .i64 0,.string ⟨#[]⟩,.nilIface] 159)) #[.int .i64 0,.string ⟨#[]⟩,.slice none 0 0] 110 (W.heap.size+1) (by simp)).drew.below hb3;obtain ⟨e10,e11,e12⟩:=three z1;have ez1:=z1.fz;have el1:=z1.lt;obtain ⟨e20,e21,e22⟩:=three z2;have ez2:=z2.fz;have el2:=z2.lt;clear z1 z2)|skip);have bz:=(aa BB).size;clear hb3))
 all_goals (
  go_wp2_with fail;refine (ru _).mono ?_;rintro e w4 ⟨rfl,hb4⟩;have BX:=Below.trans (a:=W) (B:=W.heap.size) (show Below W.heap.size W _ from (by with_reducible repeat (first|exact aa BB|refine Below.drew ?_|(refine Below.setCell ?_ ?_ _;rotate_left;exact (by first|omega|(simp;omega)|simp))|(refine Below.alloc ?_ ?_ _;rotate_left;exact (by first|omega|(simp;omega)|simp))))) (hb4.mono (by first|omega|(simp;omega)));have BF:=ae ((aa B1).trans (BX.mono l1));have t4:=af t0 BX;have t5:=af t1 BX;have R4:=ae ((aa R1).below BX);obtain ⟨r0,r1,r2⟩:=three (aa R4);have rz:=(aa R4).fz;clear hb4 BX;go_wp2;refine bodyPost_ret (v:=.tuple #[.agg #[.string a,.string b,.string rel],.int .i64 0]) (aK Tryz.results56 _ _ w.heap.size _ 102 _ _ rfl rfl ?hB Tryz.underlying102 rfl (by kernel_rfl)) rfl ?post
  case hB=>exact ⟨_,(by with_reducible repeat (first|exact aa R4|apply ag.alloc|apply ag.drew|apply ag.set|(apply ag.other;case ha=>exact (by first|omega|(simp;omega)|simp)))),by rfl⟩
  case post=>exact ⟨rfl,(by with_reducible repeat (first|exact aa BF|refine Below.drew ?_|(refine Below.setCell ?_ ?_ _;rotate_left;exact (by first|omega|(simp;omega)|simp))|(refine Below.alloc ?_ ?_ _;rotate_left;exact (by first|omega|(simp;omega)|simp))))⟩)
structure PuR (ts:List Ty) (gs:List Tu):Prop where
 few:gs.length≤1000
 low:∀t∈gs,t.kind.size≤maxLen∧t.id.size≤maxLen∧lF (ed t)
 ln:∀g∈aT ts,∀x∈g,NF x
 ok:Ef (aT ts) (bF gs)
 sum:((aT ts).map List.length).sum≤1000000
def p8 (t:Tu):List Tg:=[⟨t.kind,t.id⟩,⟨t.sub,t.who⟩]
def gY (t:Ty):Tg:=⟨t.name,⟨#[42]⟩⟩
def aH (ts:List Ty) (gs:List Tu):List Tg:=ts.map gY++gs.flatMap p8
theorem BM (gs:List Tu):(gs.flatMap p8).length=gs.length*2:=by
 induction gs with
 |nil=>rfl
 |cons t gs ih=>rw [List.flatMap_cons,List.length_append,ih];simp [p8];omega
def GR (ts:List Ty) (gs:List Tu) (w:World) (e:Ending) (w':World):Prop:=∃cv,e=.returned cv∧Below w.heap.size w w'∧w'.ownsRow w.heap.size 98 2 cv (aH ts gs).length ((aH ts gs).flatMap sO)
theorem Eu (x:Nat) (mv lv gv:Value) (ts:List Ty) (gs:List Tu) (w:World) (h:UQ w x mv lv gv ts gs):
  Calls Tryz.prog 65 #[.pointer (some ⟨x,0,none⟩)] w (GR ts gs w):=by
 obtain ⟨bm,tl,hM⟩:=h.m;obtain ⟨ma,mn,mc,rfl⟩:=hM.form;obtain ⟨ga,gc,rfl⟩:=ak h.p.row;obtain ⟨i0,hi0,hz0,hz1,hz2⟩:=info_parts Tryz.infoTh;have OO:mn=tl.length:=by
  obtain ⟨a',c',e⟩:=ak hM.row;simp only [Value.slice.injEq,List.length_map] at e;exact e.2.1
 have PE:=hM.fst;have QQ:tl.length≤1000:=by have:=hM.llen;simpa using this
 have hgl:=h.p.most;obtain ⟨c0,c1,c2⟩:=three h.p.blk;subst OO;have HU:=ae h.p;have HM:=ae hM;have HF:=ae PE;clear h hM PE;go_enter Tryz.func65,Tryz.ntmps65;go_wp2_with fail
 go_loopw [3,14] (fun u3 u14 wr=>∃k:Nat,u14=.int .i64 k∧k≤tl.length∧Below w.heap.size w wr∧wr.ownsRow w.heap.size 98 2 u3 k (((tl.take k).map fun p=>gY p.1).flatMap sO)) (fun _ u14 _=>tl.length-(intOf u14).toNat)
 case atStart=>exact ⟨0,rfl,by omega,Below.refl _ _,World.ownsRow_nil _ _ _ _⟩
 case round=>
  obtain ⟨k,rfl,hk,hb,hrow⟩:=hrel;obtain ⟨la,lc,rfl⟩:=ak hrow;have HB:=ae hb;have HR:=ae hrow;have hwr:=hb.size
  by_cases hlt:k<tl.length
  ·have hkn:(k:Int)<(tl.length:Int):=by omega
   obtain ⟨g,c',e1,k0,k1,k2⟩:=((aa HM).below hb).row.cell k (by simpa using hlt);simp only [Value.slice.injEq] at e1;obtain ⟨rfl,OP,rfl⟩:=e1;clear OP;simp only [List.getElem_map,t3] at k0 k1 k2;obtain ⟨rl,hrc⟩:=((aa HM).below hb).rels tl[k] (List.getElem_mem hlt);have AL:=ae (show ((tl.take (k+1)).map fun p=>gY p.1).flatMap sO=((tl.take k).map fun p=>gY p.1).flatMap sO++sO (gY tl[k].1) from by rw [List.take_succ_eq_append_getElem hlt,List.map_append,List.flatMap_append,List.map_cons,List.map_nil,List.flatMap_cons,List.flatMap_nil,List.append_nil]);generalize tl[k]=p at*;obtain ⟨t,tv⟩:=p;simp only at k0 k1 k2 hrc;obtain ⟨va,vn,vc,rfl⟩:=hrc.form;have ba:=(Below.refl wr.heap.size wr).alloc RH (.cells #[.int .i64 t.place,.string t.name,.slice va vn vc] 110);have R1:=ae (aF hrow ba);have B1:=ae (hb.trans (ba.mono hwr));obtain ⟨L,hL⟩:∃L,L=((tl.take k).map fun p=>gY p.1).flatMap sO:=⟨_,rfl⟩;rw [←hL] at R1 AL;clear hb hrow hrc ba hL HR;go_wp2_with (at_builtin;go_must (refine wpList_append_lies _ rfl _ _ 119 rfl w.heap.size 98 i0 _ 2 32 Tryz.underlying119 hi0 hz0 hz1 hz2 rfl (by decide) (.slice la k lc) k L rfl ?hown ⟨wr.heap.size+1,0,none⟩ 1 1 [.string t.name,.string ⟨#[42]⟩] rfl rfl ?hnews ?hone (by decide) ?h63 ?hbytes ?hbase (wr.heap.size+1+1) ?hH ?hrest))
   try (case hown=>exact (aa R1).alloc _)
   try (case hnews=>exact World.news_of_block (B:=wr.heap.size+1) (cs:=#[.string t.name,.string ⟨#[42]⟩]) (t:=98) (fr:=(0,0)) (ag.new' _ _ _ _ (by simp)))
   try (case hone=>first|exact ⟨rfl,rfl⟩|(intro u hu;simp at hu;rcases hu with rfl|rfl<;>rfl))
   try (case h63=>first|omega|(unfold maxLen;omega))
   try (case hbytes=>omega)
   try (case hbase=>first|omega|(simp;omega))
   try (case hH=>simp)
   case hrest=>
    intro g5 bu w5 aJ au bI jk;have fA:=(aa R1).alloc (.cells #[.string t.name,.string ⟨#[42]⟩] 98);have B5:=ae (Below.grown ((aa B1).alloc (aa B1).size (.cells #[.string t.name,.string ⟨#[42]⟩] 98)) au (by simp;omega) (fun k hk=>(fA.lt k hk).1));have O5:=ae aJ;clear fA aJ au bI;go_wp2;go_roundw
    case rel=>exact ⟨k+1,by go_num,by omega,aa B5,by rw [aa AL];exact aa O5⟩
    case measure=>simp [intOf];omega
  ·have hkn:¬((k:Int)<(tl.length:Int)):=by omega
   have bP:=ae (show wr.ownsRow w.heap.size 98 2 (.slice la k lc) (ts.map gY).length ((ts.map gY).flatMap sO) from by
    have e:ts.map gY=(tl.take k).map fun p=>gY p.1:=by
     rw [List.take_of_length_le (by omega),←aa HF,List.map_map]
     rfl
    rw [e,List.length_map,List.length_take,show min k tl.length=k by omega];exact hrow)
   have htk:k=(ts.map gY).length:=by rw [List.length_map,←aa HF,List.length_map];omega
   obtain ⟨d0,d1,d2⟩:=three ((aa HU).below hb).blk;have hsl:k≤1000:=by omega
   have HKT:=ae htk;rw [←htk] at bP;clear hrow hb HR c0 c1 c2 htk;go_wp2_with fail;obtain ⟨W1,hW1⟩:∃x,x=wr:=⟨_,rfl⟩;subst hW1
   go_loopw [3,31] (fun u3 u31 wi=>∃j:Nat,u31=.int .i64 j∧j≤gs.length∧Below w.heap.size w wi∧wi.ownsRow w.heap.size 98 2 u3 (k+j*2) ((ts.map gY++(gs.take j).flatMap p8).flatMap sO)) (fun _ u31 _=>gs.length-(intOf u31).toNat)
   case atStart=>exact ⟨0,rfl,by omega,aa HB,by simpa using aa bP⟩
   case round=>
    obtain ⟨j,rfl,hj,hb,hrow⟩:=hrel;obtain ⟨la,lc,rfl⟩:=ak hrow;have hwi:=hb.size
    by_cases vg:j<gs.length
    ·have hjn:(j:Int)<(gs.length:Int):=by omega
     obtain ⟨g,c',e1,hcl⟩:=aU mH 6 (fun _=>rfl) ((aa HU).below hb).row j gs[j] (RI vg);simp only [Value.slice.injEq,true_and] at e1;obtain ⟨rfl,rfl⟩:=e1;have AL:=ae (show (ts.map gY++(gs.take (j+1)).flatMap p8).flatMap sO=(ts.map gY++(gs.take j).flatMap p8).flatMap sO++(p8 gs[j]).flatMap sO from by rw [List.take_succ_eq_append_getElem vg];simp only [List.flatMap_append,List.flatMap_cons,List.flatMap_nil,List.append_nil,List.append_assoc]);generalize gs[j]=t at*;have k0:wr.cell? ⟨g,j*6,none⟩=some (.string t.kind):=hcl 0 _ (by omega) rfl;have k1:=hcl 1 _ (by omega) rfl;have k2:=hcl 2 _ (by omega) rfl;have k3:=hcl 3 _ (by omega) rfl;have k4:=hcl 4 _ (by omega) rfl;have k5:=hcl 5 _ (by omega) rfl;have ba:=(Below.refl wr.heap.size wr).alloc RH (.cells #[.string t.kind,.string t.id,.string t.rel,.string t.sub,.string t.who,.string t.of] 123);have R1:=ae (aF hrow ba);have B1:=ae (hb.trans (ba.mono hwi));clear hb hrow hcl ba;obtain ⟨nn,hnn⟩:∃n,n=k+j*2:=⟨_,rfl⟩;have Qe:=ae hnn;have hnl:nn≤3000:=by omega
     obtain ⟨L,hL⟩:∃L,L=(ts.map gY++(gs.take j).flatMap p8).flatMap sO:=⟨_,rfl⟩;rw [←hL] at R1 AL;clear hL;rw [←hnn] at R1 ⊢;clear hnn;go_wp2_with (at_builtin;go_must (refine wpList_append_lies _ rfl _ _ 119 rfl w.heap.size 98 i0 _ 2 32 Tryz.underlying119 hi0 hz0 hz1 hz2 rfl (by decide) (.slice la nn lc) nn L rfl ?hown2 ⟨wr.heap.size+1,0,none⟩ 2 2 [.string t.kind,.string t.id,.string t.sub,.string t.who] rfl rfl ?GM ?GN (by decide) ?M5 ?vQ ?AP (wr.heap.size+1+1) ?hH2 ?AQ))
     try (case hown2=>exact (aa R1).alloc _)
     try (case GM=>exact World.news_of_block (B:=wr.heap.size+1) (cs:=#[.string t.kind,.string t.id,.string t.sub,.string t.who]) (t:=98) (fr:=(0,0)) (ag.new' _ _ _ _ (by simp)))
     try (case GN=>first|exact ⟨rfl,rfl,rfl,rfl⟩|(intro u hu;simp at hu;rcases hu with rfl|rfl|rfl|rfl<;>rfl))
     try (case M5=>first|omega|(unfold maxLen;omega))
     try (case vQ=>omega)
     try (case AP=>first|omega|(simp;omega))
     try (case hH2=>simp)
     case AQ=>
      intro g5 bu w5 aJ au bI jk;have fA:=(aa R1).alloc (.cells #[.string t.kind,.string t.id,.string t.sub,.string t.who] 98);have B5:=ae (Below.grown ((aa B1).alloc (aa B1).size (.cells #[.string t.kind,.string t.id,.string t.sub,.string t.who] 98)) au (by simp;omega) (fun k hk=>(fA.lt k hk).1));have O5:=ae (show w5.ownsRow w.heap.size 98 2 (.slice (some ⟨g5,0,none⟩) (nn+2) bu) (k+(j+1)*2) ((ts.map gY++(gs.take (j+1)).flatMap p8).flatMap sO) from by
       rw [aa AL,show k+(j+1)*2=nn+2 by rw [aa Qe];omega];exact aJ)
      clear fA aJ au bI;go_wp2;go_roundw
      case rel=>exact ⟨j+1,by go_num,by omega,aa B5,aa O5⟩
      case measure=>simp [intOf];omega
    ·have hjn:¬((j:Int)<(gs.length:Int)):=by omega
     have Pv:=ae (show wr.ownsRow w.heap.size 98 2 (.slice la (k+j*2) lc) (aH ts gs).length ((aH ts gs).flatMap sO) from by
      rw [List.take_of_length_le (by omega)] at hrow;unfold aH;rw [List.length_append,BM,show gs.length=j by omega,←aa HKT];exact hrow)
     have iK:=ae hb;clear hrow hb;go_wp2;go_ret;exact ⟨_,rfl,aa iK,aa Pv⟩
def jZ (l:List RJ):List Value:=l.map .string
theorem Tryz.infoStr:(Tryz.prog.info? 9).map (fun i=>(i.zero,i.size,i.bytes))=some (some (.string ⟨#[]⟩),1,16):=by kernel_rfl
