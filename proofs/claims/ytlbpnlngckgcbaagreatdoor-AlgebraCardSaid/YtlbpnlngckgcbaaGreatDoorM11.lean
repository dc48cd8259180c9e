import Derived.Test.YtlbpnlngckgcbaaGreatDoorM10
set_option linter.all false
set_option maxHeartbeats 4000000
set_option maxRecDepth 100000
namespace Go.Proofs.YtlbpnlngckgcbaaGreatDoor
open Go.RowKit Go.PlainAid
def jY (ts:List Ty) (t:Ty) (p:Ex):Option Nat:=match p.l with
 |some _=>none
 |none=>if p.nd.kind=0 then nu ts p.nd.gs
  else if p.nd.kind=1 then (match aV t p.nd.n1 with
   |none=>some p.nd.place
   |some _=>none)
  else BI ts t p.nd.n1 p.nd.p1 p.nd.n2 p.nd.p2
def qw (ts:List Ty) (t:Ty) (r:Rl):Option Nat:=(aj r.body).findSome? (jY ts t)
theorem lw {α β:Type} (f:α→Option β) (l:List α) (k:Nat) (a:α) (h:l[k]? =some a):(l.drop k).findSome? f=match f a with
  |some p=>some p
  |none=>(l.drop (k+1)).findSome? f:=by
 have hlt:k<l.length:=by
  rcases Nat.lt_or_ge k l.length with h'|h'
  ·exact h'
  ·rw [List.getElem?_eq_none h'] at h;cases h
 rw [Qw hlt] at h;simp only [Option.some.injEq] at h;rw [List.drop_eq_getElem_cons hlt,List.findSome?_cons,h]
 cases f a<;>rfl
theorem BJ {e p:Ex} (hp:p∈aj e) (hl:p.l=none) (hk:p.nd.kind=0):p.nd.gs.length≤(aU e).length:=by
 unfold aU;have:lZ p=p.nd.gs:=by simp [lZ,hl,hk]
 rw [←this];obtain ⟨a,c,h⟩:=List.append_of_mem hp;rw [h];simp;omega
theorem l9 (k:Nat):iw k=244∨iw k=245∨iw k=246:=by
 unfold iw
 split
 ·exact .inl rfl
 ·split
  ·exact .inr (.inl rfl)
  ·exact .inr (.inr rfl)
theorem qx (b:Nat) (sv:Value) (ts:List Ty) (tl:List (Ty×Value)) (t:Ty) (tv:Value) (rl:List (Rl×Value)) (r:Rl) (bv:Value) (w:World) (h:MC b w sv ts tl) (ht:RC b w tv t.rels rl) (hr:ay b w r.body bv) (hmem:r∈t.rels):
  Calls Tryz.prog 117 #[.agg #[sv],.agg #[.int .i64 t.place,.string t.name,tv],.agg #[.int .i64 r.place,.string r.name,bv]] w fun e' w'=>e'=.returned (dQ 5 (qw ts t r))∧Below w.heap.size w w':=by
 obtain ⟨ma,mn,mc,rfl⟩:=h.form;obtain ⟨va,vn,vc,rfl⟩:=ht.form;obtain ⟨ra,rv,rfl⟩:=hr.isI;have W0:Below w.heap.size w (((w.alloc (.cells #[.slice ma mn mc] 75)).alloc (.cells #[.int .i64 t.place,.string t.name,.slice va vn vc] 110)).alloc (.cells #[.int .i64 r.place,.string r.name,.iface ra rv] 159)):=(((Below.refl _ _).alloc Qv _).alloc (by simp) _).alloc (by simp;omega) _;have pE:=ae (h.below W0);have GM:=ae (ht.below W0);have Mg:=ae (hr.but (But.of_below W0));have MB:=ae (((ag.new w #[.slice ma mn mc] 75).alloc (.cells #[.int .i64 t.place,.string t.name,.slice va vn vc] 110)).alloc (.cells #[.int .i64 r.place,.string r.name,.iface ra rv] 159));have YB:=ae ((ag.new' (w.alloc (.cells #[.slice ma mn mc] 75)) #[.int .i64 t.place,.string t.name,.slice va vn vc] 110 (w.heap.size+1) (by simp)).alloc (.cells #[.int .i64 r.place,.string r.name,.iface ra rv] 159));have okp:=ht.okp r hmem;have okg:=ht.okg r hmem;have fD:=ae W0;generalize hR:qw ts t r=R;have yt:=ae hR;have En:=(aa pE).blt;clear W0 h ht hr hR hmem;go_enter Tryz.func117,Tryz.ntmps117;go_wp2_with fail;refine (kP r.body b _ _ En (aa Mg) okp).mono ?_;rintro e1 w2 ⟨yw,rfl,hb2,l,l1,l2,l3⟩;obtain ⟨oa,oc,rfl⟩:=ak l3;have ll:l.length=(aj r.body).length:=by rw [←l1];simp
 have B2:=ae ((aa fD).trans (hb2.mono (aa fD).size));have L1:=ae l1;have L2:=ae l2;have L3:=ae l3;have M2:=ae ((aa pE).below hb2);have T2:=ae ((aa GM).below hb2);have BK:=ae ((aa MB).below hb2);have Kb:=ae ((aa YB).below hb2);have ni:=(aa B2).size;clear hb2 l1 l2 l3;have f0:=bB;have f1:=cK;have f2:=cO;have f3:=aT;have f4:=bD;have f5:=bE;have g1:=dR;have g2:=dS;have g3:=bI;have g4:=dz;have g5:=dB;have h2:=dU;have h3:=bJ;have h4:=dA;have h5:=dC;go_wp2_with fail
 go_loopw [17] (fun u17 wr=>∃(k:Nat),k≤(aj r.body).length∧u17=.int .i64 k∧Below w2.heap.size w2 wr∧Hid (((aj r.body).drop k).findSome? (jY ts t)=R)) (fun u _=>(aj r.body).length-(intOf u).toNat)
 case atStart=>exact ⟨0,by omega,rfl,Below.refl _ _,yt⟩
 case round=>
  obtain ⟨k,hk,rfl,hbr,HQ⟩:=hrel;have HB:=ae hbr;have uC:=hbr.size
  by_cases hlt:k<(aj r.body).length
  ·have hkl:k<l.length:=by omega
   obtain ⟨q1,c1,e1,kc⟩:=aS (ai (w':=wr) (aa L3) (fun g cs f _ hh=>hbr.block g (lt_of_some hh))) k l[k].2 (by simp [Qw hkl]);simp only [Value.slice.injEq] at e1;obtain ⟨rfl,_,rfl⟩:=e1;have bf:=(aa L2 l[k] (List.getElem_mem hkl)).but (b:=b) (But.of_below hbr);have hk':(aj r.body)[k]? =some l[k].1:=by rw [←aa L1];simp [Qw hkl]
   generalize l[k]=q at*;obtain ⟨q1,qv⟩:=q;simp only at kc bf hk';have hkn:(k:Int)<((aj r.body).length:Int):=by omega
   have hR:=aa HQ;rw [lw _ _ _ _ hk'] at hR;have hin:=List.mem_of_getElem? hk';have m0:wr.cell? ⟨w.heap.size,0,none⟩=some (.slice ma mn mc):=((aa BK).below hbr).cell rfl;have ml:=((aa BK).below hbr).lt;obtain ⟨y0,y1,y2⟩:=((aa Kb).below hbr).three;have yl:=((aa Kb).below hbr).lt;have Kc:=ae ((aa M2).below hbr);have Ke:=ae ((aa T2).below hbr);clear hbr hk' HQ
   match q1,bf,hR,hin with
   |⟨nq,some xq,some yq⟩,⟨vx,vy,hv,rx,ry⟩,hR,hin=>
    have cu:=ae (show ((aj r.body).drop (k+1)).findSome? (jY ts t)=R from hR);subst hv;clear rx ry hR hin
    rcases l9 nq.kind with uH|uH|uH
    all_goals
     rw [uH] at kc;clear uH;go_wp2;go_roundw
     case rel=>exact ⟨k+1,by omega,by go_num,aa HB,cu⟩
     case measure=>simp [intOf];omega
   |⟨nq,none,rq⟩,bf,hR,hin=>
    rcases bf with ⟨jw,gv,hv,hrow⟩|⟨jw,hv⟩|⟨jw,hv⟩
    ·have hle:=BJ hin rfl jw;have hnn:jY ts t ⟨nq,none,rq⟩=nu ts nq.gs:=by simp [jY,jw]
     rw [hnn] at hR;obtain ⟨xa,xn,xc,rfl⟩:∃a n c,gv=.slice a n c:=by
      obtain ⟨a,c,e⟩:=ak hrow;exact ⟨a,_,c,e⟩
     subst hv;have bx:Below wr.heap.size wr (wr.alloc (.cells #[.int .i64 nq.place,.slice xa xn xc] 236)):=(Below.refl _ _).alloc Qv _;have C:=ae (rE b nq.place _ ts tl _ nq.gs _ ((aa Kc).below bx) (ai hrow (fun g cs f _ hh=>bx.block g (lt_of_some hh))) (by simp only at hle;omega));have iy:=ae ((aa HB).trans (bx.mono uC));clear hrow bx hnn
     cases hn:nu ts nq.gs with
     |some p=>
      rw [hn] at hR C;have cu:=ae hR;clear hn hR;go_wp2_with fail;refine (aa C).mono ?_;rintro e w3 ⟨rfl,hb3⟩;have B3:=ae ((aa iy).trans (hb3.mono (aa iy).size));clear hb3;unfold dQ d9;go_wp2;go_ret;rw [←aa cu];exact ⟨rfl,(aa B2).trans ((aa B3).mono ni)⟩
     |none=>
      rw [hn] at hR C;have cu:=ae hR;clear hn hR;go_wp2_with fail;refine (aa C).mono ?_;rintro e w3 ⟨rfl,hb3⟩;have B3:=ae ((aa iy).trans (hb3.mono (aa iy).size));clear hb3;unfold dQ;go_wp2;go_roundw
      case rel=>exact ⟨k+1,by omega,by go_num,aa B3,cu⟩
      case measure=>simp [intOf];omega
    ·subst hv;have bx:Below wr.heap.size wr (wr.alloc (.cells #[.int .i64 nq.place,.string nq.n1] 238)):=(Below.refl _ _).alloc Qv _;have iy:=ae ((aa HB).trans (bx.mono uC));have OB:=ae (ag.new wr #[.int .i64 nq.place,.string nq.n1] 238)
     cases hn:aV t nq.n1 with
     |none=>
      have hnn:jY ts t ⟨nq,none,rq⟩=some nq.place:=by simp [jY,jw,hn]
      rw [hnn] at hR;have cu:=ae hR;have C:=ae (gV b t.place t.name _ t rl nq.n1 _ ((aa Ke).below bx) hn);clear hn hR bx hnn jw hin;go_wp2_with fail;refine (aa C).mono ?_;rintro e w3 ⟨rfl,hb3⟩;have B3:=ae ((aa iy).trans (hb3.mono (aa iy).size));obtain ⟨o0,o1⟩:=((aa OB).below hb3).two;have ol:=((aa OB).below hb3).lt;clear hb3;unfold aJ;go_wp2_with (go_at_call 73;refine (fe _ 5 _).mono ?_;rintro e w4 ⟨rfl,rfl⟩;unfold d9 aJ);go_ret;rw [←aa cu];exact ⟨rfl,(aa B2).trans ((aa B3).mono ni)⟩
     |some r2=>
      have hnn:jY ts t ⟨nq,none,rq⟩=none:=by simp [jY,jw,hn]
      rw [hnn] at hR;have cu:=ae hR;obtain ⟨za,zv,_,_,hcall⟩:=jh b t.place t.name _ t rl nq.n1 _ ((aa Ke).below bx) r2 hn;have C:=ae hcall;clear hn hR bx hnn jw hin hcall;go_wp2_with fail;refine (aa C).mono ?_;rintro e w3 ⟨rfl,hb3⟩;have B3:=ae ((aa iy).trans (hb3.mono (aa iy).size));obtain ⟨o0,o1⟩:=((aa OB).below hb3).two;have ol:=((aa OB).below hb3).lt;clear hb3;go_wp2_with (go_at_call 73;refine (Eg _ _).mono ?_;rintro e w4 ⟨rfl,rfl⟩);go_roundw
      case rel=>exact ⟨k+1,by omega,by go_num,aa B3,cu⟩
      case measure=>simp [intOf];omega
    ·subst hv;have hnn:jY ts t ⟨nq,none,rq⟩=BI ts t nq.n1 nq.p1 nq.n2 nq.p2:=by simp [jY,jw]
     rw [hnn] at hR;have bx:Below wr.heap.size wr (wr.alloc (.cells #[.int .i64 nq.place,.int .i64 nq.p1,.string nq.n1,.int .i64 nq.p2,.string nq.n2] 240)):=(Below.refl _ _).alloc Qv _;have iy:=ae ((aa HB).trans (bx.mono uC));have C:=ae (uG b nq.place nq.p1 nq.p2 nq.n1 nq.n2 _ ts tl t _ rl _ ((aa Kc).below bx) ((aa Ke).below bx));clear bx hnn jw hin
     cases hn:BI ts t nq.n1 nq.p1 nq.n2 nq.p2 with
     |some p=>
      rw [hn] at hR C;have cu:=ae hR;clear hn hR;go_wp2_with fail;refine (aa C).mono ?_;rintro e w3 ⟨rfl,hb3⟩;have B3:=ae ((aa iy).trans (hb3.mono (aa iy).size));clear hb3;unfold dQ d9;go_wp2;go_ret;rw [←aa cu];exact ⟨rfl,(aa B2).trans ((aa B3).mono ni)⟩
     |none=>
      rw [hn] at hR C;have cu:=ae hR;clear hn hR;go_wp2_with fail;refine (aa C).mono ?_;rintro e w3 ⟨rfl,hb3⟩;have B3:=ae ((aa iy).trans (hb3.mono (aa iy).size));clear hb3;unfold dQ;go_wp2;go_roundw
      case rel=>exact ⟨k+1,by omega,by go_num,aa B3,cu⟩
      case measure=>simp [intOf];omega
   |⟨nq,some xq,none⟩,bf,hR,hin=>exact bf.elim
  ·have hR:=aa HQ;rw [List.drop_of_length_le (by omega)] at hR;have hkn:¬((k:Int)<((aj r.body).length:Int)):=by omega
   have cu:=ae hR;clear hbr hR;go_wp2;go_ret;rw [←aa cu];exact ⟨rfl,(aa B2).trans ((aa HB).mono ni)⟩
abbrev Sp:=Qx×Qx
def rF (s:Sp):List Value:=[.string s.1,.string s.2]
def aD (l:List Sp):List Value:=l.flatMap rF
theorem Eo (s:Sp):∀(l:List Sp) (i:Nat),l[i]? =some s→(aD l)[i*2]? =some (.string s.1)∧(aD l)[i*2+1]? =some (.string s.2)
 | [],i,h=>by simp at h
 |e'::l,0,h=>by simp at h;subst h;simp [aD,rF]
 |e'::l,i+1,h=>by
  have:=Eo s l i (by simpa using h);rw [show aD (e'::l)=rF e'++aD l from rfl,show (i+1)*2=i*2+2 by omega]
  simpa [rF] using this
theorem Row2.cell {w:World} {base:Nat} {v:Value} {l:List Sp} (h:w.ownsRow base 291 2 v l.length (aD l)) (i:Nat) (s:Sp) (hi:l[i]? =some s):
  ∃q c,v=.slice (some ⟨q,0,none⟩) l.length c∧w.cell? ⟨q,i*2,none⟩=some (.string s.1)∧w.cell? ⟨q,i*2+1,none⟩=some (.string s.2):=by
 obtain ⟨h0,h1⟩:=Eo s l i hi;obtain ⟨q,c,rfl,e0⟩:=aS h _ _ h0;obtain ⟨q',c',e',e1⟩:=aS h _ _ h1;simp only [Value.slice.injEq,Option.some.injEq,Addr.mk.injEq] at e';obtain ⟨⟨rfl,_⟩,_⟩:=e';exact ⟨q,c,rfl,e0,e1⟩
theorem bV (a c:List Sp):aD (a++c)=aD a++aD c:=by simp [aD]
theorem aP (a:List Sp):(aD a).length=a.length*2:=by
 induction a with
 |nil=>rfl
 |cons g r ih=>simp [aD,rF] at*;omega
theorem Ep (l:List Sp):∀u∈aD l,u.oneCell'=true:=by
 intro u hu;unfold aD at hu;rw [List.mem_flatMap] at hu;obtain ⟨g,_,hu⟩:=hu;simp [rF] at hu
 rcases hu with rfl|rfl<;>rfl
theorem Tryz.info291:(Tryz.prog.info? 291).map (fun i=>(i.zero,i.size,i.bytes))=some (some (.agg #[.string ⟨#[]⟩,.string ⟨#[]⟩]),2,32):=by kernel_rfl
def eP (base:Nat) (w:World) (sv:Value) (l:List Sp):Prop:=w.ownsRow base 291 2 sv l.length (aD l)∧(l=[]→sv=.slice none 0 0)
theorem eP.nil (base:Nat) (w:World):eP base w (.slice none 0 0) []:=⟨World.ownsRow_nil _ _ _ _,fun _=>rfl⟩
theorem eP.form {base:Nat} {w:World} {sv:Value} {l:List Sp} (h:eP base w sv l):∃a c,sv=.slice a l.length c:=ak h.1
theorem eP.base {base base':Nat} {w:World} {sv:Value} {l:List Sp} (h:eP base w sv l) (hb:base'≤base):eP base' w sv l:=⟨aC h.1 hb,h.2⟩
def uI (g:Gr):Option Sp:=if g.reach=2 then some (g.ty,g.rel) else none
def uJ (k:Nat) (gs:List Gr):List Sp:=(gs.take k).filterMap uI
def o8 (r:Rl):List Sp:=(aU r.body).filterMap uI
theorem BM {k:Nat} {gs:List Gr} {g:Gr} (h:gs[k]? =some g):uJ (k+1) gs=uJ k gs++(uI g).toList:=by
 have hlt:k<gs.length:=by
  rcases Nat.lt_or_ge k gs.length with h'|h'
  ·exact h'
  ·rw [List.getElem?_eq_none h'] at h;cases h
 rw [Qw hlt] at h;simp only [Option.some.injEq] at h;unfold uJ;rw [List.take_succ_eq_append_getElem hlt,List.filterMap_append,h]
 cases hq:uI g<;>simp [hq]
theorem GN (k:Nat) (gs:List Gr):(uJ k gs).length≤k:=by
 unfold uJ;have:=List.length_filterMap_le uI (gs.take k);rw [List.length_take] at this;omega
theorem vX (b:Nat) (r:Rl) (v:Value) (w:World) (hb:b<w.heap.size) (h:ay b w r.body v) (hp:(aj r.body).length≤1000) (hg:(aU r.body).length≤1000) (hwf:WF r.body):
  Calls Tryz.prog 225 #[.agg #[.int .i64 r.place,.string r.name,v]] w fun e' w'=>∃sv,e'=.returned sv∧Below w.heap.size w w'∧eP w.heap.size w' sv (o8 r):=by
 obtain ⟨i0,hi,hz0,hz1,hz2⟩:=info_parts Tryz.info291;have HI:=ae hi;have iU:=ae hz0;have iV:=ae hz1;have iW:=ae hz2;clear hi hz0 hz1 hz2;obtain ⟨ra,rv,rfl⟩:=h.isI;have H:=ae h;have GI:=ae hwf;clear h hwf;go_enter Tryz.func225,Tryz.ntmps225;go_wp2_with fail;refine (l6 r.place r.name b r.body _ _ (by simp;omega) ((aa H).but ((But.refl b w).alloc _)) hp hg (aa GI)).mono ?_;rintro e w3 ⟨gv,rfl,hb3,hrow⟩;obtain ⟨ga,gc,rfl⟩:=ak hrow;have B3:=ae (((Below.refl _ w).alloc Qv (.cells #[.int .i64 r.place,.string r.name,.iface ra rv] 159)).trans (hb3.mono (by simp)));have o7:=ae hrow;have yN:=(aa B3).size;clear hb3 hrow;go_wp2_with fail
 go_loopw [3,9] (fun u3 u9 wr=>∃(k:Nat) (sv:Value),k≤(aU r.body).length∧u9=.int .i64 k∧u3=sv∧Below w3.heap.size w3 wr∧eP w3.heap.size wr sv (uJ k (aU r.body))) (fun _ u _=>(aU r.body).length-(intOf u).toNat)
 case atStart=>exact ⟨0,_,by omega,rfl,rfl,Below.refl _ _,eP.nil _ _⟩
 case round=>
  obtain ⟨k,sv,hk,rfl,hu3,hbr,ho⟩:=hrel;obtain ⟨sa,sc,M6⟩:=ho.form;have hkl:=GN k (aU r.body);have ho0:=ho.2;have Kg:=ho.1;generalize hL:uJ k (aU r.body)=L at*;have BO:=ae hL;clear hL;subst M6;subst hu3;have HB:=ae hbr;have Kh:=ae ho0;have HO:=ae Kg;have uC:=hbr.size
  by_cases hlt:k<(aU r.body).length
  ·have hkn:(k:Int)<((aU r.body).length:Int):=by omega
   obtain ⟨q,c,e1,k0,k1,k2,k3,k4⟩:=J9.cell (ai (w':=wr) (aa o7) (fun g cs f _ hh=>hbr.block g (lt_of_some hh))) k (aU r.body)[k] (Qw hlt);simp only [Value.slice.injEq] at e1;obtain ⟨rfl,_,rfl⟩:=e1;have hg':(aU r.body)[k]? =some (aU r.body)[k]:=Qw hlt;generalize (aU r.body)[k]=g at*;have HST:=ae (BM hg');clear hbr ho ho0 Kg hg'
   by_cases h2:g.reach=2
   ·have h2':((g.reach:Int)==2)=true:=by rw [h2];rfl
    have ht1:uI g=some (g.ty,g.rel):=by simp [uI,h2]
    clear h2;go_wp2_with (at_builtin;go_must (refine wpList_append_lies _ rfl _ _ 288 rfl w3.heap.size 291 i0 _ 2 32 Tryz.underlying288 (aa HI) (aa iU) (aa iV) (aa iW) rfl (by decide) (.slice sa L.length sc) L.length (aD L) rfl ?hown ⟨wr.heap.size+1,0,none⟩ 1 1 (rF (g.ty,g.rel)) rfl rfl ?hnews ?hone (by decide) ?h63 ?hbytes ?hbase (wr.heap.size+2) ?hH ?hrest))
    case hown=>exact ((aa HO).alloc _).alloc _
    case hnews=>exact World.news_of_block (B:=wr.heap.size+1) (cs:=#[.string g.ty,.string g.rel]) (t:=291) (fr:=(0,0)) (ag.new' (wr.alloc _) _ _ _ (by simp))
    case hone=>
     intro z hz;simp [rF] at hz
     rcases hz with rfl|rfl<;>rfl
    case h63=>unfold maxLen;omega
    case hbytes=>omega
    case hbase=>simp;omega
    case hH=>simp
    case hrest=>
     intro g6 ny w6 dV aW jk uF;have BH:=((aa HO).alloc (.cells #[.int .i64 g.tp,.string g.ty,.int .i64 g.reach,.int .i64 g.rp,.string g.rel] 207)).alloc (.cells #[.string g.ty,.string g.rel] 291);have B6:=ae (Below.grown (((aa HB).alloc uC (.cells #[.int .i64 g.tp,.string g.ty,.int .i64 g.reach,.int .i64 g.rp,.string g.rel] 207)).alloc (by simp;omega) (.cells #[.string g.ty,.string g.rel] 291)) aW (by simp;omega) (fun k hk=>(BH.lt k hk).1));have O6:=ae dV;clear dV aW jk BH;go_wp2;go_roundw
     case rel=>exact ⟨k+1,.slice (some ⟨g6,0,none⟩) (L.length+1) ny,by omega,by go_num,rfl,aa B6,by rw [aa HST,ht1,aa BO];exact ⟨by rw [Option.toList_some,List.length_append,bV];exact aa O6,fun h=>by simp at h⟩⟩
     case measure=>simp [intOf];omega
   ·have h2':((g.reach:Int)==2)=false:=by rw [beq_eq_false_iff_ne];omega
    have ht1:uI g=none:=by simp [uI,h2]
    have BX:=ae ((aa HB).alloc uC (.cells #[.int .i64 g.tp,.string g.ty,.int .i64 g.reach,.int .i64 g.rp,.string g.rel] 207));have OX:=ae ((aa HO).alloc (.cells #[.int .i64 g.tp,.string g.ty,.int .i64 g.reach,.int .i64 g.rp,.string g.rel] 207));clear h2;go_wp2;go_roundw
    case rel=>exact ⟨k+1,.slice sa L.length sc,by omega,by go_num,rfl,aa BX,by rw [aa HST,ht1,aa BO];exact ⟨by simpa using aa OX,fun h=>aa Kh (by simpa using h)⟩⟩
    case measure=>simp [intOf];omega
  ·have hkn:¬((k:Int)<((aU r.body).length:Int)):=by omega
   have hall:uJ k (aU r.body)=o8 r:=by
    unfold uJ o8;rw [List.take_of_length_le (by omega)]
   have M7:L=o8 r:=(aa BO).symm.trans hall;have Pk:=ae M7;clear hbr ho ho0 Kg hall M7;go_wp2;go_ret;exact ⟨.slice sa L.length sc,rfl,(aa B3).trans ((aa HB).mono yN),by rw [←aa Pk];exact ⟨aC (aa HO) yN,aa Kh⟩⟩
theorem Er (b tp p1 p2:Nat) (n1 n2:Qx) (sv:Value) (ts:List Ty) (tl:List (Ty×Value)) (t:Ty) (tv:Value) (rl:List (Rl×Value)) (w:World) (h:MC b w sv ts tl) (ht:RC b w tv t.rels rl):
  Calls Tryz.prog 223 #[.agg #[sv],.agg #[.int .i64 t.place,.string t.name,tv],.agg #[.int .i64 tp,.int .i64 p1,.string n1,.int .i64 p2,.string n2]] w fun e' w'=>∃(pz:Value) (l3:List E3),e'=.returned pz∧Below w.heap.size w w'∧w'.ownsRow w.heap.size 110 3 pz l3.length (l3.flatMap c3)∧l3.map (fun e=>e.2.1)=(qp ts t n1 n2).map Ty.name∧l3.length≤1000∧∀e∈l3,∃a n c,e.2.2=.slice a n c:=by
 unfold qp
 cases hf:aV t n1 with
 |none=>
  refine (BG b tp p1 p2 n1 n2 sv ts tl t tv rl w h ht hf).mono ?_;rintro e w' ⟨rfl,hb⟩;exact ⟨_,[],rfl,hb,World.ownsRow_nil _ _ _ _,rfl,by simp,by simp⟩
 |some r=>
  refine (sG b tp p1 p2 n1 n2 sv ts tl t tv rl w h ht r hf).mono ?_;rintro e w' ⟨pz,l3,rfl,hb,h1,h2,h3⟩;refine ⟨_,l3,rfl,hb,h1,h2,?_,h3⟩;have e1:=congrArg List.length h2;rw [List.length_map,List.length_map] at e1;have e2:=List.length_filterMap_le (jE ts n2) (aU r.body);have e3:=ht.okg r (List.mem_of_find?_eq_some hf);omega
def gG (ts:List Ty) (t:Ty) (r:Rl) (p:Ex):List Sp:=match p.l with
 |some _=>[]
 |none=>if p.nd.kind=0 then o8 r
  else if p.nd.kind=1 then [(t.name,p.nd.n1)]
  else (qp ts t p.nd.n1 p.nd.n2).map fun u=>(u.name,p.nd.n2)
def eG (ts:List Ty) (t:Ty) (r:Rl) (e:Ex):List Sp:=(aj e).flatMap (gG ts t r)
def NK (ts:List Ty) (t:Ty) (r:Rl) (e:Ex) (k:Nat):List Sp:=((aj e).take k).flatMap (gG ts t r)
theorem Ay {ts:List Ty} {t:Ty} {r:Rl} {e:Ex} {k:Nat} {p:Ex} (hk:(aj e)[k]? =some p):NK ts t r e (k+1)=NK ts t r e k++gG ts t r p:=by
 unfold NK;have hlt:k<(aj e).length:=by
  rcases Nat.lt_or_ge k (aj e).length with h|h
  ·exact h
  ·rw [List.getElem?_eq_none h] at hk;cases hk
 rw [List.take_succ_eq_append_getElem hlt,List.flatMap_append];rw [Qw hlt] at hk;simp only [Option.some.injEq] at hk;simp [hk]
theorem GQ (r:Rl):(o8 r).length≤(aU r.body).length:=List.length_filterMap_le _ _
theorem Es {b:Nat} {w:World} {tv:Value} {rl:List (Rl×Value)} (ts:List Ty) (t:Ty) (ht:RC b w tv t.rels rl) (x y:Qx):(qp ts t x y).length≤1000:=by
 unfold qp
 cases hf:aV t x with
 |none=>simp
 |some r=>
  have e2:=List.length_filterMap_le (jE ts y) (aU r.body);have e3:=ht.okg r (List.mem_of_find?_eq_some hf);simp only;omega
theorem sH {b:Nat} {w:World} {tv:Value} {rl:List (Rl×Value)} (ts:List Ty) (t:Ty) (ht:RC b w tv t.rels rl) (r:Rl) (hg:(aU r.body).length≤1000) (p:Ex):(gG ts t r p).length≤1000:=by
 unfold gG;have h1:=GQ r;have h2:=Es ts t ht p.nd.n1 p.nd.n2
 split
 ·simp
 ·split
  ·omega
  ·split
   ·simp
   ·simpa using h2
theorem Et {b:Nat} {w:World} {tv:Value} {rl:List (Rl×Value)} (ts:List Ty) (t:Ty) (ht:RC b w tv t.rels rl) (r:Rl) (hg:(aU r.body).length≤1000) (e:Ex):∀k,(NK ts t r e k).length≤1000*k
 |0=>by simp [NK]
 |k+1=>by
  have ih:=Et ts t ht r hg e k
  rcases Nat.lt_or_ge k (aj e).length with h|h
  ·rw [Ay (Qw h),List.length_append];have:=sH ts t ht r hg (aj e)[k];omega
  ·have:NK ts t r e (k+1)=NK ts t r e k:=by
    unfold NK;rw [List.take_of_length_le (by omega),List.take_of_length_le h]
   rw [this];omega
theorem mf {P:Program} {w:World} {ops:Array Oper} {rest:List Oper} {o:Oper} {a:Act} {Q:Exit→Act→World→Prop} (hgd:o.guard=none) (s x:Operand) (t:TypeId)
  (ho:o.op=.call {callee:=.builtin .append,args:=#[s,x],argTypes:=#[t,t]}) (v:Value) (hs:a.eval s=v) (hx:a.eval x=.slice none 0 0)
  (hr:∀ty,(Builtin.append_ #[t,t] ty #[v,.slice none 0 0]).run P w=.ok v w)
  (h:wpList P ops Q rest (a.put o.dst v) w):wpList P ops Q (o::rest) a w:=
 wpList_plain hgd fun _ hK=>by
  unfold Oper.wp execOp;simp only [ho,resolve,invoke,builtin,Sem.run_bind,Sem.run_pure,Result.andThen_ok,List.map_toArray,List.map_cons,List.map_nil,hs,hx,hr];exact hK _ _ h
theorem nX (b:Nat) (sv:Value) (ts:List Ty) (tl:List (Ty×Value)) (t:Ty) (tv:Value) (rl:List (Rl×Value)) (r:Rl) (bv:Value) (e:Ex) (ev:Value) (w:World) (h:MC b w sv ts tl) (ht:RC b w tv t.rels rl) (hr:ay b w r.body bv) (hmem:r∈t.rels) (he:ay b w e ev) (hpe:(aj e).length≤1000):
  Calls Tryz.prog 177 #[.agg #[sv],.agg #[.int .i64 t.place,.string t.name,tv],.agg #[.int .i64 r.place,.string r.name,bv],ev] w fun e' w'=>∃sv,e'=.returned sv∧Below w.heap.size w w'∧eP w.heap.size w' sv (eG ts t r e):=by
 obtain ⟨i0,hi,hz0,hz1,hz2⟩:=info_parts Tryz.info291;have HI:=ae hi;have iU:=ae hz0;have iV:=ae hz1;have iW:=ae hz2;clear hi hz0 hz1 hz2;obtain ⟨ma,mn,mc,rfl⟩:=h.form;obtain ⟨va,vn,vc,rfl⟩:=ht.form;obtain ⟨ra,rv,rfl⟩:=hr.isI;obtain ⟨ea,ex,rfl⟩:=he.isI;have W0:Below w.heap.size w (((w.alloc (.cells #[.slice ma mn mc] 75)).alloc (.cells #[.int .i64 t.place,.string t.name,.slice va vn vc] 110)).alloc (.cells #[.int .i64 r.place,.string r.name,.iface ra rv] 159)):=(((Below.refl _ _).alloc Qv _).alloc (by simp) _).alloc (by simp;omega) _;have pE:=ae (h.below W0);have GM:=ae (ht.below W0);have Mg:=ae (hr.but (But.of_below W0));have HE0:=ae (he.but (But.of_below W0));have MB:=ae (((ag.new w #[.slice ma mn mc] 75).alloc (.cells #[.int .i64 t.place,.string t.name,.slice va vn vc] 110)).alloc (.cells #[.int .i64 r.place,.string r.name,.iface ra rv] 159));have YB:=ae ((ag.new' (w.alloc (.cells #[.slice ma mn mc] 75)) #[.int .i64 t.place,.string t.name,.slice va vn vc] 110 (w.heap.size+1) (by simp)).alloc (.cells #[.int .i64 r.place,.string r.name,.iface ra rv] 159));have RB:=ae (ag.new' ((w.alloc (.cells #[.slice ma mn mc] 75)).alloc (.cells #[.int .i64 t.place,.string t.name,.slice va vn vc] 110)) #[.int .i64 r.place,.string r.name,.iface ra rv] 159 (w.heap.size+2) (by simp));have okp:=ht.okp r hmem;have okg:=ht.okg r hmem;have GI:=ae (ht.wf r hmem);have HNK:=ae (Et ts t ht r okg e);have Az:=ae (sH ts t ht r okg);have fD:=ae W0;have En:=(aa pE).blt;clear W0 h ht hr hmem he;go_enter Tryz.func177,Tryz.ntmps177;go_wp2_with fail;refine (kP e b _ _ En (aa HE0) hpe).mono ?_;rintro e1 w2 ⟨yw,rfl,hb2,l,l1,l2,l3⟩;obtain ⟨oa,oc,rfl⟩:=ak l3;have ll:l.length=(aj e).length:=by rw [←l1];simp
 have B2:=ae ((aa fD).trans (hb2.mono (aa fD).size));have L1:=ae l1;have L2:=ae l2;have L3:=ae l3;have M2:=ae ((aa pE).below hb2);have T2:=ae ((aa GM).below hb2);have X2:=ae ((aa Mg).but (But.of_below hb2));have BK:=ae ((aa MB).below hb2);have Kb:=ae ((aa YB).below hb2);have Oo:=ae ((aa RB).below hb2);have ni:=(aa B2).size;clear hb2 l1 l2 l3;have f0:=bB;have f1:=cK;have f2:=cO;have f3:=aT;have f4:=bD;have f5:=bE;have g1:=dR;have g2:=dS;have g3:=bI;have g4:=dz;have g5:=dB;have h2:=dU;have h3:=bJ;have h4:=dA;have h5:=dC;go_wp2_with fail
 go_loopw [9,20] (fun u9 u20 wr=>∃(k:Nat) (sv:Value),k≤(aj e).length∧u20=.int .i64 k∧u9=sv∧Below w2.heap.size w2 wr∧eP w2.heap.size wr sv (NK ts t r e k)) (fun _ u _=>(aj e).length-(intOf u).toNat)
 case atStart=>exact ⟨0,_,by omega,rfl,rfl,Below.refl _ _,eP.nil _ _⟩
 case round=>
  obtain ⟨k,sv,hk,rfl,MZ,hbr,ho⟩:=hrel;obtain ⟨sa,sc,M6⟩:=ho.form;have hkl:=aa HNK k;have ho0:=ho.2;have Kg:=ho.1;generalize hL:NK ts t r e k=L at*;have BO:=ae hL;clear hL;subst M6;subst MZ;have HB:=ae hbr;have Kh:=ae ho0;have HO:=ae Kg;have uC:=hbr.size
  by_cases hlt:k<(aj e).length
  ·have Ki:k<l.length:=by omega
   obtain ⟨q1,c1,e1,kc⟩:=aS (ai (w':=wr) (aa L3) (fun g cs f _ hh=>hbr.block g (lt_of_some hh))) k l[k].2 (by simp [Qw Ki]);simp only [Value.slice.injEq] at e1;obtain ⟨rfl,_,rfl⟩:=e1;have bf:=(aa L2 l[k] (List.getElem_mem Ki)).but (b:=b) (But.of_below hbr);have hk':(aj e)[k]? =some l[k].1:=by rw [←aa L1];simp [Qw Ki]
   generalize l[k]=q at*;obtain ⟨q1,qv⟩:=q;simp only at kc bf hk';have hkn:(k:Int)<((aj e).length:Int):=by omega
   have HST:=ae (Ay (ts:=ts) (t:=t) (r:=r) hk');have rG:=aa Az q1;have m0:wr.cell? ⟨w.heap.size,0,none⟩=some (.slice ma mn mc):=((aa BK).below hbr).cell rfl;have ml:=((aa BK).below hbr).lt;obtain ⟨y0,y1,y2⟩:=((aa Kb).below hbr).three;have yl:=((aa Kb).below hbr).lt;obtain ⟨z0,z1,z2⟩:=((aa Oo).below hbr).three;have zl:=((aa Oo).below hbr).lt;have Kc:=ae ((aa M2).below hbr);have Ke:=ae ((aa T2).below hbr);have Pm:=ae ((aa X2).but (But.of_below hbr));have bltr:=(aa Kc).blt;clear hbr ho ho0 Kg hk'
   match q1,bf,rG,HST with
   |⟨nq,some xq,some yq⟩,⟨vx,vy,hv,rx,ry⟩,rG,HST=>
    subst hv;clear rx ry
    rcases l9 nq.kind with uH|uH|uH
    all_goals
     rw [uH] at kc;clear uH;go_wp2;go_roundw
     case rel=>exact ⟨k+1,.slice sa L.length sc,by omega,by go_num,rfl,aa HB,by rw [aa HST,aa BO];simp only [gG,List.append_nil];exact ⟨aa HO,aa Kh⟩⟩
     case measure=>simp [intOf];omega
   |⟨nq,none,rq⟩,bf,rG,HST=>
    rcases bf with ⟨jw,gv,hv,hrow⟩|⟨jw,hv⟩|⟨jw,hv⟩
    ·obtain ⟨xa,xn,xc,rfl⟩:∃a n c,gv=.slice a n c:=by
      obtain ⟨a,c,e⟩:=ak hrow;exact ⟨a,_,c,e⟩
     have hnn:gG ts t r ⟨nq,none,rq⟩=o8 r:=by simp [gG,jw]
     rw [hnn] at rG HST;subst hv;have bx:Below wr.heap.size wr (wr.alloc (.cells #[.int .i64 nq.place,.slice xa xn xc] 236)):=(Below.refl _ _).alloc Qv _;have iy:=ae ((aa HB).trans (bx.mono uC));have C:=ae (vX b r _ _ (by simp;omega) ((aa Pm).but (But.of_below bx)) okp okg (aa GI));have OX:=ae ((aa HO).alloc (.cells #[.int .i64 nq.place,.slice xa xn xc] 236));clear hrow jw hnn bx;go_wp2_with fail;refine (aa C).mono ?_;rintro e w3 ⟨Mh,rfl,hb3,hrs⟩;have B3:=ae ((aa iy).trans (hb3.mono (aa iy).size));have yN:=(aa B3).size;have o3:=ai (w':=w3) (aa OX) (fun g cs f _ hh=>hb3.block g (lt_of_some hh));have O3:=ae o3
     by_cases hz:o8 r=[]
     ·have e3:=hrs.2 hz;subst e3;rw [hz] at HST;have HAP:=ae (fun ty=>run_append_owned_none (P:=Tryz.prog) w3 w2.heap.size 288 ty 291 i0 2 Tryz.underlying288 (aa HI) (.slice sa L.length sc) L.length (aD L) o3);clear hb3 hrs o3 hz C;go_wp2_with (at_builtin;go_must (refine mf rfl _ _ 288 rfl (.slice sa L.length sc) rfl rfl (aa HAP) ?_));go_roundw
      case rel=>exact ⟨k+1,.slice sa L.length sc,by omega,by go_num,rfl,aa B3,by rw [aa HST,aa BO,List.append_nil];exact ⟨aa O3,aa Kh⟩⟩
      case measure=>simp [intOf];omega
     ·have hpos:0<(o8 r).length:=List.length_pos_iff.2 hz;obtain ⟨gg,gc,rfl,nl,nw⟩:=sF hrs.1 hpos;have NL:=ae nl;have NW:=ae nw;clear hb3 hrs o3 hz C nl nw;go_wp2_with (at_builtin;go_must (refine wpList_append_lies _ rfl _ _ 288 rfl w2.heap.size 291 i0 _ 2 32 Tryz.underlying288 (aa HI) (aa iU) (aa iV) (aa iW) rfl (by decide) (.slice sa L.length sc) L.length (aD L) rfl (aa O3) ⟨gg,0,none⟩ (o8 r).length gc (aD (o8 r)) rfl (aa NL) (aa NW) (Ep _) hpos ?h63 ?hbytes yN w3.heap.size rfl ?hrest))
      case h63=>unfold maxLen;omega
      case hbytes=>omega
      case hrest=>
       intro g6 ny w6 dV aW jk uF;have B6:=ae (Below.grown (aa B3) aW yN (fun k hk=>((aa O3).lt k hk).1));have O6:=ae dV;clear dV aW jk;go_wp2;go_roundw
       case rel=>exact ⟨k+1,.slice (some ⟨g6,0,none⟩) (L.length+(o8 r).length) ny,by omega,by go_num,rfl,aa B6,by rw [aa HST,aa BO];exact ⟨by rw [List.length_append,bV];exact aa O6,fun h=>by simp at h;rw [h.2] at hpos;simp at hpos⟩⟩
       case measure=>simp [intOf];omega
    ·have hnn:gG ts t r ⟨nq,none,rq⟩=[(t.name,nq.n1)]:=by simp [gG,jw]
     rw [hnn] at rG HST;subst hv;clear hnn jw;go_wp2_with (at_builtin;go_must (refine wpList_append_lies _ rfl _ _ 288 rfl w2.heap.size 291 i0 _ 2 32 Tryz.underlying288 (aa HI) (aa iU) (aa iV) (aa iW) rfl (by decide) (.slice sa L.length sc) L.length (aD L) rfl ?hown ⟨wr.heap.size+1,0,none⟩ 1 1 (rF (t.name,nq.n1)) rfl rfl ?hnews ?hone (by decide) ?h63 ?hbytes ?hbase (wr.heap.size+2) ?hH ?hrest))
     case hown=>exact ((aa HO).alloc _).alloc _
     case hnews=>exact World.news_of_block (B:=wr.heap.size+1) (cs:=#[.string t.name,.string nq.n1]) (t:=291) (fr:=(0,0)) (ag.new' (wr.alloc _) _ _ _ (by simp))
     case hone=>
      intro z hz;simp [rF] at hz
      rcases hz with rfl|rfl<;>rfl
     case h63=>unfold maxLen;omega
     case hbytes=>omega
     case hbase=>simp;omega
     case hH=>simp
     case hrest=>
      intro g6 ny w6 dV aW jk uF;have BH:=((aa HO).alloc (.cells #[.int .i64 nq.place,.string nq.n1] 238)).alloc (.cells #[.string t.name,.string nq.n1] 291);have B6:=ae (Below.grown (((aa HB).alloc uC (.cells #[.int .i64 nq.place,.string nq.n1] 238)).alloc (by simp;omega) (.cells #[.string t.name,.string nq.n1] 291)) aW (by simp;omega) (fun k hk=>(BH.lt k hk).1));have O6:=ae dV;clear dV aW jk BH;go_wp2;go_roundw
      case rel=>exact ⟨k+1,.slice (some ⟨g6,0,none⟩) (L.length+1) ny,by omega,by go_num,rfl,aa B6,by rw [aa HST,aa BO];exact ⟨by rw [List.length_append,bV];exact aa O6,fun h=>by simp at h⟩⟩
      case measure=>simp [intOf];omega
    ·have hnn:gG ts t r ⟨nq,none,rq⟩=(qp ts t nq.n1 nq.n2).map fun u=>(u.name,nq.n2):=by simp [gG,jw]
     rw [hnn] at rG HST;subst hv;have bx:Below wr.heap.size wr (wr.alloc (.cells #[.int .i64 nq.place,.int .i64 nq.p1,.string nq.n1,.int .i64 nq.p2,.string nq.n2] 240)):=(Below.refl _ _).alloc Qv _;have iy:=ae ((aa HB).trans (bx.mono uC));have C:=ae (Er b nq.place nq.p1 nq.p2 nq.n1 nq.n2 _ ts tl t _ rl _ ((aa Kc).below bx) ((aa Ke).below bx));have OX:=ae ((aa HO).alloc (.cells #[.int .i64 nq.place,.int .i64 nq.p1,.string nq.n1,.int .i64 nq.p2,.string nq.n2] 240));have TQ:=ae (ag.new wr #[.int .i64 nq.place,.int .i64 nq.p1,.string nq.n1,.int .i64 nq.p2,.string nq.n2] 240);clear bx hnn jw;go_wp2_with fail;refine (aa C).mono ?_;rintro e w3 ⟨Mh,vE,rfl,hb3,Pn,h32,h33,h34⟩;obtain ⟨ta,tc,rfl⟩:=ak Pn;have B3:=ae ((aa iy).trans (hb3.mono (aa iy).size));have yN:=(aa B3).size;have TQ3:=ae ((aa TQ).below hb3);have O3:=ae (show eP w2.heap.size w3 (.slice sa L.length sc) L from ⟨ai (w':=w3) (aa OX) (fun g cs f _ hh=>hb3.block g (lt_of_some hh)),aa Kh⟩);have H31:=ae Pn;have H34:=ae h34;have hmap:(qp ts t nq.n1 nq.n2).map (fun u=>(u.name,nq.n2))=vE.map (fun e=>(e.2.1,nq.n2)):=by
      have:=congrArg (List.map (fun n=>(n,nq.n2))) h32;simp only [List.map_map] at this;exact this.symm
     rw [hmap] at rG HST;clear hb3 Pn h32 h34 hmap C;go_wp2_with fail
     go_loopw [9,53] (fun u9 u53 wi=>∃(j:Nat) (sv:Value),j≤vE.length∧u53=.int .i64 j∧u9=sv∧Below w2.heap.size w2 wi∧ag wi wr.heap.size #[.int .i64 nq.place,.int .i64 nq.p1,.string nq.n1,.int .i64 nq.p2,.string nq.n2] 240∧wi.ownsRow 0 110 3 (.slice ta vE.length tc) vE.length (vE.flatMap c3)∧eP w2.heap.size wi sv (L++(vE.take j).map (fun e=>(e.2.1,nq.n2)))) (fun _ u _=>vE.length-(intOf u).toNat)
     case atStart=>exact ⟨0,_,by omega,rfl,rfl,aa B3,aa TQ3,aC (aa H31) (Nat.zero_le _),by simpa using aa O3⟩
     case round=>
      obtain ⟨j,svj,hj,rfl,MZ,BP,M8,hro,hoi⟩:=hrel;obtain ⟨ja,jc,M6⟩:=hoi.form;generalize Po:L++(vE.take j).map (fun e=>(e.2.1,nq.n2))=LJ at*;have hjl:LJ.length≤L.length+j:=by
       rw [←Po,List.length_append,List.length_map,List.length_take];omega
      have HLJ:=ae Po;clear Po;have hi0:=hoi.2;have hi1:=hoi.1;subst M6;subst MZ;have M9:=ae BP;have Pp:=ae M8;have HRO:=ae hro;have HI0:=ae hi0;have BQ:=ae hi1;have wis:=BP.size
      by_cases AA:j<vE.length
      ·obtain ⟨q,c,e1,k0,k1,k2⟩:=eZ.cell (T:=110) (v:=.slice ta vE.length tc) (l:=vE) (w:=wr) hro j AA;simp only [Value.slice.injEq] at e1;obtain ⟨rfl,_,rfl⟩:=e1;obtain ⟨ua,un,uc,hu⟩:=aa H34 vE[j] (List.getElem_mem AA);have HSJ:=ae (show L++(vE.take (j+1)).map (fun e=>(e.2.1,nq.n2))=LJ++[(vE[j].2.1,nq.n2)] from by
        rw [←aa HLJ,List.take_succ_eq_append_getElem AA,List.map_append,List.append_assoc];rfl)
       generalize vE[j]=y at*;obtain ⟨yp,yn,yu⟩:=y;simp only at k0 k1 k2 hu HSJ;subst hu;obtain ⟨t0,t1,t2,t3',t4⟩:=M8.five;have tl':=M8.lt;have hjn:(j:Int)<(vE.length:Int):=by omega
       clear BP hoi hi0 hi1 M8 hro;go_wp2_with (at_builtin;go_must (refine wpList_append_lies _ rfl _ _ 288 rfl w2.heap.size 291 i0 _ 2 32 Tryz.underlying288 (aa HI) (aa iU) (aa iV) (aa iW) rfl (by decide) (.slice ja LJ.length jc) LJ.length (aD LJ) rfl ?hown ⟨wr.heap.size+1,0,none⟩ 1 1 (rF (yn,nq.n2)) rfl rfl ?hnews ?hone (by decide) ?h63 ?hbytes ?hbase (wr.heap.size+2) ?hH ?hrest))
       case hown=>exact ((aa BQ).alloc _).alloc _
       case hnews=>exact World.news_of_block (B:=wr.heap.size+1) (cs:=#[.string yn,.string nq.n2]) (t:=291) (fr:=(0,0)) (ag.new' (wr.alloc _) _ _ _ (by simp))
       case hone=>
        intro z hz;simp [rF] at hz
        rcases hz with rfl|rfl<;>rfl
       case h63=>unfold maxLen;omega
       case hbytes=>omega
       case hbase=>simp;omega
       case hH=>simp
       case hrest=>
        intro g6 ny w6 dV aW jk uF;have BH:=((aa BQ).alloc (.cells #[.int .i64 yp,.string yn,.slice ua un uc] 110)).alloc (.cells #[.string yn,.string nq.n2] 291);have bx:=((Below.refl wr.heap.size wr).alloc Qv (.cells #[.int .i64 yp,.string yn,.slice ua un uc] 110)).alloc (by simp) (.cells #[.string yn,.string nq.n2] 291);have B6:=ae (Below.grown ((aa M9).trans (bx.mono wis)) aW (by simp;omega) (fun k hk=>(BH.lt k hk).1));have T6:=ae ((aW.block _ ((aa Pp).below bx).lt (own_ne BH ((aa Pp).below bx) (by decide))).trans ((aa Pp).below bx));have R6:=ae (ai (w':=w6) (aa HRO) (fun g cs f _ hh=>(aW.block g (Nat.lt_of_lt_of_le (lt_of_some hh) bx.size) (dD BH ((bx.block g (lt_of_some hh)).trans hh) (by decide))).trans (bx.block g (lt_of_some hh))));have O6:=ae dV;clear dV aW jk BH bx;go_wp2;go_roundw
        case rel=>exact ⟨j+1,.slice (some ⟨g6,0,none⟩) (LJ.length+1) ny,by omega,by go_num,rfl,aa B6,aa T6,aa R6,by rw [aa HSJ];exact ⟨by rw [List.length_append,bV];exact aa O6,fun h=>by simp at h⟩⟩
        case measure=>simp [intOf];omega
      ·have hjn:¬((j:Int)<(vE.length:Int)):=by omega
       have hLE:L++vE.map (fun e=>(e.2.1,nq.n2))=LJ:=by
        rw [←aa HLJ,List.take_of_length_le (by omega)]
       have HLE:=ae hLE;clear BP hoi hi0 hi1 M8 hro hLE;go_wp2;go_roundw
       case rel=>exact ⟨k+1,.slice ja LJ.length jc,by omega,by go_num,rfl,aa M9,by rw [aa HST,aa BO,aa HLE];exact ⟨aa BQ,aa HI0⟩⟩
       case measure=>simp [intOf];omega
   |⟨nq,some xq,none⟩,bf,rG,HST=>exact bf.elim
  ·have hkn:¬((k:Int)<((aj e).length:Int)):=by omega
   have M7:L=eG ts t r e:=by
    rw [←aa BO];unfold NK eG;rw [List.take_of_length_le (by omega)]
   have Pk:=ae M7;clear hbr ho ho0 Kg M7;go_wp2;go_ret;exact ⟨.slice sa L.length sc,rfl,(aa B2).trans ((aa HB).mono ni),by rw [←aa Pk];exact ⟨aC (aa HO) ni,aa Kh⟩⟩
