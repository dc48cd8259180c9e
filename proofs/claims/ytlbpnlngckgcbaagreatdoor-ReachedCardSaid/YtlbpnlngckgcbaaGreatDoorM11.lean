import Derived.Test.YtlbpnlngckgcbaaGreatDoorM10
set_option linter.all false
set_option maxHeartbeats 4000000
set_option maxRecDepth 100000
namespace Go.Proofs.YtlbpnlngckgcbaaGreatDoor
open Go.RowKit Go.PlainAid
def ky (ts:List Ty) (t:Ty) (p:Ex):Option Nat:=match p.l with
 |some _=>none
 |none=>if p.nd.kind=0 then nJ ts p.nd.gs
  else if p.nd.kind=1 then (match aW t p.nd.n1 with
   |none=>some p.nd.place
   |some _=>none)
  else Cz ts t p.nd.n1 p.nd.p1 p.nd.n2 p.nd.p2
def qQ (ts:List Ty) (t:Ty) (r:Rl):Option Nat:=(aj r.body).findSome? (ky ts t)
theorem lJ {α β:Type} (f:α→Option β) (l:List α) (k:Nat) (a:α) (h:l[k]? =some a):(l.drop k).findSome? f=match f a with
  |some p=>some p
  |none=>(l.drop (k+1)).findSome? f:=by
 have hlt:k<l.length:=by
  rcases Nat.lt_or_ge k l.length with h'|h'
  ·exact h'
  ·rw [List.getElem?_eq_none h'] at h;cases h
 rw [RI hlt] at h;simp only [Option.some.injEq] at h;rw [List.drop_eq_getElem_cons hlt,List.findSome?_cons,h]
 cases f a<;>rfl
theorem CB {e p:Ex} (hp:p∈aj e) (hl:p.l=none) (hk:p.nd.kind=0):p.nd.gs.length≤(aY e).length:=by
 unfold aY;have:mi p=p.nd.gs:=by simp [mi,hl,hk]
 rw [←this];obtain ⟨a,c,h⟩:=List.append_of_mem hp;rw [h];simp;omega
theorem mD (k:Nat):iJ k=244∨iJ k=245∨iJ k=246:=by
 unfold iJ
 split
 ·exact .inl rfl
 ·split
  ·exact .inr (.inl rfl)
  ·exact .inr (.inr rfl)
theorem qR (b:Nat) (sv:Value) (ts:List Ty) (tl:List (Ty×Value)) (t:Ty) (tv:Value) (rl:List (Rl×Value)) (r:Rl) (bv:Value) (w:World) (h:MC b w sv ts tl) (ht:RC b w tv t.rels rl) (hr:ay b w r.body bv) (hmem:r∈t.rels):
  Calls Tryz.prog 117 #[.agg #[sv],.agg #[.int .i64 t.place,.string t.name,tv],.agg #[.int .i64 r.place,.string r.name,bv]] w fun e' w'=>e'=.returned (dW 5 (qQ ts t r))∧Below w.heap.size w w':=by
 obtain ⟨ma,mn,mc,rfl⟩:=h.form;obtain ⟨va,vn,vc,rfl⟩:=ht.form;obtain ⟨ra,rv,rfl⟩:=hr.isI;have W0:Below w.heap.size w (((w.alloc (.cells #[.slice ma mn mc] 75)).alloc (.cells #[.int .i64 t.place,.string t.name,.slice va vn vc] 110)).alloc (.cells #[.int .i64 r.place,.string r.name,.iface ra rv] 159)):=(((Below.refl _ _).alloc RH _).alloc (by simp) _).alloc (by simp;omega) _;have qd:=ae (h.below W0);have IX:=ae (ht.below W0);have Nr:=ae (hr.but (But.of_below W0));have MB:=ae (((ag.new w #[.slice ma mn mc] 75).alloc (.cells #[.int .i64 t.place,.string t.name,.slice va vn vc] 110)).alloc (.cells #[.int .i64 r.place,.string r.name,.iface ra rv] 159));have YB:=ae ((ag.new' (w.alloc (.cells #[.slice ma mn mc] 75)) #[.int .i64 t.place,.string t.name,.slice va vn vc] 110 (w.heap.size+1) (by simp)).alloc (.cells #[.int .i64 r.place,.string r.name,.iface ra rv] 159));have okp:=ht.okp r hmem;have okg:=ht.okg r hmem;have fK:=ae W0;generalize hR:qQ ts t r=R;have yV:=ae hR;have Fg:=(aa qd).blt;clear W0 h ht hr hR hmem;go_enter Tryz.func117,Tryz.ntmps117;go_wp2_with fail;refine (kT r.body b _ _ Fg (aa Nr) okp).mono ?_;rintro e1 w2 ⟨yX,rfl,hb2,l,l1,l2,l3⟩;obtain ⟨oa,oc,rfl⟩:=ak l3;have ll:l.length=(aj r.body).length:=by rw [←l1];simp
 have B2:=ae ((aa fK).trans (hb2.mono (aa fK).size));have L1:=ae l1;have L2:=ae l2;have L3:=ae l3;have M2:=ae ((aa qd).below hb2);have T2:=ae ((aa IX).below hb2);have CE:=ae ((aa MB).below hb2);have Lf:=ae ((aa YB).below hb2);have nH:=(aa B2).size;clear hb2 l1 l2 l3;have f0:=bJ;have f1:=df;have f2:=dh;have f3:=aX;have f4:=bK;have f5:=bO;have g1:=dX;have g2:=dY;have g3:=bQ;have g4:=dC;have g5:=dE;have h2:=dZ;have h3:=bU;have h4:=dD;have h5:=dF;go_wp2_with fail
 go_loopw [17] (fun u17 wr=>∃(k:Nat),k≤(aj r.body).length∧u17=.int .i64 k∧Below w2.heap.size w2 wr∧Hid (((aj r.body).drop k).findSome? (ky ts t)=R)) (fun u _=>(aj r.body).length-(intOf u).toNat)
 case atStart=>exact ⟨0,by omega,rfl,Below.refl _ _,yV⟩
 case round=>
  obtain ⟨k,hk,rfl,hbr,HQ⟩:=hrel;have HB:=ae hbr;have uV:=hbr.size
  by_cases hlt:k<(aj r.body).length
  ·have hkl:k<l.length:=by omega
   obtain ⟨q1,c1,e1,kc⟩:=aQ (ai (w':=wr) (aa L3) (fun g cs f _ hh=>hbr.block g (lt_of_some hh))) k l[k].2 (by simp [RI hkl]);simp only [Value.slice.injEq] at e1;obtain ⟨rfl,_,rfl⟩:=e1;have bi:=(aa L2 l[k] (List.getElem_mem hkl)).but (b:=b) (But.of_below hbr);have hk':(aj r.body)[k]? =some l[k].1:=by rw [←aa L1];simp [RI hkl]
   generalize l[k]=q at*;obtain ⟨q1,qv⟩:=q;simp only at kc bi hk';have hkn:(k:Int)<((aj r.body).length:Int):=by omega
   have hR:=aa HQ;rw [lJ _ _ _ _ hk'] at hR;have hin:=List.mem_of_getElem? hk';have m0:wr.cell? ⟨w.heap.size,0,none⟩=some (.slice ma mn mc):=((aa CE).below hbr).cell rfl;have ml:=((aa CE).below hbr).lt;obtain ⟨y0,y1,y2⟩:=((aa Lf).below hbr).three;have yl:=((aa Lf).below hbr).lt;have Lg:=ae ((aa M2).below hbr);have Lh:=ae ((aa T2).below hbr);clear hbr hk' HQ
   match q1,bi,hR,hin with
   |⟨nq,some xq,some yq⟩,⟨vx,vy,hv,rx,ry⟩,hR,hin=>
    have bP:=ae (show ((aj r.body).drop (k+1)).findSome? (ky ts t)=R from hR);subst hv;clear rx ry hR hin
    rcases mD nq.kind with wT|wT|wT
    all_goals
     rw [wT] at kc;clear wT;go_wp2;go_roundw
     case rel=>exact ⟨k+1,by omega,by go_num,aa HB,bP⟩
     case measure=>simp [intOf];omega
   |⟨nq,none,rq⟩,bi,hR,hin=>
    rcases bi with ⟨jK,gv,hv,hrow⟩|⟨jK,hv⟩|⟨jK,hv⟩
    ·have hle:=CB hin rfl jK;have hnn:ky ts t ⟨nq,none,rq⟩=nJ ts nq.gs:=by simp [ky,jK]
     rw [hnn] at hR;obtain ⟨xa,xn,xc,rfl⟩:∃a n c,gv=.slice a n c:=by
      obtain ⟨a,c,e⟩:=ak hrow;exact ⟨a,_,c,e⟩
     subst hv;have bx:Below wr.heap.size wr (wr.alloc (.cells #[.int .i64 nq.place,.slice xa xn xc] 236)):=(Below.refl _ _).alloc RH _;have C:=ae (sw b nq.place _ ts tl _ nq.gs _ ((aa Lg).below bx) (ai hrow (fun g cs f _ hh=>bx.block g (lt_of_some hh))) (by simp only at hle;omega));have iL:=ae ((aa HB).trans (bx.mono uV));clear hrow bx hnn
     cases hn:nJ ts nq.gs with
     |some p=>
      rw [hn] at hR C;have bP:=ae hR;clear hn hR;go_wp2_with fail;refine (aa C).mono ?_;rintro e w3 ⟨rfl,hb3⟩;have B3:=ae ((aa iL).trans (hb3.mono (aa iL).size));clear hb3;unfold dW eG;go_wp2;go_ret;rw [←aa bP];exact ⟨rfl,(aa B2).trans ((aa B3).mono nH)⟩
     |none=>
      rw [hn] at hR C;have bP:=ae hR;clear hn hR;go_wp2_with fail;refine (aa C).mono ?_;rintro e w3 ⟨rfl,hb3⟩;have B3:=ae ((aa iL).trans (hb3.mono (aa iL).size));clear hb3;unfold dW;go_wp2;go_roundw
      case rel=>exact ⟨k+1,by omega,by go_num,aa B3,bP⟩
      case measure=>simp [intOf];omega
    ·subst hv;have bx:Below wr.heap.size wr (wr.alloc (.cells #[.int .i64 nq.place,.string nq.n1] 238)):=(Below.refl _ _).alloc RH _;have iL:=ae ((aa HB).trans (bx.mono uV));have OB:=ae (ag.new wr #[.int .i64 nq.place,.string nq.n1] 238)
     cases hn:aW t nq.n1 with
     |none=>
      have hnn:ky ts t ⟨nq,none,rq⟩=some nq.place:=by simp [ky,jK,hn]
      rw [hnn] at hR;have bP:=ae hR;have C:=ae (iC b t.place t.name _ t rl nq.n1 _ ((aa Lh).below bx) hn);clear hn hR bx hnn jK hin;go_wp2_with fail;refine (aa C).mono ?_;rintro e w3 ⟨rfl,hb3⟩;have B3:=ae ((aa iL).trans (hb3.mono (aa iL).size));obtain ⟨o0,o1⟩:=((aa OB).below hb3).two;have ol:=((aa OB).below hb3).lt;clear hb3;unfold aM;go_wp2_with (go_at_call 73;refine (fE _ 5 _).mono ?_;rintro e w4 ⟨rfl,rfl⟩;unfold eG aM);go_ret;rw [←aa bP];exact ⟨rfl,(aa B2).trans ((aa B3).mono nH)⟩
     |some r2=>
      have hnn:ky ts t ⟨nq,none,rq⟩=none:=by simp [ky,jK,hn]
      rw [hnn] at hR;have bP:=ae hR;obtain ⟨za,zv,_,_,hcall⟩:=jy b t.place t.name _ t rl nq.n1 _ ((aa Lh).below bx) r2 hn;have C:=ae hcall;clear hn hR bx hnn jK hin hcall;go_wp2_with fail;refine (aa C).mono ?_;rintro e w3 ⟨rfl,hb3⟩;have B3:=ae ((aa iL).trans (hb3.mono (aa iL).size));obtain ⟨o0,o1⟩:=((aa OB).below hb3).two;have ol:=((aa OB).below hb3).lt;clear hb3;go_wp2_with (go_at_call 73;refine (E8 _ _).mono ?_;rintro e w4 ⟨rfl,rfl⟩);go_roundw
      case rel=>exact ⟨k+1,by omega,by go_num,aa B3,bP⟩
      case measure=>simp [intOf];omega
    ·subst hv;have hnn:ky ts t ⟨nq,none,rq⟩=Cz ts t nq.n1 nq.p1 nq.n2 nq.p2:=by simp [ky,jK]
     rw [hnn] at hR;have bx:Below wr.heap.size wr (wr.alloc (.cells #[.int .i64 nq.place,.int .i64 nq.p1,.string nq.n1,.int .i64 nq.p2,.string nq.n2] 240)):=(Below.refl _ _).alloc RH _;have iL:=ae ((aa HB).trans (bx.mono uV));have C:=ae (uY b nq.place nq.p1 nq.p2 nq.n1 nq.n2 _ ts tl t _ rl _ ((aa Lg).below bx) ((aa Lh).below bx));clear bx hnn jK hin
     cases hn:Cz ts t nq.n1 nq.p1 nq.n2 nq.p2 with
     |some p=>
      rw [hn] at hR C;have bP:=ae hR;clear hn hR;go_wp2_with fail;refine (aa C).mono ?_;rintro e w3 ⟨rfl,hb3⟩;have B3:=ae ((aa iL).trans (hb3.mono (aa iL).size));clear hb3;unfold dW eG;go_wp2;go_ret;rw [←aa bP];exact ⟨rfl,(aa B2).trans ((aa B3).mono nH)⟩
     |none=>
      rw [hn] at hR C;have bP:=ae hR;clear hn hR;go_wp2_with fail;refine (aa C).mono ?_;rintro e w3 ⟨rfl,hb3⟩;have B3:=ae ((aa iL).trans (hb3.mono (aa iL).size));clear hb3;unfold dW;go_wp2;go_roundw
      case rel=>exact ⟨k+1,by omega,by go_num,aa B3,bP⟩
      case measure=>simp [intOf];omega
   |⟨nq,some xq,none⟩,bi,hR,hin=>exact bi.elim
  ·have hR:=aa HQ;rw [List.drop_of_length_le (by omega)] at hR;have hkn:¬((k:Int)<((aj r.body).length:Int)):=by omega
   have bP:=ae hR;clear hbr hR;go_wp2;go_ret;rw [←aa bP];exact ⟨rfl,(aa B2).trans ((aa HB).mono nH)⟩
abbrev Sp:=RJ×RJ
def sD (s:Sp):List Value:=[.string s.1,.string s.2]
def aD (l:List Sp):List Value:=l.flatMap sD
theorem Fh (s:Sp):∀(l:List Sp) (i:Nat),l[i]? =some s→(aD l)[i*2]? =some (.string s.1)∧(aD l)[i*2+1]? =some (.string s.2)
 | [],i,h=>by simp at h
 |e'::l,0,h=>by simp at h;subst h;simp [aD,sD]
 |e'::l,i+1,h=>by
  have:=Fh s l i (by simpa using h);rw [show aD (e'::l)=sD e'++aD l from rfl,show (i+1)*2=i*2+2 by omega]
  simpa [sD] using this
theorem Row2.cell {w:World} {base:Nat} {v:Value} {l:List Sp} (h:w.ownsRow base 291 2 v l.length (aD l)) (i:Nat) (s:Sp) (hi:l[i]? =some s):
  ∃q c,v=.slice (some ⟨q,0,none⟩) l.length c∧w.cell? ⟨q,i*2,none⟩=some (.string s.1)∧w.cell? ⟨q,i*2+1,none⟩=some (.string s.2):=by
 obtain ⟨h0,h1⟩:=Fh s l i hi;obtain ⟨q,c,rfl,e0⟩:=aQ h _ _ h0;obtain ⟨q',c',e',e1⟩:=aQ h _ _ h1;simp only [Value.slice.injEq,Option.some.injEq,Addr.mk.injEq] at e';obtain ⟨⟨rfl,_⟩,_⟩:=e';exact ⟨q,c,rfl,e0,e1⟩
theorem cz (a c:List Sp):aD (a++c)=aD a++aD c:=by simp [aD]
theorem aR (a:List Sp):(aD a).length=a.length*2:=by
 induction a with
 |nil=>rfl
 |cons g r ih=>simp [aD,sD] at*;omega
theorem Fj (l:List Sp):∀u∈aD l,u.oneCell'=true:=by
 intro u hu;unfold aD at hu;rw [List.mem_flatMap] at hu;obtain ⟨g,_,hu⟩:=hu;simp [sD] at hu
 rcases hu with rfl|rfl<;>rfl
theorem Tryz.info291:(Tryz.prog.info? 291).map (fun i=>(i.zero,i.size,i.bytes))=some (some (.agg #[.string ⟨#[]⟩,.string ⟨#[]⟩]),2,32):=by kernel_rfl
def eZ (base:Nat) (w:World) (sv:Value) (l:List Sp):Prop:=w.ownsRow base 291 2 sv l.length (aD l)∧(l=[]→sv=.slice none 0 0)
theorem eZ.nil (base:Nat) (w:World):eZ base w (.slice none 0 0) []:=⟨World.ownsRow_nil _ _ _ _,fun _=>rfl⟩
theorem eZ.form {base:Nat} {w:World} {sv:Value} {l:List Sp} (h:eZ base w sv l):∃a c,sv=.slice a l.length c:=ak h.1
theorem eZ.base {base base':Nat} {w:World} {sv:Value} {l:List Sp} (h:eZ base w sv l) (hb:base'≤base):eZ base' w sv l:=⟨aA h.1 hb,h.2⟩
def uZ (g:Gr):Option Sp:=if g.reach=2 then some (g.ty,g.rel) else none
def ve (k:Nat) (gs:List Gr):List Sp:=(gs.take k).filterMap uZ
def pV (r:Rl):List Sp:=(aY r.body).filterMap uZ
theorem CJ {k:Nat} {gs:List Gr} {g:Gr} (h:gs[k]? =some g):ve (k+1) gs=ve k gs++(uZ g).toList:=by
 have hlt:k<gs.length:=by
  rcases Nat.lt_or_ge k gs.length with h'|h'
  ·exact h'
  ·rw [List.getElem?_eq_none h'] at h;cases h
 rw [RI hlt] at h;simp only [Option.some.injEq] at h;unfold ve;rw [List.take_succ_eq_append_getElem hlt,List.filterMap_append,h]
 cases hq:uZ g<;>simp [hq]
theorem IY (k:Nat) (gs:List Gr):(ve k gs).length≤k:=by
 unfold ve;have:=List.length_filterMap_le uZ (gs.take k);rw [List.length_take] at this;omega
theorem wU (b:Nat) (r:Rl) (v:Value) (w:World) (hb:b<w.heap.size) (h:ay b w r.body v) (hp:(aj r.body).length≤1000) (hg:(aY r.body).length≤1000) (hwf:WF r.body):
  Calls Tryz.prog 225 #[.agg #[.int .i64 r.place,.string r.name,v]] w fun e' w'=>∃sv,e'=.returned sv∧Below w.heap.size w w'∧eZ w.heap.size w' sv (pV r):=by
 obtain ⟨i0,hi,hz0,hz1,hz2⟩:=info_parts Tryz.info291;have HI:=ae hi;have jg:=ae hz0;have jh:=ae hz1;have ji:=ae hz2;clear hi hz0 hz1 hz2;obtain ⟨ra,rv,rfl⟩:=h.isI;have H:=ae h;have Lc:=ae hwf;clear h hwf;go_enter Tryz.func225,Tryz.ntmps225;go_wp2_with fail;refine (mo r.place r.name b r.body _ _ (by simp;omega) ((aa H).but ((But.refl b w).alloc _)) hp hg (aa Lc)).mono ?_;rintro e w3 ⟨gv,rfl,hb3,hrow⟩;obtain ⟨ga,gc,rfl⟩:=ak hrow;have B3:=ae (((Below.refl _ w).alloc RH (.cells #[.int .i64 r.place,.string r.name,.iface ra rv] 159)).trans (hb3.mono (by simp)));have om:=ae hrow;have zD:=(aa B3).size;clear hb3 hrow;go_wp2_with fail
 go_loopw [3,9] (fun u3 u9 wr=>∃(k:Nat) (sv:Value),k≤(aY r.body).length∧u9=.int .i64 k∧u3=sv∧Below w3.heap.size w3 wr∧eZ w3.heap.size wr sv (ve k (aY r.body))) (fun _ u _=>(aY r.body).length-(intOf u).toNat)
 case atStart=>exact ⟨0,_,by omega,rfl,rfl,Below.refl _ _,eZ.nil _ _⟩
 case round=>
  obtain ⟨k,sv,hk,rfl,hu3,hbr,ho⟩:=hrel;obtain ⟨sa,sc,Ol⟩:=ho.form;have hkl:=IY k (aY r.body);have ho0:=ho.2;have Li:=ho.1;generalize hL:ve k (aY r.body)=L at*;have CO:=ae hL;clear hL;subst Ol;subst hu3;have HB:=ae hbr;have Lj:=ae ho0;have HO:=ae Li;have uV:=hbr.size
  by_cases hlt:k<(aY r.body).length
  ·have hkn:(k:Int)<((aY r.body).length:Int):=by omega
   obtain ⟨q,c,e1,k0,k1,k2,k3,k4⟩:=Ld.cell (ai (w':=wr) (aa om) (fun g cs f _ hh=>hbr.block g (lt_of_some hh))) k (aY r.body)[k] (RI hlt);simp only [Value.slice.injEq] at e1;obtain ⟨rfl,_,rfl⟩:=e1;have hg':(aY r.body)[k]? =some (aY r.body)[k]:=RI hlt;generalize (aY r.body)[k]=g at*;have HST:=ae (CJ hg');clear hbr ho ho0 Li hg'
   by_cases h2:g.reach=2
   ·have h2':((g.reach:Int)==2)=true:=by rw [h2];rfl
    have ht1:uZ g=some (g.ty,g.rel):=by simp [uZ,h2]
    clear h2;go_wp2_with (at_builtin;go_must (refine wpList_append_lies _ rfl _ _ 288 rfl w3.heap.size 291 i0 _ 2 32 Tryz.underlying288 (aa HI) (aa jg) (aa jh) (aa ji) rfl (by decide) (.slice sa L.length sc) L.length (aD L) rfl ?hown ⟨wr.heap.size+1,0,none⟩ 1 1 (sD (g.ty,g.rel)) rfl rfl ?hnews ?hone (by decide) ?h63 ?hbytes ?hbase (wr.heap.size+2) ?hH ?hrest))
    case hown=>exact ((aa HO).alloc _).alloc _
    case hnews=>exact World.news_of_block (B:=wr.heap.size+1) (cs:=#[.string g.ty,.string g.rel]) (t:=291) (fr:=(0,0)) (ag.new' (wr.alloc _) _ _ _ (by simp))
    case hone=>
     intro z hz;simp [sD] at hz
     rcases hz with rfl|rfl<;>rfl
    case h63=>unfold maxLen;omega
    case hbytes=>omega
    case hbase=>simp;omega
    case hH=>simp
    case hrest=>
     intro g6 nK w6 d9 aZ jC uX;have Cy:=((aa HO).alloc (.cells #[.int .i64 g.tp,.string g.ty,.int .i64 g.reach,.int .i64 g.rp,.string g.rel] 207)).alloc (.cells #[.string g.ty,.string g.rel] 291);have B6:=ae (Below.grown (((aa HB).alloc uV (.cells #[.int .i64 g.tp,.string g.ty,.int .i64 g.reach,.int .i64 g.rp,.string g.rel] 207)).alloc (by simp;omega) (.cells #[.string g.ty,.string g.rel] 291)) aZ (by simp;omega) (fun k hk=>(Cy.lt k hk).1));have O6:=ae d9;clear d9 aZ jC Cy;go_wp2;go_roundw
     case rel=>exact ⟨k+1,.slice (some ⟨g6,0,none⟩) (L.length+1) nK,by omega,by go_num,rfl,aa B6,by rw [aa HST,ht1,aa CO];exact ⟨by rw [Option.toList_some,List.length_append,cz];exact aa O6,fun h=>by simp at h⟩⟩
     case measure=>simp [intOf];omega
   ·have h2':((g.reach:Int)==2)=false:=by rw [beq_eq_false_iff_ne];omega
    have ht1:uZ g=none:=by simp [uZ,h2]
    have BX:=ae ((aa HB).alloc uV (.cells #[.int .i64 g.tp,.string g.ty,.int .i64 g.reach,.int .i64 g.rp,.string g.rel] 207));have OX:=ae ((aa HO).alloc (.cells #[.int .i64 g.tp,.string g.ty,.int .i64 g.reach,.int .i64 g.rp,.string g.rel] 207));clear h2;go_wp2;go_roundw
    case rel=>exact ⟨k+1,.slice sa L.length sc,by omega,by go_num,rfl,aa BX,by rw [aa HST,ht1,aa CO];exact ⟨by simpa using aa OX,fun h=>aa Lj (by simpa using h)⟩⟩
    case measure=>simp [intOf];omega
  ·have hkn:¬((k:Int)<((aY r.body).length:Int)):=by omega
   have hall:ve k (aY r.body)=pV r:=by
    unfold ve pV;rw [List.take_of_length_le (by omega)]
   have Om:L=pV r:=(aa CO).symm.trans hall;have QF:=ae Om;clear hbr ho ho0 Li hall Om;go_wp2;go_ret;exact ⟨.slice sa L.length sc,rfl,(aa B3).trans ((aa HB).mono zD),by rw [←aa QF];exact ⟨aA (aa HO) zD,aa Lj⟩⟩
theorem Fp (b tp p1 p2:Nat) (n1 n2:RJ) (sv:Value) (ts:List Ty) (tl:List (Ty×Value)) (t:Ty) (tv:Value) (rl:List (Rl×Value)) (w:World) (h:MC b w sv ts tl) (ht:RC b w tv t.rels rl):
  Calls Tryz.prog 223 #[.agg #[sv],.agg #[.int .i64 t.place,.string t.name,tv],.agg #[.int .i64 tp,.int .i64 p1,.string n1,.int .i64 p2,.string n2]] w fun e' w'=>∃(qc:Value) (l3:List E3),e'=.returned qc∧Below w.heap.size w w'∧w'.ownsRow w.heap.size 110 3 qc l3.length (l3.flatMap c3)∧l3.map (fun e=>e.2.1)=(qP ts t n1 n2).map Ty.name∧l3.length≤1000∧∀e∈l3,∃a n c,e.2.2=.slice a n c:=by
 unfold qP
 cases hf:aW t n1 with
 |none=>
  refine (Cx b tp p1 p2 n1 n2 sv ts tl t tv rl w h ht hf).mono ?_;rintro e w' ⟨rfl,hb⟩;exact ⟨_,[],rfl,hb,World.ownsRow_nil _ _ _ _,rfl,by simp,by simp⟩
 |some r=>
  refine (tF b tp p1 p2 n1 n2 sv ts tl t tv rl w h ht r hf).mono ?_;rintro e w' ⟨qc,l3,rfl,hb,h1,h2,h3⟩;refine ⟨_,l3,rfl,hb,h1,h2,?_,h3⟩;have e1:=congrArg List.length h2;rw [List.length_map,List.length_map] at e1;have e2:=List.length_filterMap_le (jO ts n2) (aY r.body);have e3:=ht.okg r (List.mem_of_find?_eq_some hf);omega
def gT (ts:List Ty) (t:Ty) (r:Rl) (p:Ex):List Sp:=match p.l with
 |some _=>[]
 |none=>if p.nd.kind=0 then pV r
  else if p.nd.kind=1 then [(t.name,p.nd.n1)]
  else (qP ts t p.nd.n1 p.nd.n2).map fun u=>(u.name,p.nd.n2)
def eX (ts:List Ty) (t:Ty) (r:Rl) (e:Ex):List Sp:=(aj e).flatMap (gT ts t r)
def NK (ts:List Ty) (t:Ty) (r:Rl) (e:Ex) (k:Nat):List Sp:=((aj e).take k).flatMap (gT ts t r)
theorem Bf {ts:List Ty} {t:Ty} {r:Rl} {e:Ex} {k:Nat} {p:Ex} (hk:(aj e)[k]? =some p):NK ts t r e (k+1)=NK ts t r e k++gT ts t r p:=by
 unfold NK;have hlt:k<(aj e).length:=by
  rcases Nat.lt_or_ge k (aj e).length with h|h
  ·exact h
  ·rw [List.getElem?_eq_none h] at hk;cases hk
 rw [List.take_succ_eq_append_getElem hlt,List.flatMap_append];rw [RI hlt] at hk;simp only [Option.some.injEq] at hk;simp [hk]
theorem IZ (r:Rl):(pV r).length≤(aY r.body).length:=List.length_filterMap_le _ _
theorem Fq {b:Nat} {w:World} {tv:Value} {rl:List (Rl×Value)} (ts:List Ty) (t:Ty) (ht:RC b w tv t.rels rl) (x y:RJ):(qP ts t x y).length≤1000:=by
 unfold qP
 cases hf:aW t x with
 |none=>simp
 |some r=>
  have e2:=List.length_filterMap_le (jO ts y) (aY r.body);have e3:=ht.okg r (List.mem_of_find?_eq_some hf);simp only;omega
theorem tH {b:Nat} {w:World} {tv:Value} {rl:List (Rl×Value)} (ts:List Ty) (t:Ty) (ht:RC b w tv t.rels rl) (r:Rl) (hg:(aY r.body).length≤1000) (p:Ex):(gT ts t r p).length≤1000:=by
 unfold gT;have h1:=IZ r;have h2:=Fq ts t ht p.nd.n1 p.nd.n2
 split
 ·simp
 ·split
  ·omega
  ·split
   ·simp
   ·simpa using h2
theorem Fs {b:Nat} {w:World} {tv:Value} {rl:List (Rl×Value)} (ts:List Ty) (t:Ty) (ht:RC b w tv t.rels rl) (r:Rl) (hg:(aY r.body).length≤1000) (e:Ex):∀k,(NK ts t r e k).length≤1000*k
 |0=>by simp [NK]
 |k+1=>by
  have ih:=Fs ts t ht r hg e k
  rcases Nat.lt_or_ge k (aj e).length with h|h
  ·rw [Bf (RI h),List.length_append];have:=tH ts t ht r hg (aj e)[k];omega
  ·have:NK ts t r e (k+1)=NK ts t r e k:=by
    unfold NK;rw [List.take_of_length_le (by omega),List.take_of_length_le h]
   rw [this];omega
theorem mF {P:Program} {w:World} {ops:Array Oper} {rest:List Oper} {o:Oper} {a:Act} {Q:Exit→Act→World→Prop} (hgd:o.guard=none) (s x:Operand) (t:TypeId)
  (ho:o.op=.call {callee:=.builtin .append,args:=#[s,x],argTypes:=#[t,t]}) (v:Value) (hs:a.eval s=v) (hx:a.eval x=.slice none 0 0)
  (hr:∀ty,(Builtin.append_ #[t,t] ty #[v,.slice none 0 0]).run P w=.ok v w)
  (h:wpList P ops Q rest (a.put o.dst v) w):wpList P ops Q (o::rest) a w:=
 wpList_plain hgd fun _ hK=>by
  unfold Oper.wp execOp;simp only [ho,resolve,invoke,builtin,Sem.run_bind,Sem.run_pure,Result.andThen_ok,List.map_toArray,List.map_cons,List.map_nil,hs,hx,hr];exact hK _ _ h
theorem oo (b:Nat) (sv:Value) (ts:List Ty) (tl:List (Ty×Value)) (t:Ty) (tv:Value) (rl:List (Rl×Value)) (r:Rl) (bv:Value) (e:Ex) (ev:Value) (w:World) (h:MC b w sv ts tl) (ht:RC b w tv t.rels rl) (hr:ay b w r.body bv) (hmem:r∈t.rels) (he:ay b w e ev) (hpe:(aj e).length≤1000):
  Calls Tryz.prog 177 #[.agg #[sv],.agg #[.int .i64 t.place,.string t.name,tv],.agg #[.int .i64 r.place,.string r.name,bv],ev] w fun e' w'=>∃sv,e'=.returned sv∧Below w.heap.size w w'∧eZ w.heap.size w' sv (eX ts t r e):=by
 obtain ⟨i0,hi,hz0,hz1,hz2⟩:=info_parts Tryz.info291;have HI:=ae hi;have jg:=ae hz0;have jh:=ae hz1;have ji:=ae hz2;clear hi hz0 hz1 hz2;obtain ⟨ma,mn,mc,rfl⟩:=h.form;obtain ⟨va,vn,vc,rfl⟩:=ht.form;obtain ⟨ra,rv,rfl⟩:=hr.isI;obtain ⟨ea,ex,rfl⟩:=he.isI;have W0:Below w.heap.size w (((w.alloc (.cells #[.slice ma mn mc] 75)).alloc (.cells #[.int .i64 t.place,.string t.name,.slice va vn vc] 110)).alloc (.cells #[.int .i64 r.place,.string r.name,.iface ra rv] 159)):=(((Below.refl _ _).alloc RH _).alloc (by simp) _).alloc (by simp;omega) _;have qd:=ae (h.below W0);have IX:=ae (ht.below W0);have Nr:=ae (hr.but (But.of_below W0));have HE0:=ae (he.but (But.of_below W0));have MB:=ae (((ag.new w #[.slice ma mn mc] 75).alloc (.cells #[.int .i64 t.place,.string t.name,.slice va vn vc] 110)).alloc (.cells #[.int .i64 r.place,.string r.name,.iface ra rv] 159));have YB:=ae ((ag.new' (w.alloc (.cells #[.slice ma mn mc] 75)) #[.int .i64 t.place,.string t.name,.slice va vn vc] 110 (w.heap.size+1) (by simp)).alloc (.cells #[.int .i64 r.place,.string r.name,.iface ra rv] 159));have RB:=ae (ag.new' ((w.alloc (.cells #[.slice ma mn mc] 75)).alloc (.cells #[.int .i64 t.place,.string t.name,.slice va vn vc] 110)) #[.int .i64 r.place,.string r.name,.iface ra rv] 159 (w.heap.size+2) (by simp));have okp:=ht.okp r hmem;have okg:=ht.okg r hmem;have Lc:=ae (ht.wf r hmem);have HNK:=ae (Fs ts t ht r okg e);have Bg:=ae (tH ts t ht r okg);have fK:=ae W0;have Fg:=(aa qd).blt;clear W0 h ht hr hmem he;go_enter Tryz.func177,Tryz.ntmps177;go_wp2_with fail;refine (kT e b _ _ Fg (aa HE0) hpe).mono ?_;rintro e1 w2 ⟨yX,rfl,hb2,l,l1,l2,l3⟩;obtain ⟨oa,oc,rfl⟩:=ak l3;have ll:l.length=(aj e).length:=by rw [←l1];simp
 have B2:=ae ((aa fK).trans (hb2.mono (aa fK).size));have L1:=ae l1;have L2:=ae l2;have L3:=ae l3;have M2:=ae ((aa qd).below hb2);have T2:=ae ((aa IX).below hb2);have X2:=ae ((aa Nr).but (But.of_below hb2));have CE:=ae ((aa MB).below hb2);have Lf:=ae ((aa YB).below hb2);have PZ:=ae ((aa RB).below hb2);have nH:=(aa B2).size;clear hb2 l1 l2 l3;have f0:=bJ;have f1:=df;have f2:=dh;have f3:=aX;have f4:=bK;have f5:=bO;have g1:=dX;have g2:=dY;have g3:=bQ;have g4:=dC;have g5:=dE;have h2:=dZ;have h3:=bU;have h4:=dD;have h5:=dF;go_wp2_with fail
 go_loopw [9,20] (fun u9 u20 wr=>∃(k:Nat) (sv:Value),k≤(aj e).length∧u20=.int .i64 k∧u9=sv∧Below w2.heap.size w2 wr∧eZ w2.heap.size wr sv (NK ts t r e k)) (fun _ u _=>(aj e).length-(intOf u).toNat)
 case atStart=>exact ⟨0,_,by omega,rfl,rfl,Below.refl _ _,eZ.nil _ _⟩
 case round=>
  obtain ⟨k,sv,hk,rfl,Oi,hbr,ho⟩:=hrel;obtain ⟨sa,sc,Ol⟩:=ho.form;have hkl:=aa HNK k;have ho0:=ho.2;have Li:=ho.1;generalize hL:NK ts t r e k=L at*;have CO:=ae hL;clear hL;subst Ol;subst Oi;have HB:=ae hbr;have Lj:=ae ho0;have HO:=ae Li;have uV:=hbr.size
  by_cases hlt:k<(aj e).length
  ·have Ll:k<l.length:=by omega
   obtain ⟨q1,c1,e1,kc⟩:=aQ (ai (w':=wr) (aa L3) (fun g cs f _ hh=>hbr.block g (lt_of_some hh))) k l[k].2 (by simp [RI Ll]);simp only [Value.slice.injEq] at e1;obtain ⟨rfl,_,rfl⟩:=e1;have bi:=(aa L2 l[k] (List.getElem_mem Ll)).but (b:=b) (But.of_below hbr);have hk':(aj e)[k]? =some l[k].1:=by rw [←aa L1];simp [RI Ll]
   generalize l[k]=q at*;obtain ⟨q1,qv⟩:=q;simp only at kc bi hk';have hkn:(k:Int)<((aj e).length:Int):=by omega
   have HST:=ae (Bf (ts:=ts) (t:=t) (r:=r) hk');have sF:=aa Bg q1;have m0:wr.cell? ⟨w.heap.size,0,none⟩=some (.slice ma mn mc):=((aa CE).below hbr).cell rfl;have ml:=((aa CE).below hbr).lt;obtain ⟨y0,y1,y2⟩:=((aa Lf).below hbr).three;have yl:=((aa Lf).below hbr).lt;obtain ⟨z0,z1,z2⟩:=((aa PZ).below hbr).three;have zl:=((aa PZ).below hbr).lt;have Lg:=ae ((aa M2).below hbr);have Lh:=ae ((aa T2).below hbr);have QG:=ae ((aa X2).but (But.of_below hbr));have bltr:=(aa Lg).blt;clear hbr ho ho0 Li hk'
   match q1,bi,sF,HST with
   |⟨nq,some xq,some yq⟩,⟨vx,vy,hv,rx,ry⟩,sF,HST=>
    subst hv;clear rx ry
    rcases mD nq.kind with wT|wT|wT
    all_goals
     rw [wT] at kc;clear wT;go_wp2;go_roundw
     case rel=>exact ⟨k+1,.slice sa L.length sc,by omega,by go_num,rfl,aa HB,by rw [aa HST,aa CO];simp only [gT,List.append_nil];exact ⟨aa HO,aa Lj⟩⟩
     case measure=>simp [intOf];omega
   |⟨nq,none,rq⟩,bi,sF,HST=>
    rcases bi with ⟨jK,gv,hv,hrow⟩|⟨jK,hv⟩|⟨jK,hv⟩
    ·obtain ⟨xa,xn,xc,rfl⟩:∃a n c,gv=.slice a n c:=by
      obtain ⟨a,c,e⟩:=ak hrow;exact ⟨a,_,c,e⟩
     have hnn:gT ts t r ⟨nq,none,rq⟩=pV r:=by simp [gT,jK]
     rw [hnn] at sF HST;subst hv;have bx:Below wr.heap.size wr (wr.alloc (.cells #[.int .i64 nq.place,.slice xa xn xc] 236)):=(Below.refl _ _).alloc RH _;have iL:=ae ((aa HB).trans (bx.mono uV));have C:=ae (wU b r _ _ (by simp;omega) ((aa QG).but (But.of_below bx)) okp okg (aa Lc));have OX:=ae ((aa HO).alloc (.cells #[.int .i64 nq.place,.slice xa xn xc] 236));clear hrow jK hnn bx;go_wp2_with fail;refine (aa C).mono ?_;rintro e w3 ⟨Ns,rfl,hb3,hrs⟩;have B3:=ae ((aa iL).trans (hb3.mono (aa iL).size));have zD:=(aa B3).size;have o3:=ai (w':=w3) (aa OX) (fun g cs f _ hh=>hb3.block g (lt_of_some hh));have O3:=ae o3
     by_cases hz:pV r=[]
     ·have e3:=hrs.2 hz;subst e3;rw [hz] at HST;have HAP:=ae (fun ty=>run_append_owned_none (P:=Tryz.prog) w3 w2.heap.size 288 ty 291 i0 2 Tryz.underlying288 (aa HI) (.slice sa L.length sc) L.length (aD L) o3);clear hb3 hrs o3 hz C;go_wp2_with (at_builtin;go_must (refine mF rfl _ _ 288 rfl (.slice sa L.length sc) rfl rfl (aa HAP) ?_));go_roundw
      case rel=>exact ⟨k+1,.slice sa L.length sc,by omega,by go_num,rfl,aa B3,by rw [aa HST,aa CO,List.append_nil];exact ⟨aa O3,aa Lj⟩⟩
      case measure=>simp [intOf];omega
     ·have hpos:0<(pV r).length:=List.length_pos_iff.2 hz;obtain ⟨gg,gc,rfl,nl,nw⟩:=tC hrs.1 hpos;have NL:=ae nl;have NW:=ae nw;clear hb3 hrs o3 hz C nl nw;go_wp2_with (at_builtin;go_must (refine wpList_append_lies _ rfl _ _ 288 rfl w2.heap.size 291 i0 _ 2 32 Tryz.underlying288 (aa HI) (aa jg) (aa jh) (aa ji) rfl (by decide) (.slice sa L.length sc) L.length (aD L) rfl (aa O3) ⟨gg,0,none⟩ (pV r).length gc (aD (pV r)) rfl (aa NL) (aa NW) (Fj _) hpos ?h63 ?hbytes zD w3.heap.size rfl ?hrest))
      case h63=>unfold maxLen;omega
      case hbytes=>omega
      case hrest=>
       intro g6 nK w6 d9 aZ jC uX;have B6:=ae (Below.grown (aa B3) aZ zD (fun k hk=>((aa O3).lt k hk).1));have O6:=ae d9;clear d9 aZ jC;go_wp2;go_roundw
       case rel=>exact ⟨k+1,.slice (some ⟨g6,0,none⟩) (L.length+(pV r).length) nK,by omega,by go_num,rfl,aa B6,by rw [aa HST,aa CO];exact ⟨by rw [List.length_append,cz];exact aa O6,fun h=>by simp at h;rw [h.2] at hpos;simp at hpos⟩⟩
       case measure=>simp [intOf];omega
    ·have hnn:gT ts t r ⟨nq,none,rq⟩=[(t.name,nq.n1)]:=by simp [gT,jK]
     rw [hnn] at sF HST;subst hv;clear hnn jK;go_wp2_with (at_builtin;go_must (refine wpList_append_lies _ rfl _ _ 288 rfl w2.heap.size 291 i0 _ 2 32 Tryz.underlying288 (aa HI) (aa jg) (aa jh) (aa ji) rfl (by decide) (.slice sa L.length sc) L.length (aD L) rfl ?hown ⟨wr.heap.size+1,0,none⟩ 1 1 (sD (t.name,nq.n1)) rfl rfl ?hnews ?hone (by decide) ?h63 ?hbytes ?hbase (wr.heap.size+2) ?hH ?hrest))
     case hown=>exact ((aa HO).alloc _).alloc _
     case hnews=>exact World.news_of_block (B:=wr.heap.size+1) (cs:=#[.string t.name,.string nq.n1]) (t:=291) (fr:=(0,0)) (ag.new' (wr.alloc _) _ _ _ (by simp))
     case hone=>
      intro z hz;simp [sD] at hz
      rcases hz with rfl|rfl<;>rfl
     case h63=>unfold maxLen;omega
     case hbytes=>omega
     case hbase=>simp;omega
     case hH=>simp
     case hrest=>
      intro g6 nK w6 d9 aZ jC uX;have Cy:=((aa HO).alloc (.cells #[.int .i64 nq.place,.string nq.n1] 238)).alloc (.cells #[.string t.name,.string nq.n1] 291);have B6:=ae (Below.grown (((aa HB).alloc uV (.cells #[.int .i64 nq.place,.string nq.n1] 238)).alloc (by simp;omega) (.cells #[.string t.name,.string nq.n1] 291)) aZ (by simp;omega) (fun k hk=>(Cy.lt k hk).1));have O6:=ae d9;clear d9 aZ jC Cy;go_wp2;go_roundw
      case rel=>exact ⟨k+1,.slice (some ⟨g6,0,none⟩) (L.length+1) nK,by omega,by go_num,rfl,aa B6,by rw [aa HST,aa CO];exact ⟨by rw [List.length_append,cz];exact aa O6,fun h=>by simp at h⟩⟩
      case measure=>simp [intOf];omega
    ·have hnn:gT ts t r ⟨nq,none,rq⟩=(qP ts t nq.n1 nq.n2).map fun u=>(u.name,nq.n2):=by simp [gT,jK]
     rw [hnn] at sF HST;subst hv;have bx:Below wr.heap.size wr (wr.alloc (.cells #[.int .i64 nq.place,.int .i64 nq.p1,.string nq.n1,.int .i64 nq.p2,.string nq.n2] 240)):=(Below.refl _ _).alloc RH _;have iL:=ae ((aa HB).trans (bx.mono uV));have C:=ae (Fp b nq.place nq.p1 nq.p2 nq.n1 nq.n2 _ ts tl t _ rl _ ((aa Lg).below bx) ((aa Lh).below bx));have OX:=ae ((aa HO).alloc (.cells #[.int .i64 nq.place,.int .i64 nq.p1,.string nq.n1,.int .i64 nq.p2,.string nq.n2] 240));have TQ:=ae (ag.new wr #[.int .i64 nq.place,.int .i64 nq.p1,.string nq.n1,.int .i64 nq.p2,.string nq.n2] 240);clear bx hnn jK;go_wp2_with fail;refine (aa C).mono ?_;rintro e w3 ⟨Ns,wh,rfl,hb3,QH,h32,h33,h34⟩;obtain ⟨ta,tc,rfl⟩:=ak QH;have B3:=ae ((aa iL).trans (hb3.mono (aa iL).size));have zD:=(aa B3).size;have TQ3:=ae ((aa TQ).below hb3);have O3:=ae (show eZ w2.heap.size w3 (.slice sa L.length sc) L from ⟨ai (w':=w3) (aa OX) (fun g cs f _ hh=>hb3.block g (lt_of_some hh)),aa Lj⟩);have H31:=ae QH;have H34:=ae h34;have hmap:(qP ts t nq.n1 nq.n2).map (fun u=>(u.name,nq.n2))=wh.map (fun e=>(e.2.1,nq.n2)):=by
      have:=congrArg (List.map (fun n=>(n,nq.n2))) h32;simp only [List.map_map] at this;exact this.symm
     rw [hmap] at sF HST;clear hb3 QH h32 h34 hmap C;go_wp2_with fail
     go_loopw [9,53] (fun u9 u53 wi=>∃(j:Nat) (sv:Value),j≤wh.length∧u53=.int .i64 j∧u9=sv∧Below w2.heap.size w2 wi∧ag wi wr.heap.size #[.int .i64 nq.place,.int .i64 nq.p1,.string nq.n1,.int .i64 nq.p2,.string nq.n2] 240∧wi.ownsRow 0 110 3 (.slice ta wh.length tc) wh.length (wh.flatMap c3)∧eZ w2.heap.size wi sv (L++(wh.take j).map (fun e=>(e.2.1,nq.n2)))) (fun _ u _=>wh.length-(intOf u).toNat)
     case atStart=>exact ⟨0,_,by omega,rfl,rfl,aa B3,aa TQ3,aA (aa H31) (Nat.zero_le _),by simpa using aa O3⟩
     case round=>
      obtain ⟨j,svj,hj,rfl,Oi,CR,Oo,hro,hoi⟩:=hrel;obtain ⟨ja,jc,Ol⟩:=hoi.form;generalize QI:L++(wh.take j).map (fun e=>(e.2.1,nq.n2))=LJ at*;have hjl:LJ.length≤L.length+j:=by
       rw [←QI,List.length_append,List.length_map,List.length_take];omega
      have HLJ:=ae QI;clear QI;have hi0:=hoi.2;have hi1:=hoi.1;subst Ol;subst Oi;have Ot:=ae CR;have QJ:=ae Oo;have HRO:=ae hro;have HI0:=ae hi0;have CU:=ae hi1;have wis:=CR.size
      by_cases vg:j<wh.length
      ·obtain ⟨q,c,e1,k0,k1,k2⟩:=fD.cell (T:=110) (v:=.slice ta wh.length tc) (l:=wh) (w:=wr) hro j vg;simp only [Value.slice.injEq] at e1;obtain ⟨rfl,_,rfl⟩:=e1;obtain ⟨ua,un,uc,hu⟩:=aa H34 wh[j] (List.getElem_mem vg);have HSJ:=ae (show L++(wh.take (j+1)).map (fun e=>(e.2.1,nq.n2))=LJ++[(wh[j].2.1,nq.n2)] from by
        rw [←aa HLJ,List.take_succ_eq_append_getElem vg,List.map_append,List.append_assoc];rfl)
       generalize wh[j]=y at*;obtain ⟨yp,yn,yu⟩:=y;simp only at k0 k1 k2 hu HSJ;subst hu;obtain ⟨t0,t1,t2,t3',t4⟩:=Oo.five;have tl':=Oo.lt;have hjn:(j:Int)<(wh.length:Int):=by omega
       clear CR hoi hi0 hi1 Oo hro;go_wp2_with (at_builtin;go_must (refine wpList_append_lies _ rfl _ _ 288 rfl w2.heap.size 291 i0 _ 2 32 Tryz.underlying288 (aa HI) (aa jg) (aa jh) (aa ji) rfl (by decide) (.slice ja LJ.length jc) LJ.length (aD LJ) rfl ?hown ⟨wr.heap.size+1,0,none⟩ 1 1 (sD (yn,nq.n2)) rfl rfl ?hnews ?hone (by decide) ?h63 ?hbytes ?hbase (wr.heap.size+2) ?hH ?hrest))
       case hown=>exact ((aa CU).alloc _).alloc _
       case hnews=>exact World.news_of_block (B:=wr.heap.size+1) (cs:=#[.string yn,.string nq.n2]) (t:=291) (fr:=(0,0)) (ag.new' (wr.alloc _) _ _ _ (by simp))
       case hone=>
        intro z hz;simp [sD] at hz
        rcases hz with rfl|rfl<;>rfl
       case h63=>unfold maxLen;omega
       case hbytes=>omega
       case hbase=>simp;omega
       case hH=>simp
       case hrest=>
        intro g6 nK w6 d9 aZ jC uX;have Cy:=((aa CU).alloc (.cells #[.int .i64 yp,.string yn,.slice ua un uc] 110)).alloc (.cells #[.string yn,.string nq.n2] 291);have bx:=((Below.refl wr.heap.size wr).alloc RH (.cells #[.int .i64 yp,.string yn,.slice ua un uc] 110)).alloc (by simp) (.cells #[.string yn,.string nq.n2] 291);have B6:=ae (Below.grown ((aa Ot).trans (bx.mono wis)) aZ (by simp;omega) (fun k hk=>(Cy.lt k hk).1));have T6:=ae ((aZ.block _ ((aa QJ).below bx).lt (own_ne Cy ((aa QJ).below bx) (by decide))).trans ((aa QJ).below bx));have R6:=ae (ai (w':=w6) (aa HRO) (fun g cs f _ hh=>(aZ.block g (Nat.lt_of_lt_of_le (lt_of_some hh) bx.size) (dH Cy ((bx.block g (lt_of_some hh)).trans hh) (by decide))).trans (bx.block g (lt_of_some hh))));have O6:=ae d9;clear d9 aZ jC Cy bx;go_wp2;go_roundw
        case rel=>exact ⟨j+1,.slice (some ⟨g6,0,none⟩) (LJ.length+1) nK,by omega,by go_num,rfl,aa B6,aa T6,aa R6,by rw [aa HSJ];exact ⟨by rw [List.length_append,cz];exact aa O6,fun h=>by simp at h⟩⟩
        case measure=>simp [intOf];omega
      ·have hjn:¬((j:Int)<(wh.length:Int)):=by omega
       have hLE:L++wh.map (fun e=>(e.2.1,nq.n2))=LJ:=by
        rw [←aa HLJ,List.take_of_length_le (by omega)]
       have HLE:=ae hLE;clear CR hoi hi0 hi1 Oo hro hLE;go_wp2;go_roundw
       case rel=>exact ⟨k+1,.slice ja LJ.length jc,by omega,by go_num,rfl,aa Ot,by rw [aa HST,aa CO,aa HLE];exact ⟨aa CU,aa HI0⟩⟩
       case measure=>simp [intOf];omega
   |⟨nq,some xq,none⟩,bi,sF,HST=>exact bi.elim
  ·have hkn:¬((k:Int)<((aj e).length:Int)):=by omega
   have Om:L=eX ts t r e:=by
    rw [←aa CO];unfold NK eX;rw [List.take_of_length_le (by omega)]
   have QF:=ae Om;clear hbr ho ho0 Li Om;go_wp2;go_ret;exact ⟨.slice sa L.length sc,rfl,(aa B2).trans ((aa HB).mono nH),by rw [←aa QF];exact ⟨aA (aa HO) nH,aa Lj⟩⟩
