import Derived.Test.YtlbpnlngckgcbaaGreatDoorM07
import Derived.Laws.StructEq
set_option linter.all false
set_option maxHeartbeats 4000000
set_option maxRecDepth 100000
namespace Go.Proofs.YtlbpnlngckgcbaaGreatDoor
open Go.RowKit Go.PlainAid
abbrev Sp:=aei×aei
def AB (s:Sp):List Value:=[.string s.1,.string s.2]
def aM (l:List Sp):List Value:=l.flatMap AB
theorem Pn (s:Sp):∀(l:List Sp) (i:Nat),l[i]? =some s→(aM l)[i*2]? =some (.string s.1)∧(aM l)[i*2+1]? =some (.string s.2)
 | [],i,h=>by simp at h
 |e'::l,0,h=>by simp at h;subst h;simp [aM,AB]
 |e'::l,i+1,h=>by
  have:=Pn s l i (by simpa using h);rw [show aM (e'::l)=AB e'++aM l from rfl,show (i+1)*2=i*2+2 by omega]
  simpa [AB] using this
theorem Row2.cell {w:World} {base:Nat} {v:Value} {l:List Sp} (h:w.ownsRow base 291 2 v l.length (aM l)) (i:Nat) (s:Sp) (hi:l[i]? =some s):
  ∃q c,v=.slice (some ⟨q,0,none⟩) l.length c∧w.cell? ⟨q,i*2,none⟩=some (.string s.1)∧w.cell? ⟨q,i*2+1,none⟩=some (.string s.2):=by
 obtain ⟨h0,h1⟩:=Pn s l i hi;obtain ⟨q,c,rfl,e0⟩:=aK h _ _ h0;obtain ⟨q',c',e',e1⟩:=aK h _ _ h1;simp only [Value.slice.injEq,Option.some.injEq,Addr.mk.injEq] at e';obtain ⟨⟨rfl,_⟩,_⟩:=e';exact ⟨q,c,rfl,e0,e1⟩
theorem eH (a c:List Sp):aM (a++c)=aM a++aM c:=by simp [aM]
theorem bI (a:List Sp):(aM a).length=a.length*2:=by
 induction a with
 |nil=>rfl
 |cons g r ih=>simp [aM,AB] at*;omega
theorem Po (l:List Sp):∀u∈aM l,u.oneCell'=true:=by
 intro u hu;unfold aM at hu;rw [List.mem_flatMap] at hu;obtain ⟨g,_,hu⟩:=hu;simp [AB] at hu
 rcases hu with rfl|rfl<;>rfl
theorem Tryz.info291:(Tryz.prog.info? 291).map (fun i=>(i.zero,i.size,i.bytes))=some (some (.agg #[.string ⟨#[]⟩,.string ⟨#[]⟩]),2,32):=by kernel_rfl
def jD (base:Nat) (w:World) (sv:Value) (l:List Sp):Prop:=w.ownsRow base 291 2 sv l.length (aM l)∧(l=[]→sv=.slice none 0 0)
theorem jD.nil (base:Nat) (w:World):jD base w (.slice none 0 0) []:=⟨World.ownsRow_nil _ _ _ _,fun _=>rfl⟩
theorem jD.form {base:Nat} {w:World} {sv:Value} {l:List Sp} (h:jD base w sv l):∃a c,sv=.slice a l.length c:=au h.1
theorem jD.base {base base':Nat} {w:World} {sv:Value} {l:List Sp} (h:jD base w sv l) (hb:base'≤base):jD base' w sv l:=⟨aO h.1 hb,h.2⟩
def p9 (g:Gr):Option Sp:=if g.reach=2 then some (g.ty,g.rel) else none
def Dt (k:Nat) (gs:List Gr):List Sp:=(gs.take k).filterMap p9
def qa (r:Rl):List Sp:=(bH r.body).filterMap p9
theorem MG {k:Nat} {gs:List Gr} {g:Gr} (h:gs[k]? =some g):Dt (k+1) gs=Dt k gs++(p9 g).toList:=by
 have hlt:k<gs.length:=by
  rcases Nat.lt_or_ge k gs.length with h'|h'
  ·exact h'
  ·rw [List.getElem?_eq_none h'] at h;cases h
 rw [aeh hlt] at h;simp only [Option.some.injEq] at h;unfold Dt;rw [List.take_succ_eq_append_getElem hlt,List.filterMap_append,h]
 cases hq:p9 g<;>simp [hq]
theorem Te (k:Nat) (gs:List Gr):(Dt k gs).length≤k:=by
 unfold Dt;have:=List.length_filterMap_le p9 (gs.take k);rw [List.length_take] at this;omega
theorem E5 (b:Nat) (r:Rl) (v:Value) (w:World) (hb:b<w.heap.size) (h:aH b w r.body v) (hp:(ax r.body).length≤1000) (hg:(bH r.body).length≤1000) (hwf:WF r.body):
  Calls Tryz.prog 225 #[.agg #[.int .i64 r.place,.string r.name,v]] w fun e' w'=>∃sv,e'=.returned sv∧Below w.heap.size w w'∧jD w.heap.size w' sv (qa r):=by
 obtain ⟨i0,hi,hz0,hz1,hz2⟩:=info_parts Tryz.info291;have HI:=af hi;have fG:=af hz0;have fH:=af hz1;have fI:=af hz2;clear hi hz0 hz1 hz2;obtain ⟨ra,rv,rfl⟩:=h.isI;have H:=af h;have WM:=af hwf;clear h hwf;go_enter Tryz.func225,Tryz.ntmps225;go_wp2_with fail;refine (sP r.place r.name b r.body _ _ (by simp;omega) ((ae H).but ((But.refl b w).alloc _)) hp hg (ae WM)).mono ?_;rintro e w3 ⟨gv,rfl,hb3,hrow⟩;obtain ⟨ga,gc,rfl⟩:=au hrow;have B3:=af (((Below.refl _ w).alloc aeg (.cells #[.int .i64 r.place,.string r.name,.iface ra rv] 159)).trans (hb3.mono (by simp)));have Pk:=af hrow;have xH:=(ae B3).size;clear hb3 hrow;go_wp2_with fail
 go_loopw [3,9] (fun u3 u9 wr=>∃(k:Nat) (sv:Value),k≤(bH r.body).length∧u9=.int .i64 k∧u3=sv∧Below w3.heap.size w3 wr∧jD w3.heap.size wr sv (Dt k (bH r.body))) (fun _ u _=>(bH r.body).length-(intOf u).toNat)
 case atStart=>exact ⟨0,_,by omega,rfl,rfl,Below.refl _ _,jD.nil _ _⟩
 case round=>
  obtain ⟨k,sv,hk,rfl,hu3,hbr,ho⟩:=hrel;obtain ⟨sa,sc,hsv⟩:=ho.form;have hkl:=Te k (bH r.body);have ho0:=ho.2;have Lf:=ho.1;generalize hL:Dt k (bH r.body)=L at*;have Du:=af hL;clear hL;subst hsv;subst hu3;have HB:=af hbr;have Xb:=af ho0;have HO:=af Lf;have Dn:=hbr.size
  by_cases hlt:k<(bH r.body).length
  ·have hkn:(k:Int)<((bH r.body).length:Int):=by omega
   obtain ⟨q,c,e1,k0,k1,k2,k3,k4⟩:=WN.cell (ak (w':=wr) (ae Pk) (fun g cs f _ hh=>hbr.block g (lt_of_some hh))) k (bH r.body)[k] (aeh hlt);simp only [Value.slice.injEq] at e1;obtain ⟨rfl,_,rfl⟩:=e1;have hg':(bH r.body)[k]? =some (bH r.body)[k]:=aeh hlt;generalize (bH r.body)[k]=g at*;have HST:=af (MG hg');clear hbr ho ho0 Lf hg'
   by_cases h2:g.reach=2
   ·have h2':((g.reach:Int)==2)=true:=by rw [h2];rfl
    have ht1:p9 g=some (g.ty,g.rel):=by simp [p9,h2]
    clear h2;go_wp2_with (at_builtin;go_must (refine wpList_append_lies _ rfl _ _ 288 rfl w3.heap.size 291 i0 _ 2 32 Tryz.underlying288 (ae HI) (ae fG) (ae fH) (ae fI) rfl (by decide) (.slice sa L.length sc) L.length (aM L) rfl ?hown ⟨wr.heap.size+1,0,none⟩ 1 1 (AB (g.ty,g.rel)) rfl rfl ?hnews ?hone (by decide) ?h63 ?hbytes ?hbase (wr.heap.size+2) ?hH ?hrest))
    case hown=>exact ((ae HO).alloc _).alloc _
    case hnews=>exact World.news_of_block (B:=wr.heap.size+1) (cs:=#[.string g.ty,.string g.rel]) (t:=291) (fr:=(0,0)) (ai.new' (wr.alloc _) _ _ _ (by simp))
    case hone=>
     intro z hz;simp [AB] at hz
     rcases hz with rfl|rfl<;>rfl
    case h63=>unfold maxLen;omega
    case hbytes=>omega
    case hbase=>simp;omega
    case hH=>simp
    case hrest=>
     intro g6 jY w6 iE dw nV Dq;have Mx:=((ae HO).alloc (.cells #[.int .i64 g.tp,.string g.ty,.int .i64 g.reach,.int .i64 g.rp,.string g.rel] 207)).alloc (.cells #[.string g.ty,.string g.rel] 291);have B6:=af (Below.grown (((ae HB).alloc Dn (.cells #[.int .i64 g.tp,.string g.ty,.int .i64 g.reach,.int .i64 g.rp,.string g.rel] 207)).alloc (by simp;omega) (.cells #[.string g.ty,.string g.rel] 291)) dw (by simp;omega) (fun k hk=>(Mx.lt k hk).1));have O6:=af iE;clear iE dw nV Mx;go_wp2;go_roundw
     case rel=>exact ⟨k+1,.slice (some ⟨g6,0,none⟩) (L.length+1) jY,by omega,by go_num,rfl,ae B6,by rw [ae HST,ht1,ae Du];exact ⟨by rw [Option.toList_some,List.length_append,eH];exact ae O6,fun h=>by simp at h⟩⟩
     case measure=>simp [intOf];omega
   ·have h2':((g.reach:Int)==2)=false:=by rw [beq_eq_false_iff_ne];omega
    have ht1:p9 g=none:=by simp [p9,h2]
    have BX:=af ((ae HB).alloc Dn (.cells #[.int .i64 g.tp,.string g.ty,.int .i64 g.reach,.int .i64 g.rp,.string g.rel] 207));have OX:=af ((ae HO).alloc (.cells #[.int .i64 g.tp,.string g.ty,.int .i64 g.reach,.int .i64 g.rp,.string g.rel] 207));clear h2;go_wp2;go_roundw
    case rel=>exact ⟨k+1,.slice sa L.length sc,by omega,by go_num,rfl,ae BX,by rw [ae HST,ht1,ae Du];exact ⟨by simpa using ae OX,fun h=>ae Xb (by simpa using h)⟩⟩
    case measure=>simp [intOf];omega
  ·have hkn:¬((k:Int)<((bH r.body).length:Int)):=by omega
   have hall:Dt k (bH r.body)=qa r:=by
    unfold Dt qa;rw [List.take_of_length_le (by omega)]
   have hLP:L=qa r:=(ae Du).symm.trans hall;have Pp:=af hLP;clear hbr ho ho0 Lf hall hLP;go_wp2;go_ret;exact ⟨.slice sa L.length sc,rfl,(ae B3).trans ((ae HB).mono xH),by rw [←ae Pp];exact ⟨aO (ae HO) xH,ae Xb⟩⟩
theorem Pq (b tp p1 p2:Nat) (n1 n2:aei) (sv:Value) (ts:List Ty) (tl:List (Ty×Value)) (t:Ty) (tv:Value) (rl:List (Rl×Value)) (w:World) (h:MC b w sv ts tl) (ht:RC b w tv t.rels rl):
  Calls Tryz.prog 223 #[.agg #[sv],.agg #[.int .i64 t.place,.string t.name,tv],.agg #[.int .i64 tp,.int .i64 p1,.string n1,.int .i64 p2,.string n2]] w fun e' w'=>∃(Ey:Value) (l3:List E3),e'=.returned Ey∧Below w.heap.size w w'∧w'.ownsRow w.heap.size 110 3 Ey l3.length (l3.flatMap c3)∧l3.map (fun e=>e.2.1)=(uK ts t n1 n2).map Ty.name∧l3.length≤1000∧∀e∈l3,∃a n c,e.2.2=.slice a n c:=by
 unfold uK
 cases hf:cu t n1 with
 |none=>
  refine (Mw b tp p1 p2 n1 n2 sv ts tl t tv rl w h ht hf).mono ?_;rintro e w' ⟨rfl,hb⟩;exact ⟨_,[],rfl,hb,World.ownsRow_nil _ _ _ _,rfl,by simp,by simp⟩
 |some r=>
  refine (Bo b tp p1 p2 n1 n2 sv ts tl t tv rl w h ht r hf).mono ?_;rintro e w' ⟨Ey,l3,rfl,hb,h1,h2,h3⟩;refine ⟨_,l3,rfl,hb,h1,h2,?_,h3⟩;have e1:=congrArg List.length h2;rw [List.length_map,List.length_map] at e1;have e2:=List.length_filterMap_le (lu ts n2) (bH r.body);have e3:=ht.okg r (List.mem_of_find?_eq_some hf);omega
def iU (ts:List Ty) (t:Ty) (r:Rl) (p:Ex):List Sp:=match p.l with
 |some _=>[]
 |none=>if p.nd.kind=0 then qa r
  else if p.nd.kind=1 then [(t.name,p.nd.n1)]
  else (uK ts t p.nd.n1 p.nd.n2).map fun u=>(u.name,p.nd.n2)
def dA (ts:List Ty) (t:Ty) (r:Rl) (e:Ex):List Sp:=(ax e).flatMap (iU ts t r)
def NK (ts:List Ty) (t:Ty) (r:Rl) (e:Ex) (k:Nat):List Sp:=((ax e).take k).flatMap (iU ts t r)
theorem Lg {ts:List Ty} {t:Ty} {r:Rl} {e:Ex} {k:Nat} {p:Ex} (hk:(ax e)[k]? =some p):NK ts t r e (k+1)=NK ts t r e k++iU ts t r p:=by
 unfold NK;have hlt:k<(ax e).length:=by
  rcases Nat.lt_or_ge k (ax e).length with h|h
  ·exact h
  ·rw [List.getElem?_eq_none h] at hk;cases hk
 rw [List.take_succ_eq_append_getElem hlt,List.flatMap_append];rw [aeh hlt] at hk;simp only [Option.some.injEq] at hk;simp [hk]
theorem Tf (r:Rl):(qa r).length≤(bH r.body).length:=List.length_filterMap_le _ _
theorem Ps {b:Nat} {w:World} {tv:Value} {rl:List (Rl×Value)} (ts:List Ty) (t:Ty) (ht:RC b w tv t.rels rl) (x y:aei):(uK ts t x y).length≤1000:=by
 unfold uK
 cases hf:cu t x with
 |none=>simp
 |some r=>
  have e2:=List.length_filterMap_le (lu ts y) (bH r.body);have e3:=ht.okg r (List.mem_of_find?_eq_some hf);simp only;omega
theorem Bp {b:Nat} {w:World} {tv:Value} {rl:List (Rl×Value)} (ts:List Ty) (t:Ty) (ht:RC b w tv t.rels rl) (r:Rl) (hg:(bH r.body).length≤1000) (p:Ex):(iU ts t r p).length≤1000:=by
 unfold iU;have h1:=Tf r;have h2:=Ps ts t ht p.nd.n1 p.nd.n2
 split
 ·simp
 ·split
  ·omega
  ·split
   ·simp
   ·simpa using h2
theorem Pt {b:Nat} {w:World} {tv:Value} {rl:List (Rl×Value)} (ts:List Ty) (t:Ty) (ht:RC b w tv t.rels rl) (r:Rl) (hg:(bH r.body).length≤1000) (e:Ex):∀k,(NK ts t r e k).length≤1000*k
 |0=>by simp [NK]
 |k+1=>by
  have ih:=Pt ts t ht r hg e k
  rcases Nat.lt_or_ge k (ax e).length with h|h
  ·rw [Lg (aeh h),List.length_append];have:=Bp ts t ht r hg (ax e)[k];omega
  ·have:NK ts t r e (k+1)=NK ts t r e k:=by
    unfold NK;rw [List.take_of_length_le (by omega),List.take_of_length_le h]
   rw [this];omega
theorem sU {P:Program} {w:World} {ops:Array Oper} {rest:List Oper} {o:Oper} {a:Act} {Q:Exit→Act→World→Prop} (hgd:o.guard=none) (s x:Operand) (t:TypeId)
  (ho:o.op=.call {callee:=.builtin .append,args:=#[s,x],argTypes:=#[t,t]}) (v:Value) (hs:a.eval s=v) (hx:a.eval x=.slice none 0 0)
  (hr:∀ty,(Builtin.append_ #[t,t] ty #[v,.slice none 0 0]).run P w=.ok v w)
  (h:wpList P ops Q rest (a.put o.dst v) w):wpList P ops Q (o::rest) a w:=
 wpList_plain hgd fun _ hK=>by
  unfold Oper.wp execOp;simp only [ho,resolve,invoke,builtin,Sem.run_bind,Sem.run_pure,Result.andThen_ok,List.map_toArray,List.map_cons,List.map_nil,hs,hx,hr];exact hK _ _ h
theorem vR (b:Nat) (sv:Value) (ts:List Ty) (tl:List (Ty×Value)) (t:Ty) (tv:Value) (rl:List (Rl×Value)) (r:Rl) (bv:Value) (e:Ex) (ev:Value) (w:World) (h:MC b w sv ts tl) (ht:RC b w tv t.rels rl) (hr:aH b w r.body bv) (hmem:r∈t.rels) (he:aH b w e ev) (hpe:(ax e).length≤1000):
  Calls Tryz.prog 177 #[.agg #[sv],.agg #[.int .i64 t.place,.string t.name,tv],.agg #[.int .i64 r.place,.string r.name,bv],ev] w fun e' w'=>∃sv,e'=.returned sv∧Below w.heap.size w w'∧jD w.heap.size w' sv (dA ts t r e):=by
 obtain ⟨i0,hi,hz0,hz1,hz2⟩:=info_parts Tryz.info291;have HI:=af hi;have fG:=af hz0;have fH:=af hz1;have fI:=af hz2;clear hi hz0 hz1 hz2;obtain ⟨ma,mn,mc,rfl⟩:=h.form;obtain ⟨va,vn,vc,rfl⟩:=ht.form;obtain ⟨ra,rv,rfl⟩:=hr.isI;obtain ⟨ea,ex,rfl⟩:=he.isI;have W0:Below w.heap.size w (((w.alloc (.cells #[.slice ma mn mc] 75)).alloc (.cells #[.int .i64 t.place,.string t.name,.slice va vn vc] 110)).alloc (.cells #[.int .i64 r.place,.string r.name,.iface ra rv] 159)):=(((Below.refl _ _).alloc aeg _).alloc (by simp) _).alloc (by simp;omega) _;have xJ:=af (h.below W0);have uL:=af (ht.below W0);have Ji:=af (hr.but (But.of_below W0));have HE0:=af (he.but (But.of_below W0));have MB:=af (((ai.new w #[.slice ma mn mc] 75).alloc (.cells #[.int .i64 t.place,.string t.name,.slice va vn vc] 110)).alloc (.cells #[.int .i64 r.place,.string r.name,.iface ra rv] 159));have YB:=af ((ai.new' (w.alloc (.cells #[.slice ma mn mc] 75)) #[.int .i64 t.place,.string t.name,.slice va vn vc] 110 (w.heap.size+1) (by simp)).alloc (.cells #[.int .i64 r.place,.string r.name,.iface ra rv] 159));have RB:=af (ai.new' ((w.alloc (.cells #[.slice ma mn mc] 75)).alloc (.cells #[.int .i64 t.place,.string t.name,.slice va vn vc] 110)) #[.int .i64 r.place,.string r.name,.iface ra rv] 159 (w.heap.size+2) (by simp));have okp:=ht.okp r hmem;have okg:=ht.okg r hmem;have WM:=af (ht.wf r hmem);have HNK:=af (Pt ts t ht r okg e);have VN:=af (Bp ts t ht r okg);have kg:=af W0;have Pm:=(ae xJ).blt;clear W0 h ht hr hmem he;go_enter Tryz.func177,Tryz.ntmps177;go_wp2_with fail;refine (qQ e b _ _ Pm (ae HE0) hpe).mono ?_;rintro e1 w2 ⟨IK,rfl,hb2,l,l1,l2,l3⟩;obtain ⟨oa,oc,rfl⟩:=au l3;have ll:l.length=(ax e).length:=by rw [←l1];simp
 have B2:=af ((ae kg).trans (hb2.mono (ae kg).size));have L1:=af l1;have L2:=af l2;have L3:=af l3;have M2:=af ((ae xJ).below hb2);have T2:=af ((ae uL).below hb2);have X2:=af ((ae Ji).but (But.of_below hb2));have MF:=af ((ae MB).below hb2);have W9:=af ((ae YB).below hb2);have xL:=af ((ae RB).below hb2);have nQ:=(ae B2).size;clear hb2 l1 l2 l3;have f0:=dU;have f1:=fe;have f2:=fo;have f3:=cZ;have f4:=dV;have f5:=dW;have g1:=iA;have g2:=iB;have g3:=dY;have g4:=gq;have g5:=gz;have h2:=iC;have h3:=dZ;have h4:=gu;have h5:=gB;go_wp2_with fail
 go_loopw [9,20] (fun u9 u20 wr=>∃(k:Nat) (sv:Value),k≤(ax e).length∧u20=.int .i64 k∧u9=sv∧Below w2.heap.size w2 wr∧jD w2.heap.size wr sv (NK ts t r e k)) (fun _ u _=>(ax e).length-(intOf u).toNat)
 case atStart=>exact ⟨0,_,by omega,rfl,rfl,Below.refl _ _,jD.nil _ _⟩
 case round=>
  obtain ⟨k,sv,hk,rfl,hu9,hbr,ho⟩:=hrel;obtain ⟨sa,sc,hsv⟩:=ho.form;have hkl:=ae HNK k;have ho0:=ho.2;have Lf:=ho.1;generalize hL:NK ts t r e k=L at*;have Du:=af hL;clear hL;subst hsv;subst hu9;have HB:=af hbr;have Xb:=af ho0;have HO:=af Lf;have Dn:=hbr.size
  by_cases hlt:k<(ax e).length
  ·have Xc:k<l.length:=by omega
   obtain ⟨q1,c1,e1,kc⟩:=aK (ak (w':=wr) (ae L3) (fun g cs f _ hh=>hbr.block g (lt_of_some hh))) k l[k].2 (by simp [aeh Xc]);simp only [Value.slice.injEq] at e1;obtain ⟨rfl,_,rfl⟩:=e1;have dF:=(ae L2 l[k] (List.getElem_mem Xc)).but (b:=b) (But.of_below hbr);have hk':(ax e)[k]? =some l[k].1:=by rw [←ae L1];simp [aeh Xc]
   generalize l[k]=q at*;obtain ⟨q1,qv⟩:=q;simp only at kc dF hk';have hkn:(k:Int)<((ax e).length:Int):=by omega
   have HST:=af (Lg (ts:=ts) (t:=t) (r:=r) hk');have Aq:=ae VN q1;have m0:wr.cell? ⟨w.heap.size,0,none⟩=some (.slice ma mn mc):=((ae MF).below hbr).cell rfl;have ml:=((ae MF).below hbr).lt;obtain ⟨y0,y1,y2⟩:=((ae W9).below hbr).three;have yl:=((ae W9).below hbr).lt;obtain ⟨z0,z1,z2⟩:=((ae xL).below hbr).three;have zl:=((ae xL).below hbr).lt;have Xa:=af ((ae M2).below hbr);have Le:=af ((ae T2).below hbr);have HXR:=af ((ae X2).but (But.of_below hbr));have bltr:=(ae Xa).blt;clear hbr ho ho0 Lf hk'
   match q1,dF,Aq,HST with
   |⟨nq,some xq,some yq⟩,⟨vx,vy,hv,rx,ry⟩,Aq,HST=>
    subst hv;clear rx ry
    rcases sS nq.kind with wY|wY|wY
    all_goals
     rw [wY] at kc;clear wY;go_wp2;go_roundw
     case rel=>exact ⟨k+1,.slice sa L.length sc,by omega,by go_num,rfl,ae HB,by rw [ae HST,ae Du];simp only [iU,List.append_nil];exact ⟨ae HO,ae Xb⟩⟩
     case measure=>simp [intOf];omega
   |⟨nq,none,rq⟩,dF,Aq,HST=>
    rcases dF with ⟨l7,gv,hv,hrow⟩|⟨l7,hv⟩|⟨l7,hv⟩
    ·obtain ⟨xa,xn,xc,rfl⟩:∃a n c,gv=.slice a n c:=by
      obtain ⟨a,c,e⟩:=au hrow;exact ⟨a,_,c,e⟩
     have hnn:iU ts t r ⟨nq,none,rq⟩=qa r:=by simp [iU,l7]
     rw [hnn] at Aq HST;subst hv;have bx:Below wr.heap.size wr (wr.alloc (.cells #[.int .i64 nq.place,.slice xa xn xc] 236)):=(Below.refl _ _).alloc aeg _;have ny:=af ((ae HB).trans (bx.mono Dn));have C:=af (E5 b r _ _ (by simp;omega) ((ae HXR).but (But.of_below bx)) okp okg (ae WM));have OX:=af ((ae HO).alloc (.cells #[.int .i64 nq.place,.slice xa xn xc] 236));clear hrow l7 hnn bx;go_wp2_with fail;refine (ae C).mono ?_;rintro e w3 ⟨Zg,rfl,hb3,hrs⟩;have B3:=af ((ae ny).trans (hb3.mono (ae ny).size));have xH:=(ae B3).size;have o3:=ak (w':=w3) (ae OX) (fun g cs f _ hh=>hb3.block g (lt_of_some hh));have O3:=af o3
     by_cases hz:qa r=[]
     ·have e3:=hrs.2 hz;subst e3;rw [hz] at HST;have HAP:=af (fun ty=>run_append_owned_none (P:=Tryz.prog) w3 w2.heap.size 288 ty 291 i0 2 Tryz.underlying288 (ae HI) (.slice sa L.length sc) L.length (aM L) o3);clear hb3 hrs o3 hz C;go_wp2_with (at_builtin;go_must (refine sU rfl _ _ 288 rfl (.slice sa L.length sc) rfl rfl (ae HAP) ?_));go_roundw
      case rel=>exact ⟨k+1,.slice sa L.length sc,by omega,by go_num,rfl,ae B3,by rw [ae HST,ae Du,List.append_nil];exact ⟨ae O3,ae Xb⟩⟩
      case measure=>simp [intOf];omega
     ·have hpos:0<(qa r).length:=List.length_pos_iff.2 hz;obtain ⟨gg,gc,rfl,nl,nw⟩:=qR hrs.1 hpos;have NL:=af nl;have NW:=af nw;clear hb3 hrs o3 hz C nl nw;go_wp2_with (at_builtin;go_must (refine wpList_append_lies _ rfl _ _ 288 rfl w2.heap.size 291 i0 _ 2 32 Tryz.underlying288 (ae HI) (ae fG) (ae fH) (ae fI) rfl (by decide) (.slice sa L.length sc) L.length (aM L) rfl (ae O3) ⟨gg,0,none⟩ (qa r).length gc (aM (qa r)) rfl (ae NL) (ae NW) (Po _) hpos ?h63 ?hbytes xH w3.heap.size rfl ?hrest))
      case h63=>unfold maxLen;omega
      case hbytes=>omega
      case hrest=>
       intro g6 jY w6 iE dw nV Dq;have B6:=af (Below.grown (ae B3) dw xH (fun k hk=>((ae O3).lt k hk).1));have O6:=af iE;clear iE dw nV;go_wp2;go_roundw
       case rel=>exact ⟨k+1,.slice (some ⟨g6,0,none⟩) (L.length+(qa r).length) jY,by omega,by go_num,rfl,ae B6,by rw [ae HST,ae Du];exact ⟨by rw [List.length_append,eH];exact ae O6,fun h=>by simp at h;rw [h.2] at hpos;simp at hpos⟩⟩
       case measure=>simp [intOf];omega
    ·have hnn:iU ts t r ⟨nq,none,rq⟩=[(t.name,nq.n1)]:=by simp [iU,l7]
     rw [hnn] at Aq HST;subst hv;clear hnn l7;go_wp2_with (at_builtin;go_must (refine wpList_append_lies _ rfl _ _ 288 rfl w2.heap.size 291 i0 _ 2 32 Tryz.underlying288 (ae HI) (ae fG) (ae fH) (ae fI) rfl (by decide) (.slice sa L.length sc) L.length (aM L) rfl ?hown ⟨wr.heap.size+1,0,none⟩ 1 1 (AB (t.name,nq.n1)) rfl rfl ?hnews ?hone (by decide) ?h63 ?hbytes ?hbase (wr.heap.size+2) ?hH ?hrest))
     case hown=>exact ((ae HO).alloc _).alloc _
     case hnews=>exact World.news_of_block (B:=wr.heap.size+1) (cs:=#[.string t.name,.string nq.n1]) (t:=291) (fr:=(0,0)) (ai.new' (wr.alloc _) _ _ _ (by simp))
     case hone=>
      intro z hz;simp [AB] at hz
      rcases hz with rfl|rfl<;>rfl
     case h63=>unfold maxLen;omega
     case hbytes=>omega
     case hbase=>simp;omega
     case hH=>simp
     case hrest=>
      intro g6 jY w6 iE dw nV Dq;have Mx:=((ae HO).alloc (.cells #[.int .i64 nq.place,.string nq.n1] 238)).alloc (.cells #[.string t.name,.string nq.n1] 291);have B6:=af (Below.grown (((ae HB).alloc Dn (.cells #[.int .i64 nq.place,.string nq.n1] 238)).alloc (by simp;omega) (.cells #[.string t.name,.string nq.n1] 291)) dw (by simp;omega) (fun k hk=>(Mx.lt k hk).1));have O6:=af iE;clear iE dw nV Mx;go_wp2;go_roundw
      case rel=>exact ⟨k+1,.slice (some ⟨g6,0,none⟩) (L.length+1) jY,by omega,by go_num,rfl,ae B6,by rw [ae HST,ae Du];exact ⟨by rw [List.length_append,eH];exact ae O6,fun h=>by simp at h⟩⟩
      case measure=>simp [intOf];omega
    ·have hnn:iU ts t r ⟨nq,none,rq⟩=(uK ts t nq.n1 nq.n2).map fun u=>(u.name,nq.n2):=by simp [iU,l7]
     rw [hnn] at Aq HST;subst hv;have bx:Below wr.heap.size wr (wr.alloc (.cells #[.int .i64 nq.place,.int .i64 nq.p1,.string nq.n1,.int .i64 nq.p2,.string nq.n2] 240)):=(Below.refl _ _).alloc aeg _;have ny:=af ((ae HB).trans (bx.mono Dn));have C:=af (Pq b nq.place nq.p1 nq.p2 nq.n1 nq.n2 _ ts tl t _ rl _ ((ae Xa).below bx) ((ae Le).below bx));have OX:=af ((ae HO).alloc (.cells #[.int .i64 nq.place,.int .i64 nq.p1,.string nq.n1,.int .i64 nq.p2,.string nq.n2] 240));have TQ:=af (ai.new wr #[.int .i64 nq.place,.int .i64 nq.p1,.string nq.n1,.int .i64 nq.p2,.string nq.n2] 240);clear bx hnn l7;go_wp2_with fail;refine (ae C).mono ?_;rintro e w3 ⟨Zg,Ez,rfl,hb3,h31,h32,h33,h34⟩;obtain ⟨ta,tc,rfl⟩:=au h31;have B3:=af ((ae ny).trans (hb3.mono (ae ny).size));have xH:=(ae B3).size;have TQ3:=af ((ae TQ).below hb3);have O3:=af (show jD w2.heap.size w3 (.slice sa L.length sc) L from ⟨ak (w':=w3) (ae OX) (fun g cs f _ hh=>hb3.block g (lt_of_some hh)),ae Xb⟩);have H31:=af h31;have H34:=af h34;have hmap:(uK ts t nq.n1 nq.n2).map (fun u=>(u.name,nq.n2))=Ez.map (fun e=>(e.2.1,nq.n2)):=by
      have:=congrArg (List.map (fun n=>(n,nq.n2))) h32;simp only [List.map_map] at this;exact this.symm
     rw [hmap] at Aq HST;clear hb3 h31 h32 h34 hmap C;go_wp2_with fail
     go_loopw [9,53] (fun u9 u53 wi=>∃(j:Nat) (sv:Value),j≤Ez.length∧u53=.int .i64 j∧u9=sv∧Below w2.heap.size w2 wi∧ai wi wr.heap.size #[.int .i64 nq.place,.int .i64 nq.p1,.string nq.n1,.int .i64 nq.p2,.string nq.n2] 240∧wi.ownsRow 0 110 3 (.slice ta Ez.length tc) Ez.length (Ez.flatMap c3)∧jD w2.heap.size wi sv (L++(Ez.take j).map (fun e=>(e.2.1,nq.n2)))) (fun _ u _=>Ez.length-(intOf u).toNat)
     case atStart=>exact ⟨0,_,by omega,rfl,rfl,ae B3,ae TQ3,aO (ae H31) (Nat.zero_le _),by simpa using ae O3⟩
     case round=>
      obtain ⟨j,svj,hj,rfl,hu9,qU,htq,hro,hoi⟩:=hrel;obtain ⟨ja,jc,hsv⟩:=hoi.form;generalize hLJ:L++(Ez.take j).map (fun e=>(e.2.1,nq.n2))=LJ at*;have hjl:LJ.length≤L.length+j:=by
       rw [←hLJ,List.length_append,List.length_map,List.length_take];omega
      have HLJ:=af hLJ;clear hLJ;have hi0:=hoi.2;have hi1:=hoi.1;subst hsv;subst hu9;have uM:=af qU;have HTQ:=af htq;have VO:=af hro;have HI0:=af hi0;have HI1:=af hi1;have wis:=qU.size
      by_cases EA:j<Ez.length
      ·obtain ⟨q,c,e1,k0,k1,k2⟩:=jO.cell (T:=110) (v:=.slice ta Ez.length tc) (l:=Ez) (w:=wr) hro j EA;simp only [Value.slice.injEq] at e1;obtain ⟨rfl,_,rfl⟩:=e1;obtain ⟨ua,un,uc,hu⟩:=ae H34 Ez[j] (List.getElem_mem EA);have HSJ:=af (show L++(Ez.take (j+1)).map (fun e=>(e.2.1,nq.n2))=LJ++[(Ez[j].2.1,nq.n2)] from by
        rw [←ae HLJ,List.take_succ_eq_append_getElem EA,List.map_append,List.append_assoc];rfl)
       generalize Ez[j]=y at*;obtain ⟨yp,yn,yu⟩:=y;simp only at k0 k1 k2 hu HSJ;subst hu;obtain ⟨t0,t1,t2,t3',t4⟩:=htq.five;have tl':=htq.lt;have hjn:(j:Int)<(Ez.length:Int):=by omega
       clear qU hoi hi0 hi1 htq hro;go_wp2_with (at_builtin;go_must (refine wpList_append_lies _ rfl _ _ 288 rfl w2.heap.size 291 i0 _ 2 32 Tryz.underlying288 (ae HI) (ae fG) (ae fH) (ae fI) rfl (by decide) (.slice ja LJ.length jc) LJ.length (aM LJ) rfl ?hown ⟨wr.heap.size+1,0,none⟩ 1 1 (AB (yn,nq.n2)) rfl rfl ?hnews ?hone (by decide) ?h63 ?hbytes ?hbase (wr.heap.size+2) ?hH ?hrest))
       case hown=>exact ((ae HI1).alloc _).alloc _
       case hnews=>exact World.news_of_block (B:=wr.heap.size+1) (cs:=#[.string yn,.string nq.n2]) (t:=291) (fr:=(0,0)) (ai.new' (wr.alloc _) _ _ _ (by simp))
       case hone=>
        intro z hz;simp [AB] at hz
        rcases hz with rfl|rfl<;>rfl
       case h63=>unfold maxLen;omega
       case hbytes=>omega
       case hbase=>simp;omega
       case hH=>simp
       case hrest=>
        intro g6 jY w6 iE dw nV Dq;have Mx:=((ae HI1).alloc (.cells #[.int .i64 yp,.string yn,.slice ua un uc] 110)).alloc (.cells #[.string yn,.string nq.n2] 291);have bx:=((Below.refl wr.heap.size wr).alloc aeg (.cells #[.int .i64 yp,.string yn,.slice ua un uc] 110)).alloc (by simp) (.cells #[.string yn,.string nq.n2] 291);have B6:=af (Below.grown ((ae uM).trans (bx.mono wis)) dw (by simp;omega) (fun k hk=>(Mx.lt k hk).1));have T6:=af ((dw.block _ ((ae HTQ).below bx).lt (own_ne Mx ((ae HTQ).below bx) (by decide))).trans ((ae HTQ).below bx));have R6:=af (ak (w':=w6) (ae VO) (fun g cs f _ hh=>(dw.block g (Nat.lt_of_lt_of_le (lt_of_some hh) bx.size) (cO Mx ((bx.block g (lt_of_some hh)).trans hh) (by decide))).trans (bx.block g (lt_of_some hh))));have O6:=af iE;clear iE dw nV Mx bx;go_wp2;go_roundw
        case rel=>exact ⟨j+1,.slice (some ⟨g6,0,none⟩) (LJ.length+1) jY,by omega,by go_num,rfl,ae B6,ae T6,ae R6,by rw [ae HSJ];exact ⟨by rw [List.length_append,eH];exact ae O6,fun h=>by simp at h⟩⟩
        case measure=>simp [intOf];omega
      ·have hjn:¬((j:Int)<(Ez.length:Int)):=by omega
       have hLE:L++Ez.map (fun e=>(e.2.1,nq.n2))=LJ:=by
        rw [←ae HLJ,List.take_of_length_le (by omega)]
       have HLE:=af hLE;clear qU hoi hi0 hi1 htq hro hLE;go_wp2;go_roundw
       case rel=>exact ⟨k+1,.slice ja LJ.length jc,by omega,by go_num,rfl,ae uM,by rw [ae HST,ae Du,ae HLE];exact ⟨ae HI1,ae HI0⟩⟩
       case measure=>simp [intOf];omega
   |⟨nq,some xq,none⟩,dF,Aq,HST=>exact dF.elim
  ·have hkn:¬((k:Int)<((ax e).length:Int)):=by omega
   have hLP:L=dA ts t r e:=by
    rw [←ae Du];unfold NK dA;rw [List.take_of_length_le (by omega)]
   have Pp:=af hLP;clear hbr ho ho0 Lf hLP;go_wp2;go_ret;exact ⟨.slice sa L.length sc,rfl,(ae B2).trans ((ae HB).mono nQ),by rw [←ae Pp];exact ⟨aO (ae HO) nQ,ae Xb⟩⟩
theorem E8 {fn:Func} {p q u:Tmp} {ty Xd:TypeId} (h:fn.results=#[.cell p ty,.cell q Xd,.tmp u]) (tmps:Array Value) (P:Program) (w:World):
  (results fn tmps).run P w=
   ((asAddr (tmps.getD p undef)).run P w).andThen fun a w₁=>((loadVar ty a).run P w₁).andThen fun v w₂=>((asAddr (tmps.getD q undef)).run P w₂).andThen fun a2 w₃=>((loadVar Xd a2).run P w₃).andThen fun v2 w₄=> .ok (.tuple #[v,v2,tmps.getD u undef]) w₄:=by
 simp only [results,h];simp [Sem.run_bind,Result.andThen]
theorem Dv {P:Program} {fn:Func} {p q u:Tmp} {ty Xd:TypeId} (h:fn.results=#[.cell p ty,.cell q Xd,.tmp u]) (tmps:Array Value) (w:World) (g g2:Nat) (cs cs2:Array Value) (t t2:TypeId) (e:Value) (d d2:TypeDesc)
  (hp:tmps.getD p undef=.pointer (some ⟨g,0,none⟩)) (hp2:tmps.getD q undef=.pointer (some ⟨g2,0,none⟩)) (hq:tmps.getD u undef=e) (hb:∃x,ai w g x t∧x=cs) (hb2:∃x,ai w g2 x t2∧x=cs2)
  (hu:P.underlying ty=some d) (hd:(match d with| .struct _| .array _ _=>true|_=>false)=true) (hi:(P.info? ty).map (·.size)=some cs.size)
  (hu2:P.underlying Xd=some d2) (hd2:(match d2 with| .struct _| .array _ _=>true|_=>false)=true) (hi2:(P.info? Xd).map (·.size)=some cs2.size):
  (results fn tmps).run P w=.ok (.tuple #[.agg cs,.agg cs2,e]) w:=by
 obtain ⟨x,hb,rfl⟩:=hb;obtain ⟨y,hb2,rfl⟩:=hb2;rw [E8 h,hp,hp2,hq];simp [asAddr,Result.andThen,run_loadVar_row w g t ty x (0,0) d hb hu hd hi,run_loadVar_row w g2 t2 Xd y (0,0) d2 hb2 hu2 hd2 hi2]
theorem Pv (b:Nat) (sv:Value) (ts:List Ty) (tl:List (Ty×Value)) (x:aei) (w:World) (h:MC b w sv ts tl) (t:Ty) (hf:dn ts x=some t):
  ∃va vn vc rl,RC b w (.slice va vn vc) t.rels rl∧∀w1,Below w.heap.size w w1→Calls Tryz.prog 57 #[.agg #[sv],.string x] w1 fun e w'=>e=.returned (.tuple #[.agg #[.int .i64 t.place,.string t.name,.slice va vn vc],.nilIface])∧Below w1.heap.size w1 w':=by
 rw [←h.fst,sQ] at hf
 cases hq:tl.find? (fun p=>eqs p.1.name x) with
 |none=>rw [hq] at hf;cases hf
 |some y=>
  rw [hq] at hf;simp only [Option.map_some,Option.some.injEq] at hf;subst hf;obtain ⟨rl,hr⟩:=h.rels y (List.mem_of_find?_eq_some hq);obtain ⟨a,n,c,e⟩:=hr.form;have hr':=hr;rw [e] at hr';refine ⟨a,n,c,rl,hr',fun w1 k=> ?_⟩;have:=sJ sv (tl.map t3) x w1 h.llen (h.below k).row (t3 y) (by rw [yE,hq];rfl) ⟨a,n,c,e⟩;have e2:(t3 y).2.2=.slice a n c:=e;rw [e2] at this;exact this
theorem Pw (b pp:Nat) (nn:aei) (sv:Value) (t:Ty) (rl:List (Rl×Value)) (x:aei) (w:World) (h:RC b w sv t.rels rl) (r:Rl) (hf:cu t x=some r):
  ∃ta va,aH b w r.body (.iface ta va)∧r∈t.rels∧∀w1,Below w.heap.size w w1→Calls Tryz.prog 145 #[.agg #[.int .i64 pp,.string nn,sv],.string x] w1 fun e w'=>e=.returned (.tuple #[.agg #[.int .i64 r.place,.string r.name,.iface ta va],.nilIface])∧Below w1.heap.size w1 w':=by
 have hmem:r∈t.rels:=List.mem_of_find?_eq_some hf;unfold cu at hf;rw [←h.fst,List.find?_map,show ((fun r:Rl=>eqs r.name x) ∘ Prod.fst)=(fun p:Rl×Value=>eqs p.1.name x) from rfl] at hf
 cases hq:rl.find? (fun p=>eqs p.1.name x) with
 |none=>rw [hq] at hf;cases hf
 |some y=>
  rw [hq] at hf;simp only [Option.map_some,Option.some.injEq] at hf;subst hf;have hr:=h.ex y (List.mem_of_find?_eq_some hq);obtain ⟨ta,va,e⟩:=hr.isI;have hr':=hr;rw [e] at hr';refine ⟨ta,va,hr',hmem,fun w1 k=> ?_⟩;have:=sK pp nn sv (rl.map r3) x w1 h.llen (h.below k).row (r3 y) (by rw [yF,hq];rfl) ⟨ta,va,e⟩;have e2:(r3 y).2.2=.iface ta va:=e;rw [e2] at this;exact this
theorem yN (b:Nat) (sv:Value) (ts:List Ty) (tl:List (Ty×Value)) (s1 s2:aei) (w:World) (h:MC b w sv ts tl) (hf:dn ts s1=none):
  Calls Tryz.prog 94 #[.agg #[sv],.string s1,.string s2] w fun e w'=>e=.returned (.tuple #[.agg #[.int .i64 0,.string ⟨#[]⟩,.slice none 0 0],.agg #[.int .i64 0,.string ⟨#[]⟩,.nilIface],bn 5])∧Below w.heap.size w w':=by
 obtain ⟨ma,mn,mc,rfl⟩:=h.form;have W0:Below w.heap.size w (((w.alloc (.cells #[.slice ma mn mc] 75)).alloc (.cells #[.int .i64 0,.string ⟨#[]⟩,.slice none 0 0] 110)).alloc (.cells #[.int .i64 0,.string ⟨#[]⟩,.nilIface] 159)):=(((Below.refl _ _).alloc aeg _).alloc (by simp) _).alloc (by simp;omega) _;have xJ:=af (h.below W0);have kg:=af W0;have TB:=af ((ai.new' (w.alloc (.cells #[.slice ma mn mc] 75)) #[.int .i64 0,.string ⟨#[]⟩,.slice none 0 0] 110 (w.heap.size+1) (by simp)).alloc (.cells #[.int .i64 0,.string ⟨#[]⟩,.nilIface] 159));have RB:=af (ai.new' ((w.alloc (.cells #[.slice ma mn mc] 75)).alloc (.cells #[.int .i64 0,.string ⟨#[]⟩,.slice none 0 0] 110)) #[.int .i64 0,.string ⟨#[]⟩,.nilIface] 159 (w.heap.size+2) (by simp));have C:=af (yG b _ ts tl s1 _ (ae xJ) hf);clear h W0 hf;go_enter Tryz.func94,Tryz.ntmps94;go_wp2_with fail;refine (ae C).mono ?_;rintro e w1 ⟨rfl,hb1⟩;have B1:=af ((ae kg).trans (hb1.mono (ae kg).size));have HT:=af ((ae TB).below hb1);have HR:=af ((ae RB).below hb1);obtain ⟨t0,t1,t2⟩:=(ae HT).three;obtain ⟨r0,r1,r2⟩:=(ae HR).three;have zt:=(ae HT).fz;have zr:=(ae HR).fz;have ltt:=(ae HT).lt;have ltr:=(ae HR).lt;clear hb1 C;unfold bn;go_wp2;refine bodyPost_ret (v:=.tuple #[.agg #[.int .i64 0,.string ⟨#[]⟩,.slice none 0 0],.agg #[.int .i64 0,.string ⟨#[]⟩,.nilIface],bn 5]) (Dv Tryz.results94 _ _ (w.heap.size+1) (w.heap.size+2) _ _ 110 159 _ _ _ rfl rfl rfl ?hB ?hC Tryz.underlying110 rfl (by kernel_rfl) Tryz.underlying159 rfl (by kernel_rfl)) rfl ?post
 case hB=>exact ⟨_,(by with_reducible repeat (first|exact ae HT|apply ai.alloc|apply ai.drew|apply ai.set|(apply ai.other;case ha=>exact (by first|omega|(simp;omega)|simp)))),by rfl⟩
 case hC=>exact ⟨_,(by with_reducible repeat (first|exact ae HR|apply ai.alloc|apply ai.drew|apply ai.set|(apply ai.other;case ha=>exact (by first|omega|(simp;omega)|simp)))),by rfl⟩
 case post=>exact ⟨rfl,(by with_reducible repeat (first|exact ae B1|refine Below.drew ?_|(refine Below.setCell ?_ ?_ _;rotate_left;exact (by first|omega|(simp;omega)|simp))|(refine Below.alloc ?_ ?_ _;rotate_left;exact (by first|omega|(simp;omega)|simp))))⟩
theorem yO (b:Nat) (sv:Value) (ts:List Ty) (tl:List (Ty×Value)) (s1 s2:aei) (w:World) (h:MC b w sv ts tl) (t:Ty) (hf:dn ts s1=some t) (hq:cu t s2=none):
  ∃va vn vc,Calls Tryz.prog 94 #[.agg #[sv],.string s1,.string s2] w fun e w'=>e=.returned (.tuple #[.agg #[.int .i64 t.place,.string t.name,.slice va vn vc],.agg #[.int .i64 0,.string ⟨#[]⟩,.nilIface],bn 5])∧Below w.heap.size w w':=by
 obtain ⟨ma,mn,mc,rfl⟩:=h.form;have W0:Below w.heap.size w (((w.alloc (.cells #[.slice ma mn mc] 75)).alloc (.cells #[.int .i64 0,.string ⟨#[]⟩,.slice none 0 0] 110)).alloc (.cells #[.int .i64 0,.string ⟨#[]⟩,.nilIface] 159)):=(((Below.refl _ _).alloc aeg _).alloc (by simp) _).alloc (by simp;omega) _;have xJ:=af (h.below W0);have kg:=af W0;have TB:=af ((ai.new' (w.alloc (.cells #[.slice ma mn mc] 75)) #[.int .i64 0,.string ⟨#[]⟩,.slice none 0 0] 110 (w.heap.size+1) (by simp)).alloc (.cells #[.int .i64 0,.string ⟨#[]⟩,.nilIface] 159));have RB:=af (ai.new' ((w.alloc (.cells #[.slice ma mn mc] 75)).alloc (.cells #[.int .i64 0,.string ⟨#[]⟩,.slice none 0 0] 110)) #[.int .i64 0,.string ⟨#[]⟩,.nilIface] 159 (w.heap.size+2) (by simp));obtain ⟨va,vn,vc,rl,hrc,hcall⟩:=vO b _ ts tl s1 _ (ae xJ) t hf;refine ⟨va,vn,vc,?_⟩;have C:=af hcall;have VP:=af hrc;have HQ:=af hq;clear hcall hrc hf hq h W0;go_enter Tryz.func94,Tryz.ntmps94;go_wp2_with fail;refine (ae C).mono ?_;rintro e w1 ⟨rfl,hb1⟩;have b1:=hb1.alloc hb1.size (.cells #[.int .i64 t.place,.string t.name,.slice va vn vc] 110);have B1:=af ((ae kg).trans (b1.mono (ae kg).size));have HT1:=af ((ae TB).below b1);have HR1:=af ((ae RB).below b1);have RC1:=af ((ae VP).below b1);have YB1:=af (ai.new w1 #[.int .i64 t.place,.string t.name,.slice va vn vc] 110);have h1b:=hb1;clear hb1 b1 C;have C2:=af (l8 b t.place t.name _ t rl s2 _ (ae RC1) (ae HQ));go_wp2_with fail;refine (ae C2).mono ?_;rintro e w2 ⟨rfl,hb2⟩;have b2:=hb2.alloc hb2.size (.cells #[.int .i64 0,.string ⟨#[]⟩,.nilIface] 159);have B2:=af ((ae B1).trans (b2.mono (ae B1).size));have HT:=af ((ae HT1).below b2);have HR:=af ((ae HR1).below b2);have HY:=af ((ae YB1).below b2);have HX:=af (ai.new w2 #[.int .i64 0,.string ⟨#[]⟩,.nilIface] 159);have l1:=(ae HR1).lt;have l0:=((ae RB).below h1b).lt;have l2:=((ae YB1).below hb2).lt;clear hb2 b2 C2 h1b
 try unfold bn
 go_wp2_with fail;generalize w2.alloc (.cells #[.int .i64 0,.string ⟨#[]⟩,.nilIface] 159)=W at*;obtain ⟨t0,t1,t2⟩:=(ae HT).three;obtain ⟨r0,r1,r2⟩:=(ae HR).three;obtain ⟨y0,y1,y2⟩:=(ae HY).three;obtain ⟨x0,x1,x2⟩:=(ae HX).three;have zt:=(ae HT).fz;have zr:=(ae HR).fz;have ltt:=(ae HT).lt;have ltr:=(ae HR).lt;have n1:¬(w1.heap.size=w.heap.size+1):=by omega
 have n2:¬(w1.heap.size=w.heap.size+2):=by omega
 have n3:¬(w2.heap.size=w.heap.size+1):=by omega
 have n4:¬(w2.heap.size=w.heap.size+2):=by omega
 have m1:¬(w.heap.size+1=w1.heap.size):=by omega
 have m2:¬(w.heap.size+1+1=w1.heap.size):=by omega
 have m3:¬(w.heap.size+1=w2.heap.size):=by omega
 have m4:¬(w.heap.size+1+1=w2.heap.size):=by omega
 go_region_held3 (fun w'=>w'.cell? ⟨w1.heap.size,0,none⟩=some (.int .i64 t.place)∧w'.cell? ⟨w1.heap.size,1,none⟩=some (.string t.name)∧w'.cell? ⟨w1.heap.size,2,none⟩=some (.slice va vn vc)∧w'.cell? ⟨w2.heap.size,0,none⟩=some (.int .i64 0)∧w'.cell? ⟨w2.heap.size,1,none⟩=some (.string ⟨#[]⟩)∧w'.cell? ⟨w2.heap.size,2,none⟩=some .nilIface) (go_keep) (fail)
 go_wp2;refine bodyPost_ret (v:=.tuple #[.agg #[.int .i64 t.place,.string t.name,.slice va vn vc],.agg #[.int .i64 0,.string ⟨#[]⟩,.nilIface],bn 5]) (Dv Tryz.results94 _ _ (w.heap.size+1) (w.heap.size+2) _ _ 110 159 _ _ _ rfl rfl rfl ?hB ?hC Tryz.underlying110 rfl (by kernel_rfl) Tryz.underlying159 rfl (by kernel_rfl)) rfl ?post
 case hB=>exact ⟨_,(by with_reducible repeat (first|exact ae HT|apply ai.alloc|apply ai.drew|apply ai.set|(apply ai.other;case ha=>exact (by first|omega|(simp;omega)|simp)))),by rfl⟩
 case hC=>exact ⟨_,(by with_reducible repeat (first|exact ae HR|apply ai.alloc|apply ai.drew|apply ai.set|(apply ai.other;case ha=>exact (by first|omega|(simp;omega)|simp)))),by rfl⟩
 case post=>exact ⟨rfl,(by with_reducible repeat (first|exact ae B2|refine Below.drew ?_|(refine Below.setCell ?_ ?_ _;rotate_left;exact (by first|omega|(simp;omega)|simp))|(refine Below.alloc ?_ ?_ _;rotate_left;exact (by first|omega|(simp;omega)|simp))))⟩
theorem Bq (b:Nat) (sv:Value) (ts:List Ty) (tl:List (Ty×Value)) (s1 s2:aei) (w:World) (h:MC b w sv ts tl) (t:Ty) (hf:dn ts s1=some t) (r:Rl) (hq:cu t s2=some r):
  ∃va vn vc rl ra rv,r∈t.rels∧RC b w (.slice va vn vc) t.rels rl∧aH b w r.body (.iface ra rv)∧Calls Tryz.prog 94 #[.agg #[sv],.string s1,.string s2] w fun e w'=>e=.returned (.tuple #[.agg #[.int .i64 t.place,.string t.name,.slice va vn vc],.agg #[.int .i64 r.place,.string r.name,.iface ra rv],.nilIface])∧Below w.heap.size w w':=by
 obtain ⟨va,vn,vc,rl,hrc,hc1⟩:=Pv b _ ts tl s1 _ h t hf;obtain ⟨ra,rv,dF,hmem,hc2⟩:=Pw b t.place t.name _ t rl s2 _ hrc r hq;refine ⟨va,vn,vc,rl,ra,rv,hmem,hrc,dF,?_⟩;obtain ⟨ma,mn,mc,rfl⟩:=h.form;have W0:Below w.heap.size w (((w.alloc (.cells #[.slice ma mn mc] 75)).alloc (.cells #[.int .i64 0,.string ⟨#[]⟩,.slice none 0 0] 110)).alloc (.cells #[.int .i64 0,.string ⟨#[]⟩,.nilIface] 159)):=(((Below.refl _ _).alloc aeg _).alloc (by simp) _).alloc (by simp;omega) _;have xJ:=af (h.below W0);have kg:=af W0;have TB:=af ((ai.new' (w.alloc (.cells #[.slice ma mn mc] 75)) #[.int .i64 0,.string ⟨#[]⟩,.slice none 0 0] 110 (w.heap.size+1) (by simp)).alloc (.cells #[.int .i64 0,.string ⟨#[]⟩,.nilIface] 159));have RB:=af (ai.new' ((w.alloc (.cells #[.slice ma mn mc] 75)).alloc (.cells #[.int .i64 0,.string ⟨#[]⟩,.slice none 0 0] 110)) #[.int .i64 0,.string ⟨#[]⟩,.nilIface] 159 (w.heap.size+2) (by simp));have C:=af (hc1 _ W0);have VP:=af (hrc.below W0);have D2:=af hc2;clear hc1 hc2 dF hmem hrc hf hq h W0;go_enter Tryz.func94,Tryz.ntmps94;go_wp2_with fail;refine (ae C).mono ?_;rintro e w1 ⟨rfl,hb1⟩;have b1:=hb1.alloc hb1.size (.cells #[.int .i64 t.place,.string t.name,.slice va vn vc] 110);have B1:=af ((ae kg).trans (b1.mono (ae kg).size));have HT1:=af ((ae TB).below b1);have HR1:=af ((ae RB).below b1);have RC1:=af ((ae VP).below b1);have YB1:=af (ai.new w1 #[.int .i64 t.place,.string t.name,.slice va vn vc] 110);have h1b:=hb1;clear hb1 b1 C;have C2:=af (ae D2 _ (ae B1));go_wp2_with fail;refine (ae C2).mono ?_;rintro e w2 ⟨rfl,hb2⟩;have b2:=hb2.alloc hb2.size (.cells #[.int .i64 r.place,.string r.name,.iface ra rv] 159);have B2:=af ((ae B1).trans (b2.mono (ae B1).size));have HT:=af ((ae HT1).below b2);have HR:=af ((ae HR1).below b2);have HY:=af ((ae YB1).below b2);have HX:=af (ai.new w2 #[.int .i64 r.place,.string r.name,.iface ra rv] 159);have l1:=(ae HR1).lt;have l0:=((ae RB).below h1b).lt;have l2:=((ae YB1).below hb2).lt;clear hb2 b2 C2 h1b
 try unfold bn
 go_wp2_with fail;generalize w2.alloc (.cells #[.int .i64 r.place,.string r.name,.iface ra rv] 159)=W at*;obtain ⟨t0,t1,t2⟩:=(ae HT).three;obtain ⟨r0,r1,r2⟩:=(ae HR).three;obtain ⟨y0,y1,y2⟩:=(ae HY).three;obtain ⟨x0,x1,x2⟩:=(ae HX).three;have zt:=(ae HT).fz;have zr:=(ae HR).fz;have ltt:=(ae HT).lt;have ltr:=(ae HR).lt;have n1:¬(w1.heap.size=w.heap.size+1):=by omega
 have n2:¬(w1.heap.size=w.heap.size+2):=by omega
 have n3:¬(w2.heap.size=w.heap.size+1):=by omega
 have n4:¬(w2.heap.size=w.heap.size+2):=by omega
 have m1:¬(w.heap.size+1=w1.heap.size):=by omega
 have m2:¬(w.heap.size+1+1=w1.heap.size):=by omega
 have m3:¬(w.heap.size+1=w2.heap.size):=by omega
 have m4:¬(w.heap.size+1+1=w2.heap.size):=by omega
 go_region_held3 (fun w'=>w'.cell? ⟨w1.heap.size,0,none⟩=some (.int .i64 t.place)∧w'.cell? ⟨w1.heap.size,1,none⟩=some (.string t.name)∧w'.cell? ⟨w1.heap.size,2,none⟩=some (.slice va vn vc)∧w'.cell? ⟨w2.heap.size,0,none⟩=some (.int .i64 r.place)∧w'.cell? ⟨w2.heap.size,1,none⟩=some (.string r.name)∧w'.cell? ⟨w2.heap.size,2,none⟩=some (.iface ra rv)) (go_keep) (fail)
 go_wp2;refine bodyPost_ret (v:=.tuple #[.agg #[.int .i64 t.place,.string t.name,.slice va vn vc],.agg #[.int .i64 r.place,.string r.name,.iface ra rv],.nilIface]) (Dv Tryz.results94 _ _ (w.heap.size+1) (w.heap.size+2) _ _ 110 159 _ _ _ rfl rfl rfl ?hB ?hC Tryz.underlying110 rfl (by kernel_rfl) Tryz.underlying159 rfl (by kernel_rfl)) rfl ?post
 case hB=>exact ⟨_,(by with_reducible repeat (first|exact ae HT|apply ai.alloc|apply ai.drew|apply ai.set|(apply ai.other;case ha=>exact (by first|omega|(simp;omega)|simp)))),by rfl⟩
 case hC=>exact ⟨_,(by with_reducible repeat (first|exact ae HR|apply ai.alloc|apply ai.drew|apply ai.set|(apply ai.other;case ha=>exact (by first|omega|(simp;omega)|simp)))),by rfl⟩
 case post=>exact ⟨rfl,(by with_reducible repeat (first|exact ae B2|refine Below.drew ?_|(refine Below.setCell ?_ ?_ _;rotate_left;exact (by first|omega|(simp;omega)|simp))|(refine Below.alloc ?_ ?_ _;rotate_left;exact (by first|omega|(simp;omega)|simp))))⟩
def aI (ts:List Ty) (s:Sp):List Sp:=match dn ts s.1 with
 |none=>[]
 |some t=>match cu t s.2 with
  |none=>[]
  |some r=>dA ts t r r.body
theorem wL (b:Nat) (sv:Value) (ts:List Ty) (tl:List (Ty×Value)) (s1 s2:aei) (w:World) (h:MC b w sv ts tl):
  Calls Tryz.prog 209 #[.agg #[sv],.agg #[.string s1,.string s2]] w fun e' w'=>∃sv,e'=.returned sv∧Below w.heap.size w w'∧jD w.heap.size w' sv (aI ts (s1,s2)):=by
 obtain ⟨ma,mn,mc,rfl⟩:=h.form;have W0:Below w.heap.size w ((w.alloc (.cells #[.slice ma mn mc] 75)).alloc (.cells #[.string s1,.string s2] 291)):=((Below.refl _ _).alloc aeg _).alloc (by simp) _;have xJ:=af (h.below W0);have MB:=af ((ai.new w #[.slice ma mn mc] 75).alloc (.cells #[.string s1,.string s2] 291));have SB:=af (ai.new' (w.alloc (.cells #[.slice ma mn mc] 75)) #[.string s1,.string s2] 291 (w.heap.size+1) (by simp));have kg:=af W0;clear W0 h;unfold aI
 cases hf:dn ts s1 with
 |none=>
  have C:=af (yN b _ ts tl s1 s2 _ (ae xJ) hf);clear hf;simp only;go_enter Tryz.func209,Tryz.ntmps209;go_wp2_with fail;refine (ae C).mono ?_;rintro e w1 ⟨rfl,hb1⟩;have B1:=af ((ae kg).trans (hb1.mono (ae kg).size));have sz:=(ae B1).size;clear hb1;unfold bn;go_wp2;go_ret;exact ⟨_,rfl,(by with_reducible repeat (first|exact ae B1|refine Below.drew ?_|(refine Below.setCell ?_ ?_ _;rotate_left;exact (by first|omega|(simp;omega)|simp))|(refine Below.alloc ?_ ?_ _;rotate_left;exact (by first|omega|(simp;omega)|simp)))),jD.nil _ _⟩
 |some t=>
  simp only
  cases hq:cu t s2 with
  |none=>
   obtain ⟨va,vn,vc,hcall⟩:=yO b _ ts tl s1 s2 _ (ae xJ) t hf hq;have C:=af hcall;clear hf hq hcall;simp only;go_enter Tryz.func209,Tryz.ntmps209;go_wp2_with fail;refine (ae C).mono ?_;rintro e w1 ⟨rfl,hb1⟩;have B1:=af ((ae kg).trans (hb1.mono (ae kg).size));have sz:=(ae B1).size;clear hb1;unfold bn;go_wp2;go_ret;exact ⟨_,rfl,(by with_reducible repeat (first|exact ae B1|refine Below.drew ?_|(refine Below.setCell ?_ ?_ _;rotate_left;exact (by first|omega|(simp;omega)|simp))|(refine Below.alloc ?_ ?_ _;rotate_left;exact (by first|omega|(simp;omega)|simp)))),jD.nil _ _⟩
  |some r=>
   obtain ⟨va,vn,vc,rl,ra,rv,hmem,hrc,dF,hcall⟩:=Bq b _ ts tl s1 s2 _ (ae xJ) t hf r hq;have C:=af hcall;have okp:=hrc.okp r hmem;have VP:=af hrc;have WZ:=af dF;have Tg:=af hmem;clear hf hq hcall hrc dF hmem;simp only;go_enter Tryz.func209,Tryz.ntmps209;go_wp2_with fail;refine (ae C).mono ?_;rintro e w1 ⟨rfl,hb1⟩;have b1:=hb1.alloc hb1.size (.cells #[.int .i64 t.place,.string t.name,.slice va vn vc] 110);have b2:=b1.alloc b1.size (.cells #[.int .i64 r.place,.string r.name,.iface ra rv] 159);have B2:=af ((ae kg).trans (b2.mono (ae kg).size));have RC2:=af ((ae VP).below b2);have HM2:=af ((ae xJ).below b2);have X2:=af ((ae WZ).but (But.of_below b2));have m0:w1.cell? ⟨w.heap.size,0,none⟩=some (.slice ma mn mc):=((ae MB).below hb1).cell rfl;have ml:=((ae MB).below hb1).lt;have nQ:=(ae B2).size;clear hb1 b1 b2 C;go_wp2_with fail;refine (vR b _ ts tl t _ rl r _ r.body _ _ (ae HM2) (ae RC2) (ae X2) (ae Tg) (ae X2) okp).mono ?_;rintro e w3 ⟨Zg,rfl,hb3,hrs⟩;have B3:=af ((ae B2).trans (hb3.mono (ae B2).size));have S3:=af (hrs.base nQ);clear hb3 hrs;go_wp2;go_ret;exact ⟨_,rfl,ae B3,ae S3⟩
def jo (a c:Sp):Bool:=eqs a.1 c.1&&eqs a.2 c.2
theorem Xe (a c x y:aei) (w:World):(Op.equalIn 10000 291 (.agg #[.string a,.string c]) (.agg #[.string x,.string y])).run Tryz.prog w=.ok (jo (a,c) (x,y)) w:=by
 have u9:=Tryz.underlying9;rw [show (10000:Nat)=9999+1 from rfl,run_equalIn_agg w 9999 291 _ _ (by kernel_rfl) (by kernel_rfl)];simp only [Program.fieldsOf,Tryz.underlying291]
 go_simp
 rw [show jo (a,c) (x,y)=(decide (a.toList=x.toList)&&decide (c.toList=y.toList)) from by
  unfold jo eqs;rw [aF,aF,aF,aF];simp [Bool.beq_eq_decide_eq]]
 by_cases h1:a.toList=x.toList<;>by_cases h2:c.toList=y.toList<;>simp [h1,h2]
theorem Jj (w:World):∀n,(w.drewN n).heap=w.heap
 |0=>rfl
 |n+1=>rfl
theorem ai.drewN {w:World} {g:Nat} {cs:Array Value} {T:TypeId} (h:ai w g cs T) (n:Nat):ai (w.drewN n) g cs T:=by unfold ai;rw [Jj];exact h
theorem MH (x y:Operand) (xs ys:Array Value) (w:World):(eqGuard .eql 291 x y (.agg xs) (.agg ys)).run Tryz.prog w=.ok () w:=run_eqGuard_agg w .eql 291 x y xs ys (by kernel_rfl)
theorem Ti (base:Nat) (v:Value) (l:List Sp) (x:Sp) (w:World) (hl:l.length≤10000000000000) (h:w.ownsRow base 291 2 v l.length (aM l)):
  Calls Tryz.prog 224 #[v,.agg #[.string x.1,.string x.2]] w fun e w'=>∃n:Int,e=.returned (.int .i64 n)∧decide (0≤n)=l.any (fun y=>jo x y)∧Below w.heap.size w w':=by
 obtain ⟨sa,sc,rfl⟩:=au h;have H:=af h;have eqs0:=Xe;have gds0:=MH;clear h;go_enter Tryz.func224,Tryz.ntmps224;go_wp2
 go_loopw [5,8] (fun u i wr=>∃k:Nat,k≤l.length∧i=.int .i64 k∧Below w.heap.size w wr∧ai wr w.heap.size #[.string x.1,.string x.2] 291∧Hid (∀j,(h:j<l.length)→j<k→jo x l[j]=false)) (fun _ i _=>l.length-(intOf i).toNat)
 case atStart=>exact ⟨0,by omega,rfl,(Below.refl _ _).alloc aeg _,ai.new _ _ _,af (fun j e h=>by omega)⟩
 case round=>
  obtain ⟨k,hk,rfl,hb,EC,jX⟩:=hrel;have HB:=af hb;have ny:=af EC
  by_cases hlt:k<l.length
  ·obtain ⟨g,c,e1,k0,k1⟩:=Row2.cell (ak (w':=wr) (ae H) (fun g cs f _ hh=>hb.block g (lt_of_some hh))) k l[k] (aeh hlt);simp only [Value.slice.injEq] at e1;obtain ⟨rfl,_,rfl⟩:=e1;obtain ⟨b0,b1⟩:=EC.two;have hkn:(k:Int)<(l.length:Int):=by omega
   have WY:(0:Int)≤(k:Int):=by omega
   clear hb EC
   cases he:jo x l[k]
   ·have he':jo (x.1,x.2) (l[k].1,l[k].2)=false:=he;have Hn:=af (show ∀j,(h:j<l.length)→j<k+1→jo x l[j]=false from fun j h h'=>by
     by_cases e:j=k
     ·subst e;exact he
     ·exact ae jX j h (by omega))
    clear he;go_wp2
    go_quiet (fail)
    go_wp2;go_roundw
    case rel=>exact ⟨k+1,by omega,by go_num,below_drewN (ae HB) _,(ae ny).drewN _,Hn⟩
    case measure=>simp [intOf];omega
   ·have he':jo (x.1,x.2) (l[k].1,l[k].2)=true:=he;have iW:=af (show l.any (fun y=>jo x y)=true from List.any_eq_true.2 ⟨l[k],List.getElem_mem hlt,he⟩);clear he;go_wp2
    go_quiet (fail)
    go_wp2;go_ret;exact ⟨k,rfl,by rw [ae iW];simp,below_drewN (ae HB) _⟩
  ·have iW:=af (show l.any (fun y=>jo x y)=false from by
    rw [List.any_eq_false];intro y hy;obtain ⟨j,hj,rfl⟩:=List.getElem_of_mem hy;rw [ae jX j hj (by omega)];simp)
   have hkn:¬((k:Int)<(l.length:Int)):=by omega
   clear hb EC;go_wp2;go_ret;exact ⟨-1,rfl,by rw [ae iW];decide,ae HB⟩
theorem oF (base:Nat) (v:Value) (l:List Sp) (x:Sp) (w:World) (hl:l.length≤10000000000000) (h:w.ownsRow base 291 2 v l.length (aM l)):
  Calls Tryz.prog 176 #[v,.agg #[.string x.1,.string x.2]] w fun e w'=>e=.returned (.bool (l.any (fun y=>jo x y)))∧Below w.heap.size w w':=by
 have C:=af (fun w' (hb:Below w.heap.size w w')=>Ti base v l x w' hl (ak h (fun g cs f _ hh=>hb.block g (lt_of_some hh))));obtain ⟨sa,sc,rfl⟩:=au h;clear h;go_enter Tryz.func176,Tryz.ntmps176;go_wp2_with fail;refine (ae C _ ((Below.refl _ _).alloc aeg _)).mono ?_;rintro e w1 ⟨n,rfl,hn,hb1⟩;have B1:=af (((Below.refl _ w).alloc aeg (.cells #[.string x.1,.string x.2] 291)).trans (hb1.mono (by simp)));have HN:=af hn;clear hn hb1;go_wp2;go_ret;exact ⟨by rw [←ae HN];rfl,ae B1⟩
theorem bq (a c:aei):eqs a c=true↔a=c:=by
 unfold eqs;rw [beq_iff_eq]
 constructor
 ·intro h;rw [←gV a,←gV c,h]
 ·rintro rfl;rfl
theorem uN (a c:Sp):jo a c=true↔a=c:=by
 unfold jo;rw [Bool.and_eq_true,bq,bq];obtain ⟨a1,a2⟩:=a;obtain ⟨c1,c2⟩:=c;simp
