import Derived.Test.YtlbpnlngckgcbaaGreatDoorM09
set_option linter.all false
set_option maxHeartbeats 4000000
set_option maxRecDepth 100000
namespace Go.Proofs.YtlbpnlngckgcbaaGreatDoor
open Go.RowKit Go.PlainAid
def t3 (p:Ty×Value):E3:=(p.1.place,p.1.name,p.2)
def r3 (p:Rl×Value):E3:=(p.1.place,p.1.name,p.2)
def cu (ts:List Ty) (x:RJ):Option Ty:=ts.find? fun t=>eqs t.name x
def aW (t:Ty) (x:RJ):Option Rl:=t.rels.find? fun r=>eqs r.name x
theorem c3_t3 (l:List (Ty×Value)):(l.map t3).flatMap c3=l.flatMap iU:=by rw [List.flatMap_map];rfl
theorem c3_r3 (l:List (Rl×Value)):(l.map r3).flatMap c3=l.flatMap iT:=by rw [List.flatMap_map];rfl
theorem qM (x:RJ) (l:List (Ty×Value)):eY x (l.map t3)=(l.find? fun p=>eqs p.1.name x).map t3:=by
 unfold eY;rw [List.find?_map];rfl
theorem qN (x:RJ) (l:List (Rl×Value)):eY x (l.map r3)=(l.find? fun p=>eqs p.1.name x).map r3:=by
 unfold eY;rw [List.find?_map];rfl
theorem mq (x:RJ) (l:List (Ty×Value)):cu (l.map Prod.fst) x=(l.find? fun p=>eqs p.1.name x).map Prod.fst:=by
 unfold cu;rw [List.find?_map];rfl
structure RC (b:Nat) (w:World) (sv:Value) (rs:List Rl) (rl:List (Rl×Value)):Prop where
 fst:rl.map Prod.fst=rs
 row:fD w 159 sv (rl.map r3)
 ex:∀p∈rl,ay b w p.1.body p.2
 len:rs.length≤1000
 okp:∀r∈rs,(aj r.body).length≤1000
 okg:∀r∈rs,(aY r.body).length≤1000
 wf:∀r∈rs,WF r.body
structure MC (b:Nat) (w:World) (sv:Value) (ts:List Ty) (tl:List (Ty×Value)):Prop where
 fst:tl.map Prod.fst=ts
 row:fD w 110 sv (tl.map t3)
 rels:∀p∈tl,∃rl,RC b w p.2 p.1.rels rl
 len:ts.length≤1000
 blt:b<w.heap.size
theorem RC.below {b:Nat} {w w':World} {sv:Value} {rs:List Rl} {rl:List (Rl×Value)} (h:RC b w sv rs rl) (k:Below w.heap.size w w'):RC b w' sv rs rl:=
 ⟨h.fst,h.row.below k,fun p hp=>(h.ex p hp).but (But.of_below k),h.len,h.okp,h.okg,h.wf⟩
theorem MC.below {b:Nat} {w w':World} {sv:Value} {ts:List Ty} {tl:List (Ty×Value)} (h:MC b w sv ts tl) (k:Below w.heap.size w w'):MC b w' sv ts tl:=
 ⟨h.fst,h.row.below k,fun p hp=>by obtain ⟨rl,hr⟩:=h.rels p hp;exact ⟨rl,hr.below k⟩,h.len,Nat.lt_of_lt_of_le h.blt k.size⟩
theorem RC.form {b:Nat} {w:World} {sv:Value} {rs:List Rl} {rl:List (Rl×Value)} (h:RC b w sv rs rl):∃a n c,sv=.slice a n c:=by
 obtain ⟨a,c,e⟩:=ak h.row;exact ⟨a,_,c,e⟩
theorem MC.form {b:Nat} {w:World} {sv:Value} {ts:List Ty} {tl:List (Ty×Value)} (h:MC b w sv ts tl):∃a n c,sv=.slice a n c:=by
 obtain ⟨a,c,e⟩:=ak h.row;exact ⟨a,_,c,e⟩
theorem RC.llen {b:Nat} {w:World} {sv:Value} {rs:List Rl} {rl:List (Rl×Value)} (h:RC b w sv rs rl):(rl.map r3).length≤1000:=by
 have:=h.len;rw [←h.fst] at this;simpa using this
theorem MC.llen {b:Nat} {w:World} {sv:Value} {ts:List Ty} {tl:List (Ty×Value)} (h:MC b w sv ts tl):(tl.map t3).length≤1000:=by
 have:=h.len;rw [←h.fst] at this;simpa using this
theorem qO (b:Nat) (sv:Value) (ts:List Ty) (tl:List (Ty×Value)) (x:RJ) (w:World) (h:MC b w sv ts tl) (hf:cu ts x=none):
  Calls Tryz.prog 57 #[.agg #[sv],.string x] w fun e w'=>e=.returned (.tuple #[.agg #[.int .i64 0,.string ⟨#[]⟩,.slice none 0 0],aM 5])∧Below w.heap.size w w':=by
 refine tq sv (tl.map t3) x w h.llen h.row ?_;rw [←h.fst,mq] at hf;rw [qM]
 cases hq:tl.find? (fun p=>eqs p.1.name x) with
 |none=>rfl
 |some y=>rw [hq] at hf;cases hf
theorem oh (b:Nat) (sv:Value) (ts:List Ty) (tl:List (Ty×Value)) (x:RJ) (w:World) (h:MC b w sv ts tl) (t:Ty) (hf:cu ts x=some t):
  ∃va vn vc rl,RC b w (.slice va vn vc) t.rels rl∧Calls Tryz.prog 57 #[.agg #[sv],.string x] w fun e w'=>e=.returned (.tuple #[.agg #[.int .i64 t.place,.string t.name,.slice va vn vc],.nilIface])∧Below w.heap.size w w':=by
 rw [←h.fst,mq] at hf
 cases hq:tl.find? (fun p=>eqs p.1.name x) with
 |none=>rw [hq] at hf;cases hf
 |some y=>
  rw [hq] at hf;simp only [Option.map_some,Option.some.injEq] at hf;subst hf;obtain ⟨rl,hr⟩:=h.rels y (List.mem_of_find?_eq_some hq);obtain ⟨a,n,c,e⟩:=hr.form;have hr':=hr;rw [e] at hr';refine ⟨a,n,c,rl,hr',?_⟩;have:=l8 sv (tl.map t3) x w h.llen h.row (t3 y) (by rw [qM,hq];rfl) ⟨a,n,c,e⟩;have e2:(t3 y).2.2=.slice a n c:=e;rw [e2] at this;exact this
theorem iC (b pp:Nat) (nn:RJ) (sv:Value) (t:Ty) (rl:List (Rl×Value)) (x:RJ) (w:World) (h:RC b w sv t.rels rl) (hf:aW t x=none):
  Calls Tryz.prog 145 #[.agg #[.int .i64 pp,.string nn,sv],.string x] w fun e w'=>e=.returned (.tuple #[.agg #[.int .i64 0,.string ⟨#[]⟩,.nilIface],aM 5])∧Below w.heap.size w w':=by
 refine tu pp nn sv (rl.map r3) x w h.llen h.row ?_;unfold aW at hf;rw [←h.fst,List.find?_map] at hf;rw [qN]
 cases hq:rl.find? (fun p=>eqs p.1.name x) with
 |none=>rfl
 |some y=>rw [show ((fun r:Rl=>eqs r.name x) ∘ Prod.fst)=(fun p:Rl×Value=>eqs p.1.name x) from rfl,hq] at hf;cases hf
theorem jy (b pp:Nat) (nn:RJ) (sv:Value) (t:Ty) (rl:List (Rl×Value)) (x:RJ) (w:World) (h:RC b w sv t.rels rl) (r:Rl) (hf:aW t x=some r):
  ∃ta va,ay b w r.body (.iface ta va)∧r∈t.rels∧Calls Tryz.prog 145 #[.agg #[.int .i64 pp,.string nn,sv],.string x] w fun e w'=>e=.returned (.tuple #[.agg #[.int .i64 r.place,.string r.name,.iface ta va],.nilIface])∧Below w.heap.size w w':=by
 have hmem:r∈t.rels:=List.mem_of_find?_eq_some hf;unfold aW at hf;rw [←h.fst,List.find?_map,show ((fun r:Rl=>eqs r.name x) ∘ Prod.fst)=(fun p:Rl×Value=>eqs p.1.name x) from rfl] at hf
 cases hq:rl.find? (fun p=>eqs p.1.name x) with
 |none=>rw [hq] at hf;cases hf
 |some y=>
  rw [hq] at hf;simp only [Option.map_some,Option.some.injEq] at hf;subst hf;have hr:=h.ex y (List.mem_of_find?_eq_some hq);obtain ⟨ta,va,e⟩:=hr.isI;have hr':=hr;rw [e] at hr';refine ⟨ta,va,hr',hmem,?_⟩;have:=l9 pp nn sv (rl.map r3) x w h.llen h.row (r3 y) (by rw [qN,hq];rfl) ⟨ta,va,e⟩;have e2:(r3 y).2.2=.iface ta va:=e;rw [e2] at this;exact this
theorem Ff (g:Gr):∀(l:List Gr) (i:Nat),l[i]? =some g→(aO l)[i*5]? =some (.int .i64 g.tp)∧(aO l)[i*5+1]? =some (.string g.ty)∧(aO l)[i*5+2]? =some (.int .i64 g.reach)∧(aO l)[i*5+3]? =some (.int .i64 g.rp)∧(aO l)[i*5+4]? =some (.string g.rel)
 | [],i,h=>by simp at h
 |e'::l,0,h=>by simp at h;subst h;simp [aO,aL]
 |e'::l,i+1,h=>by
  have:=Ff g l i (by simpa using h);rw [show aO (e'::l)=(aL e').toList++aO l from rfl,show (i+1)*5=i*5+5 by omega]
  simpa [aL] using this
theorem Ld.cell {w:World} {base:Nat} {v:Value} {l:List Gr} (h:w.ownsRow base 207 5 v l.length (aO l)) (i:Nat) (g:Gr) (hi:l[i]? =some g):
  ∃q c,v=.slice (some ⟨q,0,none⟩) l.length c∧w.cell? ⟨q,i*5,none⟩=some (.int .i64 g.tp)∧w.cell? ⟨q,i*5+1,none⟩=some (.string g.ty)∧w.cell? ⟨q,i*5+2,none⟩=some (.int .i64 g.reach)∧w.cell? ⟨q,i*5+3,none⟩=some (.int .i64 g.rp)∧w.cell? ⟨q,i*5+4,none⟩=some (.string g.rel):=by
 obtain ⟨h0,h1,h2,h3,h4⟩:=Ff g l i hi;obtain ⟨q,c,rfl,e0⟩:=aQ h _ _ h0;have go:∀k u,(aO l)[k]? =some u→w.cell? ⟨q,k,none⟩=some u:=fun k u hu=>by
  obtain ⟨q',c',e',e1⟩:=aQ h k u hu;simp only [Value.slice.injEq,Option.some.injEq,Addr.mk.injEq] at e';obtain ⟨⟨rfl,_⟩,_⟩:=e';exact e1
 exact ⟨q,c,rfl,e0,go _ _ h1,go _ _ h2,go _ _ h3,go _ _ h4⟩
def uW (ts:List Ty) (g:Gr):Option Nat:=match cu ts g.ty with
 |none=>some g.tp
 |some t=>if g.reach=2 then (match aW t g.rel with
   |none=>some g.rp
   |some _=>none) else none
def nJ (ts:List Ty) (gs:List Gr):Option Nat:=gs.findSome? (uW ts)
theorem zM (ts:List Ty) (gs:List Gr) (k:Nat) (hk:k<gs.length):nJ ts (gs.drop k)=match uW ts gs[k] with
  |some p=>some p
  |none=>nJ ts (gs.drop (k+1)):=by
 unfold nJ;rw [List.drop_eq_getElem_cons hk,List.findSome?_cons]
 cases uW ts gs[k]<;>rfl
theorem sw (b lp:Nat) (sv:Value) (ts:List Ty) (tl:List (Ty×Value)) (gv:Value) (gs:List Gr) (w:World) (h:MC b w sv ts tl) (hg:w.ownsRow (b+1) 207 5 gv gs.length (aO gs)) (hgl:gs.length≤1000):
  Calls Tryz.prog 174 #[.agg #[sv],.agg #[.int .i64 lp,gv]] w fun e' w'=>e'=.returned (dW 5 (nJ ts gs))∧Below w.heap.size w w':=by
 obtain ⟨ma,mn,mc,rfl⟩:=h.form;obtain ⟨ga,gc,rfl⟩:=ak hg;have H:=ae h;have HG:=ae hg;generalize hR:nJ ts gs=R;have yV:=ae hR;clear h hg hR;go_enter Tryz.func174,Tryz.ntmps174;go_wp2_with fail
 go_loopw [14] (fun u wr=>∃(k:Nat),k≤gs.length∧u=.int .i64 k∧Below w.heap.size w wr∧ag wr w.heap.size #[.slice ma mn mc] 75∧Hid (nJ ts (gs.drop k)=R)) (fun u _=>gs.length-(intOf u).toNat)
 case atStart=>exact ⟨0,by omega,rfl,((Below.refl _ _).alloc RH _).alloc (by simp) _,(ag.new w _ _).alloc _,yV⟩
 case round=>
  obtain ⟨k,hk,rfl,hb,hbl,HQ⟩:=hrel;have HB:=ae hb;have HL:=ae hbl;have uV:=hb.size
  by_cases hlt:k<gs.length
  ·have hR:=aa HQ;rw [zM ts gs k hlt] at hR;obtain ⟨q,c,e1,k0,k1,k2,k3,k4⟩:=Ld.cell (ai (w':=wr) (aa HG) (fun g cs f _ hh=>hb.block g (lt_of_some hh))) k gs[k] (RI hlt);simp only [Value.slice.injEq] at e1;obtain ⟨rfl,_,rfl⟩:=e1;generalize gs[k]=g at*;have bx:Below w.heap.size w (wr.alloc (.cells #[.int .i64 g.tp,.string g.ty,.int .i64 g.reach,.int .i64 g.rp,.string g.rel] 207)):=hb.alloc uV _;have HM:=ae ((aa H).below bx);have L1:=hbl.alloc (.cells #[.int .i64 g.tp,.string g.ty,.int .i64 g.reach,.int .i64 g.rp,.string g.rel] 207);have G1:=ag.new wr #[.int .i64 g.tp,.string g.ty,.int .i64 g.reach,.int .i64 g.rp,.string g.rel] 207;have m0:wr.cell? ⟨w.heap.size,0,none⟩=some (.slice ma mn mc):=hbl.cell rfl;have ml:=hbl.lt;have iL:=ae bx;have Cs:=ae L1;have Oh:=ae G1;clear hb hbl bx L1 G1;unfold uW at hR
   cases hf:cu ts g.ty with
   |none=>
    rw [hf] at hR;have bP:=ae hR;have C:=ae (qO b _ ts tl g.ty _ (aa HM) hf);clear hR hf;go_wp2_with fail;refine (aa C).mono ?_;rintro e w2 ⟨rfl,hb2⟩;have B2:=ae ((aa iL).trans (hb2.mono (aa iL).size));obtain ⟨g0,g1,g2,g3,g4⟩:=((aa Oh).below hb2).five;have gl:=((aa Oh).below hb2).lt;have nH:=(aa B2).size;clear hb2;unfold aM;go_wp2_with (go_at_call 73;refine (fE _ 5 _).mono ?_;rintro e w3 ⟨rfl,rfl⟩);go_ret;rw [←aa bP];exact ⟨rfl,(by with_reducible repeat (first|exact aa B2|refine Below.drew ?_|(refine Below.setCell ?_ ?_ _;rotate_left;exact (by first|omega|(simp;omega)|simp))|(refine Below.alloc ?_ ?_ _;rotate_left;exact (by first|omega|(simp;omega)|simp))))⟩
   |some t=>
    rw [hf] at hR;obtain ⟨va,vn,vc,rl,hrc,hcall⟩:=oh b _ ts tl g.ty _ (aa HM) t hf;have C:=ae hcall;have PW:=ae hrc;clear hf hcall hrc;simp only at hR
    by_cases h2:g.reach=2
    ·have h2':((g.reach:Int) != 2)=false:=by rw [h2];rfl
     rw [if_pos h2] at hR;clear h2;go_wp2_with fail;refine (aa C).mono ?_;rintro e w2 ⟨rfl,hb2⟩;have b2:=(aa iL).trans (hb2.mono (aa iL).size);have B2:=ae b2;have L2:=ae ((aa Cs).below hb2);have PX:=ae (((aa PW).below hb2).below ((Below.refl w2.heap.size w2).alloc RH (.cells #[.int .i64 t.place,.string t.name,.slice va vn vc] 110)));have G2:=ae ((aa Oh).below hb2);obtain ⟨g0,g1,g2,g3,g4⟩:=(aa G2).five;have gl:=(aa G2).lt;have nH:=b2.size;clear hb2 b2 C
     cases hq:aW t g.rel with
     |none=>
      rw [hq] at hR;have bP:=ae hR;have C:=ae (iC b t.place t.name _ t rl g.rel _ (aa PX) hq);clear hR hq;go_wp2_with fail;refine (aa C).mono ?_;rintro e w3 ⟨rfl,hb3⟩;have B3:=ae (((aa B2).alloc nH (.cells #[.int .i64 t.place,.string t.name,.slice va vn vc] 110)).trans (hb3.mono (by simp;omega)));obtain ⟨n0,n1,n2,n3,n4⟩:=(((aa G2).alloc (.cells #[.int .i64 t.place,.string t.name,.slice va vn vc] 110)).below hb3).five;have nl:=(((aa G2).alloc (.cells #[.int .i64 t.place,.string t.name,.slice va vn vc] 110)).below hb3).lt;have zD:=(aa B3).size;clear hb3 g0 g1 g2 g3 g4;unfold aM;go_wp2_with (go_at_call 73;refine (fE _ 5 _).mono ?_;rintro e w3 ⟨rfl,rfl⟩);go_ret;rw [←aa bP];exact ⟨rfl,(by with_reducible repeat (first|exact aa B3|refine Below.drew ?_|(refine Below.setCell ?_ ?_ _;rotate_left;exact (by first|omega|(simp;omega)|simp))|(refine Below.alloc ?_ ?_ _;rotate_left;exact (by first|omega|(simp;omega)|simp))))⟩
     |some r=>
      rw [hq] at hR;have bP:=ae hR;obtain ⟨xa,xv,_,_,hcall⟩:=jy b t.place t.name _ t rl g.rel _ (aa PX) r hq;have C:=ae hcall;clear hR hq hcall;go_wp2_with fail;refine (aa C).mono ?_;rintro e w3 ⟨rfl,hb3⟩;have B3:=ae (((aa B2).alloc nH (.cells #[.int .i64 t.place,.string t.name,.slice va vn vc] 110)).trans (hb3.mono (by simp;omega)));have L3:=ae (((aa L2).alloc (.cells #[.int .i64 t.place,.string t.name,.slice va vn vc] 110)).below hb3);have zD:=(aa B3).size;clear hb3;go_wp2;go_roundw
      case rel=>exact ⟨k+1,by omega,by go_num,(by with_reducible repeat (first|exact aa B3|refine Below.drew ?_|(refine Below.setCell ?_ ?_ _;rotate_left;exact (by first|omega|(simp;omega)|simp))|(refine Below.alloc ?_ ?_ _;rotate_left;exact (by first|omega|(simp;omega)|simp)))),(by with_reducible repeat (first|exact aa L3|apply ag.alloc|apply ag.drew|apply ag.set|(apply ag.other;case ha=>exact (by first|omega|(simp;omega)|simp)))),bP⟩
      case measure=>simp [intOf];omega
    ·have h2':((g.reach:Int) != 2)=true:=by rw [bne_iff_ne];omega
     rw [if_neg h2] at hR;have bP:=ae hR;clear h2 hR;go_wp2_with fail;refine (aa C).mono ?_;rintro e w2 ⟨rfl,hb2⟩;have B2:=ae ((aa iL).trans (hb2.mono (aa iL).size));have L2:=ae ((aa Cs).below hb2);obtain ⟨g0,g1,g2,g3,g4⟩:=((aa Oh).below hb2).five;have gl:=((aa Oh).below hb2).lt;have nH:=(aa B2).size;clear hb2 C;go_wp2;go_roundw
     case rel=>exact ⟨k+1,by omega,by go_num,(by with_reducible repeat (first|exact aa B2|refine Below.drew ?_|(refine Below.setCell ?_ ?_ _;rotate_left;exact (by first|omega|(simp;omega)|simp))|(refine Below.alloc ?_ ?_ _;rotate_left;exact (by first|omega|(simp;omega)|simp)))),(by with_reducible repeat (first|exact aa L2|apply ag.alloc|apply ag.drew|apply ag.set|(apply ag.other;case ha=>exact (by first|omega|(simp;omega)|simp)))),bP⟩
     case measure=>simp [intOf];omega
  ·have hR:=aa HQ;rw [List.drop_of_length_le (by omega)] at hR;have bP:=ae hR;clear hb hbl hR;go_wp2;go_ret;rw [←aa bP];exact ⟨rfl,aa HB⟩
theorem qb {w:World} {base:Nat} {e:TypeId} {size n g cap:Nat} {xs:List Value} (h:w.ownsRow base e size (.slice (some ⟨g,0,none⟩) n cap) n xs) (j:Nat) (u:Value):(w.setCell ⟨g,j,none⟩ u).ownsRow base e size (.slice (some ⟨g,0,none⟩) n cap) n (xs.set j u):=by
 obtain ⟨hl,h⟩:=h
 rcases h with ⟨h,_⟩|⟨g',cap',cur,e1,hb,hh,h1,h2,h3,h4⟩
 ·cases h
 ·simp only [Value.slice.injEq,Option.some.injEq,Addr.mk.injEq] at e1;obtain ⟨⟨rfl,_,_⟩,_,rfl⟩:=e1;refine ⟨by simp [hl],.inr ⟨g,cap,cur.setIfInBounds j u,rfl,hb,ag.set hh j u,h1,h2,by simp [h3],?_⟩⟩;rw [Array.toList_setIfInBounds,List.take_set,h4]
theorem dS {w:World} {base:Nat} {e:TypeId} {size n m g cap:Nat} {xs:List Value} (h:w.ownsRow base e size (.slice (some ⟨g,0,none⟩) m cap) n xs):∃cur,ag w g cur e∧base≤g:=by
 rcases h.2 with ⟨h,_⟩|⟨g',cap',cur,e1,hb,hh,h1,h2,h3,h4⟩
 ·cases h
 ·simp only [Value.slice.injEq,Option.some.injEq,Addr.mk.injEq] at e1;obtain ⟨⟨rfl,_,_⟩,_,rfl⟩:=e1;exact ⟨cur,hh,hb⟩
def ax (s:RJ) (c:UInt8):RJ×RJ×Bool:=(mk ((cO s).takeWhile (· != c)),mk (((cO s).dropWhile (· != c)).drop 1),(cO s).contains c)
theorem kw {α:Type} (p:α→Bool):∀(l:List α),l.takeWhile p=l.take (l.takeWhile p).length
 | []=>rfl
 |x::l=>by
  rw [List.takeWhile_cons]
  split
  ·rw [List.length_cons,List.take_succ_cons,←kw p l]
  ·rfl
theorem dropWhile_drop {α:Type} (p:α→Bool):∀(l:List α),l.dropWhile p=l.drop (l.takeWhile p).length
 | []=>rfl
 |x::l=>by
  rw [List.takeWhile_cons,List.dropWhile_cons]
  split
  ·rw [List.length_cons,List.drop_succ_cons,←dropWhile_drop p l]
  ·rfl
def dG (s:RJ):Bool:=decide (0<s.size)&&decide (s.size≤8)&&(iO (cO s)==s.size)
theorem jA (s:RJ) (w:World) (hs:s.size≤maxLen):
  Calls Tryz.prog 93 #[.string s] w fun e w'=>e=.returned (.bool (dG s))∧w'=w:=by
 unfold dG;have C:=ae (kg s w hs);unfold maxLen at hs
 by_cases h0:0<s.size
 ·by_cases h8:s.size≤8
  ·have h0':(0:Int)<(s.size:Int):=by omega
   have h8':(s.size:Int)≤8:=by omega
   rw [decide_eq_true h0,decide_eq_true h8,Bool.true_and,Bool.true_and];generalize hz:iO (cO s)=z at*;have e:(z==s.size)=(((z:Int))==((s.size:Int))):=by
    rw [Bool.eq_iff_iff,beq_iff_eq,beq_iff_eq];omega
   have E:=ae e;clear e hz;go_enter Tryz.func93,Tryz.ntmps93;go_wp2_with (go_at_call 144;refine (aa C).mono ?_;rintro e w' ⟨rfl,rfl⟩);go_ret;exact ⟨by rw [aa E];rfl,rfl⟩
  ·have h8':¬((s.size:Int)≤8):=by omega
   have h0':(0:Int)<(s.size:Int):=by omega
   rw [decide_eq_false h8,Bool.and_false,Bool.false_and];go_enter Tryz.func93,Tryz.ntmps93;go_wp2;go_ret;exact ⟨rfl,rfl⟩
 ·have h0':¬((0:Int)<(s.size:Int)):=by omega
  rw [decide_eq_false h0,Bool.false_and,Bool.false_and];go_enter Tryz.func93,Tryz.ntmps93;go_wp2;go_ret;exact ⟨rfl,rfl⟩
theorem jB (s:RJ) (c:UInt8):(ax s c).1.size≤s.size∧(ax s c).2.1.size≤s.size:=by
 unfold ax;simp only [A7];have h1:((cO s).takeWhile (· != c)).length≤(cO s).length:=(List.takeWhile_prefix _).length_le;have h2:((cO s).dropWhile (· != c)).length≤(cO s).length:=(List.dropWhile_suffix _).length_le;rw [aN] at h1 h2;simp only [List.length_drop];omega
def mr (s:RJ):RJ×RJ×Bool:=((ax s 58).1,(ax s 58).2.1,(ax s 58).2.2&&dG (ax s 58).1&&dG (ax s 58).2.1)
structure Tu where
 kind:RJ
 id:RJ
 rel:RJ
 sub:RJ
 who:RJ
 of:RJ
def Ku:RJ:=⟨#[42]⟩
def wS (who:RJ) (all:Bool):RJ×RJ×Bool:=
 if !(mr who).2.2&& !all then ((ax who 58).1,Ku,(ax who 58).2.2&&dG (ax who 58).1&&eqs (ax who 58).2.1 Ku) else mr who
def dw (s:RJ):Tu×Bool:=
 (⟨(mr (ax (ax s 64).1 35).1).1,(mr (ax (ax s 64).1 35).1).2.1,(ax (ax s 64).1 35).2.1,(wS (ax (ax s 64).2.1 35).1 (ax (ax s 64).2.1 35).2.2).1,(wS (ax (ax s 64).2.1 35).1 (ax (ax s 64).2.1 35).2.2).2.1,(ax (ax s 64).2.1 35).2.1⟩,
  (ax s 64).2.2&&(ax (ax s 64).1 35).2.2&&(mr (ax (ax s 64).1 35).1).2.2&&dG (ax (ax s 64).1 35).2.1&&(wS (ax (ax s 64).2.1 35).1 (ax (ax s 64).2.1 35).2.2).2.2&&(!(ax (ax s 64).2.1 35).2.2||dG (ax (ax s 64).2.1 35).2.1))
def jO (ts:List Ty) (y:RJ) (g:Gr):Option Ty:=if g.reach=0 then (match cu ts g.ty with
 |none=>none
 |some u=>if (aW u y).isSome then some u else none) else none
def tk (ts:List Ty) (y:RJ) (k:Nat) (gs:List Gr):List Ty:=(gs.take k).filterMap (jO ts y)
def qP (ts:List Ty) (t:Ty) (x y:RJ):List Ty:=match aW t x with
 |none=>[]
 |some r=>(aY r.body).filterMap (jO ts y)
theorem IV {ts:List Ty} {y:RJ} {k:Nat} {gs:List Gr} {g:Gr} (h:gs[k]? =some g):tk ts y (k+1) gs=tk ts y k gs++(jO ts y g).toList:=by
 have hlt:k<gs.length:=by
  rcases Nat.lt_or_ge k gs.length with h'|h'
  ·exact h'
  ·rw [List.getElem?_eq_none h'] at h;cases h
 rw [RI hlt] at h;simp only [Option.some.injEq] at h;unfold tk;rw [List.take_succ_eq_append_getElem hlt,List.filterMap_append,h]
 cases hq:jO ts y g<;>simp [hq]
theorem tk_le (ts:List Ty) (y:RJ) (k:Nat) (gs:List Gr):(tk ts y k gs).length≤k:=by
 unfold tk;have:=List.length_filterMap_le (jO ts y) (gs.take k);rw [List.length_take] at this;omega
theorem Cx (b tp p1 p2:Nat) (n1 n2:RJ) (sv:Value) (ts:List Ty) (tl:List (Ty×Value)) (t:Ty) (tv:Value) (rl:List (Rl×Value)) (w:World) (h:MC b w sv ts tl) (ht:RC b w tv t.rels rl) (hf:aW t n1=none):
  Calls Tryz.prog 223 #[.agg #[sv],.agg #[.int .i64 t.place,.string t.name,tv],.agg #[.int .i64 tp,.int .i64 p1,.string n1,.int .i64 p2,.string n2]] w fun e' w'=>e'=.returned (.slice none 0 0)∧Below w.heap.size w w':=by
 obtain ⟨ma,mn,mc,rfl⟩:=h.form;obtain ⟨va,vn,vc,rfl⟩:=ht.form;have W0:Below w.heap.size w (((w.alloc (.cells #[.slice ma mn mc] 75)).alloc (.cells #[.int .i64 t.place,.string t.name,.slice va vn vc] 110)).alloc (.cells #[.int .i64 tp,.int .i64 p1,.string n1,.int .i64 p2,.string n2] 240)):=(((Below.refl _ _).alloc RH _).alloc (by simp) _).alloc (by simp;omega) _;have C:=ae (iC b t.place t.name _ t rl n1 _ (ht.below W0) hf);have fK:=ae W0;clear W0 h ht hf;go_enter Tryz.func223,Tryz.ntmps223;go_wp2_with fail;refine (aa C).mono ?_;rintro e w1 ⟨rfl,hb1⟩;have B1:=ae ((aa fK).trans (hb1.mono (aa fK).size));have sz:=(aa B1).size;clear hb1;unfold aM;go_wp2;go_ret;exact ⟨rfl,(by with_reducible repeat (first|exact aa B1|refine Below.drew ?_|(refine Below.setCell ?_ ?_ _;rotate_left;exact (by first|omega|(simp;omega)|simp))|(refine Below.alloc ?_ ?_ _;rotate_left;exact (by first|omega|(simp;omega)|simp))))⟩
theorem tF (b tp p1 p2:Nat) (n1 n2:RJ) (sv:Value) (ts:List Ty) (tl:List (Ty×Value)) (t:Ty) (tv:Value) (rl:List (Rl×Value)) (w:World) (h:MC b w sv ts tl) (ht:RC b w tv t.rels rl) (r:Rl) (hf:aW t n1=some r):
  Calls Tryz.prog 223 #[.agg #[sv],.agg #[.int .i64 t.place,.string t.name,tv],.agg #[.int .i64 tp,.int .i64 p1,.string n1,.int .i64 p2,.string n2]] w fun e' w'=>∃(qc:Value) (l3:List E3),e'=.returned qc∧Below w.heap.size w w'∧w'.ownsRow w.heap.size 110 3 qc l3.length (l3.flatMap c3)∧l3.map (fun e=>e.2.1)=((aY r.body).filterMap (jO ts n2)).map Ty.name∧∀e∈l3,∃a n c,e.2.2=Value.slice a n c:=by
 obtain ⟨i0,hi,hz0,hz1,hz2⟩:=info_parts Tryz.info110;have HI:=ae hi;have jg:=ae hz0;have jh:=ae hz1;have ji:=ae hz2;clear hi hz0 hz1 hz2;obtain ⟨ma,mn,mc,rfl⟩:=h.form;obtain ⟨va,vn,vc,rfl⟩:=ht.form;have W0:Below w.heap.size w (((w.alloc (.cells #[.slice ma mn mc] 75)).alloc (.cells #[.int .i64 t.place,.string t.name,.slice va vn vc] 110)).alloc (.cells #[.int .i64 tp,.int .i64 p1,.string n1,.int .i64 p2,.string n2] 240)):=(((Below.refl _ _).alloc RH _).alloc (by simp) _).alloc (by simp;omega) _;obtain ⟨ra,rv,bi,hmem,hcall⟩:=jy b t.place t.name _ t rl n1 _ (ht.below W0) r hf;have okp:=ht.okp r hmem;have okg:=ht.okg r hmem;have wf:=ht.wf r hmem;have C:=ae hcall;have Le:=ae bi;have qd:=ae (h.below W0);have MB:=ae (((ag.new w #[.slice ma mn mc] 75).alloc (.cells #[.int .i64 t.place,.string t.name,.slice va vn vc] 110)).alloc (.cells #[.int .i64 tp,.int .i64 p1,.string n1,.int .i64 p2,.string n2] 240));have TB:=ae (ag.new' ((w.alloc (.cells #[.slice ma mn mc] 75)).alloc (.cells #[.int .i64 t.place,.string t.name,.slice va vn vc] 110)) #[.int .i64 tp,.int .i64 p1,.string n1,.int .i64 p2,.string n2] 240 (w.heap.size+2) (by simp));have fK:=ae W0;have blt:=h.blt;have Lc:=ae wf;clear W0 h ht hf hcall bi hmem wf;go_enter Tryz.func223,Tryz.ntmps223;go_wp2_with fail;refine (aa C).mono ?_;rintro e w1 ⟨rfl,hb1⟩;have b1:=hb1.alloc hb1.size (.cells #[.int .i64 r.place,.string r.name,.iface ra rv] 159);have B1:=ae ((aa fK).trans (b1.mono (aa fK).size));have MB1:=ae ((aa MB).below b1);have PY:=ae ((aa TB).below b1);have HM1:=ae ((aa qd).below b1);have RP1:=ae ((aa Le).but (But.of_below b1));have blt1:=(aa HM1).blt;clear hb1 b1 C;go_wp2_with fail;refine (mo r.place r.name b r.body _ _ blt1 (aa RP1) okp okg (aa Lc)).mono ?_;rintro e w3 ⟨gv,rfl,hb3,hrow⟩;obtain ⟨ga,gc,rfl⟩:=ak hrow;have B3:=ae ((aa B1).trans (hb3.mono (aa B1).size));have QB:=ae ((aa MB1).below hb3);have TB3:=ae ((aa PY).below hb3);have QC:=ae ((aa HM1).below hb3);have om:=ae hrow;have zD:=(aa B3).size;clear hb3 hrow;go_wp2_with fail
 go_loopw [9,29] (fun u9 u29 wr=>∃(k:Nat) (qc:Value) (l3:List E3),k≤(aY r.body).length∧u29=.int .i64 k∧u9=qc∧Below w3.heap.size w3 wr∧wr.ownsRow w3.heap.size 110 3 qc l3.length (l3.flatMap c3)∧Hid (l3.map (fun e=>e.2.1)=(tk ts n2 k (aY r.body)).map Ty.name∧∀e∈l3,∃a n c,e.2.2=Value.slice a n c)) (fun _ u _=>(aY r.body).length-(intOf u).toNat)
 case atStart=>exact ⟨0,_,[],by omega,rfl,rfl,Below.refl _ _,World.ownsRow_nil _ _ _ _,ae ⟨rfl,by simp⟩⟩
 case round=>
  obtain ⟨k,qc,l3,hk,rfl,Oi,hb,ho,HQ⟩:=hrel;have EK:l3.length≤k:=by
   have:=congrArg List.length (aa HQ).1;rw [List.length_map,List.length_map] at this;have:=tk_le ts n2 k (aY r.body);omega
  obtain ⟨sa,sn,sc,rfl⟩:∃a n c,qc=.slice a n c:=by
   obtain ⟨a,c,e⟩:=ak ho;exact ⟨a,_,c,e⟩
  subst Oi;have HB:=ae hb;have HO:=ae ho;have uV:=hb.size
  by_cases hlt:k<(aY r.body).length
  ·have hkn:(k:Int)<((aY r.body).length:Int):=by omega
   obtain ⟨q,c,e1,k0,k1,k2,k3,k4⟩:=Ld.cell (ai (w':=wr) (aa om) (fun g cs f _ hh=>hb.block g (lt_of_some hh))) k (aY r.body)[k] (RI hlt);simp only [Value.slice.injEq] at e1;obtain ⟨rfl,_,rfl⟩:=e1;have hg':(aY r.body)[k]? =some (aY r.body)[k]:=RI hlt;generalize (aY r.body)[k]=g at*;have HST:=ae (IV (ts:=ts) (y:=n2) hg');have bx:=hb.alloc uV (.cells #[.int .i64 g.tp,.string g.ty,.int .i64 g.reach,.int .i64 g.rp,.string g.rel] 207);have iL:=ae bx;have HM:=ae ((aa QC).below bx);have IW:=ae ((aa QB).below bx);have QD:=ae ((aa TB3).below bx);have GX:=ae (ag.new wr #[.int .i64 g.tp,.string g.ty,.int .i64 g.reach,.int .i64 g.rp,.string g.rel] 207);have OX:=ae ((aa HO).alloc (.cells #[.int .i64 g.tp,.string g.ty,.int .i64 g.reach,.int .i64 g.rp,.string g.rel] 207));have m0:wr.cell? ⟨w.heap.size,0,none⟩=some (.slice ma mn mc):=((aa QB).below hb).cell rfl;have ml:=((aa QB).below hb).lt;clear hb ho bx hg'
   by_cases h0:g.reach=0
   ·have h0':((g.reach:Int) != 0)=false:=by rw [h0];rfl
    cases hf:cu ts g.ty with
    |none=>
     have ht1:jO ts n2 g=none:=by simp [jO,h0,hf]
     have C:=ae (qO b _ ts tl g.ty _ (aa HM) hf);clear hf h0;go_wp2_with fail;refine (aa C).mono ?_;rintro e w4 ⟨rfl,hb4⟩;have B4:=ae ((aa iL).trans (hb4.mono (aa iL).size));have EL:=(aa QD).below hb4;have TB4':=ae (EL.alloc (.cells #[.int .i64 0,.string ⟨#[]⟩,.slice none 0 0] 110));obtain ⟨v0,v1,v2,v3,v4⟩:=EL.five;have vl:=EL.lt;have O4:=ae ((ai (w':=w4) (aa OX) (fun g cs f _ hh=>hb4.block g (lt_of_some hh))).alloc (.cells #[.int .i64 0,.string ⟨#[]⟩,.slice none 0 0] 110));have Fe:=(aa B4).size;have Kv:=ae ((aa B4).alloc Fe (.cells #[.int .i64 0,.string ⟨#[]⟩,.slice none 0 0] 110));clear hb4 EL;have C:=ae (iC b 0 ⟨#[]⟩ (.slice none 0 0) ⟨em,0,[]⟩ [] n2 (w4.alloc (.cells #[.int .i64 0,.string ⟨#[]⟩,.slice none 0 0] 110)) ⟨rfl,World.ownsRow_nil _ _ _ _,by simp,by simp,by simp,by simp,by simp⟩ rfl);unfold aM;go_wp2_with fail;refine (aa C).mono ?_;rintro e w5 ⟨rfl,gF⟩;have B5:=ae ((aa Kv).trans (gF.mono (aa Kv).size));have O5:=ae (ai (w':=w5) (aa O4) (fun g cs f _ hh=>gF.block g (lt_of_some hh)));have Oj:=(aa B5).size;clear gF;unfold aM;go_wp2;go_roundw
     case rel=>exact ⟨k+1,.slice sa sn sc,l3,by omega,by go_num,rfl,(aa B5).alloc Oj _,(aa O5).alloc _,ae (by rw [aa HST,ht1];simpa using aa HQ)⟩
     case measure=>simp [intOf];omega
    |some u=>
     obtain ⟨ua,un,uc,rl2,hrc,hcall⟩:=oh b _ ts tl g.ty _ (aa HM) u hf;have C:=ae hcall;have PW:=ae hrc;clear hcall hrc
     cases hq:aW u n2 with
     |none=>
      have ht1:jO ts n2 g=none:=by simp [jO,h0,hf,hq]
      have Kg:=ae hq;clear hf h0 hq;go_wp2_with fail;refine (aa C).mono ?_;rintro e w4 ⟨rfl,hb4⟩;have QE:=ae (((aa PW).below hb4).below ((Below.refl w4.heap.size w4).alloc RH (.cells #[.int .i64 u.place,.string u.name,.slice ua un uc] 110)));have B4:=ae ((aa iL).trans (hb4.mono (aa iL).size));have EL:=(aa QD).below hb4;obtain ⟨v0,v1,v2,v3,v4⟩:=EL.five;have vl:=EL.lt;have O4:=ae ((ai (w':=w4) (aa OX) (fun g cs f _ hh=>hb4.block g (lt_of_some hh))).alloc (.cells #[.int .i64 u.place,.string u.name,.slice ua un uc] 110));have Fe:=(aa B4).size;have Kv:=ae ((aa B4).alloc Fe (.cells #[.int .i64 u.place,.string u.name,.slice ua un uc] 110));clear hb4 EL;have C:=ae (iC b u.place u.name _ u rl2 n2 _ (aa QE) (aa Kg));go_wp2_with fail;refine (aa C).mono ?_;rintro e w5 ⟨rfl,gF⟩;have B5:=ae ((aa Kv).trans (gF.mono (aa Kv).size));have O5:=ae (ai (w':=w5) (aa O4) (fun g cs f _ hh=>gF.block g (lt_of_some hh)));have Oj:=(aa B5).size;clear gF;unfold aM;go_wp2;go_roundw
      case rel=>exact ⟨k+1,.slice sa sn sc,l3,by omega,by go_num,rfl,(aa B5).alloc Oj _,(aa O5).alloc _,ae (by rw [aa HST,ht1];simpa using aa HQ)⟩
      case measure=>simp [intOf];omega
     |some r2=>
      have ht1:jO ts n2 g=some u:=by simp [jO,h0,hf,hq]
      have Kg:=ae hq;clear hf h0 hq;go_wp2_with fail;refine (aa C).mono ?_;rintro e w4 ⟨rfl,hb4⟩;have QE:=ae (((aa PW).below hb4).below ((Below.refl w4.heap.size w4).alloc RH (.cells #[.int .i64 u.place,.string u.name,.slice ua un uc] 110)));have U4:=ae (ag.new w4 #[.int .i64 u.place,.string u.name,.slice ua un uc] 110);have B4:=ae ((aa iL).trans (hb4.mono (aa iL).size));have EL:=(aa QD).below hb4;obtain ⟨v0,v1,v2,v3,v4⟩:=EL.five;have vl:=EL.lt;have O4:=ae ((ai (w':=w4) (aa OX) (fun g cs f _ hh=>hb4.block g (lt_of_some hh))).alloc (.cells #[.int .i64 u.place,.string u.name,.slice ua un uc] 110));have Fe:=(aa B4).size;have Kv:=ae ((aa B4).alloc Fe (.cells #[.int .i64 u.place,.string u.name,.slice ua un uc] 110));clear hb4 EL;obtain ⟨xa,xv,_,_,hcall⟩:=jy b u.place u.name _ u rl2 n2 _ (aa QE) r2 (aa Kg);have C:=ae hcall;clear hcall;go_wp2_with fail;refine (aa C).mono ?_;rintro e w5 ⟨rfl,gF⟩;have U5:=(aa U4).below gF;obtain ⟨u0,u1,u2⟩:=U5.three;have ul:=U5.lt;clear U5;have B5:=ae ((aa Kv).trans (gF.mono (aa Kv).size));have O5:=ae (ai (w':=w5) (aa O4) (fun g cs f _ hh=>gF.block g (lt_of_some hh)));have Oj:=(aa B5).size;clear gF;go_wp2_with (at_builtin;go_must (refine wpList_append_lies _ rfl _ _ 73 rfl w3.heap.size 110 i0 _ 3 48 Tryz.underlying73 (aa HI) (aa jg) (aa jh) (aa ji) rfl (by decide) (.slice sa sn sc) l3.length (l3.flatMap c3) rfl ?hown ⟨w5.heap.size+1,0,none⟩ 1 1 (c3 (u.place,u.name,.slice ua un uc)) rfl rfl ?hnews ?hone (by decide) ?h63 ?hbytes ?hbase (w5.heap.size+2) ?hH ?hrest))
      case hown=>exact ((aa O5).alloc _).alloc _
      case hnews=>exact World.news_of_block (B:=w5.heap.size+1) (cs:=#[.int .i64 u.place,.string u.name,.slice ua un uc]) (t:=110) (fr:=(0,0)) (ag.new' (w5.alloc _) _ _ _ (by simp))
      case hone=>
       intro z hz;simp [c3] at hz
       rcases hz with rfl|rfl|rfl<;>rfl
      case h63=>unfold maxLen;omega
      case hbytes=>omega
      case hbase=>simp;omega
      case hH=>simp
      case hrest=>
       intro g6 nK w6 d9 aZ jC uX;have Cy:=((aa O5).alloc (.cells #[.int .i64 r2.place,.string r2.name,.iface xa xv] 159)).alloc (.cells #[.int .i64 u.place,.string u.name,.slice ua un uc] 110);have B6:=ae (Below.grown (((aa B5).alloc Oj (.cells #[.int .i64 r2.place,.string r2.name,.iface xa xv] 159)).alloc (by simp;omega) (.cells #[.int .i64 u.place,.string u.name,.slice ua un uc] 110)) aZ (by simp;omega) (fun k hk=>(Cy.lt k hk).1));have O6:=ae d9;clear d9 aZ jC Cy;go_wp2;go_roundw
       case rel=>exact ⟨k+1,.slice (some ⟨g6,0,none⟩) (l3.length+1) nK,l3++[(u.place,u.name,.slice ua un uc)],by omega,by go_num,rfl,aa B6,by rw [List.length_append,List.flatMap_append];exact aa O6,ae ⟨by rw [aa HST,ht1,List.map_append,List.map_append,(aa HQ).1];rfl,fun e he=>by rw [List.mem_append,List.mem_singleton] at he;rcases he with he|rfl;exact (aa HQ).2 e he;exact ⟨ua,un,uc,rfl⟩⟩⟩
       case measure=>simp [intOf];omega
   ·have h0':((g.reach:Int) != 0)=true:=by rw [bne_iff_ne];omega
    have ht1:jO ts n2 g=none:=by simp [jO,h0]
    clear h0;go_wp2;go_roundw
    case rel=>exact ⟨k+1,.slice sa sn sc,l3,by omega,by go_num,rfl,aa iL,aa OX,ae (by rw [aa HST,ht1];simpa using aa HQ)⟩
    case measure=>simp [intOf];omega
  ·have hkn:¬((k:Int)<((aY r.body).length:Int)):=by omega
   have hall:tk ts n2 k (aY r.body)=(aY r.body).filterMap (jO ts n2):=by
    unfold tk;rw [List.take_of_length_le (by omega)]
   rw [hall] at HQ;clear hb ho hall;go_wp2;go_ret;exact ⟨.slice sa sn sc,rfl,(aa B3).trans ((aa HB).mono zD),l3,aA (aa HO) zD,(aa HQ).1,fun x1 x2 x3 hx=>(aa HQ).2 (x1,x2,x3) hx⟩
def Cz (ts:List Ty) (t:Ty) (n1:RJ) (p1:Nat) (n2:RJ) (p2:Nat):Option Nat:=match aW t n1 with
 |none=>some p1
 |some r=>if ((aY r.body).filterMap (jO ts n2)).length=0 then some p2 else none
theorem uY (b tp p1 p2:Nat) (n1 n2:RJ) (sv:Value) (ts:List Ty) (tl:List (Ty×Value)) (t:Ty) (tv:Value) (rl:List (Rl×Value)) (w:World) (h:MC b w sv ts tl) (ht:RC b w tv t.rels rl):
  Calls Tryz.prog 175 #[.agg #[sv],.agg #[.int .i64 t.place,.string t.name,tv],.agg #[.int .i64 tp,.int .i64 p1,.string n1,.int .i64 p2,.string n2]] w fun e' w'=>e'=.returned (dW 5 (Cz ts t n1 p1 n2 p2))∧Below w.heap.size w w':=by
 obtain ⟨ma,mn,mc,rfl⟩:=h.form;obtain ⟨va,vn,vc,rfl⟩:=ht.form;have W0:Below w.heap.size w (((w.alloc (.cells #[.slice ma mn mc] 75)).alloc (.cells #[.int .i64 t.place,.string t.name,.slice va vn vc] 110)).alloc (.cells #[.int .i64 tp,.int .i64 p1,.string n1,.int .i64 p2,.string n2] 240)):=(((Below.refl _ _).alloc RH _).alloc (by simp) _).alloc (by simp;omega) _;have qd:=ae (h.below W0);have IX:=ae (ht.below W0);have MB:=ae (((ag.new w #[.slice ma mn mc] 75).alloc (.cells #[.int .i64 t.place,.string t.name,.slice va vn vc] 110)).alloc (.cells #[.int .i64 tp,.int .i64 p1,.string n1,.int .i64 p2,.string n2] 240));have YB:=ae ((ag.new' (w.alloc (.cells #[.slice ma mn mc] 75)) #[.int .i64 t.place,.string t.name,.slice va vn vc] 110 (w.heap.size+1) (by simp)).alloc (.cells #[.int .i64 tp,.int .i64 p1,.string n1,.int .i64 p2,.string n2] 240));have TB:=ae (ag.new' ((w.alloc (.cells #[.slice ma mn mc] 75)).alloc (.cells #[.int .i64 t.place,.string t.name,.slice va vn vc] 110)) #[.int .i64 tp,.int .i64 p1,.string n1,.int .i64 p2,.string n2] 240 (w.heap.size+2) (by simp));have fK:=ae W0;generalize hR:Cz ts t n1 p1 n2 p2=R;unfold Cz at hR;clear W0 h ht
 cases hf:aW t n1 with
 |none=>
  have C:=ae (iC b t.place t.name _ t rl n1 _ (aa IX) hf);rw [hf] at hR;have HR:=ae hR;clear hR hf;go_enter Tryz.func175,Tryz.ntmps175;go_wp2_with fail;refine (aa C).mono ?_;rintro e w1 ⟨rfl,hb1⟩;have B1:=ae ((aa fK).trans (hb1.mono (aa fK).size));obtain ⟨v0,v1,v2,v3,v4⟩:=((aa TB).below hb1).five;have vl:=((aa TB).below hb1).lt;have sz:=(aa B1).size;clear hb1;unfold aM;go_wp2_with (go_at_call 73;refine (fE _ 5 _).mono ?_;rintro e w3 ⟨rfl,rfl⟩);go_ret;rw [←aa HR];exact ⟨rfl,(by with_reducible repeat (first|exact aa B1|refine Below.drew ?_|(refine Below.setCell ?_ ?_ _;rotate_left;exact (by first|omega|(simp;omega)|simp))|(refine Below.alloc ?_ ?_ _;rotate_left;exact (by first|omega|(simp;omega)|simp))))⟩
 |some r=>
  obtain ⟨xa,xv,_,_,hcall⟩:=jy b t.place t.name _ t rl n1 _ (aa IX) r hf;have C:=ae hcall;have HF:=ae hf;rw [hf] at hR;have HR:=ae hR;clear hR hf hcall;go_enter Tryz.func175,Tryz.ntmps175;go_wp2_with fail;refine (aa C).mono ?_;rintro e w1 ⟨rfl,hb1⟩;have b1:=hb1.alloc hb1.size (.cells #[.int .i64 r.place,.string r.name,.iface xa xv] 159);have B1:=ae ((aa fK).trans (b1.mono (aa fK).size));have M1:=ae ((aa qd).below b1);have T1:=ae ((aa IX).below b1);have PY:=ae ((aa TB).below b1);obtain ⟨v0,v1,v2,v3,v4⟩:=((aa TB).below hb1).five;have vl:=((aa TB).below hb1).lt;obtain ⟨y0,y1,y2⟩:=((aa YB).below hb1).three;have yl:=((aa YB).below hb1).lt;have m0:w1.cell? ⟨w.heap.size,0,none⟩=some (.slice ma mn mc):=((aa MB).below hb1).cell rfl;have sz:=(aa B1).size;have ml:=((aa MB).below hb1).lt;clear hb1 b1 C;go_wp2_with fail;refine (tF b tp p1 p2 n1 n2 _ ts tl t _ rl _ (aa M1) (aa T1) r (aa HF)).mono ?_;rintro e w2 ⟨yX,l3,rfl,hb2,ho,EK,_⟩;have hlen:l3.length=((aY r.body).filterMap (jO ts n2)).length:=by
   have:=congrArg List.length EK
   rwa [List.length_map,List.length_map] at this
  obtain ⟨oa,oc,rfl⟩:=ak ho;have B2:=ae ((aa B1).trans (hb2.mono (aa B1).size));obtain ⟨z0,z1,z2,z3,z4⟩:=((aa PY).below hb2).five;have zl:=((aa PY).below hb2).lt;have nH:=(aa B2).size;have hR:=aa HR;rw [←hlen] at hR;generalize l3.length=ln at*;clear hb2 ho EK hlen v0 v1 v2 v3 v4 y0 y1 y2 m0
  by_cases h0:ln=0
  ·have h0':((ln:Int)==0)=true:=by rw [h0];rfl
   rw [if_pos h0] at hR;have bP:=ae hR;clear hR h0;go_wp2_with (go_at_call 73;refine (fE _ 5 _).mono ?_;rintro e w3 ⟨rfl,rfl⟩);go_ret;rw [←aa bP];exact ⟨rfl,(by with_reducible repeat (first|exact aa B2|refine Below.drew ?_|(refine Below.setCell ?_ ?_ _;rotate_left;exact (by first|omega|(simp;omega)|simp))|(refine Below.alloc ?_ ?_ _;rotate_left;exact (by first|omega|(simp;omega)|simp))))⟩
  ·have h0':((ln:Int)==0)=false:=by rw [beq_eq_false_iff_ne];omega
   rw [if_neg h0] at hR;have bP:=ae hR;clear hR h0;go_wp2;go_ret;rw [←aa bP];exact ⟨rfl,(by with_reducible repeat (first|exact aa B2|refine Below.drew ?_|(refine Below.setCell ?_ ?_ _;rotate_left;exact (by first|omega|(simp;omega)|simp))|(refine Below.alloc ?_ ?_ _;rotate_left;exact (by first|omega|(simp;omega)|simp))))⟩
