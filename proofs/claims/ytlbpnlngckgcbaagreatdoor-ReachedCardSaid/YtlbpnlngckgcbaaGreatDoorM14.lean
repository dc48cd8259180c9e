import Derived.Test.YtlbpnlngckgcbaaGreatDoorM12
import Derived.Deep.Upon
set_option linter.all false
set_option maxHeartbeats 4000000
set_option maxRecDepth 100000
namespace Go.Proofs.YtlbpnlngckgcbaaGreatDoor
open Go.RowKit Go.PlainAid
def NS (w w':World):Prop:=∀(g:Nat) (cs:Array Value) (T:TypeId) (f:Nat×Nat),w.heap[g]? =some (Obj.cells cs T f)→T≠291→w'.heap[g]? =w.heap[g]?
theorem NS.below {w w':World} (h:Below w.heap.size w w'):NS w w':=fun g cs T f hh _=>h.block g (lt_of_some hh)
theorem NS.trans {x y z:World} (h:NS x y) (k:NS y z):NS x z:=fun g cs T f hh ht=>(k g cs T f ((h g cs T f hh ht).trans hh) ht).trans (h g cs T f hh ht)
theorem NS.g {b:Nat} {w w':World} (h:NS w w'):iw b w w':=fun g cs f _ hh=>h g cs _ f hh (by decide)
theorem RC.ns {b:Nat} {w w':World} {sv:Value} {rs:List Rl} {rl:List (Rl×Value)} (h:RC b w sv rs rl) (k:NS w w'):RC b w' sv rs rl:=
 ⟨h.fst,ai h.row (fun g cs f _ hh=>k g cs _ f hh (by decide)),fun p hp=>ay.frame k.g _ _ (h.ex p hp),h.len,h.okp,h.okg,h.wf⟩
theorem MC.ns {b:Nat} {w w':World} {sv:Value} {ts:List Ty} {tl:List (Ty×Value)} (h:MC b w sv ts tl) (k:NS w w') (hs:w.heap.size≤w'.heap.size):MC b w' sv ts tl:=
 ⟨h.fst,ai h.row (fun g cs f _ hh=>k g cs _ f hh (by decide)),fun p hp=>by obtain ⟨rl,hr⟩:=h.rels p hp;exact ⟨rl,hr.ns k⟩,h.len,Nat.lt_of_lt_of_le h.blt hs⟩
def dx (nd:Sp→List Sp) (f:List Sp):List Sp→Nat
 | []=>0
 |k::ks=>(if f.any (fun y=>fT k y) then 0 else (nd k).length)+dx nd f ks
theorem mJ (nd:Sp→List Sp) (f:List Sp) (x:Sp):∀ks,dx nd (f++[x]) ks≤dx nd f ks
 | []=>Nat.le_refl _
 |k::ks=>by
  have h:=mJ nd f x ks;simp only [dx,List.any_append]
  cases f.any (fun y=>fT k y)<;>simp
  ·split<;>omega
  ·exact h
theorem tJ (nd:Sp→List Sp) (f:List Sp) (x:Sp) (hx:f.any (fun y=>fT x y)=false):∀ks,x∈ks→(nd x).length+dx nd (f++[x]) ks≤dx nd f ks
 | [],h=>by simp at h
 |k::ks,h=>by
  have h1:=mJ nd f x ks
  by_cases hk:k=x
  ·subst hk;have e:fT k k=true:=(wW k k).2 rfl;simp only [dx,List.any_append,hx,Bool.false_or,List.any_cons,e,List.any_nil,Bool.or_false,if_true,Bool.false_eq_true,if_false];omega
  ·have h2:=tJ nd f x hx ks (by
    rcases List.mem_cons.1 h with e|e
    ·exact absurd e.symm hk
    ·exact e)
   simp only [dx,List.any_append,List.any_cons,List.any_nil,Bool.or_false];have e:fT k x=false:=by
    cases e:fT k x
    ·rfl
    ·exact absurd ((wW k x).1 e) hk
   rw [e,Bool.or_false];omega
theorem CZ (nd:Sp→List Sp) (f:List Sp) (x:Sp) (ks:List Sp) (h:nd x=[]):(nd x).length+dx nd (f++[x]) ks≤dx nd f ks:=by
 have:=mJ nd f x ks;rw [h]
 simpa using this
def fe (ts:List Ty):List Sp:=ts.flatMap fun t=>t.rels.map fun r=>(t.name,r.name)
theorem Jc (ts:List Ty) (s:Sp) (h:aG ts s≠ []):s∈fe ts:=by
 unfold aG at h
 split at h
 ·exact absurd rfl h
 ·rename_i t ht
  split at h
  ·exact absurd rfl h
  ·rename_i r hr;unfold fe;rw [List.mem_flatMap];refine ⟨t,List.mem_of_find?_eq_some ht,?_⟩;rw [List.mem_map];refine ⟨r,List.mem_of_find?_eq_some hr,?_⟩;have e1:=(eT _ _).1 (List.find?_some (p:=fun t:Ty=>eqs t.name s.1) ht);have e2:=(eT _ _).1 (List.find?_some (p:=fun r:Rl=>eqs r.name s.2) hr);obtain ⟨s1,s2⟩:=s;simp only at e1 e2;rw [e1,e2]
theorem tK (ts:List Ty) (f:List Sp) (x:Sp) (hx:f.any (fun y=>fT x y)=false):(aG ts x).length+dx (aG ts) (f++[x]) (fe ts)≤dx (aG ts) f (fe ts):=by
 by_cases h:aG ts x=[]
 ·exact CZ _ _ _ _ h
 ·exact tJ _ _ _ hx _ (Jc ts x h)
def dK (nd:Sp→List Sp):Nat→List Sp→List Sp→List Sp
 |0,_,f=>f
 |_+1,[],f=>f
 |k+1,x::q,f=>if f.any (fun y=>fT x y) then dK nd k q f else dK nd k (q++nd x) (f++[x])
def dL (ts:List Ty) (l0:List Sp):Nat:=l0.length+dx (aG ts) [] (fe ts)
def dm (ts:List Ty) (l0:List Sp):List Sp:=dK (aG ts) (dL ts l0+1) l0 []
def zP (ts:List Ty) (l0:List Sp) (x:Sp):Bool:=(dm ts l0).any (fun y=>fT x y)
theorem zQ {w w':World} {may:MemPlace→Prop} (h:w.keptBut w' may) {i:Nat} (hi:i<w.heap.size) (hn:∀j,¬may (.cell i j)) (hm:¬may (.map i)):w'.heap[i]? =w.heap[i]? :=by
 have h3:=h.2.2 i hi
 revert h3
 cases e1:w.heap[i]? with
 |none=>cases e2:w'.heap[i]? with
  |none=>simp
  |some o'=>intro h3;exact h3
 |some o=>cases e2:w'.heap[i]? with
  |none=>cases o<;>(intro h3;exact h3)
  |some o'=>
   cases o with
   |cells c t fr=>
    cases o' with
    |cells c' t' fr'=>
     rintro ⟨rfl,rfl,hs,hc⟩;have:c'=c:=Array.ext_getElem? (fun j=>hc j (hn j));rw [this]
    |_=>intro h3;exact h3
   |map es cl=>
    cases o' with
    |map es' cl'=>
     intro h3
     rcases h3 with h3|⟨rfl,rfl⟩
     ·exact absurd h3 hm
     ·rfl
    |_=>intro h3;exact h3
   |_=>intro h3;exact h3
structure QR (base:Nat) (w:World) (ao:Option Addr) (g off cap:Nat) (l:List Sp):Prop where
 came:Came w 2 ao g off l.length cap (aD l)
 max:cap≤maxLen
 at_:0<cap→base≤g
theorem QR.of_own {base:Nat} {w:World} {v:Value} {l:List Sp} (h:w.ownsRow base 291 2 v l.length (aD l)):∃ao g cap,v=.slice ao l.length cap∧QR base w ao g 0 cap l∧(0<cap→v.ownBlock=some g):=by
 rcases h with ⟨h1,⟨rfl,h2⟩|⟨g,cap,cur,rfl,hg,hh,hle,hm,hs,ht⟩⟩
 ·refine ⟨none,0,0,by rw [h2],⟨⟨by omega,by omega,by omega,aR _,?_,by intro j hj;omega⟩,by unfold maxLen;omega,by omega⟩,by omega⟩;intro j u hj;have:=(List.getElem?_eq_some_iff.1 hj).1;rw [aR] at this;omega
 ·refine ⟨_,g,cap,rfl,⟨⟨hle,fun _=>rfl,fun _=>lt_of_some hh,aR _,?_,?_⟩,hm,fun _=>hg⟩,fun _=>rfl⟩
  ·intro j u hj;have hlt:=(List.getElem?_eq_some_iff.1 hj).1;rw [←ht,List.getElem?_take] at hj
   split at hj
   ·simp [World.cell?,hh] at hj ⊢;exact hj
   ·simp at hj
  ·intro j hj;have:0+l.length*2+j<cur.size:=by rw [hs];rw [Nat.sub_mul] at hj;omega
   refine ⟨?_,?_⟩
   ·simp [World.cell?,hh];omega
   ·simp [World.frozen?,hh]
theorem QR.frame {base:Nat} {w w':World} {ao:Option Addr} {g off cap:Nat} {l:List Sp} (h:QR base w ao g off cap l) (hg:0<cap→w'.heap[g]? =w.heap[g]?) (hs:w.heap.size≤w'.heap.size):QR base w' ao g off cap l:=by
 obtain ⟨hc,hm,ha⟩:=h;refine ⟨⟨hc.le,hc.addr,fun h0=>Nat.lt_of_lt_of_le (hc.lt h0) hs,hc.oldsLen,?_,?_⟩,hm,ha⟩
 ·intro j u hj;have hlt:=(List.getElem?_eq_some_iff.1 hj).1;have h0:0<cap:=by have:=hc.le;rw [aR] at hlt;omega
  exact (World.cell?_of_block (a:=⟨g,off+j,none⟩) (hg h0)).trans (hc.olds j u hj)
 ·intro j hj;have h0:0<cap:=by
   rcases Nat.eq_zero_or_pos cap with e|e
   ·subst e;simp at hj
   ·exact e
  have e1:=World.cell?_of_block (a:=⟨g,off+l.length*2+j,none⟩) (hg h0);have e2:=World.frozen?_of_block (a:=⟨g,off+l.length*2+j,none⟩) (hg h0);rw [e1,e2];exact hc.spare j hj
theorem QR.head {base:Nat} {w:World} {ao:Option Addr} {g off cap:Nat} {x:Sp} {l:List Sp} (h:QR base w ao g off cap (x::l)):0<cap∧ao=some ⟨g,off,none⟩∧w.cell? ⟨g,off,none⟩=some (.string x.1)∧w.cell? ⟨g,off+1,none⟩=some (.string x.2):=by
 have h0:0<cap:=by have:=h.came.le;simp at this;omega
 refine ⟨h0,h.came.addr h0,?_,?_⟩
 ·exact h.came.olds 0 _ (by simp [aD,sD])
 ·exact h.came.olds 1 _ (by simp [aD,sD])
theorem QR.tail {base:Nat} {w:World} {ao:Option Addr} {g off cap:Nat} {x:Sp} {l:List Sp} (h:QR base w ao g off cap (x::l)) (wY:Option Addr) (ha:0<cap-1→wY=some ⟨g,off+2,none⟩):QR base w wY g (off+2) (cap-1) l:=by
 obtain ⟨hc,hm,hat⟩:=h;have hle:=hc.le;simp only [List.length_cons] at hle;refine ⟨⟨by omega,ha,fun h0=>hc.lt (by omega),aR _,?_,?_⟩,by omega,fun h0=>hat (by omega)⟩
 ·intro j u hj;rw [show off+2+j=off+(j+2) by omega];exact hc.olds (j+2) u (by simpa [aD,sD] using hj)
 ·intro j hj;have:=hc.spare j (by simp only [List.length_cons];rw [show cap-(l.length+1)=cap-1-l.length by omega];exact hj);simp only [List.length_cons] at this;rw [show off+2+l.length*2+j=off+(l.length+1)*2+j by omega];exact this
theorem QR.app {base:Nat} {w w':World} {ao:Option Addr} {g off cap r:Nat} {q nl:List Sp} {v':Value} (h:QR base w ao g off cap q) (hb:base≤w.heap.size) (U:Upon w 291 2 ao g off q.length cap (aD q) w' v' nl.length (aD nl) r):
  ∃wY g' off' cap',v'=.slice wY (q++nl).length cap'∧QR base w' wY g' off' cap' (q++nl)∧(0<cap'→(0<cap∧g'=g)∨w.heap.size≤g'):=by
 have hks:=U.kept.size
 rcases U.val with ⟨hle,hv,hr⟩|⟨hgt,g2,c2,hv,ho⟩
 ·refine ⟨ao,g,off,cap,by rw [hv,List.length_append],⟨⟨by rw [List.length_append];exact hle,h.came.addr,fun h0=>Nat.lt_of_lt_of_le (h.came.lt h0) hks,aR _,?_,?_⟩,h.max,h.at_⟩,fun h0=> .inl ⟨h0,rfl⟩⟩
  ·intro j u hj;have hlt:=(List.getElem?_eq_some_iff.1 hj).1;rw [aR,List.length_append] at hlt;have h0:0<cap:=by omega
   rw [U.inArray h.came h0 hr j (by omega),←cz];exact hj
  ·intro j hj;rw [List.length_append] at hj ⊢;have h0:0<cap:=by
    rcases Nat.eq_zero_or_pos cap with e|e
    ·subst e;simp at hj
    ·exact e
   have hs:=h.came.spare (nl.length*2+j) (by rw [Nat.sub_mul] at hj ⊢;omega);rw [show off+(q.length+nl.length)*2+j=off+q.length*2+(nl.length*2+j) by omega];have hkl:=U.ksLen;rw [U.old (h.came.lt h0) (fun j' hj' ⟨_,e⟩=>by omega),U.frozen _ (h.came.lt h0)];exact hs
 ·refine ⟨_,g2,0,c2,by rw [hv,List.length_append],⟨⟨by rw [List.length_append];exact ho.le,fun _=>rfl,?_,aR _,?_,?_⟩,ho.max,fun _=>Nat.le_trans hb ho.new⟩,fun _=> .inr ho.new⟩
  ·intro h0;have:=(ho.there 0 (by omega)).1;exact World.block_lt_of_cell? _ _ (Option.isSome_iff_exists.1 this).choose_spec
  ·intro j u hj;have hlt:=(List.getElem?_eq_some_iff.1 hj).1;rw [aR,List.length_append] at hlt;rw [Nat.zero_add,ho.holds j (by omega),←cz];exact hj
  ·intro j hj;rw [List.length_append,Nat.sub_mul] at hj;rw [List.length_append];exact ho.there _ (by omega)
theorem QR.others {w w':World} {ao:Option Addr} {g off len cap r n:Nat} {q ks:List Value} {v':Value} (U:Upon w 291 2 ao g off len cap q w' v' n ks r) {i:Nat} (hi:i<w.heap.size) (hne:0<cap→i≠g):w'.heap[i]? =w.heap[i]? :=by
 refine zQ U.kept hi ?_ ?_
 ·rintro j ⟨j',hj',e⟩;have h0:=U.capPos hj';injection e with e1 e2
  exact hne h0 e1
 ·rintro ⟨j',hj',e⟩
  cases e
theorem QR.src {base:Nat} {w:World} {sv:Value} {l:List Sp} (h:w.ownsRow base 291 2 sv l.length (aD l)):Src Tryz.prog 2 288 sv l.length (aD l) w:=by
 rcases h with ⟨h1,⟨rfl,h2⟩|⟨g,cap,cur,rfl,hg,hh,hle,hm,hs,ht⟩⟩
 ·have:l=[]:=List.eq_nil_of_length_eq_zero h2;subst this;exact Src.ofNil w Tryz.underlying288 0
 ·refine Src.ofSlice w Tryz.underlying288 _ _ _ _ (aR _) ?_ (Fj l);intro j u hj;have hlt:=(List.getElem?_eq_some_iff.1 hj).1;rw [←ht,List.getElem?_take] at hj
  split at hj
  ·rw [Addr.add_lit];simp [World.cell?,hh] at hj ⊢;exact hj
  ·simp at hj
theorem lK (b:Nat):∀(vs:List Value) (o:Nat) (w:World),(w.setCells b o vs).tape=w.tape
 | [],_,_=>rfl
 |v::r,o,w=>(lK b r (o+1) _).trans ((Below.refl 0 w).setCell (p:=⟨b,o,none⟩) (Nat.zero_le _) v).tape
theorem vo {P:Program} (hT:P.underlying 288=some (.slice 291)) {base:Nat} {w:World} {ao:Option Addr} {g off cap:Nat} {q nl:List Sp} (h:QR base w ao g off cap q) (ty:TypeId) (i:TypeInfo) (z:Value) (hi:P.info? 291=some i) (hz:i.zero=some z) (hs2:i.size=2) (hby:i.bytes=32) (hzs:z.cells.size=2)
  (x:Value) (hs:Src P 2 288 x nl.length (aD nl) w) (hl:q.length+nl.length≤4000000000000):
  ∃v' w',(Builtin.append_ #[288,288] ty #[.slice ao q.length cap,x]).run P w=.ok v' w'∧Upon w 291 2 ao g off q.length cap (aD q) w' v' nl.length (aD nl) (Upon.next q.length cap 2 0 0 nl.length)∧w'.tape=w.tape:=by
 obtain ⟨v',w',e,U⟩:=run_append_upon (P:=P) h.came 288 288 ty i z 32 hT hi hz hs2 hby hzs (Upon.start h.came) x nl.length (aD nl) hs (by unfold maxLen;omega) (by omega);refine ⟨v',w',e,by simpa using U,?_⟩;have hkl:=aR nl
 by_cases hroom:q.length+nl.length≤cap
 ·by_cases h0:0<cap
  ·have ea:=h.came.addr h0;subst ea;have:=run_append_room_src (P:=P) (w:=w) 288 288 ty 291 i hT hi g off q.length cap x nl.length (aD nl) (by rw [hs2];exact hs) hroom
    (fun j hj=>by rw [hs2];exact (h.came.spare j (by rw [Nat.sub_mul];omega)).1) (fun j hj=>by rw [hs2];exact (h.came.spare j (by rw [Nat.sub_mul];omega)).2)
   rw [e] at this;injection this with h1 h2
   rw [h2];exact lK _ _ _ _
  ·have hn:nl=[]:=List.eq_nil_of_length_eq_zero (by omega);subst hn;have:=run_append_nothing (P:=P) w 288 288 ty 291 i hT hi ao q.length cap h.came.le x (by rw [hs2];exact hs);rw [e] at this;injection this with h1 h2
   rw [h2]
 ·have hold:(Builtin.firstCells i.size q.length (.slice ao q.length cap)).run P w.drew=.ok (aD q).toArray w.drew:=by
   rw [hs2]
   by_cases h0:0<cap
   ·rw [h.came.addr h0];exact run_firstCells_some w.drew 2 q.length _ _ _ _ (aR _) (fun j v hj=>by rw [Addr.add_lit];exact h.came.olds j v hj)
   ·have hle:=h.came.le;have hn:q=[]:=List.eq_nil_of_length_eq_zero (by omega);subst hn
    cases ao with
    |none=>exact run_firstCells_none _ _ _ _ _
    |some a=>exact run_firstCells_some w.drew 2 0 _ _ _ [] (by simp) (fun j v hj=>by simp at hj)
  have:=run_append_grow_src (P:=P) (w:=w) 288 288 ty 291 i z hT hi hz ao q.length cap (aD q) hold x nl.length (aD nl) (by rw [hs2];exact hs) (by omega) (by omega) (growslice_fits (by omega) (by rw [hby];omega));rw [e] at this;injection this with h1 h2
  rw [h2]
  rfl
theorem jW {P:Program} (hT:P.underlying 288=some (.slice 291)) {base:Nat} {w:World} {ops:Array Oper} {rest:List Oper} {o:Oper} {a:Act} {Q:Exit→Act→World→Prop} (hgd:o.guard=none) (s x:Operand)
  (ho:o.op=.call {callee:=.builtin .append,args:=#[s,x],argTypes:=#[288,288]}) {ao:Option Addr} {g off cap:Nat} {q nl:List Sp} (h:QR base w ao g off cap q)
  (i:TypeInfo) (z:Value) (hi:P.info? 291=some i) (hz:i.zero=some z) (hs2:i.size=2) (hby:i.bytes=32) (hzs:z.cells.size=2) (hv:a.eval s=.slice ao q.length cap)
  (xv:Value) (hx:a.eval x=xv) (hs:Src P 2 288 xv nl.length (aD nl) w) (hl:q.length+nl.length≤4000000000000) (hb:base≤w.heap.size)
  (hK:∀wY g' off' cap' w',QR base w' wY g' off' cap' (q++nl)→(0<cap'→(0<cap∧g'=g)∨w.heap.size≤g')→w.heap.size≤w'.heap.size→w'.os=w.os→w'.tape=w.tape→w'.output=w.output→(∀i,i<w.heap.size→(0<cap→i≠g)→w'.heap[i]? =w.heap[i]?)→wpList P ops Q rest (a.put o.dst (.slice wY (q.length+nl.length) cap')) w'):wpList P ops Q (o::rest) a w:=by
 refine wpList_plain hgd fun K hK'=> ?_
 obtain ⟨v',w',hrun,U,ht⟩:=vo hT h o.type i z hi hz hs2 hby hzs xv hs hl;unfold Oper.wp;simp [execOp,ho,resolve,invoke,builtin,hv,hx,hrun,Result.andThen];obtain ⟨wY,g',off',cap',rfl,hq,hd⟩:=h.app hb U;refine hK' _ _ ?_;rw [List.length_append];exact hK wY g' off' cap' w' hq hd U.kept.size U.kept.1 ht U.kept.2.1 (fun i hi hne=>QR.others U hi hne)
theorem dU {w w':World} {base:Nat} {e:TypeId} {size:Nat} {v:Value} {n:Nat} {xs:List Value} (h:w.ownsRow base e size v n xs)
  (k:∀g cs f,v.ownBlock=some g→w.heap[g]? =some (.cells cs e f)→w'.heap[g]? =w.heap[g]?):w'.ownsRow base e size v n xs:=by
 obtain ⟨h1,h2⟩:=h;refine ⟨h1,?_⟩
 rcases h2 with h2|⟨g,cap,cur,hv,hg,hh,r⟩
 ·exact Or.inl h2
 ·exact Or.inr ⟨g,cap,cur,hv,hg,(k g cur (0,0) (by rw [hv];rfl) hh).trans hh,r⟩
theorem mM (nd:Sp→List Sp):∀(k:Nat) (q f:List Sp),(dK nd k q f).length≤f.length+k
 |0,_,f=>by simp [dK]
 |k+1,[],f=>by simp [dK]
 |k+1,x::q,f=>by
  simp only [dK]
  split
  ·have:=mM nd k q f;omega
  ·have:=mM nd k (q++nd x) (f++[x]);simp at this;omega
theorem kD (ts:List Ty) (l0:List Sp):(dm ts l0).length≤dL ts l0+1:=by
 have:=mM (aG ts) (dL ts l0+1) l0 []
 simpa [dm] using this
theorem wZ (nd:Sp→List Sp) (n:Nat) (h:∀k,(nd k).length≤n) (f:List Sp):∀ks,dx nd f ks≤ks.length*n
 | []=>by simp [dx]
 |k::ks=>by
  have h1:=wZ nd n h f ks;have h2:=h k;simp only [dx,List.length_cons,Nat.add_mul,Nat.one_mul]
  split<;>omega
structure zR (base:Nat) (w wr:World) (mv:Value) (ao:Option Addr) (g off cap:Nat) (q:List Sp) (fv:Value) (f:List Sp):Prop where
 bel:Below base w wr
 ns:NS w wr
 sz:w.heap.size+1≤wr.heap.size
 mb:ag wr w.heap.size #[mv] 75
 qr:QR base wr ao g off cap q
 ro:wr.ownsRow w.heap.size 291 2 fv f.length (aD f)
 far:0<cap→g≠w.heap.size
 old:0<cap→∀cs T fr,w.heap[g]? =some (.cells cs T fr)→T=291
 ne:0<cap→fv.ownBlock≠some g
section
variable {base:Nat} {w wr w':World} {mv:Value} {ao:Option Addr} {g off cap:Nat} {q:List Sp} {fv:Value} {f:List Sp}
theorem zR.below (h:zR base w wr mv ao g off cap q fv f) (hb:base≤w.heap.size) (k:Below wr.heap.size wr w'):zR base w w' mv ao g off cap q fv f:=
 have h2:=h.sz
 ⟨h.bel.trans (k.mono (by omega)),h.ns.trans (NS.below k),Nat.le_trans h.sz k.size,h.mb.below k,h.qr.frame (fun h0=>k.block g (h.qr.came.lt h0)) k.size,ai h.ro (fun g cs f _ hh=>k.block g (lt_of_some hh)),h.far,h.old,h.ne⟩
theorem zR.tail {x:Sp} (h:zR base w wr mv ao g off cap (x::q) fv f) (wY:Option Addr) (ha:0<cap-1→wY=some ⟨g,off+2,none⟩):zR base w wr mv wY g (off+2) (cap-1) q fv f:=
 ⟨h.bel,h.ns,h.sz,h.mb,h.qr.tail wY ha,h.ro,fun h0=>h.far (by omega),fun h0=>h.old (by omega),fun h0=>h.ne (by omega)⟩
theorem zR.grown {W w6:World} {g' cap':Nat} {y:Sp} (h:zR base w wr mv ao g off cap q fv f) (hb:base≤w.heap.size) (k:Below wr.heap.size wr W) (hg:W.grownBy w6 fv.ownBlock)
  (hown:w6.ownsRow w.heap.size 291 2 (.slice (some ⟨g',0,none⟩) (f.length+1) cap') (f.length+1) (aD f++sD y)) (hat:fv.ownBlock=some g'∨g'=W.heap.size):zR base w w6 mv ao g off cap q (.slice (some ⟨g',0,none⟩) (f.length+1) cap') (f++[y]):=by
 have h':=h.below hb k;have s1:=h'.sz;refine ⟨Below.grown h'.bel hg (by omega) (fun k hk=>Nat.le_trans hb (h'.ro.lt k hk).1),?_,?_,?_,?_,?_,h.far,h.old,?_⟩
 ·intro q cs T fr hh ht;have e:=h'.ns q cs T fr hh ht;exact (hg.block q (lt_of_some (e.trans hh)) (dH h'.ro (e.trans hh) ht)).trans e
 ·have:=hg.size;omega
 ·exact (hg.block _ h'.mb.lt (own_ne h'.ro h'.mb (by decide))).trans h'.mb
 ·exact h'.qr.frame (fun h0=>hg.block g (h'.qr.came.lt h0) (fun e=>h'.ne h0 e.symm)) hg.size
 ·rw [List.length_append,cz,show aD [y]=sD y from by simp [aD]];exact hown
 ·intro h0 e;simp only [Value.ownBlock,Option.some.injEq] at e
  rcases hat with e2|e2
  ·exact h.ne h0 (by rw [e2,e])
  ·have:=h'.qr.came.lt h0;omega
theorem zR.app {W:World} {wY:Option Addr} {g' off' cap':Nat} {nl:List Sp} (h:zR base w wr mv ao g off cap q fv f) (hb:base≤w.heap.size) (k:Below wr.heap.size wr W) (hq:QR base w' wY g' off' cap' (q++nl)) (hd:0<cap'→(0<cap∧g'=g)∨W.heap.size≤g')
  (hs:W.heap.size≤w'.heap.size) (ho:w'.os=W.os) (ht:w'.tape=W.tape) (hu:w'.output=W.output) (Fx:∀i,i<W.heap.size→(0<cap→i≠g)→w'.heap[i]? =W.heap[i]?):zR base w w' mv wY g' off' cap' (q++nl) fv f:=by
 have h':=h.below hb k;have s1:=h'.sz;have bw:Below base W w':=⟨ho,ht,hu,hs,fun j hj=>Fx j (by omega) (fun h0 e=>by have:=h.qr.at_ h0;omega)⟩;refine ⟨h'.bel.trans bw,?_,by omega,?_,hq,?_,?_,?_,?_⟩
 ·intro j cs T fr hh ht;have e:=h'.ns j cs T fr hh ht;refine (Fx j (lt_of_some (e.trans hh)) (fun h0 e2=> ?_)).trans e;subst e2;exact ht (h.old h0 cs T fr hh)
 ·exact (Fx _ h'.mb.lt (fun h0 e=>h.far h0 e.symm)).trans h'.mb
 ·refine dU h'.ro (fun j cs fr hj hh=>Fx j (lt_of_some hh) (fun h0 e2=> ?_));subst e2;exact h.ne h0 hj
 ·intro h0
  rcases hd h0 with ⟨h1,rfl⟩|h1
  ·exact h.far h1
  ·omega
 ·intro h0 cs T fr hh
  rcases hd h0 with ⟨h1,rfl⟩|h1
  ·exact h.old h1 cs T fr hh
  ·have:=lt_of_some hh;omega
 ·intro h0 e
  rcases hd h0 with ⟨h1,rfl⟩|h1
  ·exact h.ne h1 e
  ·have:=(h'.ro.lt _ e).2;omega
end
theorem kE (b base:Nat) (sv:Value) (ts:List Ty) (tl:List (Ty×Value)) (fv:Value) (l0:List Sp) (w:World) (h:MC b w sv ts tl) (hf:w.ownsRow base 291 2 fv l0.length (aD l0)) (hb:base≤w.heap.size) (hNB:dL ts l0≤2000000000000):
  Calls Tryz.prog 151 #[.agg #[sv],fv] w fun e' w'=>∃v',e'=.returned v'∧Below base w w'∧NS w w'∧w'.ownsRow w.heap.size 291 2 v' (dm ts l0).length (aD (dm ts l0)):=by
 obtain ⟨i0,hi,hz0,hz1,hz2⟩:=info_parts Tryz.info291;have HI:=ae hi;have jg:=ae hz0;have jh:=ae hz1;have ji:=ae hz2;clear hi hz0 hz1 hz2;obtain ⟨ma,mn,mc,rfl⟩:=h.form;obtain ⟨ao,g,cap,rfl,hq,hgb⟩:=QR.of_own hf;have H:=ae h;generalize hR:dm ts l0=R;have yV:=ae (show dK (aG ts) (dL ts l0+1) l0 []=R from hR);have HK:=ae (show l0.length+dx (aG ts) [] (fe ts)≤dL ts l0 from Nat.le_refl _);have W0:Below w.heap.size w (w.alloc (.cells #[.slice ma mn mc] 75)):=(Below.refl _ _).alloc RH _;have Ow:=ae (show zR base w (w.alloc (.cells #[.slice ma mn mc] 75)) (.slice ma mn mc) ao g 0 cap l0 (.slice none 0 0) [] from
  ⟨W0.mono hb,NS.below W0,by simp,ag.new w _ _,hq.frame (fun h0=>W0.block g (hq.came.lt h0)) W0.size,World.ownsRow_nil _ _ _ _,fun h0=>by have:=hq.came.lt h0;omega,fun h0 cs T fr hh=>by
   rcases hf with ⟨_,⟨e,_⟩|⟨g',cap',cur,e,_,hh',_⟩⟩
   ·simp only [Value.slice.injEq] at e;omega
   ·simp only [Value.slice.injEq] at e;have e2:=hq.came.addr h0;rw [e.1] at e2;simp only [Option.some.injEq,Addr.mk.injEq] at e2;rw [←e2.1,hh'] at hh;simp only [Option.some.injEq,Obj.cells.injEq] at hh;exact hh.2.1.symm,fun h0 e=>by cases e⟩)
 have hgk:=hq.came.le;clear h hf hR W0 hq hgb;go_enter Tryz.func151,Tryz.ntmps151;go_wp2_with fail
 go_loopg [1,5] (dL ts l0+1) (fun k u1 u5 wr=>∃(q f:List Sp) (ao:Option Addr) (g off cap:Nat) (fa:Option Addr) (fc:Nat),u1=.slice ao q.length cap∧u5=.slice fa f.length fc∧zR base w wr (.slice ma mn mc) ao g off cap q (.slice fa f.length fc) f∧Hid (f.length+(q.length+dx (aG ts) f (fe ts))≤dL ts l0∧q.length+dx (aG ts) f (fe ts)<k∧dK (aG ts) k q f=R))
 case atStart=>exact ⟨l0,[],ao,g,0,cap,none,0,rfl,rfl,aa Ow,ae ⟨by simpa using aa HK,by have:=aa HK;omega,aa yV⟩⟩
 case round=>
  clear Ow HK yV hgk;obtain ⟨q,f,ao,g,off,cap,fa,fc,rfl,rfl,hst,HQ⟩:=hrel;have QM:=(aa HQ).2.1;obtain ⟨k,rfl⟩:∃k,gk=k+1:=⟨gk-1,by omega⟩;clear QM;have HS:=ae hst;have uV:=hst.sz
  cases q with
  |nil=>
   have hR:=(aa HQ).2.2;simp only [dK] at hR;have HR:=ae hR;clear hst hR HQ;go_wp2;go_ret;rw [←aa HR];exact ⟨_,rfl,(aa HS).bel,(aa HS).ns,(aa HS).ro⟩
  |cons x q=>
   obtain ⟨hcp,rfl,c0,c1⟩:=hst.qr.head;have hcl:=hst.qr.came.le;have hqb:f.length+(q.length+1)≤2000000000000:=by have:=(aa HQ).1;simp at this;omega
   simp only [List.length_cons] at hcl;clear hst;go_wp2_with fail
   ·subst h;have HT:=ae (show zR base w wr (.slice ma mn mc) (some ⟨g,off,none⟩) g (off+2) 0 q (.slice fa f.length fc) f from (aa HS).tail (some ⟨g,off,none⟩) (fun h=>by omega));clear HS;have yY:Below wr.heap.size wr (wr.alloc (.cells #[.string x.1,.string x.2] 291)):=(Below.refl _ _).alloc RH _;have HST:=ae ((aa HT).below hb yY);have XB:=ae (ag.new wr #[.string x.1,.string x.2] 291);have Fy:∀q,(Value.slice fa f.length fc).ownBlock=some q→q<wr.heap.size:=fun q hq=>((aa HT).ro.lt q hq).2
    have Ls:0<0→g<wr.heap.size:=fun h0=>(aa HT).qr.came.lt h0
    clear yY c0 c1;refine (jP _ _ f x _ (by omega) (aa HST).ro).mono ?_;rintro e w5 ⟨rfl,gF⟩;have xe:=ae ((aa HST).below hb gF);have Jd:=ae ((aa XB).below gF);obtain ⟨y0,y1⟩:=(aa Jd).two;have yl:=(aa Jd).lt;have s5:=(aa xe).sz;clear gF XB HST HT
    cases ha:f.any (fun z=>fT x z)
    ·obtain ⟨lL,kU,vw⟩:=aa HQ;simp only [dK,ha,Bool.false_eq_true,if_false] at vw;have hrs:=tK ts f x ha;have Bh:=ae vw;have Ox:f.length+1+(q.length+(aG ts x).length+dx (aG ts) (f++[x]) (fe ts))≤dL ts l0:=by simp at lL;omega
     have Oy:q.length+(aG ts x).length+dx (aG ts) (f++[x]) (fe ts)<k:=by simp at kU;omega
     clear lL kU vw hrs HQ ha;go_wp2_with (at_builtin;go_must (refine wpList_append_lies _ rfl _ _ 288 rfl w.heap.size 291 i0 _ 2 32 Tryz.underlying288 (aa HI) (aa jg) (aa jh) (aa ji) rfl (by decide) (.slice fa f.length fc) f.length (aD f) rfl ?hownB ⟨w5.heap.size,0,none⟩ 1 1 (sD x) rfl rfl ?Lt ?honeB (by decide) ?h63B ?Je ?Lu (w5.heap.size+1) ?hHB ?hrestB))
     case hownB=>exact ((aa xe).ro).alloc _
     case Lt=>exact World.news_of_block (B:=w5.heap.size) (cs:=#[.string x.1,.string x.2]) (t:=291) (fr:=(0,0)) (ag.new w5 _ _)
     case honeB=>
      intro z hz;simp [sD] at hz
      rcases hz with rfl|rfl<;>rfl
     case h63B=>unfold maxLen;omega
     case Je=>omega
     case Lu=>simp;omega
     case hHB=>simp
     intro g6 nK w6 d9 aZ jC uX;have Oz:Below w5.heap.size w5 (w5.alloc (.cells #[.string x.1,.string x.2] 291)):=(Below.refl _ _).alloc RH _;have C8:=ae ((aa xe).grown hb Oz aZ d9 (by simpa using jC));have Lv:ag w6 wr.heap.size #[.string x.1,.string x.2] 291:=(aZ.block wr.heap.size (by simp;omega) (fun e=>by have:=Fy _ e.symm;omega)).trans ((aa Jd).alloc _);obtain ⟨z0,z1⟩:=Lv.two;have zl:=Lv.lt;have m0:w6.cell? ⟨w.heap.size,0,none⟩=some (.slice ma mn mc):=(aa C8).mb.cell rfl;have OA:=ae ((aa H).ns (aa C8).ns (aa C8).bel.size);have s6:=(aa C8).sz;clear d9 aZ jC uX Oz xe Jd y0 y1 yl s5 Lv Fy Ls;go_wp2_with fail;refine (pg b _ ts tl x.1 x.2 _ (aa OA)).mono ?_;rintro e w7 ⟨sv7,rfl,Lx,hrs⟩;obtain ⟨na,nc,rfl⟩:=hrs.form;have LB:=ae ((aa C8).below hb Lx);have OC:=ae (show Src Tryz.prog 2 288 (.slice na (aG ts x).length nc) (aG ts x).length (aD (aG ts x)) w7 from QR.src hrs.1);have LC:base≤w7.heap.size:=by have:=Lx.size;omega
     clear Lx hrs C8 OA z0 z1 zl m0;go_wp2_with (at_builtin;go_must (refine jW Tryz.underlying288 rfl _ _ rfl (aa LB).qr i0 _ (aa HI) (aa jg) (aa jh) (aa ji) rfl rfl (.slice na (aG ts x).length nc) rfl (aa OC) ?hlB LC ?hKB))
     case hlB=>omega
     intro QO g8 LD LF w8 OD OE OG OH OI OJ zS;have QP:=ae ((aa LB).app hb (Below.refl _ _) OD (fun h0=>by have:=OE h0;first|exact this|exact .inr this) OG OH OI OJ (fun i hi hne=>by first|exact zS i hi hne|exact zS i hi));clear OD OE OG OH OI OJ zS LB OC;go_wp2
     go_roundg k
     case measure=>omega
     case rel=>exact ⟨q++aG ts x,f++[x],QO,g8,LD,LF,some ⟨g6,0,none⟩,nK,by simp,by simp,by simpa using aa QP,ae ⟨by simp;omega,by simp;omega,aa Bh⟩⟩
    ·obtain ⟨lL,kU,vw⟩:=aa HQ;simp only [dK,ha,if_true] at vw;have Bh:=ae vw;have Ox:f.length+(q.length+dx (aG ts) f (fe ts))≤dL ts l0:=by simp at lL;omega
     have Oy:q.length+dx (aG ts) f (fe ts)<k:=by simp at kU;omega
     clear lL kU vw HQ ha;go_wp2
     go_roundg k
     case measure=>omega
     case rel=>exact ⟨q,f,_,g,off+2,0,fa,fc,rfl,rfl,aa xe,ae ⟨Ox,Oy,aa Bh⟩⟩
   ·have HT:=ae ((aa HS).tail (some ⟨g,off+2,none⟩) (fun h=>rfl));clear HS h;have yY:Below wr.heap.size wr (wr.alloc (.cells #[.string x.1,.string x.2] 291)):=(Below.refl _ _).alloc RH _;have HST:=ae ((aa HT).below hb yY);have XB:=ae (ag.new wr #[.string x.1,.string x.2] 291);have Fy:∀q,(Value.slice fa f.length fc).ownBlock=some q→q<wr.heap.size:=fun q hq=>((aa HT).ro.lt q hq).2
    have Ls:0<cap-1→g<wr.heap.size:=fun h0=>(aa HT).qr.came.lt h0
    clear yY c0 c1;refine (jP _ _ f x _ (by omega) (aa HST).ro).mono ?_;rintro e w5 ⟨rfl,gF⟩;have xe:=ae ((aa HST).below hb gF);have Jd:=ae ((aa XB).below gF);obtain ⟨y0,y1⟩:=(aa Jd).two;have yl:=(aa Jd).lt;have s5:=(aa xe).sz;clear gF XB HST HT
    cases ha:f.any (fun z=>fT x z)
    ·obtain ⟨lL,kU,vw⟩:=aa HQ;simp only [dK,ha,Bool.false_eq_true,if_false] at vw;have hrs:=tK ts f x ha;have Bh:=ae vw;have Ox:f.length+1+(q.length+(aG ts x).length+dx (aG ts) (f++[x]) (fe ts))≤dL ts l0:=by simp at lL;omega
     have Oy:q.length+(aG ts x).length+dx (aG ts) (f++[x]) (fe ts)<k:=by simp at kU;omega
     clear lL kU vw hrs HQ ha;go_wp2_with (at_builtin;go_must (refine wpList_append_lies _ rfl _ _ 288 rfl w.heap.size 291 i0 _ 2 32 Tryz.underlying288 (aa HI) (aa jg) (aa jh) (aa ji) rfl (by decide) (.slice fa f.length fc) f.length (aD f) rfl ?hownA ⟨w5.heap.size,0,none⟩ 1 1 (sD x) rfl rfl ?LG ?honeA (by decide) ?h63A ?Jf ?LH (w5.heap.size+1) ?hHA ?hrestA))
     case hownA=>exact ((aa xe).ro).alloc _
     case LG=>exact World.news_of_block (B:=w5.heap.size) (cs:=#[.string x.1,.string x.2]) (t:=291) (fr:=(0,0)) (ag.new w5 _ _)
     case honeA=>
      intro z hz;simp [sD] at hz
      rcases hz with rfl|rfl<;>rfl
     case h63A=>unfold maxLen;omega
     case Jf=>omega
     case LH=>simp;omega
     case hHA=>simp
     intro g6 nK w6 d9 aZ jC uX;have Oz:Below w5.heap.size w5 (w5.alloc (.cells #[.string x.1,.string x.2] 291)):=(Below.refl _ _).alloc RH _;have C8:=ae ((aa xe).grown hb Oz aZ d9 (by simpa using jC));have Lv:ag w6 wr.heap.size #[.string x.1,.string x.2] 291:=(aZ.block wr.heap.size (by simp;omega) (fun e=>by have:=Fy _ e.symm;omega)).trans ((aa Jd).alloc _);obtain ⟨z0,z1⟩:=Lv.two;have zl:=Lv.lt;have m0:w6.cell? ⟨w.heap.size,0,none⟩=some (.slice ma mn mc):=(aa C8).mb.cell rfl;have OA:=ae ((aa H).ns (aa C8).ns (aa C8).bel.size);have s6:=(aa C8).sz;clear d9 aZ jC uX Oz xe Jd y0 y1 yl s5 Lv Fy Ls;go_wp2_with fail;refine (pg b _ ts tl x.1 x.2 _ (aa OA)).mono ?_;rintro e w7 ⟨sv7,rfl,Lx,hrs⟩;obtain ⟨na,nc,rfl⟩:=hrs.form;have LB:=ae ((aa C8).below hb Lx);have OC:=ae (show Src Tryz.prog 2 288 (.slice na (aG ts x).length nc) (aG ts x).length (aD (aG ts x)) w7 from QR.src hrs.1);have LC:base≤w7.heap.size:=by have:=Lx.size;omega
     clear Lx hrs C8 OA z0 z1 zl m0;go_wp2_with (at_builtin;go_must (refine jW Tryz.underlying288 rfl _ _ rfl (aa LB).qr i0 _ (aa HI) (aa jg) (aa jh) (aa ji) rfl rfl (.slice na (aG ts x).length nc) rfl (aa OC) ?hlA LC ?hKA))
     case hlA=>omega
     intro QO g8 LD LF w8 OD OE OG OH OI OJ zS;have QP:=ae ((aa LB).app hb (Below.refl _ _) OD (fun h0=>by have:=OE h0;first|exact this|exact .inr this) OG OH OI OJ (fun i hi hne=>by first|exact zS i hi hne|exact zS i hi));clear OD OE OG OH OI OJ zS LB OC;go_wp2
     go_roundg k
     case measure=>omega
     case rel=>exact ⟨q++aG ts x,f++[x],QO,g8,LD,LF,some ⟨g6,0,none⟩,nK,by simp,by simp,by simpa using aa QP,ae ⟨by simp;omega,by simp;omega,aa Bh⟩⟩
    ·obtain ⟨lL,kU,vw⟩:=aa HQ;simp only [dK,ha,if_true] at vw;have Bh:=ae vw;have Ox:f.length+(q.length+dx (aG ts) f (fe ts))≤dL ts l0:=by simp at lL;omega
     have Oy:q.length+dx (aG ts) f (fe ts)<k:=by simp at kU;omega
     clear lL kU vw HQ ha;go_wp2
     go_roundg k
     case measure=>omega
     case rel=>exact ⟨q,f,_,g,off+2,cap-1,fa,fc,rfl,rfl,aa xe,ae ⟨Ox,Oy,aa Bh⟩⟩
