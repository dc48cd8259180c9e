import Derived.Test.YtlbpnlngckgcbaaGreatDoorM08
import Derived.Deep.Upon
set_option linter.all false
set_option maxHeartbeats 4000000
set_option maxRecDepth 100000
namespace Go.Proofs.YtlbpnlngckgcbaaGreatDoor
open Go.RowKit Go.PlainAid
def NS (w w':World):Prop:=∀(g:Nat) (cs:Array Value) (T:TypeId) (f:Nat×Nat),w.heap[g]? =some (Obj.cells cs T f)→T≠291→w'.heap[g]? =w.heap[g]?
theorem NS.below {w w':World} (h:Below w.heap.size w w'):NS w w':=fun g cs T f hh _=>h.block g (lt_of_some hh)
theorem NS.trans {x y z:World} (h:NS x y) (k:NS y z):NS x z:=fun g cs T f hh ht=>(k g cs T f ((h g cs T f hh ht).trans hh) ht).trans (h g cs T f hh ht)
theorem NS.g {b:Nat} {w w':World} (h:NS w w'):lX b w w':=fun g cs f _ hh=>h g cs _ f hh (by decide)
theorem RC.ns {b:Nat} {w w':World} {sv:Value} {rs:List Rl} {rl:List (Rl×Value)} (h:RC b w sv rs rl) (k:NS w w'):RC b w' sv rs rl:=
 ⟨h.fst,ak h.row (fun g cs f _ hh=>k g cs _ f hh (by decide)),fun p hp=>aH.frame k.g _ _ (h.ex p hp),h.len,h.okp,h.okg,h.wf⟩
theorem MC.ns {b:Nat} {w w':World} {sv:Value} {ts:List Ty} {tl:List (Ty×Value)} (h:MC b w sv ts tl) (k:NS w w') (hs:w.heap.size≤w'.heap.size):MC b w' sv ts tl:=
 ⟨h.fst,ak h.row (fun g cs f _ hh=>k g cs _ f hh (by decide)),fun p hp=>by obtain ⟨rl,hr⟩:=h.rels p hp;exact ⟨rl,hr.ns k⟩,h.len,Nat.lt_of_lt_of_le h.blt hs⟩
def fO (nd:Sp→List Sp) (f:List Sp):List Sp→Nat
 | []=>0
 |k::ks=>(if f.any (fun y=>jo k y) then 0 else (nd k).length)+fO nd f ks
theorem tJ (nd:Sp→List Sp) (f:List Sp) (x:Sp):∀ks,fO nd (f++[x]) ks≤fO nd f ks
 | []=>Nat.le_refl _
 |k::ks=>by
  have h:=tJ nd f x ks;simp only [fO,List.any_append]
  cases f.any (fun y=>jo k y)<;>simp
  ·split<;>omega
  ·exact h
theorem Bz (nd:Sp→List Sp) (f:List Sp) (x:Sp) (hx:f.any (fun y=>jo x y)=false):∀ks,x∈ks→(nd x).length+fO nd (f++[x]) ks≤fO nd f ks
 | [],h=>by simp at h
 |k::ks,h=>by
  have h1:=tJ nd f x ks
  by_cases hk:k=x
  ·subst hk;have e:jo k k=true:=(uN k k).2 rfl;simp only [fO,List.any_append,hx,Bool.false_or,List.any_cons,e,List.any_nil,Bool.or_false,if_true,Bool.false_eq_true,if_false];omega
  ·have h2:=Bz nd f x hx ks (by
    rcases List.mem_cons.1 h with e|e
    ·exact absurd e.symm hk
    ·exact e)
   simp only [fO,List.any_append,List.any_cons,List.any_nil,Bool.or_false];have e:jo k x=false:=by
    cases e:jo k x
    ·rfl
    ·exact absurd ((uN k x).1 e) hk
   rw [e,Bool.or_false];omega
theorem MS (nd:Sp→List Sp) (f:List Sp) (x:Sp) (ks:List Sp) (h:nd x=[]):(nd x).length+fO nd (f++[x]) ks≤fO nd f ks:=by
 have:=tJ nd f x ks;rw [h]
 simpa using this
def iZ (ts:List Ty):List Sp:=ts.flatMap fun t=>t.rels.map fun r=>(t.name,r.name)
theorem Uy (ts:List Ty) (s:Sp) (h:aI ts s≠ []):s∈iZ ts:=by
 unfold aI at h
 split at h
 ·exact absurd rfl h
 ·rename_i t ht
  split at h
  ·exact absurd rfl h
  ·rename_i r hr;unfold iZ;rw [List.mem_flatMap];refine ⟨t,List.mem_of_find?_eq_some ht,?_⟩;rw [List.mem_map];refine ⟨r,List.mem_of_find?_eq_some hr,?_⟩;have e1:=(bq _ _).1 (List.find?_some (p:=fun t:Ty=>eqs t.name s.1) ht);have e2:=(bq _ _).1 (List.find?_some (p:=fun r:Rl=>eqs r.name s.2) hr);obtain ⟨s1,s2⟩:=s;simp only at e1 e2;rw [e1,e2]
theorem vV (ts:List Ty) (f:List Sp) (x:Sp) (hx:f.any (fun y=>jo x y)=false):(aI ts x).length+fO (aI ts) (f++[x]) (iZ ts)≤fO (aI ts) f (iZ ts):=by
 by_cases h:aI ts x=[]
 ·exact MS _ _ _ _ h
 ·exact Bz _ _ _ hx _ (Uy ts x h)
def eU (nd:Sp→List Sp):Nat→List Sp→List Sp→List Sp
 |0,_,f=>f
 |_+1,[],f=>f
 |k+1,x::q,f=>if f.any (fun y=>jo x y) then eU nd k q f else eU nd k (q++nd x) (f++[x])
def fQ (ts:List Ty) (l0:List Sp):Nat:=l0.length+fO (aI ts) [] (iZ ts)
def dQ (ts:List Ty) (l0:List Sp):List Sp:=eU (aI ts) (fQ ts l0+1) l0 []
def kI (ts:List Ty) (l0:List Sp) (x:Sp):Bool:=(dQ ts l0).any (fun y=>jo x y)
theorem Jv {w w':World} {may:MemPlace→Prop} (h:w.keptBut w' may) {i:Nat} (hi:i<w.heap.size) (hn:∀j,¬may (.cell i j)) (hm:¬may (.map i)):w'.heap[i]? =w.heap[i]? :=by
 have h3:=h.2.2 i hi
 revert h3
 cases e1:w.heap[i]? with
 |none=>cases e2:w'.heap[i]? with
  |none=>simp
  |some o'=>intro h3;exact h3
 |some o=>cases e2:w'.heap[i]? with
  |none=>cases o<;>(intro h3;exact h3)
  |some o'=>
   cases o with
   |cells c t fr=>
    cases o' with
    |cells c' t' fr'=>
     rintro ⟨rfl,rfl,hs,hc⟩;have:c'=c:=Array.ext_getElem? (fun j=>hc j (hn j));rw [this]
    |_=>intro h3;exact h3
   |map es cl=>
    cases o' with
    |map es' cl'=>
     intro h3
     rcases h3 with h3|⟨rfl,rfl⟩
     ·exact absurd h3 hm
     ·rfl
    |_=>intro h3;exact h3
   |_=>intro h3;exact h3
structure QR (base:Nat) (w:World) (ao:Option Addr) (g off cap:Nat) (l:List Sp):Prop where
 came:Came w 2 ao g off l.length cap (aM l)
 max:cap≤maxLen
 at_:0<cap→base≤g
theorem QR.of_own {base:Nat} {w:World} {v:Value} {l:List Sp} (h:w.ownsRow base 291 2 v l.length (aM l)):∃ao g cap,v=.slice ao l.length cap∧QR base w ao g 0 cap l∧(0<cap→v.ownBlock=some g):=by
 rcases h with ⟨h1,⟨rfl,h2⟩|⟨g,cap,cur,rfl,hg,hh,hle,hm,hs,ht⟩⟩
 ·refine ⟨none,0,0,by rw [h2],⟨⟨by omega,by omega,by omega,bI _,?_,by intro j hj;omega⟩,by unfold maxLen;omega,by omega⟩,by omega⟩;intro j u hj;have:=(List.getElem?_eq_some_iff.1 hj).1;rw [bI] at this;omega
 ·refine ⟨_,g,cap,rfl,⟨⟨hle,fun _=>rfl,fun _=>lt_of_some hh,bI _,?_,?_⟩,hm,fun _=>hg⟩,fun _=>rfl⟩
  ·intro j u hj;have hlt:=(List.getElem?_eq_some_iff.1 hj).1;rw [←ht,List.getElem?_take] at hj
   split at hj
   ·simp [World.cell?,hh] at hj ⊢;exact hj
   ·simp at hj
  ·intro j hj;have:0+l.length*2+j<cur.size:=by rw [hs];rw [Nat.sub_mul] at hj;omega
   refine ⟨?_,?_⟩
   ·simp [World.cell?,hh];omega
   ·simp [World.frozen?,hh]
theorem QR.frame {base:Nat} {w w':World} {ao:Option Addr} {g off cap:Nat} {l:List Sp} (h:QR base w ao g off cap l) (hg:0<cap→w'.heap[g]? =w.heap[g]?) (hs:w.heap.size≤w'.heap.size):QR base w' ao g off cap l:=by
 obtain ⟨hc,hm,ha⟩:=h;refine ⟨⟨hc.le,hc.addr,fun h0=>Nat.lt_of_lt_of_le (hc.lt h0) hs,hc.oldsLen,?_,?_⟩,hm,ha⟩
 ·intro j u hj;have hlt:=(List.getElem?_eq_some_iff.1 hj).1;have h0:0<cap:=by have:=hc.le;rw [bI] at hlt;omega
  exact (World.cell?_of_block (a:=⟨g,off+j,none⟩) (hg h0)).trans (hc.olds j u hj)
 ·intro j hj;have h0:0<cap:=by
   rcases Nat.eq_zero_or_pos cap with e|e
   ·subst e;simp at hj
   ·exact e
  have e1:=World.cell?_of_block (a:=⟨g,off+l.length*2+j,none⟩) (hg h0);have e2:=World.frozen?_of_block (a:=⟨g,off+l.length*2+j,none⟩) (hg h0);rw [e1,e2];exact hc.spare j hj
theorem QR.head {base:Nat} {w:World} {ao:Option Addr} {g off cap:Nat} {x:Sp} {l:List Sp} (h:QR base w ao g off cap (x::l)):0<cap∧ao=some ⟨g,off,none⟩∧w.cell? ⟨g,off,none⟩=some (.string x.1)∧w.cell? ⟨g,off+1,none⟩=some (.string x.2):=by
 have h0:0<cap:=by have:=h.came.le;simp at this;omega
 refine ⟨h0,h.came.addr h0,?_,?_⟩
 ·exact h.came.olds 0 _ (by simp [aM,AB])
 ·exact h.came.olds 1 _ (by simp [aM,AB])
theorem QR.tail {base:Nat} {w:World} {ao:Option Addr} {g off cap:Nat} {x:Sp} {l:List Sp} (h:QR base w ao g off cap (x::l)) (Fv:Option Addr) (ha:0<cap-1→Fv=some ⟨g,off+2,none⟩):QR base w Fv g (off+2) (cap-1) l:=by
 obtain ⟨hc,hm,hat⟩:=h;have hle:=hc.le;simp only [List.length_cons] at hle;refine ⟨⟨by omega,ha,fun h0=>hc.lt (by omega),bI _,?_,?_⟩,by omega,fun h0=>hat (by omega)⟩
 ·intro j u hj;rw [show off+2+j=off+(j+2) by omega];exact hc.olds (j+2) u (by simpa [aM,AB] using hj)
 ·intro j hj;have:=hc.spare j (by simp only [List.length_cons];rw [show cap-(l.length+1)=cap-1-l.length by omega];exact hj);simp only [List.length_cons] at this;rw [show off+2+l.length*2+j=off+(l.length+1)*2+j by omega];exact this
theorem QR.app {base:Nat} {w w':World} {ao:Option Addr} {g off cap r:Nat} {q nl:List Sp} {v':Value} (h:QR base w ao g off cap q) (hb:base≤w.heap.size) (U:Upon w 291 2 ao g off q.length cap (aM q) w' v' nl.length (aM nl) r):
  ∃Fv g' off' cap',v'=.slice Fv (q++nl).length cap'∧QR base w' Fv g' off' cap' (q++nl)∧(0<cap'→(0<cap∧g'=g)∨w.heap.size≤g'):=by
 have hks:=U.kept.size
 rcases U.val with ⟨hle,hv,hr⟩|⟨hgt,g2,c2,hv,ho⟩
 ·refine ⟨ao,g,off,cap,by rw [hv,List.length_append],⟨⟨by rw [List.length_append];exact hle,h.came.addr,fun h0=>Nat.lt_of_lt_of_le (h.came.lt h0) hks,bI _,?_,?_⟩,h.max,h.at_⟩,fun h0=> .inl ⟨h0,rfl⟩⟩
  ·intro j u hj;have hlt:=(List.getElem?_eq_some_iff.1 hj).1;rw [bI,List.length_append] at hlt;have h0:0<cap:=by omega
   rw [U.inArray h.came h0 hr j (by omega),←eH];exact hj
  ·intro j hj;rw [List.length_append] at hj ⊢;have h0:0<cap:=by
    rcases Nat.eq_zero_or_pos cap with e|e
    ·subst e;simp at hj
    ·exact e
   have hs:=h.came.spare (nl.length*2+j) (by rw [Nat.sub_mul] at hj ⊢;omega);rw [show off+(q.length+nl.length)*2+j=off+q.length*2+(nl.length*2+j) by omega];have hkl:=U.ksLen;rw [U.old (h.came.lt h0) (fun j' hj' ⟨_,e⟩=>by omega),U.frozen _ (h.came.lt h0)];exact hs
 ·refine ⟨_,g2,0,c2,by rw [hv,List.length_append],⟨⟨by rw [List.length_append];exact ho.le,fun _=>rfl,?_,bI _,?_,?_⟩,ho.max,fun _=>Nat.le_trans hb ho.new⟩,fun _=> .inr ho.new⟩
  ·intro h0;have:=(ho.there 0 (by omega)).1;exact World.block_lt_of_cell? _ _ (Option.isSome_iff_exists.1 this).choose_spec
  ·intro j u hj;have hlt:=(List.getElem?_eq_some_iff.1 hj).1;rw [bI,List.length_append] at hlt;rw [Nat.zero_add,ho.holds j (by omega),←eH];exact hj
  ·intro j hj;rw [List.length_append,Nat.sub_mul] at hj;rw [List.length_append];exact ho.there _ (by omega)
theorem QR.others {w w':World} {ao:Option Addr} {g off len cap r n:Nat} {q ks:List Value} {v':Value} (U:Upon w 291 2 ao g off len cap q w' v' n ks r) {i:Nat} (hi:i<w.heap.size) (hne:0<cap→i≠g):w'.heap[i]? =w.heap[i]? :=by
 refine Jv U.kept hi ?_ ?_
 ·rintro j ⟨j',hj',e⟩;have h0:=U.capPos hj';injection e with e1 e2
  exact hne h0 e1
 ·rintro ⟨j',hj',e⟩
  cases e
theorem QR.src {base:Nat} {w:World} {sv:Value} {l:List Sp} (h:w.ownsRow base 291 2 sv l.length (aM l)):Src Tryz.prog 2 288 sv l.length (aM l) w:=by
 rcases h with ⟨h1,⟨rfl,h2⟩|⟨g,cap,cur,rfl,hg,hh,hle,hm,hs,ht⟩⟩
 ·have:l=[]:=List.eq_nil_of_length_eq_zero h2;subst this;exact Src.ofNil w Tryz.underlying288 0
 ·refine Src.ofSlice w Tryz.underlying288 _ _ _ _ (bI _) ?_ (Po l);intro j u hj;have hlt:=(List.getElem?_eq_some_iff.1 hj).1;rw [←ht,List.getElem?_take] at hj
  split at hj
  ·rw [Addr.add_lit];simp [World.cell?,hh] at hj ⊢;exact hj
  ·simp at hj
theorem rW (b:Nat):∀(vs:List Value) (o:Nat) (w:World),(w.setCells b o vs).tape=w.tape
 | [],_,_=>rfl
 |v::r,o,w=>(rW b r (o+1) _).trans ((Below.refl 0 w).setCell (p:=⟨b,o,none⟩) (Nat.zero_le _) v).tape
theorem DJ {P:Program} (hT:P.underlying 288=some (.slice 291)) {base:Nat} {w:World} {ao:Option Addr} {g off cap:Nat} {q nl:List Sp} (h:QR base w ao g off cap q) (ty:TypeId) (i:TypeInfo) (z:Value) (hi:P.info? 291=some i) (hz:i.zero=some z) (hs2:i.size=2) (hby:i.bytes=32) (hzs:z.cells.size=2)
  (x:Value) (hs:Src P 2 288 x nl.length (aM nl) w) (hl:q.length+nl.length≤4000000000000):
  ∃v' w',(Builtin.append_ #[288,288] ty #[.slice ao q.length cap,x]).run P w=.ok v' w'∧Upon w 291 2 ao g off q.length cap (aM q) w' v' nl.length (aM nl) (Upon.next q.length cap 2 0 0 nl.length)∧w'.tape=w.tape:=by
 obtain ⟨v',w',e,U⟩:=run_append_upon (P:=P) h.came 288 288 ty i z 32 hT hi hz hs2 hby hzs (Upon.start h.came) x nl.length (aM nl) hs (by unfold maxLen;omega) (by omega);refine ⟨v',w',e,by simpa using U,?_⟩;have hkl:=bI nl
 by_cases hroom:q.length+nl.length≤cap
 ·by_cases h0:0<cap
  ·have ea:=h.came.addr h0;subst ea;have:=run_append_room_src (P:=P) (w:=w) 288 288 ty 291 i hT hi g off q.length cap x nl.length (aM nl) (by rw [hs2];exact hs) hroom
    (fun j hj=>by rw [hs2];exact (h.came.spare j (by rw [Nat.sub_mul];omega)).1) (fun j hj=>by rw [hs2];exact (h.came.spare j (by rw [Nat.sub_mul];omega)).2)
   rw [e] at this;injection this with h1 h2
   rw [h2];exact rW _ _ _ _
  ·have hn:nl=[]:=List.eq_nil_of_length_eq_zero (by omega);subst hn;have:=run_append_nothing (P:=P) w 288 288 ty 291 i hT hi ao q.length cap h.came.le x (by rw [hs2];exact hs);rw [e] at this;injection this with h1 h2
   rw [h2]
 ·have hold:(Builtin.firstCells i.size q.length (.slice ao q.length cap)).run P w.drew=.ok (aM q).toArray w.drew:=by
   rw [hs2]
   by_cases h0:0<cap
   ·rw [h.came.addr h0];exact run_firstCells_some w.drew 2 q.length _ _ _ _ (bI _) (fun j v hj=>by rw [Addr.add_lit];exact h.came.olds j v hj)
   ·have hle:=h.came.le;have hn:q=[]:=List.eq_nil_of_length_eq_zero (by omega);subst hn
    cases ao with
    |none=>exact run_firstCells_none _ _ _ _ _
    |some a=>exact run_firstCells_some w.drew 2 0 _ _ _ [] (by simp) (fun j v hj=>by simp at hj)
  have:=run_append_grow_src (P:=P) (w:=w) 288 288 ty 291 i z hT hi hz ao q.length cap (aM q) hold x nl.length (aM nl) (by rw [hs2];exact hs) (by omega) (by omega) (growslice_fits (by omega) (by rw [hby];omega));rw [e] at this;injection this with h1 h2
  rw [h2]
  rfl
theorem pE {P:Program} (hT:P.underlying 288=some (.slice 291)) {base:Nat} {w:World} {ops:Array Oper} {rest:List Oper} {o:Oper} {a:Act} {Q:Exit→Act→World→Prop} (hgd:o.guard=none) (s x:Operand)
  (ho:o.op=.call {callee:=.builtin .append,args:=#[s,x],argTypes:=#[288,288]}) {ao:Option Addr} {g off cap:Nat} {q nl:List Sp} (h:QR base w ao g off cap q)
  (i:TypeInfo) (z:Value) (hi:P.info? 291=some i) (hz:i.zero=some z) (hs2:i.size=2) (hby:i.bytes=32) (hzs:z.cells.size=2) (hv:a.eval s=.slice ao q.length cap)
  (xv:Value) (hx:a.eval x=xv) (hs:Src P 2 288 xv nl.length (aM nl) w) (hl:q.length+nl.length≤4000000000000) (hb:base≤w.heap.size)
  (hK:∀Fv g' off' cap' w',QR base w' Fv g' off' cap' (q++nl)→(0<cap'→(0<cap∧g'=g)∨w.heap.size≤g')→w.heap.size≤w'.heap.size→w'.os=w.os→w'.tape=w.tape→w'.output=w.output→(∀i,i<w.heap.size→(0<cap→i≠g)→w'.heap[i]? =w.heap[i]?)→wpList P ops Q rest (a.put o.dst (.slice Fv (q.length+nl.length) cap')) w'):wpList P ops Q (o::rest) a w:=by
 refine wpList_plain hgd fun K hK'=> ?_
 obtain ⟨v',w',hrun,U,ht⟩:=DJ hT h o.type i z hi hz hs2 hby hzs xv hs hl;unfold Oper.wp;simp [execOp,ho,resolve,invoke,builtin,hv,hx,hrun,Result.andThen];obtain ⟨Fv,g',off',cap',rfl,hq,hd⟩:=h.app hb U;refine hK' _ _ ?_;rw [List.length_append];exact hK Fv g' off' cap' w' hq hd U.kept.size U.kept.1 ht U.kept.2.1 (fun i hi hne=>QR.others U hi hne)
theorem fC {w w':World} {base:Nat} {e:TypeId} {size:Nat} {v:Value} {n:Nat} {xs:List Value} (h:w.ownsRow base e size v n xs)
  (k:∀g cs f,v.ownBlock=some g→w.heap[g]? =some (.cells cs e f)→w'.heap[g]? =w.heap[g]?):w'.ownsRow base e size v n xs:=by
 obtain ⟨h1,h2⟩:=h;refine ⟨h1,?_⟩
 rcases h2 with h2|⟨g,cap,cur,hv,hg,hh,r⟩
 ·exact Or.inl h2
 ·exact Or.inr ⟨g,cap,cur,hv,hg,(k g cur (0,0) (by rw [hv];rfl) hh).trans hh,r⟩
theorem tK (nd:Sp→List Sp):∀(k:Nat) (q f:List Sp),(eU nd k q f).length≤f.length+k
 |0,_,f=>by simp [eU]
 |k+1,[],f=>by simp [eU]
 |k+1,x::q,f=>by
  simp only [eU]
  split
  ·have:=tK nd k q f;omega
  ·have:=tK nd k (q++nd x) (f++[x]);simp at this;omega
theorem qd (ts:List Ty) (l0:List Sp):(dQ ts l0).length≤fQ ts l0+1:=by
 have:=tK (aI ts) (fQ ts l0+1) l0 []
 simpa [dQ] using this
theorem Fw (nd:Sp→List Sp) (n:Nat) (h:∀k,(nd k).length≤n) (f:List Sp):∀ks,fO nd f ks≤ks.length*n
 | []=>by simp [fO]
 |k::ks=>by
  have h1:=Fw nd n h f ks;have h2:=h k;simp only [fO,List.length_cons,Nat.add_mul,Nat.one_mul]
  split<;>omega
structure Jw (base:Nat) (w wr:World) (mv:Value) (ao:Option Addr) (g off cap:Nat) (q:List Sp) (fv:Value) (f:List Sp):Prop where
 bel:Below base w wr
 ns:NS w wr
 sz:w.heap.size+1≤wr.heap.size
 mb:ai wr w.heap.size #[mv] 75
 qr:QR base wr ao g off cap q
 ro:wr.ownsRow w.heap.size 291 2 fv f.length (aM f)
 far:0<cap→g≠w.heap.size
 old:0<cap→∀cs T fr,w.heap[g]? =some (.cells cs T fr)→T=291
 ne:0<cap→fv.ownBlock≠some g
section
variable {base:Nat} {w wr w':World} {mv:Value} {ao:Option Addr} {g off cap:Nat} {q:List Sp} {fv:Value} {f:List Sp}
theorem Jw.below (h:Jw base w wr mv ao g off cap q fv f) (hb:base≤w.heap.size) (k:Below wr.heap.size wr w'):Jw base w w' mv ao g off cap q fv f:=
 have h2:=h.sz
 ⟨h.bel.trans (k.mono (by omega)),h.ns.trans (NS.below k),Nat.le_trans h.sz k.size,h.mb.below k,h.qr.frame (fun h0=>k.block g (h.qr.came.lt h0)) k.size,ak h.ro (fun g cs f _ hh=>k.block g (lt_of_some hh)),h.far,h.old,h.ne⟩
theorem Jw.tail {x:Sp} (h:Jw base w wr mv ao g off cap (x::q) fv f) (Fv:Option Addr) (ha:0<cap-1→Fv=some ⟨g,off+2,none⟩):Jw base w wr mv Fv g (off+2) (cap-1) q fv f:=
 ⟨h.bel,h.ns,h.sz,h.mb,h.qr.tail Fv ha,h.ro,fun h0=>h.far (by omega),fun h0=>h.old (by omega),fun h0=>h.ne (by omega)⟩
theorem Jw.grown {W w6:World} {g' cap':Nat} {y:Sp} (h:Jw base w wr mv ao g off cap q fv f) (hb:base≤w.heap.size) (k:Below wr.heap.size wr W) (hg:W.grownBy w6 fv.ownBlock)
  (hown:w6.ownsRow w.heap.size 291 2 (.slice (some ⟨g',0,none⟩) (f.length+1) cap') (f.length+1) (aM f++AB y)) (hat:fv.ownBlock=some g'∨g'=W.heap.size):Jw base w w6 mv ao g off cap q (.slice (some ⟨g',0,none⟩) (f.length+1) cap') (f++[y]):=by
 have h':=h.below hb k;have s1:=h'.sz;refine ⟨Below.grown h'.bel hg (by omega) (fun k hk=>Nat.le_trans hb (h'.ro.lt k hk).1),?_,?_,?_,?_,?_,h.far,h.old,?_⟩
 ·intro q cs T fr hh ht;have e:=h'.ns q cs T fr hh ht;exact (hg.block q (lt_of_some (e.trans hh)) (cO h'.ro (e.trans hh) ht)).trans e
 ·have:=hg.size;omega
 ·exact (hg.block _ h'.mb.lt (own_ne h'.ro h'.mb (by decide))).trans h'.mb
 ·exact h'.qr.frame (fun h0=>hg.block g (h'.qr.came.lt h0) (fun e=>h'.ne h0 e.symm)) hg.size
 ·rw [List.length_append,eH,show aM [y]=AB y from by simp [aM]];exact hown
 ·intro h0 e;simp only [Value.ownBlock,Option.some.injEq] at e
  rcases hat with e2|e2
  ·exact h.ne h0 (by rw [e2,e])
  ·have:=h'.qr.came.lt h0;omega
theorem Jw.app {W:World} {Fv:Option Addr} {g' off' cap':Nat} {nl:List Sp} (h:Jw base w wr mv ao g off cap q fv f) (hb:base≤w.heap.size) (k:Below wr.heap.size wr W) (hq:QR base w' Fv g' off' cap' (q++nl)) (hd:0<cap'→(0<cap∧g'=g)∨W.heap.size≤g')
  (hs:W.heap.size≤w'.heap.size) (ho:w'.os=W.os) (ht:w'.tape=W.tape) (hu:w'.output=W.output) (Fb:∀i,i<W.heap.size→(0<cap→i≠g)→w'.heap[i]? =W.heap[i]?):Jw base w w' mv Fv g' off' cap' (q++nl) fv f:=by
 have h':=h.below hb k;have s1:=h'.sz;have bw:Below base W w':=⟨ho,ht,hu,hs,fun j hj=>Fb j (by omega) (fun h0 e=>by have:=h.qr.at_ h0;omega)⟩;refine ⟨h'.bel.trans bw,?_,by omega,?_,hq,?_,?_,?_,?_⟩
 ·intro j cs T fr hh ht;have e:=h'.ns j cs T fr hh ht;refine (Fb j (lt_of_some (e.trans hh)) (fun h0 e2=> ?_)).trans e;subst e2;exact ht (h.old h0 cs T fr hh)
 ·exact (Fb _ h'.mb.lt (fun h0 e=>h.far h0 e.symm)).trans h'.mb
 ·refine fC h'.ro (fun j cs fr hj hh=>Fb j (lt_of_some hh) (fun h0 e2=> ?_));subst e2;exact h.ne h0 hj
 ·intro h0
  rcases hd h0 with ⟨h1,rfl⟩|h1
  ·exact h.far h1
  ·omega
 ·intro h0 cs T fr hh
  rcases hd h0 with ⟨h1,rfl⟩|h1
  ·exact h.old h1 cs T fr hh
  ·have:=lt_of_some hh;omega
 ·intro h0 e
  rcases hd h0 with ⟨h1,rfl⟩|h1
  ·exact h.ne h1 e
  ·have:=(h'.ro.lt _ e).2;omega
end
theorem qf (b base:Nat) (sv:Value) (ts:List Ty) (tl:List (Ty×Value)) (fv:Value) (l0:List Sp) (w:World) (h:MC b w sv ts tl) (hf:w.ownsRow base 291 2 fv l0.length (aM l0)) (hb:base≤w.heap.size) (hNB:fQ ts l0≤2000000000000):
  Calls Tryz.prog 151 #[.agg #[sv],fv] w fun e' w'=>∃v',e'=.returned v'∧Below base w w'∧NS w w'∧w'.ownsRow w.heap.size 291 2 v' (dQ ts l0).length (aM (dQ ts l0)):=by
 obtain ⟨i0,hi,hz0,hz1,hz2⟩:=info_parts Tryz.info291;have HI:=af hi;have fG:=af hz0;have fH:=af hz1;have fI:=af hz2;clear hi hz0 hz1 hz2;obtain ⟨ma,mn,mc,rfl⟩:=h.form;obtain ⟨ao,g,cap,rfl,hq,hgb⟩:=QR.of_own hf;have H:=af h;generalize hR:dQ ts l0=R;have Ev:=af (show eU (aI ts) (fQ ts l0+1) l0 []=R from hR);have HK:=af (show l0.length+fO (aI ts) [] (iZ ts)≤fQ ts l0 from Nat.le_refl _);have W0:Below w.heap.size w (w.alloc (.cells #[.slice ma mn mc] 75)):=(Below.refl _ _).alloc aeg _;have aax:=af (show Jw base w (w.alloc (.cells #[.slice ma mn mc] 75)) (.slice ma mn mc) ao g 0 cap l0 (.slice none 0 0) [] from
  ⟨W0.mono hb,NS.below W0,by simp,ai.new w _ _,hq.frame (fun h0=>W0.block g (hq.came.lt h0)) W0.size,World.ownsRow_nil _ _ _ _,fun h0=>by have:=hq.came.lt h0;omega,fun h0 cs T fr hh=>by
   rcases hf with ⟨_,⟨e,_⟩|⟨g',cap',cur,e,_,hh',_⟩⟩
   ·simp only [Value.slice.injEq] at e;omega
   ·simp only [Value.slice.injEq] at e;have e2:=hq.came.addr h0;rw [e.1] at e2;simp only [Option.some.injEq,Addr.mk.injEq] at e2;rw [←e2.1,hh'] at hh;simp only [Option.some.injEq,Obj.cells.injEq] at hh;exact hh.2.1.symm,fun h0 e=>by cases e⟩)
 have hgk:=hq.came.le;clear h hf hR W0 hq hgb;go_enter Tryz.func151,Tryz.ntmps151;go_wp2_with fail
 go_loopg [1,5] (fQ ts l0+1) (fun k u1 u5 wr=>∃(q f:List Sp) (ao:Option Addr) (g off cap:Nat) (fa:Option Addr) (fc:Nat),u1=.slice ao q.length cap∧u5=.slice fa f.length fc∧Jw base w wr (.slice ma mn mc) ao g off cap q (.slice fa f.length fc) f∧Hid (f.length+(q.length+fO (aI ts) f (iZ ts))≤fQ ts l0∧q.length+fO (aI ts) f (iZ ts)<k∧eU (aI ts) k q f=R))
 case atStart=>exact ⟨l0,[],ao,g,0,cap,none,0,rfl,rfl,ae aax,af ⟨by simpa using ae HK,by have:=ae HK;omega,ae Ev⟩⟩
 case round=>
  clear aax HK Ev hgk;obtain ⟨q,f,ao,g,off,cap,fa,fc,rfl,rfl,hst,HQ⟩:=hrel;have WY:=(ae HQ).2.1;obtain ⟨k,rfl⟩:∃k,gk=k+1:=⟨gk-1,by omega⟩;clear WY;have HS:=af hst;have Dn:=hst.sz
  cases q with
  |nil=>
   have hR:=(ae HQ).2.2;simp only [eU] at hR;have HR:=af hR;clear hst hR HQ;go_wp2;go_ret;rw [←ae HR];exact ⟨_,rfl,(ae HS).bel,(ae HS).ns,(ae HS).ro⟩
  |cons x q=>
   obtain ⟨hcp,rfl,c0,c1⟩:=hst.qr.head;have hcl:=hst.qr.came.le;have hqb:f.length+(q.length+1)≤2000000000000:=by have:=(ae HQ).1;simp at this;omega
   simp only [List.length_cons] at hcl;clear hst;go_wp2_with fail
   ·subst h;have HT:=af (show Jw base w wr (.slice ma mn mc) (some ⟨g,off,none⟩) g (off+2) 0 q (.slice fa f.length fc) f from (ae HS).tail (some ⟨g,off,none⟩) (fun h=>by omega));clear HS;have EC:Below wr.heap.size wr (wr.alloc (.cells #[.string x.1,.string x.2] 291)):=(Below.refl _ _).alloc aeg _;have HST:=af ((ae HT).below hb EC);have XB:=af (ai.new wr #[.string x.1,.string x.2] 291);have Qi:∀q,(Value.slice fa f.length fc).ownBlock=some q→q<wr.heap.size:=fun q hq=>((ae HT).ro.lt q hq).2
    have XU:0<0→g<wr.heap.size:=fun h0=>(ae HT).qr.came.lt h0
    clear EC c0 c1;refine (oF _ _ f x _ (by omega) (ae HST).ro).mono ?_;rintro e w5 ⟨rfl,bV⟩;have xw:=af ((ae HST).below hb bV);have Uz:=af ((ae XB).below bV);obtain ⟨y0,y1⟩:=(ae Uz).two;have yl:=(ae Uz).lt;have s5:=(ae xw).sz;clear bV XB HST HT
    cases ha:f.any (fun z=>jo x z)
    ·obtain ⟨rX,lJ,Jy⟩:=ae HQ;simp only [eU,ha,Bool.false_eq_true,if_false] at Jy;have hrs:=vV ts f x ha;have lw:=af Jy;have hq4:f.length+1+(q.length+(aI ts x).length+fO (aI ts) (f++[x]) (iZ ts))≤fQ ts l0:=by simp at rX;omega
     have uo:q.length+(aI ts x).length+fO (aI ts) (f++[x]) (iZ ts)<k:=by simp at lJ;omega
     clear rX lJ Jy hrs HQ ha;go_wp2_with (at_builtin;go_must (refine wpList_append_lies _ rfl _ _ 288 rfl w.heap.size 291 i0 _ 2 32 Tryz.underlying288 (ae HI) (ae fG) (ae fH) (ae fI) rfl (by decide) (.slice fa f.length fc) f.length (aM f) rfl ?pX ⟨w5.heap.size,0,none⟩ 1 1 (AB x) rfl rfl ?ky ?nU (by decide) ?vP ?iO ?kD (w5.heap.size+1) ?Mv ?nz))
     case pX=>exact ((ae xw).ro).alloc _
     case ky=>exact World.news_of_block (B:=w5.heap.size) (cs:=#[.string x.1,.string x.2]) (t:=291) (fr:=(0,0)) (ai.new w5 _ _)
     case nU=>
      intro z hz;simp [AB] at hz
      rcases hz with rfl|rfl<;>rfl
     case vP=>unfold maxLen;omega
     case iO=>omega
     case kD=>simp;omega
     case Mv=>simp
     intro g6 jY w6 iE dw nV Dq;have xk:Below w5.heap.size w5 (w5.alloc (.cells #[.string x.1,.string x.2] 291)):=(Below.refl _ _).alloc aeg _;have MU:=af ((ae xw).grown hb xk dw iE (by simpa using nV));have XV:ai w6 wr.heap.size #[.string x.1,.string x.2] 291:=(dw.block wr.heap.size (by simp;omega) (fun e=>by have:=Qi _ e.symm;omega)).trans ((ae Uz).alloc _);obtain ⟨z0,z1⟩:=XV.two;have zl:=XV.lt;have m0:w6.cell? ⟨w.heap.size,0,none⟩=some (.slice ma mn mc):=(ae MU).mb.cell rfl;have HM6:=af ((ae H).ns (ae MU).ns (ae MU).bel.size);have s6:=(ae MU).sz;clear iE dw nV Dq xk xw Uz y0 y1 yl s5 XV Qi XU;go_wp2_with fail;refine (wL b _ ts tl x.1 x.2 _ (ae HM6)).mono ?_;rintro e w7 ⟨sv7,rfl,qg,hrs⟩;obtain ⟨na,nc,rfl⟩:=hrs.form;have Sa:=af ((ae MU).below hb qg);have SRC:=af (show Src Tryz.prog 2 288 (.slice na (aI ts x).length nc) (aI ts x).length (aM (aI ts x)) w7 from QR.src hrs.1);have XW:base≤w7.heap.size:=by have:=qg.size;omega
     clear qg hrs MU HM6 z0 z1 zl m0;go_wp2_with (at_builtin;go_must (refine pE Tryz.underlying288 rfl _ _ rfl (ae Sa).qr i0 _ (ae HI) (ae fG) (ae fH) (ae fI) rfl rfl (.slice na (aI ts x).length nc) rfl (ae SRC) ?hlB XW ?hKB))
     case hlB=>omega
     intro ao8 g8 XX MV w8 hq8 hd8 Sb ho8 ht8 hu8 Jz;have HS8:=af ((ae Sa).app hb (Below.refl _ _) hq8 (fun h0=>by have:=hd8 h0;first|exact this|exact .inr this) Sb ho8 ht8 hu8 (fun i hi hne=>by first|exact Jz i hi hne|exact Jz i hi));clear hq8 hd8 Sb ho8 ht8 hu8 Jz Sa SRC;go_wp2
     go_roundg k
     case measure=>omega
     case rel=>exact ⟨q++aI ts x,f++[x],ao8,g8,XX,MV,some ⟨g6,0,none⟩,jY,by simp,by simp,by simpa using ae HS8,af ⟨by simp;omega,by simp;omega,ae lw⟩⟩
    ·obtain ⟨rX,lJ,Jy⟩:=ae HQ;simp only [eU,ha,if_true] at Jy;have lw:=af Jy;have hq4:f.length+(q.length+fO (aI ts) f (iZ ts))≤fQ ts l0:=by simp at rX;omega
     have uo:q.length+fO (aI ts) f (iZ ts)<k:=by simp at lJ;omega
     clear rX lJ Jy HQ ha;go_wp2
     go_roundg k
     case measure=>omega
     case rel=>exact ⟨q,f,_,g,off+2,0,fa,fc,rfl,rfl,ae xw,af ⟨hq4,uo,ae lw⟩⟩
   ·have HT:=af ((ae HS).tail (some ⟨g,off+2,none⟩) (fun h=>rfl));clear HS h;have EC:Below wr.heap.size wr (wr.alloc (.cells #[.string x.1,.string x.2] 291)):=(Below.refl _ _).alloc aeg _;have HST:=af ((ae HT).below hb EC);have XB:=af (ai.new wr #[.string x.1,.string x.2] 291);have Qi:∀q,(Value.slice fa f.length fc).ownBlock=some q→q<wr.heap.size:=fun q hq=>((ae HT).ro.lt q hq).2
    have XU:0<cap-1→g<wr.heap.size:=fun h0=>(ae HT).qr.came.lt h0
    clear EC c0 c1;refine (oF _ _ f x _ (by omega) (ae HST).ro).mono ?_;rintro e w5 ⟨rfl,bV⟩;have xw:=af ((ae HST).below hb bV);have Uz:=af ((ae XB).below bV);obtain ⟨y0,y1⟩:=(ae Uz).two;have yl:=(ae Uz).lt;have s5:=(ae xw).sz;clear bV XB HST HT
    cases ha:f.any (fun z=>jo x z)
    ·obtain ⟨rX,lJ,Jy⟩:=ae HQ;simp only [eU,ha,Bool.false_eq_true,if_false] at Jy;have hrs:=vV ts f x ha;have lw:=af Jy;have hq4:f.length+1+(q.length+(aI ts x).length+fO (aI ts) (f++[x]) (iZ ts))≤fQ ts l0:=by simp at rX;omega
     have uo:q.length+(aI ts x).length+fO (aI ts) (f++[x]) (iZ ts)<k:=by simp at lJ;omega
     clear rX lJ Jy hrs HQ ha;go_wp2_with (at_builtin;go_must (refine wpList_append_lies _ rfl _ _ 288 rfl w.heap.size 291 i0 _ 2 32 Tryz.underlying288 (ae HI) (ae fG) (ae fH) (ae fI) rfl (by decide) (.slice fa f.length fc) f.length (aM f) rfl ?yH ⟨w5.heap.size,0,none⟩ 1 1 (AB x) rfl rfl ?mf ?nS (by decide) ?oC ?dX ?mg (w5.heap.size+1) ?Pg ?kw))
     case yH=>exact ((ae xw).ro).alloc _
     case mf=>exact World.news_of_block (B:=w5.heap.size) (cs:=#[.string x.1,.string x.2]) (t:=291) (fr:=(0,0)) (ai.new w5 _ _)
     case nS=>
      intro z hz;simp [AB] at hz
      rcases hz with rfl|rfl<;>rfl
     case oC=>unfold maxLen;omega
     case dX=>omega
     case mg=>simp;omega
     case Pg=>simp
     intro g6 jY w6 iE dw nV Dq;have xk:Below w5.heap.size w5 (w5.alloc (.cells #[.string x.1,.string x.2] 291)):=(Below.refl _ _).alloc aeg _;have MU:=af ((ae xw).grown hb xk dw iE (by simpa using nV));have XV:ai w6 wr.heap.size #[.string x.1,.string x.2] 291:=(dw.block wr.heap.size (by simp;omega) (fun e=>by have:=Qi _ e.symm;omega)).trans ((ae Uz).alloc _);obtain ⟨z0,z1⟩:=XV.two;have zl:=XV.lt;have m0:w6.cell? ⟨w.heap.size,0,none⟩=some (.slice ma mn mc):=(ae MU).mb.cell rfl;have HM6:=af ((ae H).ns (ae MU).ns (ae MU).bel.size);have s6:=(ae MU).sz;clear iE dw nV Dq xk xw Uz y0 y1 yl s5 XV Qi XU;go_wp2_with fail;refine (wL b _ ts tl x.1 x.2 _ (ae HM6)).mono ?_;rintro e w7 ⟨sv7,rfl,qg,hrs⟩;obtain ⟨na,nc,rfl⟩:=hrs.form;have Sa:=af ((ae MU).below hb qg);have SRC:=af (show Src Tryz.prog 2 288 (.slice na (aI ts x).length nc) (aI ts x).length (aM (aI ts x)) w7 from QR.src hrs.1);have XW:base≤w7.heap.size:=by have:=qg.size;omega
     clear qg hrs MU HM6 z0 z1 zl m0;go_wp2_with (at_builtin;go_must (refine pE Tryz.underlying288 rfl _ _ rfl (ae Sa).qr i0 _ (ae HI) (ae fG) (ae fH) (ae fI) rfl rfl (.slice na (aI ts x).length nc) rfl (ae SRC) ?hlA XW ?hKA))
     case hlA=>omega
     intro ao8 g8 XX MV w8 hq8 hd8 Sb ho8 ht8 hu8 Jz;have HS8:=af ((ae Sa).app hb (Below.refl _ _) hq8 (fun h0=>by have:=hd8 h0;first|exact this|exact .inr this) Sb ho8 ht8 hu8 (fun i hi hne=>by first|exact Jz i hi hne|exact Jz i hi));clear hq8 hd8 Sb ho8 ht8 hu8 Jz Sa SRC;go_wp2
     go_roundg k
     case measure=>omega
     case rel=>exact ⟨q++aI ts x,f++[x],ao8,g8,XX,MV,some ⟨g6,0,none⟩,jY,by simp,by simp,by simpa using ae HS8,af ⟨by simp;omega,by simp;omega,ae lw⟩⟩
    ·obtain ⟨rX,lJ,Jy⟩:=ae HQ;simp only [eU,ha,if_true] at Jy;have lw:=af Jy;have hq4:f.length+(q.length+fO (aI ts) f (iZ ts))≤fQ ts l0:=by simp at rX;omega
     have uo:q.length+fO (aI ts) f (iZ ts)<k:=by simp at lJ;omega
     clear rX lJ Jy HQ ha;go_wp2
     go_roundg k
     case measure=>omega
     case rel=>exact ⟨q,f,_,g,off+2,cap-1,fa,fc,rfl,rfl,ae xw,af ⟨hq4,uo,ae lw⟩⟩
def qh (ts:List Ty) (t:Ty) (r:Rl) (p:Ex):Option Nat:=match p.l,p.r with
 |some _,some y=>if jl p.nd.kind=246 then (if kI ts (dA ts t r y) (t.name,r.name) then some p.nd.place else none) else none
 |_,_=>none
def mr (ts:List Ty) (t:Ty) (r:Rl):Option Nat:=(ax r.body).findSome? (qh ts t r)
theorem qi (nd:Nd) (x y:Ex):∀(e:Ex),⟨nd,some x,some y⟩∈ax e→(ax y).length≤(ax e).length
 |⟨n,some a,some c⟩,h=>by
  simp only [ax] at h ⊢;rw [List.mem_append,List.mem_append,List.mem_singleton] at h;simp only [List.length_append]
  rcases h with (h|h)|h
  ·have:=qi nd x y a h;omega
  ·simp only [Ex.mk.injEq,Option.some.injEq] at h;rw [h.2.2];omega
  ·have:=qi nd x y c h;omega
 |⟨n,none,c⟩,h=>by
  unfold ax at h;simp at h
 |⟨n,some a,none⟩,h=>by
  unfold ax at h;simp at h
theorem BA {b:Nat} {w:World} {tv:Value} {rl:List (Rl×Value)} (ts:List Ty) (t:Ty) (ht:RC b w tv t.rels rl) (r:Rl) (hr:r∈t.rels) (e:Ex) (hp:(ax e).length≤1000):(dA ts t r e).length≤1000000:=by
 have:=Pt ts t ht r (ht.okg r hr) e (ax e).length;unfold NK at this;rw [List.take_length] at this;unfold dA;omega
theorem jS {α β:Type} (f:α→List β) (n:Nat):∀(l:List α),(∀a∈l,(f a).length≤n)→(l.flatMap f).length≤l.length*n
 | [],_=>by simp
 |a::l,h=>by
  have h1:=h a (by simp);have h2:=jS f n l (fun a ha=>h a (by simp [ha]));simp only [List.flatMap_cons,List.length_append,List.length_cons,Nat.add_mul,Nat.one_mul];omega
theorem JA {b:Nat} {w:World} {sv:Value} {ts:List Ty} {tl:List (Ty×Value)} (h:MC b w sv ts tl) (s:Sp):(aI ts s).length≤1000000:=by
 unfold aI
 split
 ·simp
 ·rename_i t ht
  split
  ·simp
  ·rename_i r hr;have ht:=List.mem_of_find?_eq_some ht;have hr:=List.mem_of_find?_eq_some hr;rw [←h.fst,List.mem_map] at ht;obtain ⟨p,hp,rfl⟩:=ht;obtain ⟨rl,hq⟩:=h.rels p hp;exact BA ts p.1 hq r hr r.body (hq.okp r hr)
theorem UA {b:Nat} {w:World} {sv:Value} {ts:List Ty} {tl:List (Ty×Value)} (h:MC b w sv ts tl):(iZ ts).length≤1000000:=by
 have:=jS (fun t=>t.rels.map fun r=>(t.name,r.name)) 1000 ts (fun t ht=>by
  rw [←h.fst,List.mem_map] at ht;obtain ⟨p,hp,rfl⟩:=ht;obtain ⟨rl,hq⟩:=h.rels p hp;have:=hq.len
  simpa using this)
 have h3:=h.len;have h4:ts.length*1000≤1000*1000:=Nat.mul_le_mul_right _ h3;unfold iZ;omega
theorem vW {b:Nat} {w:World} {sv:Value} {ts:List Ty} {tl:List (Ty×Value)} (h:MC b w sv ts tl) (l0:List Sp) (hl:l0.length≤1000000):fQ ts l0≤1000001000000:=by
 have h1:=Fw (aI ts) 1000000 (JA h) [] (iZ ts);have h2:=UA h;have h3:(iZ ts).length*1000000≤1000000*1000000:=Nat.mul_le_mul_right _ h2;unfold fQ;omega
theorem yU (b:Nat) (sv:Value) (ts:List Ty) (tl:List (Ty×Value)) (t:Ty) (tv:Value) (rl:List (Rl×Value)) (r:Rl) (bv:Value) (w:World) (h:MC b w sv ts tl) (ht:RC b w tv t.rels rl) (hr:aH b w r.body bv) (hmem:r∈t.rels):
  Calls Tryz.prog 118 #[.agg #[sv],.agg #[.int .i64 t.place,.string t.name,tv],.agg #[.int .i64 r.place,.string r.name,bv]] w fun e' w'=>e'=.returned (iy 6 (mr ts t r))∧Below w.heap.size w w':=by
 obtain ⟨ma,mn,mc,rfl⟩:=h.form;obtain ⟨va,vn,vc,rfl⟩:=ht.form;obtain ⟨ra,rv,rfl⟩:=hr.isI;have W0:Below w.heap.size w (((w.alloc (.cells #[.slice ma mn mc] 75)).alloc (.cells #[.int .i64 t.place,.string t.name,.slice va vn vc] 110)).alloc (.cells #[.int .i64 r.place,.string r.name,.iface ra rv] 159)):=(((Below.refl _ _).alloc aeg _).alloc (by simp) _).alloc (by simp;omega) _;have xJ:=af (h.below W0);have uL:=af (ht.below W0);have Ji:=af (hr.but (But.of_below W0));have MB:=af (((ai.new w #[.slice ma mn mc] 75).alloc (.cells #[.int .i64 t.place,.string t.name,.slice va vn vc] 110)).alloc (.cells #[.int .i64 r.place,.string r.name,.iface ra rv] 159));have YB:=af ((ai.new' (w.alloc (.cells #[.slice ma mn mc] 75)) #[.int .i64 t.place,.string t.name,.slice va vn vc] 110 (w.heap.size+1) (by simp)).alloc (.cells #[.int .i64 r.place,.string r.name,.iface ra rv] 159));have RB:=af (ai.new' ((w.alloc (.cells #[.slice ma mn mc] 75)).alloc (.cells #[.int .i64 t.place,.string t.name,.slice va vn vc] 110)) #[.int .i64 r.place,.string r.name,.iface ra rv] 159 (w.heap.size+2) (by simp));have okp:=ht.okp r hmem;have Tg:=af hmem;have HNL:=af (fun e he=>BA ts t ht r hmem e he);have XY:=af (fun l0 hl=>vW h l0 hl);have kg:=af W0;generalize hR:mr ts t r=R;have Ev:=af hR;have Pm:=(ae xJ).blt;clear W0 h ht hr hR hmem;go_enter Tryz.func118,Tryz.ntmps118;go_wp2_with fail;refine (qQ r.body b _ _ Pm (ae Ji) okp).mono ?_;rintro e1 w2 ⟨IK,rfl,hb2,l,l1,l2,l3⟩;obtain ⟨oa,oc,rfl⟩:=au l3;have ll:l.length=(ax r.body).length:=by rw [←l1];simp
 have B2:=af ((ae kg).trans (hb2.mono (ae kg).size));have L1:=af l1;have L2:=af l2;have L3:=af l3;have M2:=af ((ae xJ).below hb2);have T2:=af ((ae uL).below hb2);have X2:=af ((ae Ji).but (But.of_below hb2));have MF:=af ((ae MB).below hb2);have W9:=af ((ae YB).below hb2);have xL:=af ((ae RB).below hb2);have nQ:=(ae B2).size;clear hb2 l1 l2 l3;have f0:=uH;have f1:=wJ;have f2:=wK;have f3:=yC;have f4:=Di;have f5:=fq;go_wp2_with fail
 go_loopw [14] (fun u14 wr=>∃(k:Nat),k≤(ax r.body).length∧u14=.int .i64 k∧Below w2.heap.size w2 wr∧Hid (((ax r.body).drop k).findSome? (qh ts t r)=R)) (fun u _=>(ax r.body).length-(intOf u).toNat)
 case atStart=>exact ⟨0,by omega,rfl,Below.refl _ _,Ev⟩
 case round=>
  obtain ⟨k,hk,rfl,hbr,HQ⟩:=hrel;have HB:=af hbr;have Dn:=hbr.size
  by_cases hlt:k<(ax r.body).length
  ·have hkl:k<l.length:=by omega
   obtain ⟨q1,c1,e1,kc⟩:=aK (ak (w':=wr) (ae L3) (fun g cs f _ hh=>hbr.block g (lt_of_some hh))) k l[k].2 (by simp [aeh hkl]);simp only [Value.slice.injEq] at e1;obtain ⟨rfl,_,rfl⟩:=e1;have dF:=(ae L2 l[k] (List.getElem_mem hkl)).but (b:=b) (But.of_below hbr);have hk':(ax r.body)[k]? =some l[k].1:=by rw [←ae L1];simp [aeh hkl]
   generalize l[k]=q at*;obtain ⟨q1,qv⟩:=q;simp only at kc dF hk';have hkn:(k:Int)<((ax r.body).length:Int):=by omega
   have hR:=ae HQ;rw [rU _ _ _ _ hk'] at hR;have hin:=List.mem_of_getElem? hk';have Xa:=af ((ae M2).below hbr);have Le:=af ((ae T2).below hbr);have HXR:=af ((ae X2).but (But.of_below hbr));have MBR:=af ((ae MF).below hbr);have YBR:=af ((ae W9).below hbr);have RBR:=af ((ae xL).below hbr);clear hbr hk' HQ
   match q1,dF,hR,hin with
   |⟨nq,some xq,some yq⟩,⟨vx,vy,hv,rx,ry⟩,hR,hin=>
    obtain ⟨xa,xv,rfl⟩:=rx.isI;obtain ⟨ya,yv,rfl⟩:=ry.isI;have hyl:=qi _ _ _ _ hin;have HRY:=af ry;subst hv;clear rx ry hin
    by_cases wY:jl nq.kind=246
    ·rw [wY] at kc;have VU:qh ts t r ⟨nq,some xq,some yq⟩=if kI ts (dA ts t r yq) (t.name,r.name) then some nq.place else none:=by simp [qh,wY]
     rw [VU] at hR;have hnl:=ae HNL yq (by omega);have bx:Below wr.heap.size wr (wr.alloc (.cells #[.int .i64 nq.place,.iface xa xv,.iface ya yv] 246)):=(Below.refl _ _).alloc aeg _;have ny:=af ((ae HB).trans (bx.mono Dn));have HMX:=af ((ae Xa).below bx);have RO:=af ((ae Le).below bx);have HXX:=af ((ae HXR).but (But.of_below bx));have HYX:=af ((ae HRY).but (But.of_below bx));have Td:=af ((ae MBR).below bx);have VV:=af ((ae YBR).below bx);have VW:=af ((ae RBR).below bx);have VX:=af (ai.new wr #[.int .i64 nq.place,.iface xa xv,.iface ya yv] 246);clear bx wY VU;go_wp2_with fail;have hWs:wr.heap.size<(wr.alloc (.cells #[.int .i64 nq.place,.iface xa xv,.iface ya yv] 246)).heap.size:=by simp
     generalize (wr.alloc (.cells #[.int .i64 nq.place,.iface xa xv,.iface ya yv] 246))=W at*;generalize wr.heap.size=wz at*;have m0:W.cell? ⟨w.heap.size,0,none⟩=some (.slice ma mn mc):=(ae Td).cell rfl;have ml:=(ae Td).lt;obtain ⟨y0,y1,y2⟩:=(ae VV).three;have yl:=(ae VV).lt;obtain ⟨z0,z1,z2⟩:=(ae VW).three;have zl:=(ae VW).lt;obtain ⟨q0,q1,q2⟩:=(ae VX).three;have ql:=(ae VX).lt;have szX:=(ae ny).size
     cases hh:kI ts (dA ts t r yq) (t.name,r.name)
     ·rw [hh] at hR;have HH:=af hh;have dS:=af hR;clear hh hR
      go_region_held3 (fun w'=>w'.cell? ⟨w.heap.size,0,none⟩=some (.slice ma mn mc)∧w'.cell? ⟨w.heap.size+1,0,none⟩=some (.int .i64 t.place)∧w'.cell? ⟨w.heap.size+1,1,none⟩=some (.string t.name)∧w'.cell? ⟨w.heap.size+1,2,none⟩=some (.slice va vn vc)∧w'.cell? ⟨w.heap.size+2,0,none⟩=some (.int .i64 r.place)∧w'.cell? ⟨w.heap.size+2,1,none⟩=some (.string r.name)∧w'.cell? ⟨w.heap.size+2,2,none⟩=some (.iface ra rv)∧w'.cell? ⟨wz,2,none⟩=some (.iface ya yv)) (go_keep)
       (first
       |(go_at_call 177;refine (vR b _ ts tl t _ rl r _ yq _ _ ((ae HMX).below (Below.refl _ _).drew) ((ae RO).below (Below.refl _ _).drew) ((ae HXX).but (But.refl _ _).drew) (ae Tg) ((ae HYX).but (But.refl _ _).drew) (by omega)).mono ?_;rintro e w3 ⟨Zg,rfl,hb3,hrs⟩;have oI:=af ((Below.refl _ W).drew.trans hb3);have N3:=af (show jD W.heap.size w3 Zg (dA ts t r yq) from hrs);clear hb3 hrs;obtain ⟨na,nc,rfl⟩:=(ae N3).form;have a0:w3.cell? ⟨w.heap.size,0,none⟩=some (.slice ma mn mc):=((ae Td).below (ae oI)).cell rfl;obtain ⟨a1,a2,a3⟩:=((ae VV).below (ae oI)).three;obtain ⟨a4,a5,a6⟩:=((ae VW).below (ae oI)).three;obtain ⟨a7,a8,a9⟩:=((ae VX).below (ae oI)).three)
       |(go_at_call 151;refine (qf b W.heap.size _ ts tl _ _ _ ((ae HMX).below (ae oI)) (ae N3).1 (ae oI).size (by have:=ae XY _ hnl;omega)).mono ?_;rintro e w4 ⟨v4,rfl,hb4,_,ho4⟩;have DC:=af ((ae oI).trans hb4);have O4:=af ho4;clear hb4 ho4;obtain ⟨oa4,oc4,rfl⟩:=au (ae O4);have b0:w4.cell? ⟨w.heap.size,0,none⟩=some (.slice ma mn mc):=((ae Td).below (ae DC)).cell rfl;obtain ⟨b1,b2,b3⟩:=((ae VV).below (ae DC)).three;obtain ⟨b4,b5,b6⟩:=((ae VW).below (ae DC)).three;obtain ⟨b7,b8,b9⟩:=((ae VX).below (ae DC)).three)
       |(go_at_call 176;refine (oF _ _ _ (t.name,r.name) _ (by have:=ae XY _ hnl;have:=qd ts (dA ts t r yq);omega) (ae O4)).mono ?_;rintro e w5 ⟨he,bV⟩;rw [show ((dQ ts (dA ts t r yq)).any fun y=>jo (t.name,r.name) y)=_ from ae HH] at he;subst he;have Qj:=af ((ae DC).trans (bV.mono (ae DC).size));clear bV;have c0:w5.cell? ⟨w.heap.size,0,none⟩=some (.slice ma mn mc):=((ae Td).below (ae Qj)).cell rfl;obtain ⟨c1,c2,c3⟩:=((ae VV).below (ae Qj)).three;obtain ⟨c4,c5,c6⟩:=((ae VW).below (ae Qj)).three;obtain ⟨c7,c8,c9⟩:=((ae VX).below (ae Qj)).three))
      go_wp2;go_roundw
      case rel=>exact ⟨k+1,by omega,by go_num,(ae ny).trans ((ae Qj).mono szX),by simpa using dS⟩
      case measure=>simp [intOf];omega
     ·rw [hh] at hR;have HH:=af hh;have dS:=af hR;clear hh hR
      go_region_held3 (fun w'=>w'.cell? ⟨w.heap.size,0,none⟩=some (.slice ma mn mc)∧w'.cell? ⟨w.heap.size+1,0,none⟩=some (.int .i64 t.place)∧w'.cell? ⟨w.heap.size+1,1,none⟩=some (.string t.name)∧w'.cell? ⟨w.heap.size+1,2,none⟩=some (.slice va vn vc)∧w'.cell? ⟨w.heap.size+2,0,none⟩=some (.int .i64 r.place)∧w'.cell? ⟨w.heap.size+2,1,none⟩=some (.string r.name)∧w'.cell? ⟨w.heap.size+2,2,none⟩=some (.iface ra rv)∧w'.cell? ⟨wz,2,none⟩=some (.iface ya yv)) (go_keep)
       (first
       |(go_at_call 177;refine (vR b _ ts tl t _ rl r _ yq _ _ ((ae HMX).below (Below.refl _ _).drew) ((ae RO).below (Below.refl _ _).drew) ((ae HXX).but (But.refl _ _).drew) (ae Tg) ((ae HYX).but (But.refl _ _).drew) (by omega)).mono ?_;rintro e w3 ⟨Zg,rfl,hb3,hrs⟩;have oI:=af ((Below.refl _ W).drew.trans hb3);have N3:=af (show jD W.heap.size w3 Zg (dA ts t r yq) from hrs);clear hb3 hrs;obtain ⟨na,nc,rfl⟩:=(ae N3).form;have a0:w3.cell? ⟨w.heap.size,0,none⟩=some (.slice ma mn mc):=((ae Td).below (ae oI)).cell rfl;obtain ⟨a1,a2,a3⟩:=((ae VV).below (ae oI)).three;obtain ⟨a4,a5,a6⟩:=((ae VW).below (ae oI)).three;obtain ⟨a7,a8,a9⟩:=((ae VX).below (ae oI)).three)
       |(go_at_call 151;refine (qf b W.heap.size _ ts tl _ _ _ ((ae HMX).below (ae oI)) (ae N3).1 (ae oI).size (by have:=ae XY _ hnl;omega)).mono ?_;rintro e w4 ⟨v4,rfl,hb4,_,ho4⟩;have DC:=af ((ae oI).trans hb4);have O4:=af ho4;clear hb4 ho4;obtain ⟨oa4,oc4,rfl⟩:=au (ae O4);have b0:w4.cell? ⟨w.heap.size,0,none⟩=some (.slice ma mn mc):=((ae Td).below (ae DC)).cell rfl;obtain ⟨b1,b2,b3⟩:=((ae VV).below (ae DC)).three;obtain ⟨b4,b5,b6⟩:=((ae VW).below (ae DC)).three;obtain ⟨b7,b8,b9⟩:=((ae VX).below (ae DC)).three)
       |(go_at_call 176;refine (oF _ _ _ (t.name,r.name) _ (by have:=ae XY _ hnl;have:=qd ts (dA ts t r yq);omega) (ae O4)).mono ?_;rintro e w5 ⟨he,bV⟩;rw [show ((dQ ts (dA ts t r yq)).any fun y=>jo (t.name,r.name) y)=_ from ae HH] at he;subst he;have Qj:=af ((ae DC).trans (bV.mono (ae DC).size));clear bV;have c0:w5.cell? ⟨w.heap.size,0,none⟩=some (.slice ma mn mc):=((ae Td).below (ae Qj)).cell rfl;obtain ⟨c1,c2,c3⟩:=((ae VV).below (ae Qj)).three;obtain ⟨c4,c5,c6⟩:=((ae VW).below (ae Qj)).three;obtain ⟨c7,c8,c9⟩:=((ae VX).below (ae Qj)).three))
      go_wp2_with (go_at_call 73;refine (jP _ 6 _).mono ?_;rintro e w5 ⟨rfl,rfl⟩);go_ret;rw [←ae dS];exact ⟨rfl,(ae B2).trans (((ae ny).trans ((ae Qj).mono szX)).mono nQ)⟩
    ·have dS:=af (show ((ax r.body).drop (k+1)).findSome? (qh ts t r)=R from by simpa [qh,wY] using hR);clear hR
     rcases sS nq.kind with JB|JB|JB
     ·rw [JB] at kc;clear wY JB;go_wp2;go_roundw
      case rel=>exact ⟨k+1,by omega,by go_num,ae HB,dS⟩
      case measure=>simp [intOf];omega
     ·rw [JB] at kc;clear wY JB;go_wp2;go_roundw
      case rel=>exact ⟨k+1,by omega,by go_num,ae HB,dS⟩
      case measure=>simp [intOf];omega
     ·exact absurd JB wY
   |⟨nq,none,rq⟩,dF,hR,hin=>
    have dS:=af (show ((ax r.body).drop (k+1)).findSome? (qh ts t r)=R from by simpa [qh] using hR);clear hR hin
    rcases dF with ⟨l7,gv,hv,hrow⟩|⟨l7,hv⟩|⟨l7,hv⟩
    ·subst hv;clear hrow;go_wp2;go_roundw
     case rel=>exact ⟨k+1,by omega,by go_num,ae HB,dS⟩
     case measure=>simp [intOf];omega
    ·subst hv;go_wp2;go_roundw
     case rel=>exact ⟨k+1,by omega,by go_num,ae HB,dS⟩
     case measure=>simp [intOf];omega
    ·subst hv;go_wp2;go_roundw
     case rel=>exact ⟨k+1,by omega,by go_num,ae HB,dS⟩
     case measure=>simp [intOf];omega
   |⟨nq,some xq,none⟩,dF,hR,hin=>exact dF.elim
  ·have hR:=ae HQ;rw [List.drop_of_length_le (by omega)] at hR;have hkn:¬((k:Int)<((ax r.body).length:Int)):=by omega
   have dS:=af hR;clear hbr hR;go_wp2;go_ret;rw [←ae dS];exact ⟨rfl,(ae B2).trans ((ae HB).mono nQ)⟩
