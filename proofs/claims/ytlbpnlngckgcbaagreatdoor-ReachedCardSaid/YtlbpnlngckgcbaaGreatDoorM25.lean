import Derived.Test.YtlbpnlngckgcbaaGreatDoorM24
set_option linter.all false
set_option maxHeartbeats 4000000
set_option maxRecDepth 100000
namespace Go.Proofs.YtlbpnlngckgcbaaGreatDoor
open Go.RowKit Go.PlainAid
theorem Bz {α:Type} {n:Nat} {g:List (List α)} {l:List α} (h:l∈jX n g):l∈g∨l=[]:=by
 unfold jX at h
 rcases List.mem_append.1 h with h|h
 ·exact .inl h
 ·exact .inr (List.eq_of_mem_replicate h)
theorem D7 {α:Type} {n:Nat} {x:α} {g:List (List α)} {l:List α} (h:l∈gW n x g) (y:α) (hy:y∈l):y=x∨∃l'∈g,y∈l':=by
 unfold gW at h
 rcases List.mem_or_eq_of_mem_set h with h|rfl
 ·rcases Bz h with h|rfl
  ·exact .inr ⟨l,h,hy⟩
  ·simp at hy
 ·rcases List.mem_append.1 hy with hy|hy
  ·rw [List.getD_eq_getElem?_getD] at hy
   cases he:(jX n g)[n-1]? with
   |none=>rw [he] at hy;simp at hy
   |some l'=>
    rw [he] at hy
    rcases Bz (List.mem_of_getElem? he) with h|rfl
    ·exact .inr ⟨l',h,hy⟩
    ·simp at hy
  ·exact .inl (by simpa using hy)
theorem D8 {α:Type} (rk:α→Nat) (l0:List α):∀g0:List (List α),∀l∈l0.foldl (fun g x=>gW (rk x) x g) g0,∀y∈l,y∈l0∨∃l'∈g0,y∈l':=by
 induction l0 with
 |nil=>intro g0 l hl y hy;exact .inr ⟨l,hl,hy⟩
 |cons x l0 ih=>
  intro g0 l hl y hy
  rcases ih _ l hl y hy with h|⟨l',h1,h2⟩
  ·exact .inl (List.mem_cons_of_mem _ h)
  ·rcases D7 h1 y h2 with h|h
   ·exact .inl (by rw [h];exact List.mem_cons_self)
   ·exact .inr h
theorem yo {α:Type} {rk:α→Nat} {l0:List α} {l:List α} (h:l∈gI rk l0) {y:α} (hy:y∈l):y∈l0:=by
 rcases D8 rk l0 [] l h y hy with h|⟨l',h,_⟩
 ·exact h
 ·simp at h
theorem D9 {α β:Type} (f:α→β) (n:Nat) (x:α) (g:List (List α)):(gW n x g).map (List.map f)=gW n (f x) (g.map (List.map f)):=by
 have e:(jX n g).map (List.map f)=jX n (g.map (List.map f)):=by unfold jX;simp
 unfold gW;rw [List.map_set,e,List.map_append,←e]
 congr 2
 rw [List.getD_eq_getElem?_getD,List.getD_eq_getElem?_getD,List.getElem?_map]
 cases (jX n g)[n-1]? <;>simp
theorem Ea {α β:Type} (f:α→β) (rk:β→Nat) (l:List α):(gI (fun x=>rk (f x)) l).map (List.map f)=gI rk (l.map f):=by
 have key:∀(l:List α) (g:List (List α)),(l.foldl (fun g x=>gW (rk (f x)) x g) g).map (List.map f)=(l.map f).foldl (fun g x=>gW (rk x) x g) (g.map (List.map f)):=by
  intro l
  induction l with
  |nil=>intro g;rfl
  |cons x l ih=>intro g;rw [List.foldl_cons,ih,D9,List.map_cons,List.foldl_cons]
 exact key l []
abbrev TR:=Ty×Rl
def Au (ts:List Ty):List TR:=ts.flatMap fun t=>t.rels.map fun r=>(t,r)
def rkR (ts:List Ty) (x:TR):Nat:=(dm ts [(x.1.name,x.2.name)]).length
def Gm (x:It):TR:=(x.1.1,x.2.1)
def aT (ts:List Ty):List (List TR):=gI (rkR ts) (Au ts)
theorem uq {b:Nat} {w:World} {fo:Ty×Value→List (Rl×Value)}:∀{tl:List (Ty×Value)},Jh b w tl fo→(ng fo tl).map Gm=Au (tl.map Prod.fst)
 | [],_=>rfl
 |p::tl,h=>by
  have ih:=uq (tl:=tl) (fun q hq=>h q (by simp [hq]));have e:(ng fo (p::tl))=((fo p).map fun q=>(p,q))++ng fo tl:=by simp [ng]
  rw [e,List.map_append,ih,List.map_cons];have hr:=(h p (by simp)).fst;unfold Au;rw [List.flatMap_cons,←hr];simp [Gm]
theorem Eb {b:Nat} {w:World} {fo:Ty×Value→List (Rl×Value)} {ts:List Ty} {tl:List (Ty×Value)} (h:Jh b w tl fo) (hf:tl.map Prod.fst=ts):(gI (KI ts) (ng fo tl)).map (List.map Gm)=aT ts:=by
 have:=Ea Gm (rkR ts) (ng fo tl);rw [uq h,hf] at this;exact this
def Pg (p:It×Value):List Value:=[.string p.1.1.1.name,.string p.1.2.1.name,p.2]
structure wu (base:Nat) (w:World) (v:Value) (ls:List (It×Value)):Prop where
 row:w.ownsRow base 201 3 v ls.length (ls.flatMap Pg)
 ins:∀p∈ls,w.ownsRow base 298 3 p.2 (eF p.1.2.1.name p.1.2.1.body).length ((eF p.1.2.1.name p.1.2.1.body).flatMap xO)
structure Av (base:Nat) (w:World) (v:Value) (qs:List (Value×List (It×Value))):Prop where
 row:w.ownsRow base 190 1 v qs.length (qs.map Prod.fst)
 grp:∀q∈qs,wu base w q.1 q.2
def LT (T:TypeId):Prop:=T=190∨T=201∨T=298
section
variable {base base':Nat} {w w':World} {v:Value}
theorem wu.frame {ls:List (It×Value)} (h:wu base w v ls) (k:∀(g:Nat) (cs:Array Value) (T:TypeId) (f:Nat×Nat),w.heap[g]? =some (Obj.cells cs T f)→LT T→w'.heap[g]? =w.heap[g]?):wu base w' v ls:=
 ⟨ai h.row (fun g cs f _ hh=>k g cs _ f hh (.inr (.inl rfl))),fun p hp=>ai (h.ins p hp) (fun g cs f _ hh=>k g cs _ f hh (.inr (.inr rfl)))⟩
theorem Av.frame {qs:List (Value×List (It×Value))} (h:Av base w v qs) (k:∀(g:Nat) (cs:Array Value) (T:TypeId) (f:Nat×Nat),w.heap[g]? =some (Obj.cells cs T f)→LT T→w'.heap[g]? =w.heap[g]?):Av base w' v qs:=
 ⟨ai h.row (fun g cs f _ hh=>k g cs _ f hh (.inl rfl)),fun q hq=>(h.grp q hq).frame k⟩
theorem wu.below {ls:List (It×Value)} (h:wu base w v ls) (k:Below w.heap.size w w'):wu base w' v ls:=h.frame (fun g cs T f hh _=>k.block g (lt_of_some hh))
theorem Av.below {qs:List (Value×List (It×Value))} (h:Av base w v qs) (k:Below w.heap.size w w'):Av base w' v qs:=h.frame (fun g cs T f hh _=>k.block g (lt_of_some hh))
theorem wu.lower {ls:List (It×Value)} (h:wu base w v ls) (hb:base'≤base):wu base' w v ls:=⟨aA h.row hb,fun p hp=>aA (h.ins p hp) hb⟩
theorem Av.lower {qs:List (Value×List (It×Value))} (h:Av base w v qs) (hb:base'≤base):Av base' w v qs:=⟨aA h.row hb,fun q hq=>(h.grp q hq).lower hb⟩
theorem ME {g:Nat} {cs:Array Value} {T:TypeId} (hb:ag w g cs T) (ht:¬LT T) (o:Nat) (u:Value):∀(g':Nat) (cs':Array Value) (T':TypeId) (f:Nat×Nat),w.heap[g']? =some (Obj.cells cs' T' f)→LT T'→(w.setCell ⟨g,o,none⟩ u).heap[g']? =w.heap[g']? :=fun g' cs' T' f hh ht'=>Below.heap_setCell _ _ _ _ (fun (e:g'=g)=>by
 subst e;unfold ag at hb;rw [hb] at hh
 cases hh
 exact ht ht')
theorem wu.push {ls:List (It×Value)} {x:It} {iv v':Value} (h:wu base w v ls) (hg:w.grownBy w' v.ownBlock) (hown:w'.ownsRow base 201 3 v' (ls.length+1) (ls.flatMap Pg++Pg (x,iv))) (hi:w.ownsRow base 298 3 iv (eF x.2.1.name x.2.1.body).length ((eF x.2.1.name x.2.1.body).flatMap xO)):wu base w' v' (ls++[(x,iv)]):=by
 refine ⟨by simpa using hown,fun p hp=> ?_⟩;have k:∀(g:Nat) (cs:Array Value) (f:Nat×Nat),base≤g→w.heap[g]? =some (.cells cs 298 f)→w'.heap[g]? =w.heap[g]? :=fun g cs f _ hh=>hg.block g (lt_of_some hh) (dH h.row hh (by decide))
 rcases List.mem_append.1 hp with hp|hp
 ·exact ai (h.ins p hp) k
 ·rw [List.mem_singleton] at hp;subst hp;exact ai hi k
theorem Av.push {qs:List (Value×List (It×Value))} {gv v':Value} {ls:List (It×Value)} (h:Av base w v qs) (hg:w.grownBy w' v.ownBlock) (hown:w'.ownsRow base 190 1 v' (qs.length+1) (qs.map Prod.fst++[gv])) (hi:wu base w gv ls):Av base w' v' (qs++[(gv,ls)]):=by
 have k:∀q:Value×List (It×Value),wu base w q.1 q.2→wu base w' q.1 q.2:=fun q hq=>
  ⟨ai hq.row (fun g cs f _ hh=>hg.block g (lt_of_some hh) (dH h.row hh (by decide))),fun p hp=>ai (hq.ins p hp) (fun g cs f _ hh=>hg.block g (lt_of_some hh) (dH h.row hh (by decide)))⟩
 refine ⟨by simpa using hown,fun q hq=> ?_⟩
 rcases List.mem_append.1 hq with hq|hq
 ·exact k q (h.grp q hq)
 ·rw [List.mem_singleton] at hq;subst hq;exact k _ hi
end
def NC (ts:List Ty) (lv:Value) (w:World):Prop:=∃qs,Av 0 w lv qs∧qs.map (fun q=>q.2.map fun p=>Gm p.1)=aT ts∧qs.length≤1000001000001∧∀q∈qs,q.2.length≤1000000
theorem vI:Mw NC where
 below:=fun ts lv w w' ⟨qs,h1,h2⟩ k=>⟨qs,h1.below k,h2⟩
 set:=fun ts lv w g cs o u ⟨qs,h1,h2⟩ hb=>⟨qs,h1.frame (ME hb (by unfold LT;decide) o u),h2⟩
theorem Tryz.infoLn:(Tryz.prog.info? 201).map (fun i=>(i.zero,i.size,i.bytes))=some (some (.agg #[.string ⟨#[]⟩,.string ⟨#[]⟩,.slice none 0 0]),3,56):=by kernel_rfl
theorem Tryz.infoLns:(Tryz.prog.info? 190).map (fun i=>(i.zero,i.size,i.bytes))=some (some (.slice none 0 0),1,24):=by kernel_rfl
structure Hd where
 kd:RJ
 id:RJ
 ts:List Tu
 tv:Value
def BD (h:Hd):List Value:=[.string h.kd,.string h.id,h.tv]
structure HdOK (h:Hd):Prop where
 pos:0<h.ts.length
 kd:h.kd.size≤maxLen
 id:h.id.size≤maxLen
 sub:∀t∈h.ts,lF (ed t)
structure ND (w:World) (hv:Value) (hl:List Hd):Prop where
 row:w.ownsRow 0 282 3 hv hl.length (hl.flatMap BD)
 tups:∀h∈hl,Jz w h.tv h.ts∧HdOK h
 most:hl.length≤1000
def Il (K:Sj→Nat) (cs:List Tg) (h:Hd):ui:=⟨K,cs,h.kd,h.id,h.ts⟩
def gZ (p:It×Value) (h:Hd):Sj:=⟨h.kd,h.id,p.1.2.1.name⟩
def pI (K:Sj→Nat) (cs:List Tg) (p:It×Value) (h:Hd):Nat:=bW (Il K cs h) p.1.2.1.name p.1.2.1.body
structure MF (p:It×Value):Prop where
 wf:Bq p.1.2.1.body
 len:(aB p.1.2.1.name 0 p.1.2.1.body).length<40000
 name:p.1.2.1.name.size≤maxLen
 rel:∀i∈eF p.1.2.1.name p.1.2.1.body,i.rel.size≤maxLen
structure Ph (w:World) (cv hv sv:Value) (cs:List Tg) (hl:List Hd) (ls:List (It×Value)):Prop where
 cr:wo w cv cs
 hs:ND w hv hl
 ln:wu 0 w sv ls
 ok:∀p∈ls,MF p
 few:ls.length≤1000000
section
variable {w w':World} {cv hv sv tv:Value} {cs:List Tg} {hl:List Hd} {ls:List (It×Value)} {mb n:Nat} {K:Sj→Nat} {ts:List Tu}
def kK (w w':World):Prop:=w.heap.size≤w'.heap.size∧∀(g:Nat) (cs:Array Value) (T:TypeId) (f:Nat×Nat),w.heap[g]? =some (.cells cs T f)→w'.heap[g]? =w.heap[g]?
theorem jT (hk:nW w mb n K) (hb:aS (fun k=>k=mb) w w'):kK w w':=⟨hb.size,fun g cs T f hh=>hb.block g (lt_of_some hh) (fun e=>by
 subst e;obtain ⟨es,c,hm⟩:=hk.isMap;rw [hm] at hh
 cases hh)⟩
theorem Jz.cellsK (h:Jz w tv ts) (k:kK w w'):Jz w' tv ts:=⟨ai h.row (fun g cs f _ hh=>k.2 g cs _ f hh),h.most⟩
theorem ND.cellsK (h:ND w hv hl) (k:kK w w'):ND w' hv hl:=⟨ai h.row (fun g cs f _ hh=>k.2 g cs _ f hh),fun x hx=>⟨(h.tups x hx).1.cellsK k,(h.tups x hx).2⟩,h.most⟩
theorem pJ {a:Addr} {x:Value} (h:w.cell? a=some x) (k:kK w w'):w'.cell? a=some x:=by
 rw [←h];apply World.cell?_of_block;unfold World.cell? at h
 cases hh:w.heap[a.block]? with
 |none=>rw [hh] at h;cases h
 |some o=>
  cases o with
  |cells cs T f=>exact (k.2 _ cs T f hh).trans hh
  |_=>rw [hh] at h;cases h
theorem wo.cellsK (h:wo w cv cs) (k:kK w w'):wo w' cv cs:=by
 obtain ⟨g,o,c,h1,h2,h3,h4⟩:=h;exact ⟨g,o,c,h1,Nat.lt_of_lt_of_le h2 k.1,h3,fun i x hi=>⟨pJ (h4 i x hi).1 k,pJ (h4 i x hi).2 k⟩⟩
theorem Ph.cellsK (h:Ph w cv hv sv cs hl ls) (k:kK w w'):Ph w' cv hv sv cs hl ls:=⟨h.cr.cellsK k,h.hs.cellsK k,h.ln.frame (fun g cs T f hh _=>k.2 g cs T f hh),h.ok,h.few⟩
theorem vJ (k:Below w.heap.size w w'):kK w w':=⟨k.size,fun g cs T f hh=>k.block g (lt_of_some hh)⟩
end
structure Q7 (cs:List Tg) (hl:List Hd) (ls:List (It×Value)) (Inv:(Sj→Nat)→Prop) (mu:(Sj→Nat)→Nat):Prop where
 bits:∀K,Inv K→∀s,K s<18446744073709551616
 val:∀K,Inv K→∀p∈ls,∀h∈hl,h.kd=p.1.1.1.name→pI K cs p h<18446744073709551616
 step:∀K,Inv K→∀p∈ls,∀h∈hl,h.kd=p.1.1.1.name→pI K cs p h≠K (gZ p h)→Inv (jY K (gZ p h) (pI K cs p h))∧mu (jY K (gZ p h) (pI K cs p h))<mu K
def lG (n a:Nat):Prop:=∀i,n≤i→a.testBit i=false
theorem mR {n a:Nat} (hn:n≤64) (h:lG n a):a<18446744073709551616:=by
 apply Nat.lt_pow_two_of_testBit (n:=64);intro i hi;exact h i (by omega)
theorem jJ (v:ui) (hK:∀s,lG v.cs.length (v.K s)) (rel:RJ):∀e,lG v.cs.length (bW v rel e)
 |⟨n,some x,some y⟩=>fun i hi=>by
  have hx:=jJ v hK rel x i hi;have hy:=jJ v hK rel y i hi;unfold bW
  split
  ·rw [Nat.testBit_or,hx,hy];rfl
  ·split
   ·simp
   ·split
    ·rw [Nat.testBit_and,hx];simp
    ·unfold nO;rw [Nat.testBit_and,hx];simp
 |⟨n,none,r⟩=>fun i hi=>by
  have hm:∀t,(gU v.K v.cs (ed t)).testBit i=false:=fun t=>by
   unfold gU
   split
   ·rw [rG];have:¬i<v.cs.length:=by omega
    simp [this]
   ·exact hK _ i hi
  have hb:∀t,(pX v.K (ed t) n.n2).testBit i=false:=fun t=>by
   unfold pX
   split
   ·exact hK _ i hi
   ·simp
  unfold bW
  split
  ·rw [jI];simp [hm]
  ·split
   ·exact hK _ i hi
   ·rw [jI];simp [hb]
 |⟨_,some _,none⟩=>fun i hi=>by
  unfold bW;simp
def MG (ls:List (It×Value)) (hl:List Hd) (s:Sj):Prop:=∃p∈ls,∃h∈hl,h.kd=p.1.1.1.name∧s=gZ p h
def yt (ls:List (It×Value)) (hl:List Hd):List Sj:=ls.flatMap fun p=>hl.map fun h=>gZ p h
structure Gn (ls:List (It×Value)) (hl:List Hd):Prop where
 hds:∀h∈hl,∀h'∈hl,h.kd=h'.kd→h.id=h'.id→h=h'
 lns:∀p∈ls,∀q∈ls,p.1.1.1.name=q.1.1.1.name→p.1.2.1.name=q.1.2.1.name→p.1.2.1.body=q.1.2.1.body
 str:∀p∈ls,∀h∈hl,h.kd=p.1.1.1.name→∀s,EM h.kd h.id h.ts p.1.2.1.name p.1.2.1.body s→¬MG ls hl s
structure Pi (cs:List Tg) (ls:List (It×Value)) (hl:List Hd) (K0 K:Sj→Nat):Prop where
 out:∀s,lG cs.length (K s)
 old:∀s,¬MG ls hl s→K s=K0 s
 sub:∀p∈ls,∀h∈hl,h.kd=p.1.1.1.name→oH (K (gZ p h)) (pI K cs p h)
theorem yw {cs:List Tg} (hc:cs.length≤64) {K K':Sj→Nat} (h1:∀s,lG cs.length (K s)) (h2:∀s,lG cs.length (K' s)) (hk:∀s,oH (K s) (K' s)) {p:It×Value} {h:Hd} (hl:∀s,EM h.kd h.id h.ts p.1.2.1.name p.1.2.1.body s→K s=K' s):oH (pI K cs p h) (pI K' cs p h):=by
 intro i hi;unfold pI at hi ⊢
 by_cases hic:i<cs.length
 ·have hw:cs[i]? =some cs[i]:=RI hic;rw [kJ (Il K cs h) (fun s=>mR hc (h1 s)) hc hw] at hi;rw [kJ (Il K' cs h) (fun s=>mR hc (h2 s)) hc hw];rw [←mP] at hi ⊢;dsimp only [Il] at hi ⊢;rw [←iY (kp:=fun s=>(K' s).testBit i) (kn:=fun s=>(K s).testBit i) p.1.2.1.body (fun s _=>rfl) (fun s hs=>by show (K s).testBit i=(K' s).testBit i;rw [hl s hs])];exact mQ (fun s hs=>hk s i hs) _ hi
 ·rw [jJ (Il K cs h) h1 _ _ i (by simpa [Il] using hic)] at hi
  cases hi
theorem oK {cs:List Tg} {ls:List (It×Value)} {hl:List Hd} (hc:cs.length≤64) (G:Gn ls hl) (K0:Sj→Nat):Q7 cs hl ls (Pi cs ls hl K0) (gN (yt ls hl)) where
 bits:=fun K I s=>mR hc (I.out s)
 val:=fun K I p hp h hh _=>mR hc (jJ (Il K cs h) I.out _ _)
 step:=fun K I p hp h hh hm hne=>by
  have hX:lG cs.length (pI K cs p h):=jJ (Il K cs h) I.out _ _;have ht:MG ls hl (gZ p h):=⟨p,hp,h,hh,hm,rfl⟩;have hs:∀s,oH (K s) (jY K (gZ p h) (pI K cs p h) s):=fun s=>by
   unfold jY
   split
   ·rename_i e;rw [e];exact I.sub p hp h hh hm
   ·exact fun i hi=>hi
  have ho:∀s,lG cs.length (jY K (gZ p h) (pI K cs p h) s):=fun s=>by
   unfold jY
   split
   ·exact hX
   ·exact I.out s
  have hq:∀q∈ls,∀h'∈hl,h'.kd=q.1.1.1.name→oH (pI K cs q h') (pI (jY K (gZ p h) (pI K cs p h)) cs q h'):=fun q hq h' hh' hm'=>
   yw hc I.out ho hs (fun s hls=>by
    unfold jY;rw [if_neg (fun e=>G.str q hq h' hh' hm' s hls (by rw [e];exact ht))])
  refine ⟨⟨ho,fun s hn=> ?_,fun q hq' h' hh' hm'=> ?_⟩,?_⟩
  ·unfold jY;rw [if_neg (fun e=>hn (by rw [e];exact ht))];exact I.old s hn
  ·by_cases e:gZ q h'=gZ p h
   ·have e1:h'=h:=G.hds h' hh' h hh (congrArg Sj.kind e) (congrArg Sj.id e);subst e1;have e2:q.1.2.1.name=p.1.2.1.name:=congrArg Sj.rel e;have e3:=G.lns q hq' p hp (by rw [←hm',←hm]) e2;have e4:pI K cs p h'=pI K cs q h':=by unfold pI;rw [e2,e3]
    rw [e,show jY K (gZ p h') (pI K cs p h') (gZ p h')=pI K cs p h' from if_pos rfl];exact fun i hi=>hq q hq' h' hh' hm' i (by rw [←e4];exact hi)
   ·rw [show jY K (gZ p h) (pI K cs p h) (gZ q h')=K (gZ q h') from if_neg e];exact fun i hi=>hq q hq' h' hh' hm' i (I.sub q hq' h' hh' hm' i hi)
  ·exact Bw hs (s:=gZ p h) (mR hc (ho _)) (by rw [show jY K (gZ p h) (pI K cs p h) (gZ p h)=pI K cs p h from if_pos rfl];exact fun e=>hne e.symm) _ (List.mem_flatMap.2 ⟨p,hp,List.mem_map.2 ⟨h,hh,rfl⟩⟩)
structure JH (w wr:World) (ca ha:Option Addr) (cn cc hn hc mb n:Nat) (K:Sj→Nat):Prop where
 but:aS (fun k=>k=mb) w wr
 box:ag wr w.heap.size #[.slice ca cn cc,.slice ha hn hc,.map (some mb)] 189
 kn:nW wr mb n K
def MH (K:Sj→Nat) (cs:List Tg) (p:It×Value) (h:Hd):Prop:=h.kd=p.1.1.1.name→pI K cs p h=K (gZ p h)
def Gp (cs:List Tg) (Vis:It×Value→Hd→Prop) (Inv:(Sj→Nat)→Prop) (mu:(Sj→Nat)→Nat) (N n:Nat) (K1 K:Sj→Nat) (b:Bool):Prop:=
 Inv K∧n+mu K≤N∧(b=false→K=K1∧∀p h,Vis p h→MH K1 cs p h)∧(b=true→mu K<mu K1)
def Pj (ls:List (It×Value)) (hl:List Hd) (j:Nat) (p:It×Value) (h:Hd):Prop:=∃i,i<j∧ls[i]? =some p∧h∈hl
def JI (ls:List (It×Value)) (hl:List Hd) (j i:Nat) (p:It×Value) (h:Hd):Prop:=Pj ls hl j p h∨(ls[j]? =some p∧∃k,k<i∧hl[k]? =some h)
def Aw (cs:List Tg) (ls:List (It×Value)) (hl:List Hd) (K:Sj→Nat):Prop:=∀p∈ls,∀h∈hl,MH K cs p h
theorem JH.below {w wr wx:World} {ca ha:Option Addr} {cn cc hn hc mb n:Nat} {K:Sj→Nat} (h:JH w wr ca ha cn cc hn hc mb n K) (k:Below wr.heap.size wr wx):JH w wx ca ha cn cc hn hc mb n K:=
 ⟨h.but.trans (.of_below k),h.box.below k,h.kn.block (k.block mb h.kn.lt)⟩
theorem Gp.same {cs:List Tg} {V V':It×Value→Hd→Prop} {Inv:(Sj→Nat)→Prop} {mu:(Sj→Nat)→Nat} {N n:Nat} {K1 K:Sj→Nat} {b:Bool} (h:Gp cs V Inv mu N n K1 K b) (hv:∀p x,V' p x→V p x∨MH K cs p x):Gp cs V' Inv mu N n K1 K b:=
 ⟨h.1,h.2.1,fun e=>⟨(h.2.2.1 e).1,fun p x hx=>by
  rcases hv p x hx with hx|hx
  ·exact (h.2.2.1 e).2 p x hx
  ·rw [←(h.2.2.1 e).1];exact hx⟩,h.2.2.2⟩
theorem Gp.grow {cs:List Tg} {V V':It×Value→Hd→Prop} {Inv:(Sj→Nat)→Prop} {mu:(Sj→Nat)→Nat} {N n:Nat} {K1 K K':Sj→Nat} {b:Bool} (h:Gp cs V Inv mu N n K1 K b) (hI:Inv K') (hm:mu K'<mu K):Gp cs V' Inv mu N (n+1) K1 K' true:=
 ⟨hI,by have:=h.2.1;omega,(fun e=>by cases e),fun _=>by
  cases b with
  |false=>rw [←(h.2.2.1 rfl).1];exact hm
  |true=>exact Nat.lt_trans hm (h.2.2.2 rfl)⟩
theorem Ay (w:World) (ca ha sa:Option Addr) (cn cc hn hc sn sc mb n N:Nat) (K:Sj→Nat) (cs:List Tg) (hl:List Hd) (ls:List (It×Value)) (Inv:(Sj→Nat)→Prop) (mu:(Sj→Nat)→Nat)
  (G:Ph w (.slice ca cn cc) (.slice ha hn hc) (.slice sa sn sc) cs hl ls) (C:Q7 cs hl ls Inv mu) (hk:nW w mb n K) (hi:Inv K) (hN:n+mu K≤N) (hm:N<maxLen):
  Calls Tryz.prog 99 #[.agg #[.slice ca cn cc,.slice ha hn hc,.map (some mb)],.slice sa sn sc] w fun e w'=>e=.returned (.tuple #[])∧aS (fun k=>k=mb) w w'∧∃n' K',nW w' mb n' K'∧Inv K'∧n'+mu K'≤N∧Aw cs ls hl K':=by
 have hmb:=hk.lt;have b1:=(Below.refl w.heap.size w).alloc RH (.cells #[.slice ca cn cc,.slice ha hn hc,.map (some mb)] 189);have M0:=ae (show JH w _ ca ha cn cc hn hc mb n K from ⟨.of_below b1,ag.new w #[.slice ca cn cc,.slice ha hn hc,.map (some mb)] 189,hk.block (b1.block mb hmb)⟩);have hsn:sn=ls.length:=by obtain ⟨a,c,e⟩:=ak G.ln.row;simp only [Value.slice.injEq] at e;exact e.2.1
 have hhn:hn=hl.length:=by obtain ⟨a,c,e⟩:=ak G.hs.row;simp only [Value.slice.injEq] at e;exact e.2.1
 subst hsn;subst hhn;have HG:=ae G;have HC:=ae C;have HK:=ae hk;have HI:=ae (And.intro hi hN);have hf1:=G.few;have hf2:=G.hs.most;clear b1 G C hk hi hN;go_enter Tryz.func99,Tryz.ntmps99;go_wp2_with fail
 go_loopg [4] (2*mu K+2) (fun k u4 wr=>∃(b:Bool) (n':Nat) (K':Sj→Nat),u4=.bool b∧JH w wr ca ha cn cc hl.length hc mb n' K'∧Hid (Inv K'∧n'+mu K'≤N∧(b=false→Aw cs ls hl K')∧2*mu K'+(if b then 1 else 0)<k))
 case atStart=>exact ⟨true,n,K,rfl,aa M0,ae ⟨(aa HI).1,(aa HI).2,(fun e=>by cases e),(by simp)⟩⟩
 case round=>
  clear M0 HI;obtain ⟨b,n1,K1,rfl,hM,HR⟩:=hrel
  cases b with
  |false=>
   have HM:=ae hM;clear hM;go_wp2;go_end0;exact ⟨rfl,(aa HM).but,n1,K1,(aa HM).kn,(aa HR).1,(aa HR).2.1,(aa HR).2.2.1 (by first|rfl|trivial)⟩
  |true=>
   have HM:=ae hM;clear hM;go_wp2_with fail
   go_loopw [4,12] (fun u4 u12 wm=>∃(b:Bool) (j n2:Nat) (K2:Sj→Nat),u4=.bool b∧u12=.int .i64 j∧j≤ls.length∧JH w wm ca ha cn cc hl.length hc mb n2 K2∧Hid (Gp cs (Pj ls hl j) Inv mu N n2 K1 K2 b)) (fun _ u12 _=>ls.length-(intOf u12).toNat)
   case atStart=>exact ⟨false,0,n1,K1,rfl,rfl,by omega,aa HM,ae ⟨(aa HR).1,(aa HR).2.1,(fun _=>⟨rfl,fun p h hv=>by obtain ⟨i,hi,_⟩:=hv;omega⟩),(fun e=>by cases e)⟩⟩
   case round=>
    obtain ⟨b,j,n2,K2,rfl,rfl,hj,hM,bP⟩:=hrel
    by_cases hlt:j<ls.length
    ·have hjn:(j:Int)<(ls.length:Int):=by omega
     obtain ⟨WM,hWM⟩:∃x,x=wr:=⟨_,rfl⟩;subst hWM;obtain ⟨p,hp⟩:∃p,ls[j]? =some p:=⟨_,RI hlt⟩;have Q8:=List.mem_of_getElem? hp;have gm:=(aa HG).cellsK (jT (aa HK) hM.but);obtain ⟨g,c,e1,hcl⟩:=aU Pg 3 (fun _=>rfl) gm.ln.row j p hp;simp only [Value.slice.injEq] at e1;obtain ⟨rfl,_,rfl⟩:=e1;obtain ⟨il,hil⟩:∃il,il=(eF p.1.2.1.name p.1.2.1.body).length:=⟨_,rfl⟩;have hins:=gm.ln.ins p Q8;obtain ⟨ia,ic,hpv⟩:=ak hins;rw [←hil] at hpv;have k0:WM.cell? ⟨g,j*3,none⟩=some (.string p.1.1.1.name):=hcl 0 _ (by omega) rfl;have k1:WM.cell? ⟨g,j*3+1,none⟩=some (.string p.1.2.1.name):=hcl 1 _ (by omega) rfl;have k2:WM.cell? ⟨g,j*3+2,none⟩=some (.slice ia il ic):=by rw [←hpv];exact hcl 2 _ (by omega) rfl
     obtain ⟨c0,c1,c2⟩:=three hM.box;have yY:=hM.box.lt;have hne:¬(w.heap.size=WM.heap.size):=by omega
     have bl:=(Below.refl WM.heap.size WM).alloc RH (.cells #[.string p.1.1.1.name,.string p.1.2.1.name,.slice ia il ic] 201);have M1:=ae (hM.below bl);have L1:=ae (ag.new WM #[.string p.1.1.1.name,.string p.1.2.1.name,.slice ia il ic] 201);have HP:=ae (And.intro hp Q8);have HPV:=ae (And.intro hpv hil);have d0:(WM.alloc (.cells #[.string p.1.1.1.name,.string p.1.2.1.name,.slice ia il ic] 201)).cell? ⟨w.heap.size,1,none⟩=some (.slice ha hl.length hc):=(aa M1).box.cell rfl;clear hcl hins hpv hil gm hM bl hp Q8;go_wp2_with fail
     go_loopw [4,19] (fun u4 u19 wi=>∃(b:Bool) (i n3:Nat) (K3:Sj→Nat),u4=.bool b∧u19=.int .i64 i∧i≤hl.length∧JH w wi ca ha cn cc hl.length hc mb n3 K3∧ag wi WM.heap.size #[.string p.1.1.1.name,.string p.1.2.1.name,.slice ia il ic] 201∧Hid (Gp cs (JI ls hl j i) Inv mu N n3 K1 K3 b)) (fun _ u19 _=>hl.length-(intOf u19).toNat)
     case atStart=>exact ⟨b,0,n2,K2,rfl,rfl,by omega,aa M1,aa L1,ae ((aa bP).same (fun p x hx=>by
      rcases hx with hx|⟨_,k,hk,_⟩
      ·exact .inl hx
      ·omega))⟩
     case round=>
      clear k0 k1 k2 c0 c1 c2 d0 M1 L1 HM;obtain ⟨b,i,n3,K3,rfl,rfl,hi,hM,hL,gD⟩:=hrel
      by_cases hit:i<hl.length
      ·have hin:(i:Int)<(hl.length:Int):=by omega
       obtain ⟨hd,hh⟩:∃hd,hl[i]? =some hd:=⟨_,RI hit⟩;have Pk:=List.mem_of_getElem? hh;have gm:=(aa HG).cellsK (jT (aa HK) hM.but);obtain ⟨g2,c',e2,hcl⟩:=aU BD 3 (fun _=>rfl) gm.hs.row i hd hh;simp only [Value.slice.injEq] at e2;obtain ⟨rfl,_,rfl⟩:=e2;obtain ⟨Qh,NE⟩:=gm.hs.tups hd Pk;obtain ⟨ta,tc,Pm⟩:=ak Qh.row;obtain ⟨tn,htn⟩:∃tn,tn=hd.ts.length:=⟨_,rfl⟩;rw [←htn] at Pm;have k0:wr.cell? ⟨g2,i*3,none⟩=some (.string hd.kd):=hcl 0 _ (by omega) rfl;have k1:wr.cell? ⟨g2,i*3+1,none⟩=some (.string hd.id):=hcl 1 _ (by omega) rfl;have k2:wr.cell? ⟨g2,i*3+2,none⟩=some (.slice ta tn tc):=by rw [←Pm];exact hcl 2 _ (by omega) rfl
       have ba:=(Below.refl wr.heap.size wr).alloc RH (.cells #[.string hd.kd,.string hd.id,.slice ta tn tc] 282);have ma:=hM.below ba;obtain ⟨c0,c1,c2⟩:=three ma.box;obtain ⟨l0,l1,l2⟩:=three (hL.below ba);have hne2:¬(WM.heap.size=wr.heap.size):=by have:=hL.lt;omega
       have hne3:¬(w.heap.size=wr.heap.size):=by have:=hM.box.lt;omega
       have hbm:=hM.but.size;have hWl:=hL.lt;have hbx3:=hM.box.lt;have HH:=ae hh
       by_cases jK:hd.kd=p.1.1.1.name
       ·have QV:=ug jK;have HKD:=ae jK;have gw:=gm.cellsK (vJ ba);have inv:=(aa gD).1;have Ec:=(aa HG).ok p (aa HP).2;have COI:NA (wr.alloc (.cells #[.string hd.kd,.string hd.id,.slice ta tn tc] 282)) ca ia (some ⟨g2,0,none⟩) ta cn cc il ic hl.length hc tn tc mb n3 (Il K3 cs hd) (eF p.1.2.1.name p.1.2.1.body):=⟨ma.kn,gw.cr,by have:=gw.ln.ins p (aa HP).2;rw [(aa HPV).1] at this;exact this,by have:=(Qh.below ba);rw [Pm] at this;exact this,NE.pos,(aa HC).bits K3 inv,NE.kd,NE.id,Ec.rel,NE.sub,by have:=Ec.len;simp [eF];omega⟩;have CL:=ae (DW _ ca ia (some ⟨g2,0,none⟩) ta cn cc il ic hl.length hc tn tc mb n3 (Il K3 cs hd) p.1.1.1.name p.1.2.1.name p.1.2.1.body COI Ec.wf Ec.len Ec.name ((aa HC).val K3 inv p (aa HP).2 hd Pk jK) (by have:=(aa gD).2.1;omega));have MA:=ae ma;have LA:=ae (hL.below ba);have HHM:=ae Pk;clear gw inv Ec COI ma gm Qh NE Pm htn hcl ba hM hL jK hh Pk;go_wp2_with fail;refine (aa CL).mono ?_;rintro e w2 ⟨oL,ut⟩;have L2:=ae (oL.blk (aa LA) (show ¬(WM.heap.size=mb) from by omega));have Qi:=oL.blk (aa MA).box (show ¬(w.heap.size=mb) from by omega);have JJ:=(aa MA).but.trans oL;clear CL oL
        rcases ut with ⟨hx,rfl,Ed⟩|⟨hx,rfl,Ed⟩
        ·have M2:=ae (show JH w w2 ca (some ⟨g2,0,none⟩) cn cc hl.length hc mb n3 K3 from ⟨JJ,Qi,Ed⟩);have R2:=ae (show Hid (Gp cs (JI ls hl j (i+1)) Inv mu N n3 K1 K3 b) from ae ((aa gD).same (fun p' x hx=>by
          rcases hx with hx|⟨h1,k,hk,h2⟩
          ·exact .inl (.inl hx)
          ·by_cases e:k=i
           ·subst e;rw [(aa HP).1] at h1;rw [aa HH] at h2
            cases h1
            cases h2
            exact .inr (fun _=>hx)
           ·exact .inl (.inr ⟨h1,k,by omega,h2⟩))))
         clear JJ Qi Ed hx;go_wp2;go_roundw
         case rel=>exact ⟨b,i+1,n3,_,rfl,by go_num,by omega,aa M2,aa L2,aa R2⟩
         case measure=>simp [intOf];omega
        ·have M2:=ae (show JH w w2 ca (some ⟨g2,0,none⟩) cn cc hl.length hc mb (n3+1) (jY K3 (gZ p hd) (pI K3 cs p hd)) from ⟨JJ,Qi,Ed⟩);have st:=(aa HC).step K3 (aa gD).1 p (aa HP).2 hd (aa HHM) (aa HKD) hx;have R2:=ae (show Hid (Gp cs (JI ls hl j (i+1)) Inv mu N (n3+1) K1 (jY K3 (gZ p hd) (pI K3 cs p hd)) true) from ae ((aa gD).grow st.1 st.2));clear JJ Qi Ed hx st;go_wp2;go_roundw
         case rel=>exact ⟨true,i+1,n3+1,_,rfl,by go_num,by omega,aa M2,aa L2,aa R2⟩
         case measure=>simp [intOf];omega
       ·have QV:=uf jK;have M2:=ae ma;have L2:=ae (hL.below ba);have R2:=ae (show Hid (Gp cs (JI ls hl j (i+1)) Inv mu N n3 K1 K3 b) from ae ((aa gD).same (fun p' x hx=>by
         rcases hx with hx|⟨h1,k,hk,h2⟩
         ·exact .inl (.inl hx)
         ·by_cases e:k=i
          ·subst e;rw [(aa HP).1] at h1;rw [aa HH] at h2
           cases h1
           cases h2
           exact .inr (fun e=>absurd e jK)
          ·exact .inl (.inr ⟨h1,k,by omega,h2⟩))))
        clear gm Qh NE Pm htn hcl ba hM hL ma jK hh Pk;go_wp2;go_roundw
        case rel=>exact ⟨b,i+1,n3,_,rfl,by go_num,by omega,aa M2,aa L2,aa R2⟩
        case measure=>simp [intOf];omega
      ·have hin:¬((i:Int)<(hl.length:Int)):=by omega
       have QC:=ae hM;clear hM hL;go_wp2;go_roundw
       case rel=>exact ⟨b,j+1,n3,K3,rfl,by go_num,by omega,aa QC,ae ((aa gD).same (fun p' x hx=>by
        obtain ⟨k,hk,h1,h2⟩:=hx;left
        by_cases e:k=j
        ·subst e;obtain ⟨q,hq,rfl⟩:=List.getElem_of_mem h2;exact .inr ⟨h1,q,by omega,RI hq⟩
        ·exact .inl ⟨k,by omega,h1,h2⟩))⟩
       case measure=>simp [intOf];omega
    ·have hjn:¬((j:Int)<(ls.length:Int)):=by omega
     have QL:=ae hM;clear hM;go_wp2
     go_roundg (2*mu K2+(if b then 1 else 0)+1)
     case measure=>
      have h1:=(aa HR).2.2.2;have h2:=aa bP
      cases b with
      |false=>simp at h1 ⊢;rw [(h2.2.2.1 rfl).1];omega
      |true=>have:=h2.2.2.2 rfl;simp at h1 ⊢;omega
     case rel=>exact ⟨b,n2,K2,rfl,aa QL,ae ⟨(aa bP).1,(aa bP).2.1,(fun e p hp h hh=>by
      obtain ⟨i,hi,rfl⟩:=List.getElem_of_mem hp;have h3:=(aa bP).2.2.1 e;rw [h3.1];exact h3.2 _ h ⟨i,by omega,RI hi,hh⟩),(by omega)⟩⟩
def Clo (cs:List Tg) (ls:List (It×Value)) (hl:List Hd) (K:Sj→Nat):Prop:=∀p∈ls,∀h∈hl,h.kd=p.1.1.1.name→oH (pI K cs p h) (K (gZ p h))
structure Gq (cs:List Tg) (ls:List (It×Value)) (hl:List Hd) (K0 K:Sj→Nat):Prop where
 g:Pi cs ls hl K0 K
 least:∀K',(∀s,lG cs.length (K' s))→(∀s,¬MG ls hl s→K' s=K0 s)→Clo cs ls hl K'→∀s,oH (K s) (K' s)
theorem Ee {cs:List Tg} {ls:List (It×Value)} {hl:List Hd} (hc:cs.length≤64) (G:Gn ls hl) (K0:Sj→Nat):Q7 cs hl ls (Gq cs ls hl K0) (gN (yt ls hl)) where
 bits:=fun K I=>(oK hc G K0).bits K I.g
 val:=fun K I=>(oK hc G K0).val K I.g
 step:=fun K I p hp h hh hm hne=>by
  obtain ⟨h1,h2⟩:=(oK hc G K0).step K I.g p hp h hh hm hne;refine ⟨⟨h1,fun K' o' old' Az s=> ?_⟩,h2⟩;unfold jY
  split
  ·rename_i e;subst e;refine fun i hi=>Az p hp h hh hm i (yw hc I.g.out o' (I.least K' o' old' Az) (fun s hs=> ?_) i hi)
   have hn:=G.str p hp h hh hm s hs;rw [I.g.old s hn,old' s hn]
  ·exact I.least K' o' old' Az s
structure Hp where
 kd:RJ
 id:RJ
 ts:List Tu
def jq (h:Hd):Hp:=⟨h.kd,h.id,h.ts⟩
def rX (K:Sj→Nat) (cs:List Tg) (x:TR) (h:Hp):Nat:=bW ⟨K,cs,h.kd,h.id,h.ts⟩ x.2.name x.2.body
def Q9 (x:TR) (h:Hp):Sj:=⟨h.kd,h.id,x.2.name⟩
def AA (g:List TR) (hs:List Hp) (s:Sj):Prop:=∃x∈g,∃h∈hs,h.kd=x.1.name∧s=Q9 x h
structure Ra (cs:List Tg) (hs:List Hp) (g:List TR) (K0 K:Sj→Nat):Prop where
 out:∀s,lG cs.length (K s)
 old:∀s,¬AA g hs s→K s=K0 s
 fix:∀x∈g,∀h∈hs,h.kd=x.1.name→rX K cs x h=K (Q9 x h)
 least:∀K',(∀s,lG cs.length (K' s))→(∀s,¬AA g hs s→K' s=K0 s)→(∀x∈g,∀h∈hs,h.kd=x.1.name→oH (rX K' cs x h) (K' (Q9 x h)))→∀s,oH (K s) (K' s)
theorem BG {ls:List (It×Value)} {hl:List Hd} {s:Sj}:AA (ls.map fun p=>Gm p.1) (hl.map jq) s↔MG ls hl s:=by
 constructor
 ·rintro ⟨x,hx,h,hh,e1,e2⟩;obtain ⟨p,hp,rfl⟩:=List.mem_map.1 hx;obtain ⟨y,hy,rfl⟩:=List.mem_map.1 hh;exact ⟨p,hp,y,hy,e1,e2⟩
 ·rintro ⟨p,hp,y,hy,e1,e2⟩;exact ⟨_,List.mem_map.2 ⟨p,hp,rfl⟩,_,List.mem_map.2 ⟨y,hy,rfl⟩,e1,e2⟩
theorem MI {cs:List Tg} {ls:List (It×Value)} {hl:List Hd} {K0 K:Sj→Nat} (h:Gq cs ls hl K0 K) (f:Aw cs ls hl K):Ra cs (hl.map jq) (ls.map fun p=>Gm p.1) K0 K where
 out:=h.g.out
 old:=fun s hs=>h.g.old s (fun e=>hs (BG.2 e))
 fix:=fun x hx y hy e=>by
  obtain ⟨p,hp,rfl⟩:=List.mem_map.1 hx;obtain ⟨z,hz,rfl⟩:=List.mem_map.1 hy;exact f p hp z hz e
 least:=fun K' o' old' Az=>h.least K' o' (fun s hs=>old' s (fun e=>hs (BG.1 e))) (fun p hp z hz e=>Az _ (List.mem_map.2 ⟨p,hp,rfl⟩) _ (List.mem_map.2 ⟨z,hz,rfl⟩) e)
def Run (cs:List Tg) (hs:List Hp):List (List TR)→(Sj→Nat)→(Sj→Nat)→Prop
 | [],K,K'=>K'=K
 |g::gs,K,K'=>∃K1,Ra cs hs g K K1∧Run cs hs gs K1 K'
theorem BH {cs:List Tg} {hs:List Hp}:∀{gs gs':List (List TR)} {K A B:Sj→Nat},Run cs hs gs K A→Run cs hs gs' A B→Run cs hs (gs++gs') K B
 | [],gs',K,A,B,h,k=>by obtain rfl:=(show A=K from h);exact k
 |g::gs,gs',K,A,B,⟨K1,h1,h2⟩,k=>⟨K1,h1,BH h2 k⟩
theorem BI {cs:List Tg} {hs:List Hp}:∀{gs:List (List TR)} {K A:Sj→Nat},Run cs hs gs K A→∀s,(∀g∈gs,¬AA g hs s)→A s=K s
 | [],K,A,h,s,_=>by rw [show A=K from h]
 |g::gs,K,A,⟨K1,h1,h2⟩,s,hn=>by
  rw [BI h2 s (fun g' hg=>hn g' (List.mem_cons_of_mem _ hg)),h1.old s (hn g List.mem_cons_self)]
theorem vK {cs:List Tg} {hs:List Hp}:∀{gs:List (List TR)} {K A:Sj→Nat},Run cs hs gs K A→(∀s,lG cs.length (K s))→∀s,lG cs.length (A s)
 | [],K,A,h,ho=>by rw [show A=K from h];exact ho
 |g::gs,K,A,⟨K1,h1,h2⟩,_=>vK h2 h1.out
structure Ef (gs:List (List TR)) (hs:List Hp):Prop where
 hds:∀h∈hs,∀h'∈hs,h.kd=h'.kd→h.id=h'.id→h=h'
 lns:∀g∈gs,∀x∈g,∀y∈g,x.1.name=y.1.name→x.2.name=y.2.name→x.2.body=y.2.body
 ap:gs.Pairwise fun g g'=>∀x∈g,∀y∈g',¬(x.1.name=y.1.name∧x.2.name=y.2.name)
 str:∀g∈gs,∀x∈g,∀h∈hs,h.kd=x.1.name→∀s,EM h.kd h.id h.ts x.2.name x.2.body s→¬AA g hs s
structure NF (x:TR):Prop where
 wf:Bq x.2.body
 len:(aB x.2.name 0 x.2.body).length<40000
 name:x.2.name.size≤maxLen
 rel:∀i∈eF x.2.name x.2.body,i.rel.size≤maxLen
theorem NF.ok {p:It×Value} (h:NF (Gm p.1)):MF p:=⟨h.wf,h.len,h.name,h.rel⟩
theorem Gs {gs:List (List TR)} {hl:List Hd} {ls:List (It×Value)} (h:Ef gs (hl.map jq)) (hg:(ls.map fun p=>Gm p.1)∈gs) (hd:∀x∈hl,∀y∈hl,x.kd=y.kd→x.id=y.id→x=y):Gn ls hl where
 hds:=hd
 lns:=fun p hp q hq e1 e2=>h.lns _ hg _ (List.mem_map.2 ⟨p,hp,rfl⟩) _ (List.mem_map.2 ⟨q,hq,rfl⟩) e1 e2
 str:=fun p hp y hy e s hs ht=>h.str _ hg _ (List.mem_map.2 ⟨p,hp,rfl⟩) _ (List.mem_map.2 ⟨y,hy,rfl⟩) e s hs (BG.2 ht)
theorem AB {cs:List Tg} {ls:List (It×Value)} {hl:List Hd} {K:Sj→Nat} (ho:∀s,lG cs.length (K s)) (hz:∀s,MG ls hl s→K s=0):Gq cs ls hl K K where
 g:=⟨ho,fun _ _=>rfl,fun p hp h hh e i hi=>by rw [hz _ ⟨p,hp,h,hh,e,rfl⟩] at hi;simp at hi⟩
 least:=fun K' _ old' _ s i hi=>by
  by_cases ht:MG ls hl s
  ·rw [hz s ht] at hi;simp at hi
  ·rw [old' s ht];exact hi
theorem Gt {cs:List Tg} {hs:List Hp} {pre:List (List TR)} {g:List TR} {K:Sj→Nat} (hr:Run cs hs pre (fun _=>0) K) (hap:∀g'∈pre,∀x∈g',∀y∈g,¬(x.1.name=y.1.name∧x.2.name=y.2.name)) (s:Sj) (ht:AA g hs s):K s=0:=by
 obtain ⟨y,hy,h,hh,e1,rfl⟩:=ht;refine BI hr _ (fun g' hg ⟨x,hx,h',hh',e2,e3⟩=>hap g' hg x hx y hy ⟨?_,?_⟩)
 ·have:h'.kd=h.kd:=(congrArg Sj.kind e3).symm;rw [←e2,←e1,this]
 ·exact (congrArg Sj.rel e3).symm
