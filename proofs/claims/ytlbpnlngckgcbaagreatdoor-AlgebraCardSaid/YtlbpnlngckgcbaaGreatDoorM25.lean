import Derived.Test.YtlbpnlngckgcbaaGreatDoorM24
set_option linter.all false
set_option maxHeartbeats 4000000
set_option maxRecDepth 100000
namespace Go.Proofs.YtlbpnlngckgcbaaGreatDoor
open Go.RowKit Go.PlainAid
theorem AY {α:Type} {n:Nat} {g:List (List α)} {l:List α} (h:l∈jO n g):l∈g∨l=[]:=by
 unfold jO at h
 rcases List.mem_append.1 h with h|h
 ·exact .inl h
 ·exact .inr (List.eq_of_mem_replicate h)
theorem Dl {α:Type} {n:Nat} {x:α} {g:List (List α)} {l:List α} (h:l∈gJ n x g) (y:α) (hy:y∈l):y=x∨∃l'∈g,y∈l':=by
 unfold gJ at h
 rcases List.mem_or_eq_of_mem_set h with h|rfl
 ·rcases AY h with h|rfl
  ·exact .inr ⟨l,h,hy⟩
  ·simp at hy
 ·rcases List.mem_append.1 hy with hy|hy
  ·rw [List.getD_eq_getElem?_getD] at hy
   cases he:(jO n g)[n-1]? with
   |none=>rw [he] at hy;simp at hy
   |some l'=>
    rw [he] at hy
    rcases AY (List.mem_of_getElem? he) with h|rfl
    ·exact .inr ⟨l',h,hy⟩
    ·simp at hy
  ·exact .inl (by simpa using hy)
theorem Dm {α:Type} (rk:α→Nat) (l0:List α):∀g0:List (List α),∀l∈l0.foldl (fun g x=>gJ (rk x) x g) g0,∀y∈l,y∈l0∨∃l'∈g0,y∈l':=by
 induction l0 with
 |nil=>intro g0 l hl y hy;exact .inr ⟨l,hl,hy⟩
 |cons x l0 ih=>
  intro g0 l hl y hy
  rcases ih _ l hl y hy with h|⟨l',h1,h2⟩
  ·exact .inl (List.mem_cons_of_mem _ h)
  ·rcases Dl h1 y h2 with h|h
   ·exact .inl (by rw [h];exact List.mem_cons_self)
   ·exact .inr h
theorem xB {α:Type} {rk:α→Nat} {l0:List α} {l:List α} (h:l∈fZ rk l0) {y:α} (hy:y∈l):y∈l0:=by
 rcases Dm rk l0 [] l h y hy with h|⟨l',h,_⟩
 ·exact h
 ·simp at h
theorem Dn {α β:Type} (f:α→β) (n:Nat) (x:α) (g:List (List α)):(gJ n x g).map (List.map f)=gJ n (f x) (g.map (List.map f)):=by
 have e:(jO n g).map (List.map f)=jO n (g.map (List.map f)):=by unfold jO;simp
 unfold gJ;rw [List.map_set,e,List.map_append,←e]
 congr 2
 rw [List.getD_eq_getElem?_getD,List.getD_eq_getElem?_getD,List.getElem?_map]
 cases (jO n g)[n-1]? <;>simp
theorem Dp {α β:Type} (f:α→β) (rk:β→Nat) (l:List α):(fZ (fun x=>rk (f x)) l).map (List.map f)=fZ rk (l.map f):=by
 have key:∀(l:List α) (g:List (List α)),(l.foldl (fun g x=>gJ (rk (f x)) x g) g).map (List.map f)=(l.map f).foldl (fun g x=>gJ (rk x) x g) (g.map (List.map f)):=by
  intro l
  induction l with
  |nil=>intro g;rfl
  |cons x l ih=>intro g;rw [List.foldl_cons,ih,Dn,List.map_cons,List.foldl_cons]
 exact key l []
abbrev TR:=Ty×Rl
def zZ (ts:List Ty):List TR:=ts.flatMap fun t=>t.rels.map fun r=>(t,r)
def rkR (ts:List Ty) (x:TR):Nat:=(df ts [(x.1.name,x.2.name)]).length
def Fq (x:It):TR:=(x.1.1,x.2.1)
def bH (ts:List Ty):List (List TR):=fZ (rkR ts) (zZ ts)
theorem tC {b:Nat} {w:World} {eT:Ty×Value→List (Rl×Value)}:∀{tl:List (Ty×Value)},Hq b w tl eT→(mP eT tl).map Fq=zZ (tl.map Prod.fst)
 | [],_=>rfl
 |p::tl,h=>by
  have ih:=tC (tl:=tl) (fun q hq=>h q (by simp [hq]));have e:(mP eT (p::tl))=((eT p).map fun q=>(p,q))++mP eT tl:=by simp [mP]
  rw [e,List.map_append,ih,List.map_cons];have hr:=(h p (by simp)).fst;unfold zZ;rw [List.flatMap_cons,←hr];simp [Fq]
theorem Dq {b:Nat} {w:World} {eT:Ty×Value→List (Rl×Value)} {ts:List Ty} {tl:List (Ty×Value)} (h:Hq b w tl eT) (hf:tl.map Prod.fst=ts):(fZ (JD ts) (mP eT tl)).map (List.map Fq)=bH ts:=by
 have:=Dp Fq (rkR ts) (mP eT tl);rw [tC h,hf] at this;exact this
def NJ (p:It×Value):List Value:=[.string p.1.1.1.name,.string p.1.2.1.name,p.2]
structure vG (base:Nat) (w:World) (v:Value) (ls:List (It×Value)):Prop where
 row:w.ownsRow base 201 3 v ls.length (ls.flatMap NJ)
 ins:∀p∈ls,w.ownsRow base 298 3 p.2 (dZ p.1.2.1.name p.1.2.1.body).length ((dZ p.1.2.1.name p.1.2.1.body).flatMap wT)
structure z8 (base:Nat) (w:World) (v:Value) (qs:List (Value×List (It×Value))):Prop where
 row:w.ownsRow base 190 1 v qs.length (qs.map Prod.fst)
 grp:∀q∈qs,vG base w q.1 q.2
def LT (T:TypeId):Prop:=T=190∨T=201∨T=298
section
variable {base base':Nat} {w w':World} {v:Value}
theorem vG.frame {ls:List (It×Value)} (h:vG base w v ls) (k:∀(g:Nat) (cs:Array Value) (T:TypeId) (f:Nat×Nat),w.heap[g]? =some (Obj.cells cs T f)→LT T→w'.heap[g]? =w.heap[g]?):vG base w' v ls:=
 ⟨ai h.row (fun g cs f _ hh=>k g cs _ f hh (.inr (.inl rfl))),fun p hp=>ai (h.ins p hp) (fun g cs f _ hh=>k g cs _ f hh (.inr (.inr rfl)))⟩
theorem z8.frame {qs:List (Value×List (It×Value))} (h:z8 base w v qs) (k:∀(g:Nat) (cs:Array Value) (T:TypeId) (f:Nat×Nat),w.heap[g]? =some (Obj.cells cs T f)→LT T→w'.heap[g]? =w.heap[g]?):z8 base w' v qs:=
 ⟨ai h.row (fun g cs f _ hh=>k g cs _ f hh (.inl rfl)),fun q hq=>(h.grp q hq).frame k⟩
theorem vG.below {ls:List (It×Value)} (h:vG base w v ls) (k:Below w.heap.size w w'):vG base w' v ls:=h.frame (fun g cs T f hh _=>k.block g (lt_of_some hh))
theorem z8.below {qs:List (Value×List (It×Value))} (h:z8 base w v qs) (k:Below w.heap.size w w'):z8 base w' v qs:=h.frame (fun g cs T f hh _=>k.block g (lt_of_some hh))
theorem vG.lower {ls:List (It×Value)} (h:vG base w v ls) (hb:base'≤base):vG base' w v ls:=⟨aC h.row hb,fun p hp=>aC (h.ins p hp) hb⟩
theorem z8.lower {qs:List (Value×List (It×Value))} (h:z8 base w v qs) (hb:base'≤base):z8 base' w v qs:=⟨aC h.row hb,fun q hq=>(h.grp q hq).lower hb⟩
theorem Lg {g:Nat} {cs:Array Value} {T:TypeId} (hb:ag w g cs T) (ht:¬LT T) (o:Nat) (u:Value):∀(g':Nat) (cs':Array Value) (T':TypeId) (f:Nat×Nat),w.heap[g']? =some (Obj.cells cs' T' f)→LT T'→(w.setCell ⟨g,o,none⟩ u).heap[g']? =w.heap[g']? :=fun g' cs' T' f hh ht'=>Below.heap_setCell _ _ _ _ (fun (e:g'=g)=>by
 subst e;unfold ag at hb;rw [hb] at hh
 cases hh
 exact ht ht')
theorem vG.push {ls:List (It×Value)} {x:It} {iv v':Value} (h:vG base w v ls) (hg:w.grownBy w' v.ownBlock) (hown:w'.ownsRow base 201 3 v' (ls.length+1) (ls.flatMap NJ++NJ (x,iv))) (hi:w.ownsRow base 298 3 iv (dZ x.2.1.name x.2.1.body).length ((dZ x.2.1.name x.2.1.body).flatMap wT)):vG base w' v' (ls++[(x,iv)]):=by
 refine ⟨by simpa using hown,fun p hp=> ?_⟩;have k:∀(g:Nat) (cs:Array Value) (f:Nat×Nat),base≤g→w.heap[g]? =some (.cells cs 298 f)→w'.heap[g]? =w.heap[g]? :=fun g cs f _ hh=>hg.block g (lt_of_some hh) (dD h.row hh (by decide))
 rcases List.mem_append.1 hp with hp|hp
 ·exact ai (h.ins p hp) k
 ·rw [List.mem_singleton] at hp;subst hp;exact ai hi k
theorem z8.push {qs:List (Value×List (It×Value))} {gv v':Value} {ls:List (It×Value)} (h:z8 base w v qs) (hg:w.grownBy w' v.ownBlock) (hown:w'.ownsRow base 190 1 v' (qs.length+1) (qs.map Prod.fst++[gv])) (hi:vG base w gv ls):z8 base w' v' (qs++[(gv,ls)]):=by
 have k:∀q:Value×List (It×Value),vG base w q.1 q.2→vG base w' q.1 q.2:=fun q hq=>
  ⟨ai hq.row (fun g cs f _ hh=>hg.block g (lt_of_some hh) (dD h.row hh (by decide))),fun p hp=>ai (hq.ins p hp) (fun g cs f _ hh=>hg.block g (lt_of_some hh) (dD h.row hh (by decide)))⟩
 refine ⟨by simpa using hown,fun q hq=> ?_⟩
 rcases List.mem_append.1 hq with hq|hq
 ·exact k q (h.grp q hq)
 ·rw [List.mem_singleton] at hq;subst hq;exact k _ hi
end
def Mo (ts:List Ty) (lv:Value) (w:World):Prop:=∃qs,z8 0 w lv qs∧qs.map (fun q=>q.2.map fun p=>Fq p.1)=bH ts∧qs.length≤1000001000001∧∀q∈qs,q.2.length≤1000000
theorem uU:Le Mo where
 below:=fun ts lv w w' ⟨qs,h1,h2⟩ k=>⟨qs,h1.below k,h2⟩
 set:=fun ts lv w g cs o u ⟨qs,h1,h2⟩ hb=>⟨qs,h1.frame (Lg hb (by unfold LT;decide) o u),h2⟩
theorem Tryz.infoLn:(Tryz.prog.info? 201).map (fun i=>(i.zero,i.size,i.bytes))=some (some (.agg #[.string ⟨#[]⟩,.string ⟨#[]⟩,.slice none 0 0]),3,56):=by kernel_rfl
theorem Tryz.infoLns:(Tryz.prog.info? 190).map (fun i=>(i.zero,i.size,i.bytes))=some (some (.slice none 0 0),1,24):=by kernel_rfl
structure Hd where
 kd:Qx
 id:Qx
 ts:List Tu
 tv:Value
def AZ (h:Hd):List Value:=[.string h.kd,.string h.id,h.tv]
structure HdOK (h:Hd):Prop where
 pos:0<h.ts.length
 kd:h.kd.size≤maxLen
 id:h.id.size≤maxLen
 sub:∀t∈h.ts,lg (fB t)
structure Mq (w:World) (hv:Value) (hl:List Hd):Prop where
 row:w.ownsRow 0 282 3 hv hl.length (hl.flatMap AZ)
 tups:∀h∈hl,Io w h.tv h.ts∧HdOK h
 most:hl.length≤1000
def Gd (K:Sj→Nat) (cs:List Tg) (h:Hd):sW:=⟨K,cs,h.kd,h.id,h.ts⟩
def gM (p:It×Value) (h:Hd):Sj:=⟨h.kd,h.id,p.1.2.1.name⟩
def oZ (K:Sj→Nat) (cs:List Tg) (p:It×Value) (h:Hd):Nat:=bO (Gd K cs h) p.1.2.1.name p.1.2.1.body
structure Lh (p:It×Value):Prop where
 wf:CZ p.1.2.1.body
 len:(aA p.1.2.1.name 0 p.1.2.1.body).length<40000
 name:p.1.2.1.name.size≤maxLen
 rel:∀i∈dZ p.1.2.1.name p.1.2.1.body,i.rel.size≤maxLen
structure NM (w:World) (cv hv sv:Value) (cs:List Tg) (hl:List Hd) (ls:List (It×Value)):Prop where
 cr:vF w cv cs
 hs:Mq w hv hl
 ln:vG 0 w sv ls
 ok:∀p∈ls,Lh p
 few:ls.length≤1000000
section
variable {w w':World} {cv hv sv tv:Value} {cs:List Tg} {hl:List Hd} {ls:List (It×Value)} {mb n:Nat} {K:Sj→Nat} {ts:List Tu}
def kF (w w':World):Prop:=w.heap.size≤w'.heap.size∧∀(g:Nat) (cs:Array Value) (T:TypeId) (f:Nat×Nat),w.heap[g]? =some (.cells cs T f)→w'.heap[g]? =w.heap[g]?
theorem jJ (hk:nQ w mb n K) (hb:aQ (fun k=>k=mb) w w'):kF w w':=⟨hb.size,fun g cs T f hh=>hb.block g (lt_of_some hh) (fun e=>by
 subst e;obtain ⟨es,c,hm⟩:=hk.isMap;rw [hm] at hh
 cases hh)⟩
theorem Io.cellsK (h:Io w tv ts) (k:kF w w'):Io w' tv ts:=⟨ai h.row (fun g cs f _ hh=>k.2 g cs _ f hh),h.most⟩
theorem Mq.cellsK (h:Mq w hv hl) (k:kF w w'):Mq w' hv hl:=⟨ai h.row (fun g cs f _ hh=>k.2 g cs _ f hh),fun x hx=>⟨(h.tups x hx).1.cellsK k,(h.tups x hx).2⟩,h.most⟩
theorem o5 {a:Addr} {x:Value} (h:w.cell? a=some x) (k:kF w w'):w'.cell? a=some x:=by
 rw [←h];apply World.cell?_of_block;unfold World.cell? at h
 cases hh:w.heap[a.block]? with
 |none=>rw [hh] at h;cases h
 |some o=>
  cases o with
  |cells cs T f=>exact (k.2 _ cs T f hh).trans hh
  |_=>rw [hh] at h;cases h
theorem vF.cellsK (h:vF w cv cs) (k:kF w w'):vF w' cv cs:=by
 obtain ⟨g,o,c,h1,h2,h3,h4⟩:=h;exact ⟨g,o,c,h1,Nat.lt_of_lt_of_le h2 k.1,h3,fun i x hi=>⟨o5 (h4 i x hi).1 k,o5 (h4 i x hi).2 k⟩⟩
theorem NM.cellsK (h:NM w cv hv sv cs hl ls) (k:kF w w'):NM w' cv hv sv cs hl ls:=⟨h.cr.cellsK k,h.hs.cellsK k,h.ln.frame (fun g cs T f hh _=>k.2 g cs T f hh),h.ok,h.few⟩
theorem uV (k:Below w.heap.size w w'):kF w w':=⟨k.size,fun g cs T f hh=>k.block g (lt_of_some hh)⟩
end
structure PW (cs:List Tg) (hl:List Hd) (ls:List (It×Value)) (Inv:(Sj→Nat)→Prop) (mu:(Sj→Nat)→Nat):Prop where
 bits:∀K,Inv K→∀s,K s<18446744073709551616
 val:∀K,Inv K→∀p∈ls,∀h∈hl,h.kd=p.1.1.1.name→oZ K cs p h<18446744073709551616
 step:∀K,Inv K→∀p∈ls,∀h∈hl,h.kd=p.1.1.1.name→oZ K cs p h≠K (gM p h)→Inv (jP K (gM p h) (oZ K cs p h))∧mu (jP K (gM p h) (oZ K cs p h))<mu K
def lh (n a:Nat):Prop:=∀i,n≤i→a.testBit i=false
theorem mH {n a:Nat} (hn:n≤64) (h:lh n a):a<18446744073709551616:=by
 apply Nat.lt_pow_two_of_testBit (n:=64);intro i hi;exact h i (by omega)
theorem jr (v:sW) (hK:∀s,lh v.cs.length (v.K s)) (rel:Qx):∀e,lh v.cs.length (bO v rel e)
 |⟨n,some x,some y⟩=>fun i hi=>by
  have hx:=jr v hK rel x i hi;have hy:=jr v hK rel y i hi;unfold bO
  split
  ·rw [Nat.testBit_or,hx,hy];rfl
  ·split
   ·simp
   ·split
    ·rw [Nat.testBit_and,hx];simp
    ·unfold nG;rw [Nat.testBit_and,hx];simp
 |⟨n,none,r⟩=>fun i hi=>by
  have hm:∀t,(gI v.K v.cs (fB t)).testBit i=false:=fun t=>by
   unfold gI
   split
   ·rw [qN];have:¬i<v.cs.length:=by omega
    simp [this]
   ·exact hK _ i hi
  have hb:∀t,(pg v.K (fB t) n.n2).testBit i=false:=fun t=>by
   unfold pg
   split
   ·exact hK _ i hi
   ·simp
  unfold bO
  split
  ·rw [jq];simp [hm]
  ·split
   ·exact hK _ i hi
   ·rw [jq];simp [hb]
 |⟨_,some _,none⟩=>fun i hi=>by
  unfold bO;simp
def Li (ls:List (It×Value)) (hl:List Hd) (s:Sj):Prop:=∃p∈ls,∃h∈hl,h.kd=p.1.1.1.name∧s=gM p h
def xC (ls:List (It×Value)) (hl:List Hd):List Sj:=ls.flatMap fun p=>hl.map fun h=>gM p h
structure Fs (ls:List (It×Value)) (hl:List Hd):Prop where
 hds:∀h∈hl,∀h'∈hl,h.kd=h'.kd→h.id=h'.id→h=h'
 lns:∀p∈ls,∀q∈ls,p.1.1.1.name=q.1.1.1.name→p.1.2.1.name=q.1.2.1.name→p.1.2.1.body=q.1.2.1.body
 str:∀p∈ls,∀h∈hl,h.kd=p.1.1.1.name→∀s,DY h.kd h.id h.ts p.1.2.1.name p.1.2.1.body s→¬Li ls hl s
structure NN (cs:List Tg) (ls:List (It×Value)) (hl:List Hd) (K0 K:Sj→Nat):Prop where
 out:∀s,lh cs.length (K s)
 old:∀s,¬Li ls hl s→K s=K0 s
 sub:∀p∈ls,∀h∈hl,h.kd=p.1.1.1.name→ou (K (gM p h)) (oZ K cs p h)
theorem xD {cs:List Tg} (hc:cs.length≤64) {K K':Sj→Nat} (h1:∀s,lh cs.length (K s)) (h2:∀s,lh cs.length (K' s)) (hk:∀s,ou (K s) (K' s)) {p:It×Value} {h:Hd} (hl:∀s,DY h.kd h.id h.ts p.1.2.1.name p.1.2.1.body s→K s=K' s):ou (oZ K cs p h) (oZ K' cs p h):=by
 intro i hi;unfold oZ at hi ⊢
 by_cases hic:i<cs.length
 ·have hw:cs[i]? =some cs[i]:=Qw hic;rw [kE (Gd K cs h) (fun s=>mH hc (h1 s)) hc hw] at hi;rw [kE (Gd K' cs h) (fun s=>mH hc (h2 s)) hc hw];rw [←mD] at hi ⊢;dsimp only [Gd] at hi ⊢;rw [←iO (kp:=fun s=>(K' s).testBit i) (kn:=fun s=>(K s).testBit i) p.1.2.1.body (fun s _=>rfl) (fun s hs=>by show (K s).testBit i=(K' s).testBit i;rw [hl s hs])];exact mF (fun s hs=>hk s i hs) _ hi
 ·rw [jr (Gd K cs h) h1 _ _ i (by simpa [Gd] using hic)] at hi
  cases hi
theorem oC {cs:List Tg} {ls:List (It×Value)} {hl:List Hd} (hc:cs.length≤64) (G:Fs ls hl) (K0:Sj→Nat):PW cs hl ls (NN cs ls hl K0) (gB (xC ls hl)) where
 bits:=fun K I s=>mH hc (I.out s)
 val:=fun K I p hp h hh _=>mH hc (jr (Gd K cs h) I.out _ _)
 step:=fun K I p hp h hh hm hne=>by
  have hX:lh cs.length (oZ K cs p h):=jr (Gd K cs h) I.out _ _;have ht:Li ls hl (gM p h):=⟨p,hp,h,hh,hm,rfl⟩;have hs:∀s,ou (K s) (jP K (gM p h) (oZ K cs p h) s):=fun s=>by
   unfold jP
   split
   ·rename_i e;rw [e];exact I.sub p hp h hh hm
   ·exact fun i hi=>hi
  have ho:∀s,lh cs.length (jP K (gM p h) (oZ K cs p h) s):=fun s=>by
   unfold jP
   split
   ·exact hX
   ·exact I.out s
  have hq:∀q∈ls,∀h'∈hl,h'.kd=q.1.1.1.name→ou (oZ K cs q h') (oZ (jP K (gM p h) (oZ K cs p h)) cs q h'):=fun q hq h' hh' hm'=>
   xD hc I.out ho hs (fun s hls=>by
    unfold jP;rw [if_neg (fun e=>G.str q hq h' hh' hm' s hls (by rw [e];exact ht))])
  refine ⟨⟨ho,fun s hn=> ?_,fun q hq' h' hh' hm'=> ?_⟩,?_⟩
  ·unfold jP;rw [if_neg (fun e=>hn (by rw [e];exact ht))];exact I.old s hn
  ·by_cases e:gM q h'=gM p h
   ·have e1:h'=h:=G.hds h' hh' h hh (congrArg Sj.kind e) (congrArg Sj.id e);subst e1;have e2:q.1.2.1.name=p.1.2.1.name:=congrArg Sj.rel e;have e3:=G.lns q hq' p hp (by rw [←hm',←hm]) e2;have e4:oZ K cs p h'=oZ K cs q h':=by unfold oZ;rw [e2,e3]
    rw [e,show jP K (gM p h') (oZ K cs p h') (gM p h')=oZ K cs p h' from if_pos rfl];exact fun i hi=>hq q hq' h' hh' hm' i (by rw [←e4];exact hi)
   ·rw [show jP K (gM p h) (oZ K cs p h) (gM q h')=K (gM q h') from if_neg e];exact fun i hi=>hq q hq' h' hh' hm' i (I.sub q hq' h' hh' hm' i hi)
  ·exact AX hs (s:=gM p h) (mH hc (ho _)) (by rw [show jP K (gM p h) (oZ K cs p h) (gM p h)=oZ K cs p h from if_pos rfl];exact fun e=>hne e.symm) _ (List.mem_flatMap.2 ⟨p,hp,List.mem_map.2 ⟨h,hh,rfl⟩⟩)
structure Iw (w wr:World) (ca ha:Option Addr) (cn cc hn hc mb n:Nat) (K:Sj→Nat):Prop where
 but:aQ (fun k=>k=mb) w wr
 box:ag wr w.heap.size #[.slice ca cn cc,.slice ha hn hc,.map (some mb)] 189
 kn:nQ wr mb n K
def Lj (K:Sj→Nat) (cs:List Tg) (p:It×Value) (h:Hd):Prop:=h.kd=p.1.1.1.name→oZ K cs p h=K (gM p h)
def Fu (cs:List Tg) (Vis:It×Value→Hd→Prop) (Inv:(Sj→Nat)→Prop) (mu:(Sj→Nat)→Nat) (N n:Nat) (K1 K:Sj→Nat) (b:Bool):Prop:=
 Inv K∧n+mu K≤N∧(b=false→K=K1∧∀p h,Vis p h→Lj K1 cs p h)∧(b=true→mu K<mu K1)
def NP (ls:List (It×Value)) (hl:List Hd) (j:Nat) (p:It×Value) (h:Hd):Prop:=∃i,i<j∧ls[i]? =some p∧h∈hl
def Iy (ls:List (It×Value)) (hl:List Hd) (j i:Nat) (p:It×Value) (h:Hd):Prop:=NP ls hl j p h∨(ls[j]? =some p∧∃k,k<i∧hl[k]? =some h)
def Aa (cs:List Tg) (ls:List (It×Value)) (hl:List Hd) (K:Sj→Nat):Prop:=∀p∈ls,∀h∈hl,Lj K cs p h
theorem Iw.below {w wr wx:World} {ca ha:Option Addr} {cn cc hn hc mb n:Nat} {K:Sj→Nat} (h:Iw w wr ca ha cn cc hn hc mb n K) (k:Below wr.heap.size wr wx):Iw w wx ca ha cn cc hn hc mb n K:=
 ⟨h.but.trans (.of_below k),h.box.below k,h.kn.block (k.block mb h.kn.lt)⟩
theorem Fu.same {cs:List Tg} {V V':It×Value→Hd→Prop} {Inv:(Sj→Nat)→Prop} {mu:(Sj→Nat)→Nat} {N n:Nat} {K1 K:Sj→Nat} {b:Bool} (h:Fu cs V Inv mu N n K1 K b) (hv:∀p x,V' p x→V p x∨Lj K cs p x):Fu cs V' Inv mu N n K1 K b:=
 ⟨h.1,h.2.1,fun e=>⟨(h.2.2.1 e).1,fun p x hx=>by
  rcases hv p x hx with hx|hx
  ·exact (h.2.2.1 e).2 p x hx
  ·rw [←(h.2.2.1 e).1];exact hx⟩,h.2.2.2⟩
theorem Fu.grow {cs:List Tg} {V V':It×Value→Hd→Prop} {Inv:(Sj→Nat)→Prop} {mu:(Sj→Nat)→Nat} {N n:Nat} {K1 K K':Sj→Nat} {b:Bool} (h:Fu cs V Inv mu N n K1 K b) (hI:Inv K') (hm:mu K'<mu K):Fu cs V' Inv mu N (n+1) K1 K' true:=
 ⟨hI,by have:=h.2.1;omega,(fun e=>by cases e),fun _=>by
  cases b with
  |false=>rw [←(h.2.2.1 rfl).1];exact hm
  |true=>exact Nat.lt_trans hm (h.2.2.2 rfl)⟩
theorem Ab (w:World) (ca ha sa:Option Addr) (cn cc hn hc sn sc mb n N:Nat) (K:Sj→Nat) (cs:List Tg) (hl:List Hd) (ls:List (It×Value)) (Inv:(Sj→Nat)→Prop) (mu:(Sj→Nat)→Nat)
  (G:NM w (.slice ca cn cc) (.slice ha hn hc) (.slice sa sn sc) cs hl ls) (C:PW cs hl ls Inv mu) (hk:nQ w mb n K) (hi:Inv K) (hN:n+mu K≤N) (hm:N<maxLen):
  Calls Tryz.prog 99 #[.agg #[.slice ca cn cc,.slice ha hn hc,.map (some mb)],.slice sa sn sc] w fun e w'=>e=.returned (.tuple #[])∧aQ (fun k=>k=mb) w w'∧∃n' K',nQ w' mb n' K'∧Inv K'∧n'+mu K'≤N∧Aa cs ls hl K':=by
 have hmb:=hk.lt;have b1:=(Below.refl w.heap.size w).alloc Qv (.cells #[.slice ca cn cc,.slice ha hn hc,.map (some mb)] 189);have M0:=ae (show Iw w _ ca ha cn cc hn hc mb n K from ⟨.of_below b1,ag.new w #[.slice ca cn cc,.slice ha hn hc,.map (some mb)] 189,hk.block (b1.block mb hmb)⟩);have hsn:sn=ls.length:=by obtain ⟨a,c,e⟩:=ak G.ln.row;simp only [Value.slice.injEq] at e;exact e.2.1
 have hhn:hn=hl.length:=by obtain ⟨a,c,e⟩:=ak G.hs.row;simp only [Value.slice.injEq] at e;exact e.2.1
 subst hsn;subst hhn;have HG:=ae G;have HC:=ae C;have HK:=ae hk;have HI:=ae (And.intro hi hN);have hf1:=G.few;have hf2:=G.hs.most;clear b1 G C hk hi hN;go_enter Tryz.func99,Tryz.ntmps99;go_wp2_with fail
 go_loopg [4] (2*mu K+2) (fun k u4 wr=>∃(b:Bool) (n':Nat) (K':Sj→Nat),u4=.bool b∧Iw w wr ca ha cn cc hl.length hc mb n' K'∧Hid (Inv K'∧n'+mu K'≤N∧(b=false→Aa cs ls hl K')∧2*mu K'+(if b then 1 else 0)<k))
 case atStart=>exact ⟨true,n,K,rfl,aa M0,ae ⟨(aa HI).1,(aa HI).2,(fun e=>by cases e),(by simp)⟩⟩
 case round=>
  clear M0 HI;obtain ⟨b,n1,K1,rfl,hM,HR⟩:=hrel
  cases b with
  |false=>
   have HM:=ae hM;clear hM;go_wp2;go_end0;exact ⟨rfl,(aa HM).but,n1,K1,(aa HM).kn,(aa HR).1,(aa HR).2.1,(aa HR).2.2.1 (by first|rfl|trivial)⟩
  |true=>
   have HM:=ae hM;clear hM;go_wp2_with fail
   go_loopw [4,12] (fun u4 u12 wm=>∃(b:Bool) (j n2:Nat) (K2:Sj→Nat),u4=.bool b∧u12=.int .i64 j∧j≤ls.length∧Iw w wm ca ha cn cc hl.length hc mb n2 K2∧Hid (Fu cs (NP ls hl j) Inv mu N n2 K1 K2 b)) (fun _ u12 _=>ls.length-(intOf u12).toNat)
   case atStart=>exact ⟨false,0,n1,K1,rfl,rfl,by omega,aa HM,ae ⟨(aa HR).1,(aa HR).2.1,(fun _=>⟨rfl,fun p h hv=>by obtain ⟨i,hi,_⟩:=hv;omega⟩),(fun e=>by cases e)⟩⟩
   case round=>
    obtain ⟨b,j,n2,K2,rfl,rfl,hj,hM,cu⟩:=hrel
    by_cases hlt:j<ls.length
    ·have hjn:(j:Int)<(ls.length:Int):=by omega
     obtain ⟨WM,hWM⟩:∃x,x=wr:=⟨_,rfl⟩;subst hWM;obtain ⟨p,hp⟩:∃p,ls[j]? =some p:=⟨_,Qw hlt⟩;have PY:=List.mem_of_getElem? hp;have gm:=(aa HG).cellsK (jJ (aa HK) hM.but);obtain ⟨g,c,e1,hcl⟩:=aZ NJ 3 (fun _=>rfl) gm.ln.row j p hp;simp only [Value.slice.injEq] at e1;obtain ⟨rfl,_,rfl⟩:=e1;obtain ⟨il,hil⟩:∃il,il=(dZ p.1.2.1.name p.1.2.1.body).length:=⟨_,rfl⟩;have hins:=gm.ln.ins p PY;obtain ⟨ia,ic,hpv⟩:=ak hins;rw [←hil] at hpv;have k0:WM.cell? ⟨g,j*3,none⟩=some (.string p.1.1.1.name):=hcl 0 _ (by omega) rfl;have k1:WM.cell? ⟨g,j*3+1,none⟩=some (.string p.1.2.1.name):=hcl 1 _ (by omega) rfl;have k2:WM.cell? ⟨g,j*3+2,none⟩=some (.slice ia il ic):=by rw [←hpv];exact hcl 2 _ (by omega) rfl
     obtain ⟨c0,c1,c2⟩:=three hM.box;have yA:=hM.box.lt;have hne:¬(w.heap.size=WM.heap.size):=by omega
     have bl:=(Below.refl WM.heap.size WM).alloc Qv (.cells #[.string p.1.1.1.name,.string p.1.2.1.name,.slice ia il ic] 201);have M1:=ae (hM.below bl);have L1:=ae (ag.new WM #[.string p.1.1.1.name,.string p.1.2.1.name,.slice ia il ic] 201);have HP:=ae (And.intro hp PY);have HPV:=ae (And.intro hpv hil);have d0:(WM.alloc (.cells #[.string p.1.1.1.name,.string p.1.2.1.name,.slice ia il ic] 201)).cell? ⟨w.heap.size,1,none⟩=some (.slice ha hl.length hc):=(aa M1).box.cell rfl;clear hcl hins hpv hil gm hM bl hp PY;go_wp2_with fail
     go_loopw [4,19] (fun u4 u19 wi=>∃(b:Bool) (i n3:Nat) (K3:Sj→Nat),u4=.bool b∧u19=.int .i64 i∧i≤hl.length∧Iw w wi ca ha cn cc hl.length hc mb n3 K3∧ag wi WM.heap.size #[.string p.1.1.1.name,.string p.1.2.1.name,.slice ia il ic] 201∧Hid (Fu cs (Iy ls hl j i) Inv mu N n3 K1 K3 b)) (fun _ u19 _=>hl.length-(intOf u19).toNat)
     case atStart=>exact ⟨b,0,n2,K2,rfl,rfl,by omega,aa M1,aa L1,ae ((aa cu).same (fun p x hx=>by
      rcases hx with hx|⟨_,k,hk,_⟩
      ·exact .inl hx
      ·omega))⟩
     case round=>
      clear k0 k1 k2 c0 c1 c2 d0 M1 L1 HM;obtain ⟨b,i,n3,K3,rfl,rfl,hi,hM,hL,iq⟩:=hrel
      by_cases hit:i<hl.length
      ·have hin:(i:Int)<(hl.length:Int):=by omega
       obtain ⟨hd,hh⟩:∃hd,hl[i]? =some hd:=⟨_,Qw hit⟩;have NQ:=List.mem_of_getElem? hh;have gm:=(aa HG).cellsK (jJ (aa HK) hM.but);obtain ⟨g2,c',e2,hcl⟩:=aZ AZ 3 (fun _=>rfl) gm.hs.row i hd hh;simp only [Value.slice.injEq] at e2;obtain ⟨rfl,_,rfl⟩:=e2;obtain ⟨OI,Mr⟩:=gm.hs.tups hd NQ;obtain ⟨ta,tc,NR⟩:=ak OI.row;obtain ⟨tn,htn⟩:∃tn,tn=hd.ts.length:=⟨_,rfl⟩;rw [←htn] at NR;have k0:wr.cell? ⟨g2,i*3,none⟩=some (.string hd.kd):=hcl 0 _ (by omega) rfl;have k1:wr.cell? ⟨g2,i*3+1,none⟩=some (.string hd.id):=hcl 1 _ (by omega) rfl;have k2:wr.cell? ⟨g2,i*3+2,none⟩=some (.slice ta tn tc):=by rw [←NR];exact hcl 2 _ (by omega) rfl
       have ba:=(Below.refl wr.heap.size wr).alloc Qv (.cells #[.string hd.kd,.string hd.id,.slice ta tn tc] 282);have ma:=hM.below ba;obtain ⟨c0,c1,c2⟩:=three ma.box;obtain ⟨l0,l1,l2⟩:=three (hL.below ba);have hne2:¬(WM.heap.size=wr.heap.size):=by have:=hL.lt;omega
       have hne3:¬(w.heap.size=wr.heap.size):=by have:=hM.box.lt;omega
       have hbm:=hM.but.size;have hWl:=hL.lt;have hbx3:=hM.box.lt;have HH:=ae hh
       by_cases jw:hd.kd=p.1.1.1.name
       ·have PG:=Jw jw;have HKD:=ae jw;have gw:=gm.cellsK (uV ba);have inv:=(aa iq).1;have Dr:=(aa HG).ok p (aa HP).2;have COI:Ml (wr.alloc (.cells #[.string hd.kd,.string hd.id,.slice ta tn tc] 282)) ca ia (some ⟨g2,0,none⟩) ta cn cc il ic hl.length hc tn tc mb n3 (Gd K3 cs hd) (dZ p.1.2.1.name p.1.2.1.body):=⟨ma.kn,gw.cr,by have:=gw.ln.ins p (aa HP).2;rw [(aa HPV).1] at this;exact this,by have:=(OI.below ba);rw [NR] at this;exact this,Mr.pos,(aa HC).bits K3 inv,Mr.kd,Mr.id,Dr.rel,Mr.sub,by have:=Dr.len;simp [dZ];omega⟩;have CL:=ae (Df _ ca ia (some ⟨g2,0,none⟩) ta cn cc il ic hl.length hc tn tc mb n3 (Gd K3 cs hd) p.1.1.1.name p.1.2.1.name p.1.2.1.body COI Dr.wf Dr.len Dr.name ((aa HC).val K3 inv p (aa HP).2 hd NQ jw) (by have:=(aa iq).2.1;omega));have MA:=ae ma;have LA:=ae (hL.below ba);have HHM:=ae NQ;clear gw inv Dr COI ma gm OI Mr NR htn hcl ba hM hL jw hh NQ;go_wp2_with fail;refine (aa CL).mono ?_;rintro e w2 ⟨oD,Fv⟩;have L2:=ae (oD.blk (aa LA) (show ¬(WM.heap.size=mb) from by omega));have OJ:=oD.blk (aa MA).box (show ¬(w.heap.size=mb) from by omega);have Iz:=(aa MA).but.trans oD;clear CL oD
        rcases Fv with ⟨hx,rfl,Fw⟩|⟨hx,rfl,Fw⟩
        ·have M2:=ae (show Iw w w2 ca (some ⟨g2,0,none⟩) cn cc hl.length hc mb n3 K3 from ⟨Iz,OJ,Fw⟩);have R2:=ae (show Hid (Fu cs (Iy ls hl j (i+1)) Inv mu N n3 K1 K3 b) from ae ((aa iq).same (fun p' x hx=>by
          rcases hx with hx|⟨h1,k,hk,h2⟩
          ·exact .inl (.inl hx)
          ·by_cases e:k=i
           ·subst e;rw [(aa HP).1] at h1;rw [aa HH] at h2
            cases h1
            cases h2
            exact .inr (fun _=>hx)
           ·exact .inl (.inr ⟨h1,k,by omega,h2⟩))))
         clear Iz OJ Fw hx;go_wp2;go_roundw
         case rel=>exact ⟨b,i+1,n3,_,rfl,by go_num,by omega,aa M2,aa L2,aa R2⟩
         case measure=>simp [intOf];omega
        ·have M2:=ae (show Iw w w2 ca (some ⟨g2,0,none⟩) cn cc hl.length hc mb (n3+1) (jP K3 (gM p hd) (oZ K3 cs p hd)) from ⟨Iz,OJ,Fw⟩);have st:=(aa HC).step K3 (aa iq).1 p (aa HP).2 hd (aa HHM) (aa HKD) hx;have R2:=ae (show Hid (Fu cs (Iy ls hl j (i+1)) Inv mu N (n3+1) K1 (jP K3 (gM p hd) (oZ K3 cs p hd)) true) from ae ((aa iq).grow st.1 st.2));clear Iz OJ Fw hx st;go_wp2;go_roundw
         case rel=>exact ⟨true,i+1,n3+1,_,rfl,by go_num,by omega,aa M2,aa L2,aa R2⟩
         case measure=>simp [intOf];omega
       ·have PG:=Jv jw;have M2:=ae ma;have L2:=ae (hL.below ba);have R2:=ae (show Hid (Fu cs (Iy ls hl j (i+1)) Inv mu N n3 K1 K3 b) from ae ((aa iq).same (fun p' x hx=>by
         rcases hx with hx|⟨h1,k,hk,h2⟩
         ·exact .inl (.inl hx)
         ·by_cases e:k=i
          ·subst e;rw [(aa HP).1] at h1;rw [aa HH] at h2
           cases h1
           cases h2
           exact .inr (fun e=>absurd e jw)
          ·exact .inl (.inr ⟨h1,k,by omega,h2⟩))))
        clear gm OI Mr NR htn hcl ba hM hL ma jw hh NQ;go_wp2;go_roundw
        case rel=>exact ⟨b,i+1,n3,_,rfl,by go_num,by omega,aa M2,aa L2,aa R2⟩
        case measure=>simp [intOf];omega
      ·have hin:¬((i:Int)<(hl.length:Int)):=by omega
       have Ph:=ae hM;clear hM hL;go_wp2;go_roundw
       case rel=>exact ⟨b,j+1,n3,K3,rfl,by go_num,by omega,aa Ph,ae ((aa iq).same (fun p' x hx=>by
        obtain ⟨k,hk,h1,h2⟩:=hx;left
        by_cases e:k=j
        ·subst e;obtain ⟨q,hq,rfl⟩:=List.getElem_of_mem h2;exact .inr ⟨h1,q,by omega,Qw hq⟩
        ·exact .inl ⟨k,by omega,h1,h2⟩))⟩
       case measure=>simp [intOf];omega
    ·have hjn:¬((j:Int)<(ls.length:Int)):=by omega
     have Ps:=ae hM;clear hM;go_wp2
     go_roundg (2*mu K2+(if b then 1 else 0)+1)
     case measure=>
      have h1:=(aa HR).2.2.2;have h2:=aa cu
      cases b with
      |false=>simp at h1 ⊢;rw [(h2.2.2.1 rfl).1];omega
      |true=>have:=h2.2.2.2 rfl;simp at h1 ⊢;omega
     case rel=>exact ⟨b,n2,K2,rfl,aa Ps,ae ⟨(aa cu).1,(aa cu).2.1,(fun e p hp h hh=>by
      obtain ⟨i,hi,rfl⟩:=List.getElem_of_mem hp;have h3:=(aa cu).2.2.1 e;rw [h3.1];exact h3.2 _ h ⟨i,by omega,Qw hi,hh⟩),(by omega)⟩⟩
def Clo (cs:List Tg) (ls:List (It×Value)) (hl:List Hd) (K:Sj→Nat):Prop:=∀p∈ls,∀h∈hl,h.kd=p.1.1.1.name→ou (oZ K cs p h) (K (gM p h))
structure Fx (cs:List Tg) (ls:List (It×Value)) (hl:List Hd) (K0 K:Sj→Nat):Prop where
 g:NN cs ls hl K0 K
 least:∀K',(∀s,lh cs.length (K' s))→(∀s,¬Li ls hl s→K' s=K0 s)→Clo cs ls hl K'→∀s,ou (K s) (K' s)
theorem Dt {cs:List Tg} {ls:List (It×Value)} {hl:List Hd} (hc:cs.length≤64) (G:Fs ls hl) (K0:Sj→Nat):PW cs hl ls (Fx cs ls hl K0) (gB (xC ls hl)) where
 bits:=fun K I=>(oC hc G K0).bits K I.g
 val:=fun K I=>(oC hc G K0).val K I.g
 step:=fun K I p hp h hh hm hne=>by
  obtain ⟨h1,h2⟩:=(oC hc G K0).step K I.g p hp h hh hm hne;refine ⟨⟨h1,fun K' o' old' Ac s=> ?_⟩,h2⟩;unfold jP
  split
  ·rename_i e;subst e;refine fun i hi=>Ac p hp h hh hm i (xD hc I.g.out o' (I.least K' o' old' Ac) (fun s hs=> ?_) i hi)
   have hn:=G.str p hp h hh hm s hs;rw [I.g.old s hn,old' s hn]
  ·exact I.least K' o' old' Ac s
structure Hp where
 kd:Qx
 id:Qx
 ts:List Tu
def iZ (h:Hd):Hp:=⟨h.kd,h.id,h.ts⟩
def rX (K:Sj→Nat) (cs:List Tg) (x:TR) (h:Hp):Nat:=bO ⟨K,cs,h.kd,h.id,h.ts⟩ x.2.name x.2.body
def PZ (x:TR) (h:Hp):Sj:=⟨h.kd,h.id,x.2.name⟩
def Ad (g:List TR) (hs:List Hp) (s:Sj):Prop:=∃x∈g,∃h∈hs,h.kd=x.1.name∧s=PZ x h
structure P5 (cs:List Tg) (hs:List Hp) (g:List TR) (K0 K:Sj→Nat):Prop where
 out:∀s,lh cs.length (K s)
 old:∀s,¬Ad g hs s→K s=K0 s
 fix:∀x∈g,∀h∈hs,h.kd=x.1.name→rX K cs x h=K (PZ x h)
 least:∀K',(∀s,lh cs.length (K' s))→(∀s,¬Ad g hs s→K' s=K0 s)→(∀x∈g,∀h∈hs,h.kd=x.1.name→ou (rX K' cs x h) (K' (PZ x h)))→∀s,ou (K s) (K' s)
theorem A7 {ls:List (It×Value)} {hl:List Hd} {s:Sj}:Ad (ls.map fun p=>Fq p.1) (hl.map iZ) s↔Li ls hl s:=by
 constructor
 ·rintro ⟨x,hx,h,hh,e1,e2⟩;obtain ⟨p,hp,rfl⟩:=List.mem_map.1 hx;obtain ⟨y,hy,rfl⟩:=List.mem_map.1 hh;exact ⟨p,hp,y,hy,e1,e2⟩
 ·rintro ⟨p,hp,y,hy,e1,e2⟩;exact ⟨_,List.mem_map.2 ⟨p,hp,rfl⟩,_,List.mem_map.2 ⟨y,hy,rfl⟩,e1,e2⟩
theorem Ll {cs:List Tg} {ls:List (It×Value)} {hl:List Hd} {K0 K:Sj→Nat} (h:Fx cs ls hl K0 K) (f:Aa cs ls hl K):P5 cs (hl.map iZ) (ls.map fun p=>Fq p.1) K0 K where
 out:=h.g.out
 old:=fun s hs=>h.g.old s (fun e=>hs (A7.2 e))
 fix:=fun x hx y hy e=>by
  obtain ⟨p,hp,rfl⟩:=List.mem_map.1 hx;obtain ⟨z,hz,rfl⟩:=List.mem_map.1 hy;exact f p hp z hz e
 least:=fun K' o' old' Ac=>h.least K' o' (fun s hs=>old' s (fun e=>hs (A7.1 e))) (fun p hp z hz e=>Ac _ (List.mem_map.2 ⟨p,hp,rfl⟩) _ (List.mem_map.2 ⟨z,hz,rfl⟩) e)
def Run (cs:List Tg) (hs:List Hp):List (List TR)→(Sj→Nat)→(Sj→Nat)→Prop
 | [],K,K'=>K'=K
 |g::gs,K,K'=>∃K1,P5 cs hs g K K1∧Run cs hs gs K1 K'
theorem A8 {cs:List Tg} {hs:List Hp}:∀{gs gs':List (List TR)} {K A B:Sj→Nat},Run cs hs gs K A→Run cs hs gs' A B→Run cs hs (gs++gs') K B
 | [],gs',K,A,B,h,k=>by obtain rfl:=(show A=K from h);exact k
 |g::gs,gs',K,A,B,⟨K1,h1,h2⟩,k=>⟨K1,h1,A8 h2 k⟩
theorem A9 {cs:List Tg} {hs:List Hp}:∀{gs:List (List TR)} {K A:Sj→Nat},Run cs hs gs K A→∀s,(∀g∈gs,¬Ad g hs s)→A s=K s
 | [],K,A,h,s,_=>by rw [show A=K from h]
 |g::gs,K,A,⟨K1,h1,h2⟩,s,hn=>by
  rw [A9 h2 s (fun g' hg=>hn g' (List.mem_cons_of_mem _ hg)),h1.old s (hn g List.mem_cons_self)]
theorem uW {cs:List Tg} {hs:List Hp}:∀{gs:List (List TR)} {K A:Sj→Nat},Run cs hs gs K A→(∀s,lh cs.length (K s))→∀s,lh cs.length (A s)
 | [],K,A,h,ho=>by rw [show A=K from h];exact ho
 |g::gs,K,A,⟨K1,h1,h2⟩,_=>uW h2 h1.out
structure Du (gs:List (List TR)) (hs:List Hp):Prop where
 hds:∀h∈hs,∀h'∈hs,h.kd=h'.kd→h.id=h'.id→h=h'
 lns:∀g∈gs,∀x∈g,∀y∈g,x.1.name=y.1.name→x.2.name=y.2.name→x.2.body=y.2.body
 ap:gs.Pairwise fun g g'=>∀x∈g,∀y∈g',¬(x.1.name=y.1.name∧x.2.name=y.2.name)
 str:∀g∈gs,∀x∈g,∀h∈hs,h.kd=x.1.name→∀s,DY h.kd h.id h.ts x.2.name x.2.body s→¬Ad g hs s
structure Ms (x:TR):Prop where
 wf:CZ x.2.body
 len:(aA x.2.name 0 x.2.body).length<40000
 name:x.2.name.size≤maxLen
 rel:∀i∈dZ x.2.name x.2.body,i.rel.size≤maxLen
theorem Ms.ok {p:It×Value} (h:Ms (Fq p.1)):Lh p:=⟨h.wf,h.len,h.name,h.rel⟩
theorem Fy {gs:List (List TR)} {hl:List Hd} {ls:List (It×Value)} (h:Du gs (hl.map iZ)) (hg:(ls.map fun p=>Fq p.1)∈gs) (hd:∀x∈hl,∀y∈hl,x.kd=y.kd→x.id=y.id→x=y):Fs ls hl where
 hds:=hd
 lns:=fun p hp q hq e1 e2=>h.lns _ hg _ (List.mem_map.2 ⟨p,hp,rfl⟩) _ (List.mem_map.2 ⟨q,hq,rfl⟩) e1 e2
 str:=fun p hp y hy e s hs ht=>h.str _ hg _ (List.mem_map.2 ⟨p,hp,rfl⟩) _ (List.mem_map.2 ⟨y,hy,rfl⟩) e s hs (A7.2 ht)
theorem Ae {cs:List Tg} {ls:List (It×Value)} {hl:List Hd} {K:Sj→Nat} (ho:∀s,lh cs.length (K s)) (hz:∀s,Li ls hl s→K s=0):Fx cs ls hl K K where
 g:=⟨ho,fun _ _=>rfl,fun p hp h hh e i hi=>by rw [hz _ ⟨p,hp,h,hh,e,rfl⟩] at hi;simp at hi⟩
 least:=fun K' _ old' _ s i hi=>by
  by_cases ht:Li ls hl s
  ·rw [hz s ht] at hi;simp at hi
  ·rw [old' s ht];exact hi
theorem Fz {cs:List Tg} {hs:List Hp} {pre:List (List TR)} {g:List TR} {K:Sj→Nat} (hr:Run cs hs pre (fun _=>0) K) (hap:∀g'∈pre,∀x∈g',∀y∈g,¬(x.1.name=y.1.name∧x.2.name=y.2.name)) (s:Sj) (ht:Ad g hs s):K s=0:=by
 obtain ⟨y,hy,h,hh,e1,rfl⟩:=ht;refine A9 hr _ (fun g' hg ⟨x,hx,h',hh',e2,e3⟩=>hap g' hg x hx y hy ⟨?_,?_⟩)
 ·have:h'.kd=h.kd:=(congrArg Sj.kind e3).symm;rw [←e2,←e1,this]
 ·exact (congrArg Sj.rel e3).symm
