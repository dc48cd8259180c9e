import Derived.Test.YtlbpnlngckgcbaaGreatDoorM22
import Derived.OrdersHeld
import Derived.OrdersIn
set_option linter.all false
set_option maxHeartbeats 4000000
set_option maxRecDepth 100000
namespace Go.Proofs.YtlbpnlngckgcbaaGreatDoor
open Go.RowKit Go.PlainAid
theorem NA.below {w w':World} {ca ia ha ta:Option Addr} {cn cc il ic hn hc tn tc mb n:Nat} {v:ui} {code:List Ins} (h:NA w ca ia ha ta cn cc il ic hn hc tn tc mb n v code) (k:Below w.heap.size w w'):NA w' ca ia ha ta cn cc il ic hn hc tn tc mb n v code:=
 ⟨h.kn.block (k.block mb h.kn.lt),h.cr.below k,aF h.ln k,h.ho.below k,h.pos,h.bits,h.kd,h.id,h.rel,h.sub,h.len⟩
def Mo (mb n:Nat) (K:Sj→Nat) (s:Sj) (X:Nat) (w:World) (e:Ending) (w':World):Prop:=
 aS (fun k=>k=mb) w w'∧((X=K s∧e=.returned (.bool false)∧nW w' mb n K)∨(X≠K s∧e=.returned (.bool true)∧nW w' mb (n+1) (jY K s X)))
theorem DW (w:World) (ca ia ha ta:Option Addr) (cn cc il ic hn hc tn tc mb n:Nat) (v:ui) (OV rel:RJ) (ex:Ex) (h:NA w ca ia ha ta cn cc il ic hn hc tn tc mb n v (eF rel ex)) (hw:Bq ex) (hl:(aB rel 0 ex).length<40000) (hrel:rel.size≤maxLen) (hX:bW v rel ex<18446744073709551616) (hnm:n<maxLen):
  Calls Tryz.prog 149 #[.agg #[.slice ca cn cc,.slice ha hn hc,.map (some mb)],.agg #[.string OV,.string rel,.slice ia il ic],.agg #[.string v.kd,.string v.id,.slice ta tn tc]] w (Mo mb n v.K ⟨v.kd,v.id,rel⟩ (bW v rel ex) w):=by
 have hsj:lF ⟨v.kd,v.id,rel⟩:=⟨h.kd,h.id,hrel⟩;have hG:=DR (v:=v) rel ex hw hl;generalize bW v rel ex=X at*;have b4:Below w.heap.size w ((((w.alloc (.cells #[.slice ca cn cc,.slice ha hn hc,.map (some mb)] 189)).alloc (.cells #[.string OV,.string rel,.slice ia il ic] 201)).alloc (.cells #[.string v.kd,.string v.id,.slice ta tn tc] 282)).alloc (.cells #[.string v.kd,.string v.id,.string rel] 102)):=((((Below.refl w.heap.size w).alloc RH (.cells #[.slice ca cn cc,.slice ha hn hc,.map (some mb)] 189)).alloc (by simp) (.cells #[.string OV,.string rel,.slice ia il ic] 201)).alloc (by simp;omega) (.cells #[.string v.kd,.string v.id,.slice ta tn tc] 282)).alloc (by simp;omega) (.cells #[.string v.kd,.string v.id,.string rel] 102);have C:=ae (DV _ ca ia ha ta cn cc il ic hn hc tn tc mb n v (eF rel ex) (h.below b4) (aB rel 0 ex).length X hG (Gb rel ex));have PK:=ae ((((ag.new w #[.slice ca cn cc,.slice ha hn hc,.map (some mb)] 189).alloc (.cells #[.string OV,.string rel,.slice ia il ic] 201)).alloc (.cells #[.string v.kd,.string v.id,.slice ta tn tc] 282)).alloc (.cells #[.string v.kd,.string v.id,.string rel] 102));have PS:=ae (ag.new' (((w.alloc (.cells #[.slice ca cn cc,.slice ha hn hc,.map (some mb)] 189)).alloc (.cells #[.string OV,.string rel,.slice ia il ic] 201)).alloc (.cells #[.string v.kd,.string v.id,.slice ta tn tc] 282)) #[.string v.kd,.string v.id,.string rel] 102 (w.heap.size+3) (by simp));have B4:=ae b4;have HK:=ae h.kn;clear b4 h hG;go_enter Tryz.func149,Tryz.ntmps149;go_wp2_with fail;refine (aa C).mono ?_;rintro e w1 ⟨rfl,hb1⟩;have b1:=(aa B4).trans (hb1.mono (aa B4).size);obtain ⟨c0,c1,c2⟩:=three ((aa PK).below hb1);obtain ⟨d0,d1,d2⟩:=three ((aa PS).below hb1);have OW:=(aa HK).block (b1.block mb (aa HK).lt);have hL:=OW.look hsj;unfold rW at hL;dsimp only at hL;have B1:=ae b1;clear C PK PS B4 hb1 b1
 by_cases hx:X=v.K ⟨v.kd,v.id,rel⟩
 ·have hq:((X:Int)==((v.K ⟨v.kd,v.id,rel⟩:Nat):Int))=true:=by rw [←hx];simp
  have KN1:=ae OW;clear OW;go_wp2;go_ret;exact ⟨.of_below (aa B1),.inl ⟨hx,rfl,aa KN1⟩⟩
 ·have hq:((X:Int)==((v.K ⟨v.kd,v.id,rel⟩:Nat):Int))=false:=by
   rw [beq_eq_false_iff_ne];intro e;exact hx (by omega)
  obtain ⟨w2,hU,kn2,hg2⟩:=OW.upd hnm hsj hX;unfold rW at hU;dsimp only at hU;have KN2:=ae kn2;have G2:=ae hg2;clear OW kn2 hg2;go_wp2;go_ret;refine ⟨?_,.inr ⟨hx,rfl,aa KN2⟩⟩;exact (aS.of_below (aa B1)).trans (fV (aa G2) (fun k hk=>by simpa using hk.symm))
def jX {α:Type} (n:Nat) (g:List (List α)):List (List α):=g++List.replicate (n-g.length) []
def gW {α:Type} (n:Nat) (x:α) (g:List (List α)):List (List α):=(jX n g).set (n-1) ((jX n g).getD (n-1) []++[x])
def gI {α:Type} (rk:α→Nat) (l:List α):List (List α):=l.foldl (fun g x=>gW (rk x) x g) []
theorem vG {α:Type} (rk:α→Nat) (l:List α) (x:α):gI rk (l++[x])=gW (rk x) x (gI rk l):=by simp [gI]
def EN (x:It):List Value:=[.string x.1.1.name,.int .i64 x.2.1.place,.string x.2.1.name,x.2.2]
structure kZ (base:Nat) (w:World) (sv:Value) (ps:List (Value×List It)):Prop where
 row:w.ownsRow base 196 1 sv ps.length (ps.map Prod.fst)
 inn:∀p∈ps,w.ownsRow base 198 4 p.1 p.2.length (p.2.flatMap EN)
 ap:ps.Pairwise (fun p q=>∀k,p.1.ownBlock=some k→q.1.ownBlock≠some k)
theorem kZ.frame {base:Nat} {w w':World} {sv:Value} {ps:List (Value×List It)} (h:kZ base w sv ps) (k:∀(g:Nat) (cs:Array Value) (T:TypeId) (f:Nat×Nat),w.heap[g]? =some (Obj.cells cs T f)→(T=196∨T=198)→w'.heap[g]? =w.heap[g]?):kZ base w' sv ps:=
 ⟨ai h.row (fun g cs f _ hh=>k g cs _ f hh (.inl rfl)),fun p hp=>ai (h.inn p hp) (fun g cs f _ hh=>k g cs _ f hh (.inr rfl)),h.ap⟩
theorem kZ.below {base:Nat} {w w':World} {sv:Value} {ps:List (Value×List It)} (h:kZ base w sv ps) (k:Below w.heap.size w w'):kZ base w' sv ps:=h.frame (fun g cs T f hh _=>k.block g (lt_of_some hh))
def DX (sv:Value) (ps:List (Value×List It)) (k:Nat):Prop:=sv.ownBlock=some k∨∃p∈ps,p.1.ownBlock=some k
theorem kZ.lt {base:Nat} {w:World} {sv:Value} {ps:List (Value×List It)} (h:kZ base w sv ps) {k:Nat} (hk:DX sv ps k):base≤k∧k<w.heap.size:=by
 rcases hk with e|⟨p,hp,e⟩
 ·exact h.row.lt k e
 ·exact (h.inn p hp).lt k e
theorem Gh {w:World} {base:Nat} {e:TypeId} {size:Nat} {v:Value} {n:Nat} {xs:List Value} (h:w.ownsRow base e size v n xs) {k:Nat} (hk:v.ownBlock=some k):∃cs,ag w k cs e:=by
 rcases h.2 with ⟨rfl,_⟩|⟨g,cap,cur,rfl,_,hh,_⟩
 ·cases hk
 ·simp only [Value.ownBlock,Option.some.injEq] at hk;subst hk;exact ⟨cur,hh⟩
theorem kZ.ty {base:Nat} {w:World} {sv:Value} {ps:List (Value×List It)} (h:kZ base w sv ps) {k:Nat} (hk:DX sv ps k):∃cs T,ag w k cs T∧(T=196∨T=198):=by
 rcases hk with e|⟨p,hp,e⟩
 ·obtain ⟨cs,hb⟩:=Gh h.row e;exact ⟨cs,_,hb,.inl rfl⟩
 ·obtain ⟨cs,hb⟩:=Gh (h.inn p hp) e;exact ⟨cs,_,hb,.inr rfl⟩
theorem kZ.off {base:Nat} {w:World} {sv:Value} {ps:List (Value×List It)} (h:kZ base w sv ps) {g:Nat} {cs:Array Value} {T:TypeId} (hb:ag w g cs T) (h1:T≠196) (h2:T≠198):¬DX sv ps g:=fun e=>by
 obtain ⟨cs',T',hb',hT⟩:=h.ty e;unfold ag at hb hb';rw [hb] at hb'
 cases hb'
 rcases hT with e|e
 ·exact h1 e
 ·exact h2 e
structure sJ (sb:Nat) (sv:Value) (ps:List (Value×List It)) (w w':World) (qc:Value) (ps':List (Value×List It)):Prop where
 but:aS (fun k=>k=sb∨DX sv ps k) w w'
 own:∀k,DX qc ps' k→DX sv ps k∨w.heap.size≤k
section
variable {sb:Nat} {sv qc OY:Value} {ps ps' OZ:List (Value×List It)} {w w' w'':World}
theorem sJ.below (h:Below w.heap.size w w'):sJ sb sv ps w w' sv ps:=⟨.of_below h,fun _ e=> .inl e⟩
theorem sJ.trans (h:sJ sb sv ps w w' qc ps') (k:sJ sb qc ps' w' w'' OY OZ):sJ sb sv ps w w'' OY OZ where
 but:=⟨k.but.os.trans h.but.os,k.but.tape.trans h.but.tape,k.but.output.trans h.but.output,Nat.le_trans h.but.size k.but.size,fun i hi hs=>(k.but.block i (Nat.lt_of_lt_of_le hi h.but.size) (fun e=>by
  rcases e with e|e
  ·exact hs (.inl e)
  ·rcases h.own i e with e|e
   ·exact hs (.inr e)
   ·omega)).trans (h.but.block i hi hs)⟩
 own:=fun i hi=>by
  rcases k.own i hi with e|e
  ·exact h.own i e
  ·exact .inr (Nat.le_trans h.but.size e)
theorem kZ.push {base g cap:Nat} (h:kZ base w sv ps) (hg:w.grownBy w' sv.ownBlock) (hown:w'.ownsRow base 196 1 (.slice (some ⟨g,0,none⟩) (ps.length+1) cap) (ps.length+1) (ps.map Prod.fst++[.slice none 0 0])):kZ base w' (.slice (some ⟨g,0,none⟩) (ps.length+1) cap) (ps++[(.slice none 0 0,[])]):=by
 refine ⟨by simpa using hown,fun p hp=> ?_,?_⟩
 ·rcases List.mem_append.1 hp with hp|hp
  ·exact ai (h.inn p hp) (fun g cs f _ hh=>hg.block g (lt_of_some hh) (dH h.row hh (by decide)))
  ·rw [List.mem_singleton] at hp;subst hp;exact World.ownsRow_nil _ _ _ _
 ·refine List.pairwise_append.2 ⟨h.ap,by simp,fun p _ q hq k hk e=> ?_⟩;rw [List.mem_singleton] at hq;subst hq;simp [Value.ownBlock] at e
theorem sJ.push {base g cap:Nat} (h:kZ base w sv ps) (hg:w.grownBy w' sv.ownBlock) (hat:sv.ownBlock=some g∨w.heap.size≤g) (u:Value):sJ sb sv ps w (w'.setCell ⟨sb,0,none⟩ u) (.slice (some ⟨g,0,none⟩) (ps.length+1) cap) (ps++[(.slice none 0 0,[])]):=by
 refine ⟨(fV hg (fun k hk=> .inr (.inl hk))).set (.inl rfl) _,fun k hk=> ?_⟩
 rcases hk with e|⟨p,hp,e⟩
 ·simp only [Value.ownBlock,Option.some.injEq] at e;subst e
  rcases hat with e|e
  ·exact .inl (.inl e)
  ·exact .inr e
 ·rcases List.mem_append.1 hp with hp|hp
  ·exact .inl (.inr ⟨p,hp,e⟩)
  ·rw [List.mem_singleton] at hp;subst hp;simp [Value.ownBlock] at e
theorem kZ.put {base g0 c0 g cap i:Nat} {p:Value×List It} {x:It} (h:kZ base w (.slice (some ⟨g0,0,none⟩) ps.length c0) ps) (hi:ps[i]? =some p) (hg:w.grownBy w' p.1.ownBlock) (hown:w'.ownsRow base 198 4 (.slice (some ⟨g,0,none⟩) (p.2.length+1) cap) (p.2.length+1) (p.2.flatMap EN++EN x)) (hat:p.1.ownBlock=some g∨w.heap.size≤g):
  kZ base (w'.setCell ⟨g0,i,none⟩ (.slice (some ⟨g,0,none⟩) (p.2.length+1) cap)) (.slice (some ⟨g0,0,none⟩) ps.length c0) (ps.set i (.slice (some ⟨g,0,none⟩) (p.2.length+1) cap,p.2++[x])):=by
 have hil:i<ps.length:=by
  rcases Nat.lt_or_ge i ps.length with h|h
  ·exact h
  ·rw [List.getElem?_eq_none h] at hi;cases hi
 have hp:p∈ps:=List.mem_of_getElem? hi;have hpe:ps[i]=p:=by rw [RI hil] at hi;exact Option.some.inj hi
 have r1:w'.ownsRow base 196 1 (.slice (some ⟨g0,0,none⟩) ps.length c0) ps.length (ps.map Prod.fst):=ai h.row (fun g cs f _ hh=>hg.block g (lt_of_some hh) (dH (h.inn p hp) hh (by decide)));obtain ⟨cur,hb,_⟩:=dS r1;have hap:=List.pairwise_iff_getElem.1 h.ap;refine ⟨?_,fun q hq=> ?_,?_⟩
 ·have:=qb r1 i (.slice (some ⟨g,0,none⟩) (p.2.length+1) cap);rw [List.length_set,List.map_set];exact this
 ·obtain ⟨j,hj,rfl⟩:=List.getElem_of_mem hq;rw [List.length_set] at hj;refine bD ?_ hb (by decide) _ _
  by_cases e:i=j
  ·subst e;rw [List.getElem_set_self];simp only [List.length_append,List.length_cons,List.length_nil,List.flatMap_append,List.flatMap_cons,List.flatMap_nil,List.append_nil];exact hown
  ·rw [List.getElem_set_ne e];refine dU (h.inn _ (List.getElem_mem hj)) (fun k cs f hk hh=>hg.block k (lt_of_some hh) (fun ek=> ?_))
   rcases Nat.lt_or_gt_of_ne e with hlt|hlt
   ·exact hap i j hil hj hlt k (by rw [hpe];exact ek.symm) hk
   ·exact hap j i hj hil hlt k hk (by rw [hpe];exact ek.symm)
 ·refine List.pairwise_iff_getElem.2 (fun a b ha hb' hab k hk e=> ?_);rw [List.length_set] at ha hb';have old:∀j (hj:j<ps.length),j≠i→ps[j].1.ownBlock=some k→g=k→False:=fun j hj O8 hk e=>by
   subst e
   rcases hat with e|e
   ·rcases Nat.lt_or_gt_of_ne O8 with hlt|hlt
    ·exact hap j i hj hil hlt g hk (by rw [hpe];exact e)
    ·exact hap i j hil hj hlt g (by rw [hpe];exact e) hk
   ·have:=((h.inn _ (List.getElem_mem hj)).lt g hk).2;omega
  by_cases ea:i=a
  ·subst ea;rw [List.getElem_set_self] at hk;rw [List.getElem_set_ne (by omega)] at e;exact old b hb' (by omega) e (by simpa [Value.ownBlock] using hk)
  ·rw [List.getElem_set_ne ea] at hk
   by_cases eb:i=b
   ·subst eb;rw [List.getElem_set_self] at e;exact old a ha (by omega) hk (by simpa [Value.ownBlock] using e)
   ·rw [List.getElem_set_ne eb] at e;exact hap a b ha hb' hab k hk e
theorem sJ.put {g0 c0 g cap i n:Nat} {p:Value×List It} {l:List It} (hi:ps[i]? =some p) (hg:w.grownBy w' p.1.ownBlock) (hat:p.1.ownBlock=some g∨w.heap.size≤g) (u:Value):
  sJ sb (.slice (some ⟨g0,0,none⟩) n c0) ps w (w'.setCell ⟨g0,i,none⟩ u) (.slice (some ⟨g0,0,none⟩) n c0) (ps.set i (.slice (some ⟨g,0,none⟩) (l.length) cap,l)):=by
 have hp:p∈ps:=List.mem_of_getElem? hi;refine ⟨(fV hg (fun k hk=> .inr (.inr ⟨p,hp,hk⟩))).set (.inr (.inl rfl)) _,fun k hk=> ?_⟩
 rcases hk with e|⟨q,hq,e⟩
 ·exact .inl (.inl e)
 ·rcases List.mem_or_eq_of_mem_set hq with hq|rfl
  ·exact .inl (.inr ⟨q,hq,e⟩)
  ·simp only [Value.ownBlock,Option.some.injEq] at e;subst e
   rcases hat with e|e
   ·exact .inl (.inr ⟨p,hp,e⟩)
   ·exact .inr e
theorem sJ.ck {base:Nat} {B:Nat} (h:kZ base w sv ps) (k:sJ sb sv ps w w' qc ps') (hb:ag w sb #[sv] 194):KeepsFrom B w w'∧CK w w':=by
 have key:∀(i:Nat) (o:Obj),w.heap[i]? =some o→(o.isCells=false∨∃cs T f,o=.cells cs T f∧MT T)→w'.heap[i]? =w.heap[i]? :=fun i o hi ho=>k.but.block i (lt_of_some hi) (fun e=>by
  rcases e with e|e
  ·subst e;unfold ag at hb;rw [hb] at hi
   cases hi
   rcases ho with ho|⟨cs,T,f,ho,ht⟩
   ·cases ho
   ·cases ho
    exact absurd ht (by unfold MT;decide)
  ·obtain ⟨cs,T,hbk,hT⟩:=h.ty e;unfold ag at hbk;rw [hbk] at hi
   cases hi
   rcases ho with ho|⟨cs',T',f',ho,ht⟩
   ·cases ho
   ·cases ho
    rcases hT with rfl|rfl<;>exact absurd ht (by unfold MT;decide))
 exact ⟨⟨k.but.size,fun i o _ hi ho=>(key i o hi (.inl ho)).trans hi⟩,k.but.size,fun g cs T f hh ht=>key g _ hh (.inr ⟨cs,T,f,rfl,ht⟩)⟩
theorem sJ.outer {base:Nat} {W0:World} (h:kZ base w sv ps) (k:sJ sb sv ps w w' qc ps') (h0:aS (fun k=>k=sb) W0 w) (hb:W0.heap.size≤base):aS (fun k=>k=sb) W0 w':=
 ⟨k.but.os.trans h0.os,k.but.tape.trans h0.tape,k.but.output.trans h0.output,Nat.le_trans h0.size k.but.size,fun i hi hs=>(k.but.block i (Nat.lt_of_lt_of_le hi h0.size) (fun e=>by
  rcases e with e|e
  ·exact hs e
  ·have:=(h.lt e).1;omega)).trans (h0.block i hi hs)⟩
theorem kZ.set {base g:Nat} {cs:Array Value} {T:TypeId} (h:kZ base w sv ps) (hb:ag w g cs T) (h1:T≠196) (h2:T≠198) (o:Nat) (u:Value):kZ base (w.setCell ⟨g,o,none⟩ u) sv ps:=⟨bD h.row hb h1 o u,fun p hp=>bD (h.inn p hp) hb h2 o u,h.ap⟩
theorem kZ.base {base base':Nat} (h:kZ base w sv ps) (hb:base'≤base):kZ base' w sv ps:=⟨aA h.row hb,fun p hp=>aA (h.inn p hp) hb,h.ap⟩
theorem kZ.oth {base:Nat} {row:Option Nat} (h:kZ base w sv ps) (hg:w.grownBy w' row) (hr:∀r,row=some r→∃o:Obj,w.heap[r]? =some o∧o.isCells=false):kZ base w' sv ps:=h.frame (fun g cs T f hh _=>hg.block g (lt_of_some hh) (fun e=>by
 obtain ⟨o,ho,hc⟩:=hr g e.symm;rw [hh] at ho
 cases ho
 cases hc))
end
def qi:Op→Bool
 | .defer _=>true
 |_=>false
theorem rH {l n:Nat} {P:Program} {o:Oper} {a:Act} {w:World} {K:Act→World→Prop} {Q:Exit→Act→World→Prop} (hd:qi o.op=false) (h:o.wp P a w K Q):o.wpIn (Fence.wide.inRound l) n P a w K Q:=by
 refine ⟨fun _ _=>trivial,?_⟩;rw [show (Fence.wide.inRound l).round=some l from rfl,Oper.semAt_some l _ _ (fun c e=>by rw [e] at hd;cases hd)];unfold Oper.wp at h;generalize (execOp a.eval o).run P w=r at*
 cases r with
 |ok x w'=>
  cases x<;>simp only [Oper.upon,Oper.uponIn] at h ⊢<;>first|exact h|exact ⟨(fun e=>by cases e),CallsIn.inRound l (callsIn_wide.2 h)⟩|exact ⟨(fun e=>by cases e),fun c cs _=>let ⟨v,w',r,s⟩:=h c cs;⟨v,w',r,stepsIn_wide.2 s⟩⟩
 |halt x w'=>cases x<;>simp only [Oper.upon,Oper.uponIn] at h ⊢<;>exact h
theorem lg {l n:Nat} {P:Program} {md:Region.Mode} {ops:Array Oper} {Q:Exit→Act→World→Prop} (hd:∀(i:Nat) (o:Oper),ops[i]? =some o→qi o.op=false) (hL:¬LetsOut Q):∀(fuel:Nat) (listed:Array Bool) (a:Act) (w:World),wpAny P md ops Q fuel listed a w→wpAnyIn (Fence.wide.inRound l) n P md ops Q fuel listed a w
 |0,_,_,_,h=>h
 |fuel+1,listed,a,w,h=>⟨h.1,fun i hi=>by
  have hh:=h.2 i hi;unfold wpOp at hh;unfold wpOpIn
  cases ho:ops[i]? with
  |none=>
   simp only [ho] at hh ⊢;exact lg hd hL fuel _ _ _ hh
  |some o=>
   simp only [ho] at hh ⊢
   by_cases hw:Region.wanted o (yielded ops a.tmps)=true
   ·rw [if_pos hw] at hh ⊢
    rcases hh with hh|⟨_,hh⟩
    ·exact Oper.wpIn_mono (fun a w=>lg hd hL fuel _ a w) (rH (hd i o ho) hh)
    ·exact absurd hh hL
   ·rw [if_neg hw] at hh ⊢;exact ⟨fun _ _=>trivial,lg hd hL fuel _ _ _ hh⟩⟩
def QN (Q:Exit→Act→World→Prop):Exit→Act→World→Prop:=fun e a w=>e=.normal∧Q .normal a w
theorem nQ {S:World→Prop} {l n id:Nat} {P:Program} {ops:Array Oper} {Q:Exit→Act→World→Prop} {a:Act} {w:World} (hm:P.follows .mixedOrders=true) (hd:(ops.all fun o=> !(qi o.op))=true) (hS:S w.drew)
  (h:S w.drew→wpAnyH P .any ops (QN Q) S ops.size (Array.replicate ops.size false) a w.drew):(Code.region id ops true).wpIn (Fence.wide.inRound l) n P Q a w:=by
 have hL:¬LetsOut (QN Q):=by
  rintro ⟨_,_,e,_⟩
  cases e
 have hd':∀(i:Nat) (o:Oper),ops[i]? =some o→qi o.op=false:=fun i o ho=>by
  obtain ⟨hi,rfl⟩:=Array.getElem?_eq_some_iff.1 ho
  simpa using Array.all_eq_true.1 hd i hi
 exact wpIn_mono (Q:=QN Q) (wpIn_region_any hm (lg hd' hL _ _ _ _ (wpAny_of_held _ _ _ _ (h hS)))) (fun e a w h=>by rw [h.1];exact h.2)
