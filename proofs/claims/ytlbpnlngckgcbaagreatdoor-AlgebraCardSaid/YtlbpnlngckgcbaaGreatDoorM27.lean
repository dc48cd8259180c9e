import Derived.Test.YtlbpnlngckgcbaaGreatDoorM26
set_option linter.all false
set_option maxHeartbeats 4000000
set_option maxRecDepth 100000
namespace Go.Proofs.YtlbpnlngckgcbaaGreatDoor
open Go.RowKit Go.PlainAid
def lm (h:Hp) (t:Tu):Bool:=zW ⟨h.kd,h.id⟩ ⟨t.kind,t.id⟩
def vg (i:Nat) (t:Tu) (l:List Hp):List Hp:=match l[i]? with
 |some h=>l.set i ⟨h.kd,h.id,h.ts++[t]⟩
 |none=>l
def qR (l:List Hp) (t:Tu):List Hp:=match l.findIdx? (fun h=>lm h t) with
 |some i=>vg i t l
 |none=>vg l.length t (l++[⟨t.kind,t.id,[]⟩])
def dn (gs:List Tu):List Hp:=gs.foldl qR []
theorem qU (gs:List Tu) (t:Tu):dn (gs++[t])=qR (dn gs) t:=by simp [dn]
structure Bb (base:Nat) (w:World) (hv:Value) (hl:List Hd):Prop where
 row:w.ownsRow base 282 3 hv hl.length (hl.flatMap AZ)
 tup:∀h∈hl,w.ownsRow base 123 6 h.tv h.ts.length (h.ts.flatMap gL)
 ap:hl.Pairwise (fun p q=>∀k,p.tv.ownBlock=some k→q.tv.ownBlock≠some k)
section
variable {base g cap i:Nat} {w w' W w5:World} {hv:Value} {hl:List Hd} {t:Tu}
theorem Bb.below (h:Bb base w hv hl) (k:Below w.heap.size w w'):Bb base w' hv hl:=⟨aM h.row k,fun x hx=>aM (h.tup x hx) k,h.ap⟩
theorem Bb.push {kd id:Qx} (h:Bb base w hv hl) (hg:w.grownBy w' hv.ownBlock) (hown:w'.ownsRow base 282 3 (.slice (some ⟨g,0,none⟩) (hl.length+1) cap) (hl.length+1) (hl.flatMap AZ++[.string kd,.string id,.slice none 0 0])):Bb base w' (.slice (some ⟨g,0,none⟩) (hl.length+1) cap) (hl++[⟨kd,id,[],.slice none 0 0⟩]):=by
 refine ⟨by simpa [AZ] using hown,fun p hp=> ?_,?_⟩
 ·rcases List.mem_append.1 hp with hp|hp
  ·exact ai (h.tup p hp) (fun g cs f _ hh=>hg.block g (lt_of_some hh) (dD h.row hh (by decide)))
  ·rw [List.mem_singleton] at hp;subst hp;exact World.ownsRow_nil _ _ _ _
 ·refine List.pairwise_append.2 ⟨h.ap,by simp,fun p _ q hq k hk e=> ?_⟩;rw [List.mem_singleton] at hq;subst hq;simp [Value.ownBlock] at e
theorem FJ (x:Hd) (u:Value) (ts:List Tu):∀(l:List Hd) (k:Nat),l[k]? =some x→(l.flatMap AZ).set (k*3+2) u=(l.set k ⟨x.kd,x.id,ts,u⟩).flatMap AZ
 | [],k,h=>by simp at h
 |y::l,0,h=>by
  simp only [List.getElem?_cons_zero,Option.some.injEq] at h;subst h
  rfl
 |y::l,k+1,h=>by
  have ih:=FJ x u ts l k (by simpa using h);rw [List.flatMap_cons,List.set_append_right _ _ (by show 3≤_;omega),show (k+1)*3+2-(AZ y).length=k*3+2 by show (k+1)*3+2-3=_;omega,ih,List.set_cons_succ,List.flatMap_cons]
theorem Bb.put {g0 c0:Nat} {p:Hd} (h:Bb base w (.slice (some ⟨g0,0,none⟩) hl.length c0) hl) (hi:hl[i]? =some p) (hg:w.grownBy w' p.tv.ownBlock) (hown:w'.ownsRow base 123 6 (.slice (some ⟨g,0,none⟩) (p.ts.length+1) cap) (p.ts.length+1) (p.ts.flatMap gL++gL t)) (hat:p.tv.ownBlock=some g∨w.heap.size≤g):
  Bb base (w'.setCell ⟨g0,i*3+2,none⟩ (.slice (some ⟨g,0,none⟩) (p.ts.length+1) cap)) (.slice (some ⟨g0,0,none⟩) hl.length c0) (hl.set i ⟨p.kd,p.id,p.ts++[t],.slice (some ⟨g,0,none⟩) (p.ts.length+1) cap⟩):=by
 have hil:i<hl.length:=(List.getElem?_eq_some_iff.1 hi).1;have hp:p∈hl:=List.mem_of_getElem? hi;have hpe:hl[i]=p:=by rw [Qw hil] at hi;exact Option.some.inj hi
 have r1:w'.ownsRow base 282 3 (.slice (some ⟨g0,0,none⟩) hl.length c0) hl.length (hl.flatMap AZ):=ai h.row (fun g cs f _ hh=>hg.block g (lt_of_some hh) (dD (h.tup p hp) hh (by decide)));obtain ⟨cur,hb,_⟩:=fT r1;have hap:=List.pairwise_iff_getElem.1 h.ap;refine ⟨?_,fun q hq=> ?_,?_⟩
 ·have:=uE r1 (i*3+2) (.slice (some ⟨g,0,none⟩) (p.ts.length+1) cap);rw [List.length_set,←FJ p _ _ hl i hi];exact this
 ·obtain ⟨j,hj,rfl⟩:=List.getElem_of_mem hq;rw [List.length_set] at hj;refine bn ?_ hb (by decide) _ _
  by_cases e:i=j
  ·subst e;rw [List.getElem_set_self];simp only [List.length_append,List.length_cons,List.length_nil,List.flatMap_append,List.flatMap_cons,List.flatMap_nil,List.append_nil];exact hown
  ·rw [List.getElem_set_ne e];refine dO (h.tup _ (List.getElem_mem hj)) (fun k cs f hk hh=>hg.block k (lt_of_some hh) (fun ek=> ?_))
   rcases Nat.lt_or_gt_of_ne e with hlt|hlt
   ·exact hap i j hil hj hlt k (by rw [hpe];exact ek.symm) hk
   ·exact hap j i hj hil hlt k hk (by rw [hpe];exact ek.symm)
 ·refine List.pairwise_iff_getElem.2 (fun a b ha hb' hab k hk e=> ?_);rw [List.length_set] at ha hb';have old:∀j (hj:j<hl.length),j≠i→hl[j].tv.ownBlock=some k→g=k→False:=fun j hj ND hk e=>by
   subst e
   rcases hat with e|e
   ·rcases Nat.lt_or_gt_of_ne ND with hlt|hlt
    ·exact hap j i hj hil hlt g hk (by rw [hpe];exact e)
    ·exact hap i j hil hj hlt g (by rw [hpe];exact e) hk
   ·have:=((h.tup _ (List.getElem_mem hj)).lt g hk).2;omega
  by_cases ea:i=a
  ·subst ea;rw [List.getElem_set_self] at hk;rw [List.getElem_set_ne (by omega)] at e;exact old b hb' (by omega) e (by simpa [Value.ownBlock] using hk)
  ·rw [List.getElem_set_ne ea] at hk
   by_cases eb:i=b
   ·subst eb;rw [List.getElem_set_self] at e;exact old a ha (by omega) hk (by simpa [Value.ownBlock] using e)
   ·rw [List.getElem_set_ne eb] at e;exact hap a b ha hb' hab k hk e
theorem hold_close {g0 c0 pc yn n1:Nat} {pa:Option Addr} {W0:World} {kd id:Qx} {ts:List Tu} {o:Obj} (rG:n1=hl.length) (HB:Below W0.heap.size W0 W) (HI:Bb W0.heap.size W (.slice (some ⟨g0,0,none⟩) n1 c0) hl) (HP:hl[i]? =some ⟨kd,id,ts,.slice pa yn pc⟩) (IE:yn=ts.length)
  (hg:(W.alloc o).drew.grownBy w5 (Value.slice pa yn pc).ownBlock) (hown:w5.ownsRow W0.heap.size 123 6 (.slice (some ⟨g,0,none⟩) (yn+1) cap) (yn+1) (ts.flatMap gL++gL t)) (hat:(Value.slice pa yn pc).ownBlock=some g∨g=W.heap.size+1):
  Below W0.heap.size W0 (w5.setCell ⟨g0,i*3+2,none⟩ (.slice (some ⟨g,0,none⟩) (yn+1) cap))∧Bb W0.heap.size (w5.setCell ⟨g0,i*3+2,none⟩ (.slice (some ⟨g,0,none⟩) (yn+1) cap)) (.slice (some ⟨g0,0,none⟩) n1 c0) (hl.set i ⟨kd,id,ts++[t],.slice (some ⟨g,0,none⟩) (yn+1) cap⟩):=by
 subst IE;subst rG;have ba:Below W.heap.size W ((W.alloc o).drew):=((Below.refl _ W).alloc Qv o).drew;have IG:=HI.below ba;obtain ⟨cur,hb0,hge⟩:=fT HI.row;refine ⟨((HB.trans (ba.mono HB.size)).grown hg (Nat.le_trans HB.size ba.size) (fun k hk=>((HI.tup _ (List.mem_of_getElem? HP)).lt k hk).1)).setCell hge _,?_⟩;exact IG.put HP hg hown (hat.elim .inl (fun e=> .inr (by simp;omega)))
theorem tF {gs:List Tu} {k:Nat} {p p':Hd} (htk:gs.take (k+1)=gs.take k++[t]) (hst:vg i t (hl.map iZ)=dn (gs.take k++[t])∧hl.length≤k+1) (hp:hl[i]? =some p) (rM:∀h∈hl,h.ts.length≤k) (hpe:iZ p'=⟨p.kd,p.id,p.ts++[t]⟩):
  (hl.set i p').map iZ=dn (gs.take (k+1))∧(hl.set i p').length≤k+1∧∀h∈hl.set i p',h.ts.length≤k+1:=by
 refine ⟨?_,by rw [List.length_set];exact hst.2,fun h hh=> ?_⟩
 ·rw [htk,←hst.1,List.map_set,hpe];unfold vg;rw [List.getElem?_map,hp]
  rfl
 ·rcases List.mem_or_eq_of_mem_set hh with hh|rfl
  ·have:=rM h hh;omega
  ·have h1:h.ts=p.ts++[t]:=congrArg Hp.ts hpe;have h2:=rM p (List.mem_of_getElem? hp);rw [h1,List.length_append];simp;omega
end
theorem xL (l:List Hd) (t:Tu):(l.map iZ).findIdx? (fun h=>lm h t)=l.findIdx? (fun h=>nL h t):=by
 rw [List.findIdx?_map]
 rfl
theorem Tryz.infoHo:(Tryz.prog.info? 282).map (fun i=>(i.zero,i.size,i.bytes))=some (some (.agg #[.string ⟨#[]⟩,.string ⟨#[]⟩,.slice none 0 0]),3,56):=by kernel_rfl
def Lt (gs:List Tu) (w:World) (e:Ending) (w':World):Prop:=∃hv hl,e=.returned hv∧Below w.heap.size w w'∧Bb w.heap.size w' hv hl∧hl.map iZ=dn gs∧hl.length≤gs.length∧∀h∈hl,h.ts.length≤gs.length
theorem xM (gv:Value) (gs:List Tu) (w:World) (hrow:w.ownsRow 0 123 6 gv gs.length (gs.flatMap gL)) (hm:gs.length≤1000):
  Calls Tryz.prog 98 #[gv] w (Lt gs w):=by
 obtain ⟨ga,gc,rfl⟩:=ak hrow;obtain ⟨i0,hi0,hz0,hz1,hz2⟩:=info_parts Tryz.infoTu;obtain ⟨i1,hi1,hy0,hy1,hy2⟩:=info_parts Tryz.infoHo;have HI:=ae hi0;have iU:=ae hz0;have iV:=ae hz1;have iW:=ae hz2;have o7:=ae hrow;clear hrow hi0 hz0 hz1 hz2;go_enter Tryz.func98,Tryz.ntmps98;go_wp2_with fail
 go_loopw [3,9] (fun u3 u9 wr=>∃(k:Nat) (hv:Value) (hl:List Hd),u3=hv∧u9=.int .i64 k∧k≤gs.length∧Below w.heap.size w wr∧Bb w.heap.size wr hv hl∧Hid (hl.map iZ=dn (gs.take k)∧hl.length≤k∧∀h∈hl,h.ts.length≤k)) (fun _ u9 _=>gs.length-(intOf u9).toNat)
 case atStart=>exact ⟨0,_,[],rfl,rfl,by omega,Below.refl _ _,⟨World.ownsRow_nil _ _ _ _,(fun _ h=>by cases h),List.Pairwise.nil⟩,ae ⟨rfl,by simp,(fun _ h=>by cases h)⟩⟩
 case round=>
  obtain ⟨k,hv,hl,rfl,rfl,hk,hB,hI,HR⟩:=hrel;obtain ⟨ha,hc,rfl⟩:=ak hI.row
  by_cases hlt:k<gs.length
  ·have hkn:(k:Int)<(gs.length:Int):=by omega
   have NU:=ae (show gs.take (k+1)=gs.take k++[gs[k]] from List.take_succ_eq_append_getElem hlt);obtain ⟨g,c,e1,hcl⟩:=aZ gL 6 (fun _=>rfl) (aM (aa o7) hB) k gs[k] (Qw hlt);simp only [Value.slice.injEq] at e1;obtain ⟨rfl,_,rfl⟩:=e1;generalize gs[k]=t at*;have k0:wr.cell? ⟨g,k*6,none⟩=some (.string t.kind):=hcl 0 _ (by omega) rfl;have k1:wr.cell? ⟨g,k*6+1,none⟩=some (.string t.id):=hcl 1 _ (by omega) rfl;have k2:wr.cell? ⟨g,k*6+2,none⟩=some (.string t.rel):=hcl 2 _ (by omega) rfl;have k3:wr.cell? ⟨g,k*6+3,none⟩=some (.string t.sub):=hcl 3 _ (by omega) rfl;have k4:wr.cell? ⟨g,k*6+4,none⟩=some (.string t.who):=hcl 4 _ (by omega) rfl;have k5:wr.cell? ⟨g,k*6+5,none⟩=some (.string t.of):=hcl 5 _ (by omega) rfl;have uQ:=ae (show ∀u∈gL t,u.oneCell'=true from by
    intro u hu;simp only [gL,List.mem_cons,List.not_mem_nil,or_false] at hu
    rcases hu with rfl|rfl|rfl|rfl|rfl|rfl<;>rfl)
   have ba:=(Below.refl wr.heap.size wr).alloc Qv (.cells #[.string t.kind,.string t.id,.string t.rel,.string t.sub,.string t.who,.string t.of] 123);have hbs0:=hB.size;have B1:=ae (hB.trans (ba.mono hbs0));have I1:=ae (hI.below ba);have T1:=ae (show ag (wr.alloc (.cells #[.string t.kind,.string t.id,.string t.rel,.string t.sub,.string t.who,.string t.of] 123)) wr.heap.size #[.string t.kind,.string t.id,.string t.rel,.string t.sub,.string t.who,.string t.of] 123 from ag.new wr _ _);have C:=ae (Ah w.heap.size _ hl t wr.heap.size _ (by have:=(aa HR).2.1;omega) (aa I1).row (fun x hx=>by obtain ⟨a,c,e⟩:=ak ((aa I1).tup x hx);exact ⟨a,_,c,e⟩) (aa T1));have hhl:=(aa HR).2.1;clear hB hI hcl ba;go_wp2_with fail;refine (aa C).mono ?_;rintro e w2 ⟨rfl,hb2⟩;have mO:=ae ((aa B1).trans (hb2.mono (aa B1).size));have IG:=ae ((aa I1).below hb2);have NV:=ae ((aa T1).below hb2);clear hb2 C B1 I1 T1 k0 k1 k2 k3 k4 k5;unfold Dw
   cases hf:hl.findIdx? (fun h=>nL h t) with
   |some i=>
    have hi:i<hl.length:=(List.findIdx?_eq_some_iff_getElem.1 hf).1;have HST:=ae (show vg i t (hl.map iZ)=dn (gs.take k++[t])∧hl.length≤k+1 from ⟨by rw [qU,←(aa HR).1];unfold qR;rw [xL,hf],by omega⟩);have FK:=ae (aa HR).2.2;have hneg:¬((i:Int)<0):=by omega
    clear HR hf;dsimp only;go_wp2_with fail;obtain ⟨yJ,hhl1⟩:∃l,l=hl:=⟨_,rfl⟩;obtain ⟨W,hW⟩:∃W,W=w2:=⟨_,rfl⟩;have BQ:=IG;have FL:=mO;have TB:=NV;clear IG mO NV;subst hW;subst hhl1;obtain ⟨g0,c0,e0,hcl⟩:=aZ AZ 3 (fun _=>rfl) (aa BQ).row (i) (yJ[i]) (Qw hi);simp only [Value.slice.injEq] at e0
    first
     |obtain ⟨rfl,rG,rfl⟩:=e0
     |(simp only [Option.some.injEq,Addr.mk.injEq,and_true,true_and] at e0;obtain ⟨rfl,rG,rfl⟩:=e0)
    have k7:W.cell? ⟨g0,i*3+2,none⟩=some yJ[i].tv:=hcl 2 _ (by omega) rfl;have rT:=(aa BQ).tup _ (List.getElem_mem hi);have HP:=ae (Qw hi);have Jq:=aa FK _ (List.getElem_mem hi);generalize yJ[i]=y at*;obtain ⟨ykd,yid,NY,ytv⟩:=y;simp only at k7 rT Jq;obtain ⟨pa,pc,rfl⟩:=ak rT;obtain ⟨yn,IE⟩:∃n,n=NY.length:=⟨_,rfl⟩;rw [←IE] at k7 rT Jq HP;have Qc:=ae IE;have Iu:=ae rT;obtain ⟨cur,hb0,hge0⟩:=fT (aa BQ).row;have hz:=hb0.fz;have Ij:¬(g0=W.heap.size):=by have:=hb0.lt;omega
    have hneq:¬(wr.heap.size=W.heap.size):=by have:=(aa TB).lt;omega
    have c7:(W.alloc (.cells #[.string t.kind,.string t.id,.string t.rel,.string t.sub,.string t.who,.string t.of] 123)).cell? ⟨g0,i*3+2,none⟩=some (.slice pa yn pc):=af k7 ((Below.refl _ W).alloc Qv _);obtain ⟨t0,t1,t2,t3,t4,t5⟩:=(aa TB).six;obtain ⟨s0,s1,s2,s3,s4,s5⟩:=((aa TB).below ((Below.refl _ W).alloc Qv (.cells #[.string t.kind,.string t.id,.string t.rel,.string t.sub,.string t.who,.string t.of] 123))).six;have NG:(0:Int)≤((i:Nat):Int):=by omega
    have NH:((i:Nat):Int)<((yJ.length:Nat):Int):=by omega
    have Lu:=ae hb0;have m7:=World.new_ne W _ k7;have m8:=World.new_ne W _ t0;have Ga:=ae (show yn+1≤maxLen from by unfold maxLen;omega);have Gb:=ae (show (yn+1)*96≤140737488355328 from by omega);have hbs:=(aa FL).size;have HS:=ae (show w.heap.size≤(W.alloc (.cells #[.string t.kind,.string t.id,.string t.rel,.string t.sub,.string t.who,.string t.of] 123)).drew.heap.size from by simp;omega);have HH:=ae (show (W.alloc (.cells #[.string t.kind,.string t.id,.string t.rel,.string t.sub,.string t.who,.string t.of] 123)).drew.heap.size=W.heap.size+1 from by simp);have Az:=ae rG;clear hcl rT hb0 IE Jq
    go_region_law (refine step_append_lies _ rfl (.tmp 32) (.tmp 34) 115 rfl w.heap.size 123 i0 _ 6 96 Tryz.underlying115 (aa HI) (aa iU) (aa iV) (aa iW) rfl (by decide) (.slice pa yn pc) yn (NY.flatMap gL) (by simp [Act.eval,Act.put]) (fq ((aa Iu).alloc _)) ⟨W.heap.size,0,none⟩ 1 1 (gL t) (by simp [Act.eval,Act.put]) rfl (World.news_of_block (B:=W.heap.size) (cs:=#[.string t.kind,.string t.id,.string t.rel,.string t.sub,.string t.who,.string t.of]) (t:=123) (fr:=(0,0)) (ag.new W _ _).drew) (aa uQ) (by decide) (aa Ga) (aa Gb) (aa HS) (W.heap.size+1) (aa HH) ?_;intro g5 bP w5 aK ax bZ jD;have gF:=fq ((aa Iu).alloc (.cells #[.string t.kind,.string t.id,.string t.rel,.string t.sub,.string t.who,.string t.of] 123));have oV:=((aa Lu).alloc (.cells #[.string t.kind,.string t.id,.string t.rel,.string t.sub,.string t.who,.string t.of] 123)).drew;have K5:ag w5 g0 _ 282:=(ax.block g0 oV.lt (own_ne gF oV (by decide))).trans oV;have q7:w5.cell? ⟨g0,i*3+2,none⟩=some (.slice pa yn pc):=ax.cell (w:=(W.alloc (.cells #[.string t.kind,.string t.id,.string t.rel,.string t.sub,.string t.who,.string t.of] 123)).drew) c7 (own_ne gF oV (by decide));have zq:=K5.fz;have G5:=ae ax;have O5:=ae aK;have A5:=ae bZ;have lq:=K5.lt;clear gF oV K5 ax aK bZ)
    all_goals
     go_wp2;go_roundw
     case rel=>
      have hfin:=hold_close (by first|exact aa Az|rfl) (aa FL) (aa BQ) (aa HP) (aa Qc) (aa G5) (aa O5) (aa A5);exact ⟨k+1,_,_,rfl,by go_num,by omega,hfin.1,(by first|exact hfin.2|(rw [←aa Az];exact hfin.2)),ae (tF (aa NU) (aa HST) (aa HP) (aa FK) rfl)⟩
     case measure=>simp [intOf];omega
   |none=>
    have HST:=ae (show vg hl.length t ((hl++[(⟨t.kind,t.id,[],.slice none 0 0⟩:Hd)]).map iZ)=dn (gs.take k++[t])∧(hl++[(⟨t.kind,t.id,[],.slice none 0 0⟩:Hd)]).length≤k+1 from ⟨by rw [qU,←(aa HR).1];unfold qR;rw [xL,hf];simp [iZ],by simp;omega⟩);have FK:=ae (show ∀h∈hl++[(⟨t.kind,t.id,[],.slice none 0 0⟩:Hd)],h.ts.length≤k from fun h hh=>by
     rcases List.mem_append.1 hh with hh|hh
     ·exact (aa HR).2.2 h hh
     ·rw [List.mem_singleton] at hh;subst hh;simp)
    obtain ⟨t0,t1,t2,t3,t4,t5⟩:=(aa NV).six;have hs2:=(aa mO).size;clear HR hf;dsimp only;go_wp2_with (at_builtin;go_must (refine wpList_append_lies _ rfl _ _ 185 rfl w.heap.size 282 i1 _ 3 56 Tryz.underlying185 hi1 hy0 hy1 hy2 rfl (by decide) (.slice ha hl.length hc) hl.length (hl.flatMap AZ) rfl ?hown ⟨w2.heap.size,0,none⟩ 1 1 [.string t.kind,.string t.id,.slice none 0 0] rfl rfl ?hnews ?hone (by decide) ?h63 ?hbytes ?hbase (w2.heap.size+1) ?hH ?hrest))
    case hown=>exact (aa IG).row.alloc _
    case hnews=>exact World.news_of_block (B:=w2.heap.size) (cs:=#[.string t.kind,.string t.id,.slice none 0 0]) (t:=282) (fr:=(0,0)) (ag.new _ _ _)
    case hone=>
     intro u hu;simp at hu
     rcases hu with rfl|rfl|rfl<;>rfl
    case h63=>unfold maxLen;omega
    case hbytes=>omega
    case hbase=>simp;omega
    case hH=>simp
    case hrest=>
     intro g6 ny w6 dV aW jk uF;have b3:=(Below.refl w2.heap.size w2).alloc Qv (.cells #[.string t.kind,.string t.id,.slice none 0 0] 282);have I3:=(aa IG).below b3;have T3:=(aa NV).below b3;have BQ:=ae (I3.push aW dV);have FL:=ae (Below.grown ((aa mO).trans (b3.mono hs2)) aW (by simp;omega) (fun q hq=>(I3.row.lt q hq).1));have TB:=ae (show ag w6 wr.heap.size _ 123 from (aW.block _ T3.lt (own_ne I3.row T3 (by decide))).trans T3);have hi:hl.length<(hl++[(⟨t.kind,t.id,[],.slice none 0 0⟩:Hd)]).length:=by simp
     clear b3 I3 T3 dV aW jk IG mO NV t0 t1 t2 t3 t4 t5;go_wp2_with fail;obtain ⟨W,hW⟩:∃W,W=w6:=⟨_,rfl⟩;subst hW;generalize hl++[(⟨t.kind,t.id,[],.slice none 0 0⟩:Hd)]=yJ at*;obtain ⟨g0,c0,e0,hcl⟩:=aZ AZ 3 (fun _=>rfl) (aa BQ).row (hl.length) (yJ[hl.length]) (Qw hi);simp only [Value.slice.injEq] at e0
     first
      |obtain ⟨rfl,rG,rfl⟩:=e0
      |(simp only [Option.some.injEq,Addr.mk.injEq,and_true,true_and] at e0;obtain ⟨rfl,rG,rfl⟩:=e0)
     have k7:W.cell? ⟨g6,hl.length*3+2,none⟩=some yJ[hl.length].tv:=hcl 2 _ (by omega) rfl;have rT:=(aa BQ).tup _ (List.getElem_mem hi);have HP:=ae (Qw hi);have Jq:=aa FK _ (List.getElem_mem hi);generalize yJ[hl.length]=y at*;obtain ⟨ykd,yid,NY,ytv⟩:=y;simp only at k7 rT Jq;obtain ⟨pa,pc,rfl⟩:=ak rT;obtain ⟨yn,IE⟩:∃n,n=NY.length:=⟨_,rfl⟩;rw [←IE] at k7 rT Jq HP;have Qc:=ae IE;have Iu:=ae rT;obtain ⟨cur,hb0,hge0⟩:=fT (aa BQ).row;have hz:=hb0.fz;have Ij:¬(g6=W.heap.size):=by have:=hb0.lt;omega
     have hneq:¬(wr.heap.size=W.heap.size):=by have:=(aa TB).lt;omega
     have c7:(W.alloc (.cells #[.string t.kind,.string t.id,.string t.rel,.string t.sub,.string t.who,.string t.of] 123)).cell? ⟨g6,hl.length*3+2,none⟩=some (.slice pa yn pc):=af k7 ((Below.refl _ W).alloc Qv _);obtain ⟨t0,t1,t2,t3,t4,t5⟩:=(aa TB).six;obtain ⟨s0,s1,s2,s3,s4,s5⟩:=((aa TB).below ((Below.refl _ W).alloc Qv (.cells #[.string t.kind,.string t.id,.string t.rel,.string t.sub,.string t.who,.string t.of] 123))).six;have NG:(0:Int)≤((hl.length:Nat):Int):=by omega
     have NH:((hl.length:Nat):Int)<((hl.length+1:Nat):Int):=by omega
     have Lu:=ae hb0;have m7:=World.new_ne W _ k7;have m8:=World.new_ne W _ t0;have Ga:=ae (show yn+1≤maxLen from by unfold maxLen;omega);have Gb:=ae (show (yn+1)*96≤140737488355328 from by omega);have hbs:=(aa FL).size;have HS:=ae (show w.heap.size≤(W.alloc (.cells #[.string t.kind,.string t.id,.string t.rel,.string t.sub,.string t.who,.string t.of] 123)).drew.heap.size from by simp;omega);have HH:=ae (show (W.alloc (.cells #[.string t.kind,.string t.id,.string t.rel,.string t.sub,.string t.who,.string t.of] 123)).drew.heap.size=W.heap.size+1 from by simp);have Az:=ae rG;clear hcl rT hb0 IE Jq
     go_region_law (refine step_append_lies _ rfl (.tmp 32) (.tmp 34) 115 rfl w.heap.size 123 i0 _ 6 96 Tryz.underlying115 (aa HI) (aa iU) (aa iV) (aa iW) rfl (by decide) (.slice pa yn pc) yn (NY.flatMap gL) (by simp [Act.eval,Act.put]) (fq ((aa Iu).alloc _)) ⟨W.heap.size,0,none⟩ 1 1 (gL t) (by simp [Act.eval,Act.put]) rfl (World.news_of_block (B:=W.heap.size) (cs:=#[.string t.kind,.string t.id,.string t.rel,.string t.sub,.string t.who,.string t.of]) (t:=123) (fr:=(0,0)) (ag.new W _ _).drew) (aa uQ) (by decide) (aa Ga) (aa Gb) (aa HS) (W.heap.size+1) (aa HH) ?_;intro g5 bP w5 aK ax bZ jD;have gF:=fq ((aa Iu).alloc (.cells #[.string t.kind,.string t.id,.string t.rel,.string t.sub,.string t.who,.string t.of] 123));have oV:=((aa Lu).alloc (.cells #[.string t.kind,.string t.id,.string t.rel,.string t.sub,.string t.who,.string t.of] 123)).drew;have K5:ag w5 g6 _ 282:=(ax.block g6 oV.lt (own_ne gF oV (by decide))).trans oV;have q7:w5.cell? ⟨g6,hl.length*3+2,none⟩=some (.slice pa yn pc):=ax.cell (w:=(W.alloc (.cells #[.string t.kind,.string t.id,.string t.rel,.string t.sub,.string t.who,.string t.of] 123)).drew) c7 (own_ne gF oV (by decide));have zq:=K5.fz;have G5:=ae ax;have O5:=ae aK;have A5:=ae bZ;have lq:=K5.lt;clear gF oV K5 ax aK bZ)
     all_goals
      go_wp2;go_roundw
      case rel=>
       have hfin:=hold_close (by first|exact aa Az|rfl) (aa FL) (aa BQ) (aa HP) (aa Qc) (aa G5) (aa O5) (aa A5);exact ⟨k+1,_,_,rfl,by go_num,by omega,hfin.1,(by first|exact hfin.2|(rw [←aa Az];exact hfin.2)),ae (tF (aa NU) (aa HST) (aa HP) (aa FK) rfl)⟩
      case measure=>simp [intOf];omega
  ·have hkn:¬((k:Int)<(gs.length:Int)):=by omega
   have hke:k=gs.length:=by omega
   have IG:=ae hI;have mO:=ae hB;have cu:=ae (show hl.map iZ=dn gs∧hl.length≤gs.length∧∀h∈hl,h.ts.length≤gs.length from by
    have:=aa HR;rw [hke,List.take_length] at this;exact this)
   clear hB hI HR hke;go_wp2;go_ret;exact ⟨_,hl,rfl,aa mO,aa IG,aa cu⟩
theorem fC {h:Hp} {t:Tu}:lm h t=true↔h.kd=t.kind∧h.id=t.id:=by
 unfold lm zW;rw [Bool.and_eq_true,iJ,iJ]
structure FM (gs:List Tu) (l:List Hp):Prop where
 ts:∀h∈l,h.ts=gs.filter (fun t=>lm h t)∧h.ts≠ []
 all:∀t∈gs,∃h∈l,lm h t=true
 ap:l.Pairwise fun a b=>¬(a.kd=b.kd∧a.id=b.id)
theorem kX {gs:List Tu} {h:Hp} {t:Tu}:(gs++[t]).filter (fun t=>lm h t)=gs.filter (fun t=>lm h t)++(if lm h t=true then [t] else []):=by
 rw [List.filter_append]
 congr 1
 cases h1:lm h t<;>simp [h1]
theorem Dy {gs:List Tu} {l:List Hp} (H:FM gs l) (t:Tu):FM (gs++[t]) (qR l t):=by
 unfold qR
 cases hf:l.findIdx? (fun h=>lm h t) with
 |some i=>
  obtain ⟨hi,he,_⟩:=List.findIdx?_eq_some_iff_getElem.1 hf;have hap:=List.pairwise_iff_getElem.1 H.ap;unfold vg;dsimp only;rw [Qw hi];dsimp only;have hm:=H.ts _ (List.getElem_mem hi);have hoth:∀j (hj:j<l.length),j≠i→lm l[j] t=false:=fun j hj ND=>by
   cases hx:lm l[j] t with
   |false=>rfl
   |true=>
    have h1:=fC.1 hx;have h2:=fC.1 he;exfalso
    rcases Nat.lt_or_gt_of_ne ND with hlt|hlt
    ·exact hap j i hj hi hlt ⟨by rw [h1.1,h2.1],by rw [h1.2,h2.2]⟩
    ·exact hap i j hi hj hlt ⟨by rw [h1.1,h2.1],by rw [h1.2,h2.2]⟩
  refine ⟨fun h hh=> ?_,fun u hu=> ?_,?_⟩
  ·obtain ⟨j,hj,rfl⟩:=List.getElem_of_mem hh;rw [List.length_set] at hj
   by_cases e:i=j
   ·subst e;rw [List.getElem_set_self];refine ⟨?_,by simp⟩;rw [kX];have e1:lm ⟨l[i].kd,l[i].id,l[i].ts++[t]⟩ t=true:=he;rw [if_pos e1];dsimp only;rw [hm.1]
    rfl
   ·rw [List.getElem_set_ne e];have h3:=H.ts _ (List.getElem_mem hj);refine ⟨?_,h3.2⟩;rw [kX,if_neg (by rw [hoth j hj (fun e'=>e e'.symm)];simp),List.append_nil];exact h3.1
  ·rcases List.mem_append.1 hu with hu|hu
   ·obtain ⟨h,hh,e⟩:=H.all u hu;obtain ⟨j,hj,rfl⟩:=List.getElem_of_mem hh
    by_cases e':i=j
    ·subst e';exact ⟨⟨l[i].kd,l[i].id,l[i].ts++[t]⟩,List.mem_iff_getElem.2 ⟨i,by simpa using hi,by rw [List.getElem_set_self]⟩,e⟩
    ·exact ⟨l[j],List.mem_iff_getElem.2 ⟨j,by simpa using hj,by rw [List.getElem_set_ne e']⟩,e⟩
   ·rw [List.mem_singleton] at hu;subst hu;exact ⟨⟨l[i].kd,l[i].id,l[i].ts++[u]⟩,List.mem_iff_getElem.2 ⟨i,by simpa using hi,by rw [List.getElem_set_self]⟩,he⟩
  ·refine List.pairwise_iff_getElem.2 (fun a b ha hb hab=> ?_);rw [List.length_set] at ha hb;have key:∀j (hj:j<l.length),((l.set i ⟨l[i].kd,l[i].id,l[i].ts++[t]⟩)[j]'(by simpa using hj)).kd=l[j].kd∧((l.set i ⟨l[i].kd,l[i].id,l[i].ts++[t]⟩)[j]'(by simpa using hj)).id=l[j].id:=fun j hj=>by
    by_cases e:i=j
    ·subst e;rw [List.getElem_set_self];exact ⟨rfl,rfl⟩
    ·rw [List.getElem_set_ne e];exact ⟨rfl,rfl⟩
   rw [(key a ha).1,(key a ha).2,(key b hb).1,(key b hb).2];exact hap a b ha hb hab
 |none=>
  rw [List.findIdx?_eq_none_iff] at hf;have e:vg l.length t (l++[⟨t.kind,t.id,[]⟩])=l++[⟨t.kind,t.id,[t]⟩]:=by
   unfold vg;simp
  dsimp only;rw [e];refine ⟨fun h hh=> ?_,fun u hu=> ?_,?_⟩
  ·rcases List.mem_append.1 hh with hh|hh
   ·have h3:=H.ts h hh;refine ⟨?_,h3.2⟩;rw [kX,if_neg (by rw [hf h hh];simp),List.append_nil];exact h3.1
   ·rw [List.mem_singleton] at hh;subst hh;refine ⟨?_,by simp⟩;have e1:lm ⟨t.kind,t.id,[t]⟩ t=true:=fC.2 ⟨rfl,rfl⟩;rw [kX,if_pos e1,List.filter_eq_nil_iff.2 (fun u hu=> ?_)]
    ·rfl
    ·intro hx;obtain ⟨h,hh,e2⟩:=H.all u hu;have h1:=fC.1 hx;have h2:=fC.1 e2;have:=hf h hh;rw [fC.2 ⟨h2.1.trans h1.1.symm,h2.2.trans h1.2.symm⟩] at this
     cases this
  ·rcases List.mem_append.1 hu with hu|hu
   ·obtain ⟨h,hh,e⟩:=H.all u hu;exact ⟨h,List.mem_append_left _ hh,e⟩
   ·rw [List.mem_singleton] at hu;subst hu;exact ⟨_,List.mem_append_right _ (List.mem_singleton.2 rfl),fC.2 ⟨rfl,rfl⟩⟩
  ·refine List.pairwise_append.2 ⟨H.ap,by simp,fun a ha b hb=> ?_⟩;rw [List.mem_singleton] at hb;subst hb;rintro ⟨e1,e2⟩;have:=hf a ha;rw [fC.2 ⟨e1,e2⟩] at this
   cases this
theorem tH:∀(gs pre:List Tu) (l:List Hp),FM pre l→FM (pre++gs) (gs.foldl qR l)
 | [],pre,l,H=>by simpa using H
 |t::gs,pre,l,H=>by
  have:=tH gs (pre++[t]) _ (Dy H t)
  simpa using this
theorem vk (gs:List Tu):FM gs (dn gs):=tH gs [] [] ⟨(fun _ h=>by cases h),(fun _ h=>by cases h),List.Pairwise.nil⟩
theorem Lv {l:List Hp} (h:l.Pairwise fun a b=>¬(a.kd=b.kd∧a.id=b.id)) {a b:Hp} (ha:a∈l) (hb:b∈l) (e1:a.kd=b.kd) (e2:a.id=b.id):a=b:=by
 obtain ⟨i,hi,rfl⟩:=List.getElem_of_mem ha;obtain ⟨j,hj,rfl⟩:=List.getElem_of_mem hb;have hap:=List.pairwise_iff_getElem.1 h
 rcases Nat.lt_trichotomy i j with hlt|rfl|hlt
 ·exact absurd ⟨e1,e2⟩ (hap i j hi hj hlt)
 ·rfl
 ·exact absurd ⟨e1.symm,e2.symm⟩ (hap j i hj hi hlt)
theorem Lx {hl:List Hd} {gs:List Tu} (h:hl.map iZ=dn gs):∀x∈hl,∀y∈hl,x.kd=y.kd→x.id=y.id→x=y:=fun x hx y hy e1 e2=>by
 obtain ⟨i,hi,rfl⟩:=List.getElem_of_mem hx;obtain ⟨j,hj,rfl⟩:=List.getElem_of_mem hy;have hap:=List.pairwise_iff_getElem.1 (vk gs).ap;rw [←h] at hap;have k:∀a b (ha:a<hl.length) (hb:b<hl.length),a<b→¬(hl[a].kd=hl[b].kd∧hl[a].id=hl[b].id):=fun a b ha hb hab=>by
  have:=hap a b (by simpa using ha) (by simpa using hb) hab
  simpa [iZ] using this
 rcases Nat.lt_trichotomy i j with hlt|rfl|hlt
 ·exact absurd ⟨e1,e2⟩ (k i j hi hj hlt)
 ·rfl
 ·exact absurd ⟨e1.symm,e2.symm⟩ (k j i hj hi hlt)
end Go.Proofs.YtlbpnlngckgcbaaGreatDoor
namespace Go.Proofs.YtlbpnlngckgcbaaGreatDoor
open Go.RowKit Go.PlainAid Go.Shelf
attribute [local go_sem] Oper.semAt_some
def Gf (Bs Bn:Nat) (W W':World):Prop:=W.heap.size≤W'.heap.size∧W'.heap[Bs]? =W.heap[Bs]? ∧W'.heap[Bn]? =W.heap[Bn]?
theorem Gf.trans {Bs Bn:Nat} {X Y Z:World} (h:Gf Bs Bn X Y) (k:Gf Bs Bn Y Z):Gf Bs Bn X Z:=⟨Nat.le_trans h.1 k.1,k.2.1.trans h.2.1,k.2.2.trans h.2.2⟩
theorem Dz (sa:Option Addr) (sn sc:Nat) (w:World):Calls Tryz.prog 97 #[.slice sa sn sc,.int .i64 64] w fun e w'=>e=.returned (.func (.func 146) #[] #[.pointer (some ⟨w.heap.size,0,none⟩),.pointer (some ⟨w.heap.size+1,0,none⟩)])∧w'=(w.alloc (.cells #[.slice sa sn sc] 119)).alloc (.cells #[.int .i64 64] 3):=by
 go_enter Tryz.func97,Tryz.ntmps97;go_wp2;go_ret;exact ⟨rfl,rfl⟩
theorem DC (n:Nat) (hn:1≤n) (l Bs Bn g cn cc:Nat) (J Jx:List Unit→World→Prop) (W:World) (hJ:AbidesFrom W.heap.size J)
  (hY:∀pre x W1,J pre W1→pre.length<1→YieldAt Fence.wide (n-1) Tryz.prog l #[.slice (some ⟨g,0,none⟩) cn cn] W1 fun e W'=>(e=.returned (.bool true)∧J (pre++[x]) W'∧Gf Bs Bn W1 W')∨(e=.returned (.bool false)∧Jx (pre++[x]) W'))
  (hBs:ag W Bs #[.slice (some ⟨g,0,none⟩) cn cc] 119) (Nt:ag W Bn #[.int .i64 64] 3) (hc0:0<cn) (h64:cn≤64) (hcc:cn≤cc) (hcm:cc≤maxLen) (h0:J [] W):
  CallsIn Fence.wide n Tryz.prog 146 #[.func (.yield l) #[] #[],.pointer (some ⟨Bs,0,none⟩),.pointer (some ⟨Bn,0,none⟩)] W fun e W'=>(∃v,e=.returned v)∧((∃ys,ys=[()]∧J ys W')∨(∃pre,pre<+: [()]∧Jx pre W')):=by
 have HY:=ae hY;have HJ:=ae hJ;have HS:=ae hBs;have HN:=ae Nt;clear hY hJ hBs Nt;refine callsIn_of_wp Tryz.func146 rfl trivial ?_ rfl;simp only [Tryz.ntmps146,List.size_toArray,List.length_cons,List.length_nil,Nat.reduceAdd,Nat.reduceSub,Array.replicate_succ,Array.replicate_zero,List.push_toArray,List.append_toArray,List.nil_append,List.cons_append];gi_wp2
 gi_loopw [4] (fun u wr=>Gf Bs Bn W wr∧((u=.int .i64 0∧J [] wr)∨(u=.int .i64 64∧J [()] wr))) (fun u _=>64-(intOf u).toNat)
 case atStart=>exact ⟨⟨Nat.le_refl _,rfl,rfl⟩,.inl ⟨rfl,h0⟩⟩
 case round=>
  obtain ⟨hk,Fv⟩:=hrel;have s0:wr.cell? ⟨Bs,0,none⟩=some (.slice (some ⟨g,0,none⟩) cn cc):=(show ag wr Bs _ _ from hk.2.1.trans (aa HS)).cell rfl;have n0:wr.cell? ⟨Bn,0,none⟩=some (.int .i64 64):=(show ag wr Bn _ _ from hk.2.2.trans (aa HN)).cell rfl
  rcases Fv with ⟨rfl,hJs⟩|⟨rfl,hJs⟩
  ·have hcn:(0:Int)<(cn:Int):=by omega
   have hJd:=aa HJ [] wr wr.drew none hJs ⟨rfl,rfl,rfl,Nat.le_refl _,fun _ _ _=>rfl⟩ (fun r e=>by cases e);obtain ⟨fn,tmps,assign,body,hy,hR⟩:=aa HY [] () _ hJd (by simp);have hmin:min (64:Int) (cn:Int)=(cn:Int):=by omega
   have hmin':min (64:Nat) cn=cn:=by omega
   have d0:wr.drew.cell? ⟨Bs,0,none⟩=some (.slice (some ⟨g,0,none⟩) cn cc):=s0;have e0:wr.drew.cell? ⟨Bn,0,none⟩=some (.int .i64 64):=n0;have HK:=ae hk;clear hJd hJs hk;gi_wp2
   gi_region
   all_goals gi_wp2
   all_goals (
    refine hR.mono ?_;rintro e W3 (⟨rfl,hJ3,hk3⟩|⟨rfl,KC⟩)
    ·have HJ3:=ae hJ3;have k3:=(aa HK).trans (show Gf Bs Bn wr W3 from hk3);have n3:W3.cell? ⟨Bn,0,none⟩=some (.int .i64 64):=(show ag W3 Bn _ _ from k3.2.2.trans (aa HN)).cell rfl;have K3:=ae k3;clear hJ3 hk3 k3;gi_wp2;go_roundw
     case rel=>exact ⟨aa K3,.inr ⟨rfl,aa HJ3⟩⟩
     case measure=>simp [intOf]
    ·gi_wp2;refine bodyPost_ret (results_none rfl _ _ _) rfl ?_;exact ⟨⟨_,rfl⟩,.inr ⟨[()],List.prefix_refl _,KC⟩⟩)
  ·have hcn:¬((64:Int)<(cn:Int)):=by omega
   clear hk;gi_wp2;go_end0;exact ⟨⟨_,rfl⟩,.inl hJs⟩
end Go.Proofs.YtlbpnlngckgcbaaGreatDoor
namespace Go.Proofs.YtlbpnlngckgcbaaGreatDoor
open Go.RowKit Go.PlainAid
structure LB (w:World) (cv hv lv:Value) (cs:List Tg) (hl:List Hd) (qs:List (Value×List (It×Value))):Prop where
 cr:vF w cv cs
 hs:Mq w hv hl
 ln:z8 0 w lv qs
 ok:∀q∈qs,∀p∈q.2,Lh p
 few:∀q∈qs,q.2.length≤1000000
section
variable {w w':World} {cv hv lv:Value} {cs:List Tg} {hl:List Hd} {qs:List (Value×List (It×Value))} {mb n:Nat} {K:Sj→Nat}
theorem LB.grp (h:LB w cv hv lv cs hl qs) {q:Value×List (It×Value)} (hq:q∈qs):NM w cv hv q.1 cs hl q.2:=⟨h.cr,h.hs,h.ln.grp q hq,h.ok q hq,h.few q hq⟩
theorem LB.cellsK (h:LB w cv hv lv cs hl qs) (k:kF w w'):LB w' cv hv lv cs hl qs:=⟨h.cr.cellsK k,h.hs.cellsK k,h.ln.frame (fun g cs T f hh _=>k.2 g cs T f hh),h.ok,h.few⟩
end
def DD (q:Value×List (It×Value)):List TR:=q.2.map fun p=>Fq p.1
def oF (qs:List (Value×List (It×Value))):Nat:=(qs.map fun q=>q.2.length).sum
theorem DF {qs:List (Value×List (It×Value))} {j:Nat} {q:Value×List (It×Value)} (h:qs[j]? =some q):oF (qs.take (j+1))=oF (qs.take j)+q.2.length∧(qs.take (j+1)).map DD=(qs.take j).map DD++[DD q]:=by
 have hj:=(List.getElem?_eq_some_iff.1 h).1;have e:qs.take (j+1)=qs.take j++[q]:=by
  rw [List.take_succ_eq_append_getElem hj];rw [Qw hj] at h;rw [Option.some.inj h]
 rw [e];unfold oF;simp
theorem II {qs:List (Value×List (It×Value))} (j:Nat):oF (qs.take j)≤oF qs:=by
 have:oF qs=oF (qs.take j)+oF (qs.drop j):=by
  unfold oF;rw [←List.sum_append,←List.map_append,List.take_append_drop]
 omega
theorem FN (ls:List (It×Value)) (hl:List Hd):(xC ls hl).length=ls.length*hl.length:=by
 unfold xC
 induction ls with
 |nil=>simp
 |cons p ls ih=>rw [List.flatMap_cons,List.length_append,ih,List.length_map,List.length_cons,Nat.add_mul,Nat.one_mul,Nat.add_comm]
structure Qd (cs:List Tg) (hl:List Hd) (qs:List (Value×List (It×Value))) (j n:Nat) (K:Sj→Nat):Prop where
 run:Run cs (hl.map iZ) ((qs.take j).map DD) (fun _=>0) K
 few:n≤64000*oF (qs.take j)
theorem DI (w:World) (ca ha:Option Addr) (cn cc hn hc mb n j:Nat) (lv:Value) (K:Sj→Nat) (cs:List Tg) (hl:List Hd) (qs:List (Value×List (It×Value))) (q:Value×List (It×Value))
  (G:LB w (.slice ca cn cc) (.slice ha hn hc) lv cs hl qs) (hk:nQ w mb n K) (hK:Qd cs hl qs j n K) (hq:qs[j]? =some q) (hG:Du (qs.map DD) (hl.map iZ)) (hd:∀x∈hl,∀y∈hl,x.kd=y.kd→x.id=y.id→x=y) (hs:oF qs≤1000000):
  Calls Tryz.prog 99 #[.agg #[.slice ca cn cc,.slice ha hn hc,.map (some mb)],q.1] w fun e w'=>e=.returned (.tuple #[])∧aQ (fun k=>k=mb) w w'∧∃n' K',nQ w' mb n' K'∧Qd cs hl qs (j+1) n' K':=by
 have hqm:=List.mem_of_getElem? hq;have hj:=(List.getElem?_eq_some_iff.1 hq).1;have G1:=G.grp hqm;obtain ⟨sa,sc,hv⟩:=ak G1.ln.row;have hc64:=G.cr.most;have hgm:DD q∈qs.map DD:=List.mem_map.2 ⟨q,hqm,rfl⟩;have C:=Dt hc64 (Fy hG hgm hd) K;have hap:∀g'∈(qs.take j).map DD,∀x∈g',∀y∈DD q,¬(x.1.name=y.1.name∧x.2.name=y.2.name):=fun g' hg'=>by
  have hpw:=List.pairwise_iff_getElem.1 hG.ap;obtain ⟨i,hi,rfl⟩:=List.getElem_of_mem hg';rw [List.length_map,List.length_take] at hi;have:=hpw i j (by simp;omega) (by simpa using hj) (by omega);rw [Qw hj] at hq;have e:=Option.some.inj hq;simp only [List.getElem_map,List.getElem_take,e] at this ⊢;exact this
 have I0:Fx cs q.2 hl K K:=Ae (uW hK.run (fun s i _=>by simp)) (fun s ht=>Fz hK.run hap s (A7.2 ht));have hmu:gB (xC q.2 hl) K≤64000*q.2.length:=by
  have h1:=tu K (xC q.2 hl);rw [FN] at h1;have h2:q.2.length*hl.length≤q.2.length*1000:=Nat.mul_le_mul_left _ G.hs.most;omega
 obtain ⟨e1,e2⟩:=DF hq;have e3:=II (qs:=qs) (j+1);have hf:=hK.few;rw [hv] at G1 ⊢;refine (Ab w ca ha sa cn cc hn hc _ sc mb n (n+gB (xC q.2 hl) K) K cs hl q.2 (Fx cs q.2 hl K) (gB (xC q.2 hl)) G1 C hk I0 Qv (by unfold maxLen;omega)).mono ?_;rintro e w' ⟨rfl,hb,n',K',hk',hI',hn',hfix⟩;refine ⟨rfl,hb,n',K',hk',⟨?_,?_⟩⟩
 ·rw [e2];exact A8 hK.run ⟨K',Ll hI' hfix,rfl⟩
 ·rw [e1];omega
def OL (t:Tg):List Value:=[.string t.kind,.string t.id]
def dw (X:Nat) (cs:List Tg):Nat→List Tg
 |0=>[]
 |j+1=>dw X cs j++(match cs[j]? with
  |some t=>if X.testBit j then [t] else []
  |none=>[])
theorem tJ {X j:Nat} {cs:List Tg} {t:Tg} (h:cs[j]? =some t) (hb:X.testBit j=true):dw X cs (j+1)=dw X cs j++[t]:=by
 rw [dw,h];simp [hb]
theorem xN {X j:Nat} {cs:List Tg} {t:Tg} (h:cs[j]? =some t) (hb:X.testBit j=false):dw X cs (j+1)=dw X cs j:=by
 rw [dw,h];simp [hb]
theorem tK (X:Nat) (cs:List Tg):∀j,(dw X cs j).length≤j
 |0=>by simp [dw]
 |j+1=>by
  have ih:=tK X cs j;rw [dw,List.length_append]
  cases cs[j]? with
  |none=>simp;omega
  |some t=>
   simp only
   split<;>simp<;>omega
theorem IJ {X j:Nat} (hX:X<18446744073709551616) (hj:j<64):(bits .and .u64 (X:Int) (IntKind.u64.wrap (2 ^ j)) != 0)=X.testBit j:=by
 have h2:2 ^ j<18446744073709551616:=Nat.pow_lt_pow_right (by omega) (show j<64 by omega);have e:IntKind.u64.wrap ((2:Int) ^ j)=((2 ^ j:Nat):Int):=by
  rw [show ((2:Int) ^ j)=((2 ^ j:Nat):Int) from by simp];generalize 2 ^ j=x at*;simp [IntKind.wrap,IntKind.bits,IntKind.signed];omega
 rw [e,u64_and_nat _ _ hX h2]
 cases hb:X.testBit j with
 |true=>
  have h3:(X&&& 2 ^ j).testBit j=true:=by rw [Nat.testBit_and,hb,Nat.testBit_two_pow_self];rfl
  rw [bne_iff_ne];intro h0;have h4:X&&& 2 ^ j=0:=by omega
  rw [h4] at h3;simp at h3
 |false=>
  have h3:X&&& 2 ^ j=0:=by
   apply Nat.eq_of_testBit_eq;intro i;rw [Nat.testBit_and]
   by_cases hi:i=j
   ·subst hi;rw [hb];simp
   ·rw [Nat.testBit_two_pow_of_ne (fun e=>hi e.symm)];simp
  rw [h3]
  rfl
