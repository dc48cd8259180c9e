import Derived.Test.YtlbpnlngckgcbaaGreatDoorM26
set_option linter.all false
set_option maxHeartbeats 4000000
set_option maxRecDepth 100000
namespace Go.Proofs.YtlbpnlngckgcbaaGreatDoor
open Go.RowKit Go.PlainAid
theorem dn {h:Hp} {t:Tu}:lH h t=true↔h.kd=t.kind∧h.id=t.id:=by
 unfold lH pY;rw [Bool.and_eq_true,eT,eT]
structure Gz (gs:List Tu) (l:List Hp):Prop where
 ts:∀h∈l,h.ts=gs.filter (fun t=>lH h t)∧h.ts≠ []
 all:∀t∈gs,∃h∈l,lH h t=true
 ap:l.Pairwise fun a b=>¬(a.kd=b.kd∧a.id=b.id)
theorem lm {gs:List Tu} {h:Hp} {t:Tu}:(gs++[t]).filter (fun t=>lH h t)=gs.filter (fun t=>lH h t)++(if lH h t=true then [t] else []):=by
 rw [List.filter_append]
 congr 1
 cases h1:lH h t<;>simp [h1]
theorem Ei {gs:List Tu} {l:List Hp} (H:Gz gs l) (t:Tu):Gz (gs++[t]) (pK l t):=by
 unfold pK
 cases hf:l.findIdx? (fun h=>lH h t) with
 |some i=>
  obtain ⟨hi,he,_⟩:=List.findIdx?_eq_some_iff_getElem.1 hf;have hap:=List.pairwise_iff_getElem.1 H.ap;unfold sN;dsimp only;rw [RI hi];dsimp only;have hm:=H.ts _ (List.getElem_mem hi);have hoth:∀j (hj:j<l.length),j≠i→lH l[j] t=false:=fun j hj O8=>by
   cases hx:lH l[j] t with
   |false=>rfl
   |true=>
    have h1:=dn.1 hx;have h2:=dn.1 he;exfalso
    rcases Nat.lt_or_gt_of_ne O8 with hlt|hlt
    ·exact hap j i hj hi hlt ⟨by rw [h1.1,h2.1],by rw [h1.2,h2.2]⟩
    ·exact hap i j hi hj hlt ⟨by rw [h1.1,h2.1],by rw [h1.2,h2.2]⟩
  refine ⟨fun h hh=> ?_,fun u hu=> ?_,?_⟩
  ·obtain ⟨j,hj,rfl⟩:=List.getElem_of_mem hh;rw [List.length_set] at hj
   by_cases e:i=j
   ·subst e;rw [List.getElem_set_self];refine ⟨?_,by simp⟩;rw [lm];have e1:lH ⟨l[i].kd,l[i].id,l[i].ts++[t]⟩ t=true:=he;rw [if_pos e1];dsimp only;rw [hm.1]
    rfl
   ·rw [List.getElem_set_ne e];have h3:=H.ts _ (List.getElem_mem hj);refine ⟨?_,h3.2⟩;rw [lm,if_neg (by rw [hoth j hj (fun e'=>e e'.symm)];simp),List.append_nil];exact h3.1
  ·rcases List.mem_append.1 hu with hu|hu
   ·obtain ⟨h,hh,e⟩:=H.all u hu;obtain ⟨j,hj,rfl⟩:=List.getElem_of_mem hh
    by_cases e':i=j
    ·subst e';exact ⟨⟨l[i].kd,l[i].id,l[i].ts++[t]⟩,List.mem_iff_getElem.2 ⟨i,by simpa using hi,by rw [List.getElem_set_self]⟩,e⟩
    ·exact ⟨l[j],List.mem_iff_getElem.2 ⟨j,by simpa using hj,by rw [List.getElem_set_ne e']⟩,e⟩
   ·rw [List.mem_singleton] at hu;subst hu;exact ⟨⟨l[i].kd,l[i].id,l[i].ts++[u]⟩,List.mem_iff_getElem.2 ⟨i,by simpa using hi,by rw [List.getElem_set_self]⟩,he⟩
  ·refine List.pairwise_iff_getElem.2 (fun a b ha hb hab=> ?_);rw [List.length_set] at ha hb;have key:∀j (hj:j<l.length),((l.set i ⟨l[i].kd,l[i].id,l[i].ts++[t]⟩)[j]'(by simpa using hj)).kd=l[j].kd∧((l.set i ⟨l[i].kd,l[i].id,l[i].ts++[t]⟩)[j]'(by simpa using hj)).id=l[j].id:=fun j hj=>by
    by_cases e:i=j
    ·subst e;rw [List.getElem_set_self];exact ⟨rfl,rfl⟩
    ·rw [List.getElem_set_ne e];exact ⟨rfl,rfl⟩
   rw [(key a ha).1,(key a ha).2,(key b hb).1,(key b hb).2];exact hap a b ha hb hab
 |none=>
  rw [List.findIdx?_eq_none_iff] at hf;have e:sN l.length t (l++[⟨t.kind,t.id,[]⟩])=l++[⟨t.kind,t.id,[t]⟩]:=by
   unfold sN;simp
  dsimp only;rw [e];refine ⟨fun h hh=> ?_,fun u hu=> ?_,?_⟩
  ·rcases List.mem_append.1 hh with hh|hh
   ·have h3:=H.ts h hh;refine ⟨?_,h3.2⟩;rw [lm,if_neg (by rw [hf h hh];simp),List.append_nil];exact h3.1
   ·rw [List.mem_singleton] at hh;subst hh;refine ⟨?_,by simp⟩;have e1:lH ⟨t.kind,t.id,[t]⟩ t=true:=dn.2 ⟨rfl,rfl⟩;rw [lm,if_pos e1,List.filter_eq_nil_iff.2 (fun u hu=> ?_)]
    ·rfl
    ·intro hx;obtain ⟨h,hh,e2⟩:=H.all u hu;have h1:=dn.1 hx;have h2:=dn.1 e2;have:=hf h hh;rw [dn.2 ⟨h2.1.trans h1.1.symm,h2.2.trans h1.2.symm⟩] at this
     cases this
  ·rcases List.mem_append.1 hu with hu|hu
   ·obtain ⟨h,hh,e⟩:=H.all u hu;exact ⟨h,List.mem_append_left _ hh,e⟩
   ·rw [List.mem_singleton] at hu;subst hu;exact ⟨_,List.mem_append_right _ (List.mem_singleton.2 rfl),dn.2 ⟨rfl,rfl⟩⟩
  ·refine List.pairwise_append.2 ⟨H.ap,by simp,fun a ha b hb=> ?_⟩;rw [List.mem_singleton] at hb;subst hb;rintro ⟨e1,e2⟩;have:=hf a ha;rw [dn.2 ⟨e1,e2⟩] at this
   cases this
theorem uw:∀(gs pre:List Tu) (l:List Hp),Gz pre l→Gz (pre++gs) (gs.foldl pK l)
 | [],pre,l,H=>by simpa using H
 |t::gs,pre,l,H=>by
  have:=uw gs (pre++[t]) _ (Ei H t)
  simpa using this
theorem jd (gs:List Tu):Gz gs (bF gs):=uw gs [] [] ⟨(fun _ h=>by cases h),(fun _ h=>by cases h),List.Pairwise.nil⟩
theorem MP {l:List Hp} (h:l.Pairwise fun a b=>¬(a.kd=b.kd∧a.id=b.id)) {a b:Hp} (ha:a∈l) (hb:b∈l) (e1:a.kd=b.kd) (e2:a.id=b.id):a=b:=by
 obtain ⟨i,hi,rfl⟩:=List.getElem_of_mem ha;obtain ⟨j,hj,rfl⟩:=List.getElem_of_mem hb;have hap:=List.pairwise_iff_getElem.1 h
 rcases Nat.lt_trichotomy i j with hlt|rfl|hlt
 ·exact absurd ⟨e1,e2⟩ (hap i j hi hj hlt)
 ·rfl
 ·exact absurd ⟨e1.symm,e2.symm⟩ (hap j i hj hi hlt)
theorem MR {hl:List Hd} {gs:List Tu} (h:hl.map jq=bF gs):∀x∈hl,∀y∈hl,x.kd=y.kd→x.id=y.id→x=y:=fun x hx y hy e1 e2=>by
 obtain ⟨i,hi,rfl⟩:=List.getElem_of_mem hx;obtain ⟨j,hj,rfl⟩:=List.getElem_of_mem hy;have hap:=List.pairwise_iff_getElem.1 (jd gs).ap;rw [←h] at hap;have k:∀a b (ha:a<hl.length) (hb:b<hl.length),a<b→¬(hl[a].kd=hl[b].kd∧hl[a].id=hl[b].id):=fun a b ha hb hab=>by
  have:=hap a b (by simpa using ha) (by simpa using hb) hab
  simpa [jq] using this
 rcases Nat.lt_trichotomy i j with hlt|rfl|hlt
 ·exact absurd ⟨e1,e2⟩ (k i j hi hj hlt)
 ·rfl
 ·exact absurd ⟨e1.symm,e2.symm⟩ (k j i hj hi hlt)
end Go.Proofs.YtlbpnlngckgcbaaGreatDoor
namespace Go.Proofs.YtlbpnlngckgcbaaGreatDoor
open Go.RowKit Go.PlainAid Go.Shelf
attribute [local go_sem] Oper.semAt_some
def Im (Bs Bn:Nat) (W W':World):Prop:=W.heap.size≤W'.heap.size∧W'.heap[Bs]? =W.heap[Bs]? ∧W'.heap[Bn]? =W.heap[Bn]?
theorem Im.trans {Bs Bn:Nat} {X Y Z:World} (h:Im Bs Bn X Y) (k:Im Bs Bn Y Z):Im Bs Bn X Z:=⟨Nat.le_trans h.1 k.1,k.2.1.trans h.2.1,k.2.2.trans h.2.2⟩
theorem Ej (sa:Option Addr) (sn sc:Nat) (w:World):Calls Tryz.prog 97 #[.slice sa sn sc,.int .i64 64] w fun e w'=>e=.returned (.func (.func 146) #[] #[.pointer (some ⟨w.heap.size,0,none⟩),.pointer (some ⟨w.heap.size+1,0,none⟩)])∧w'=(w.alloc (.cells #[.slice sa sn sc] 119)).alloc (.cells #[.int .i64 64] 3):=by
 go_enter Tryz.func97,Tryz.ntmps97;go_wp2;go_ret;exact ⟨rfl,rfl⟩
theorem El (n:Nat) (hn:1≤n) (l Bs Bn g cn cc:Nat) (J Jx:List Unit→World→Prop) (W:World) (hJ:AbidesFrom W.heap.size J)
  (hY:∀pre x W1,J pre W1→pre.length<1→YieldAt Fence.wide (n-1) Tryz.prog l #[.slice (some ⟨g,0,none⟩) cn cn] W1 fun e W'=>(e=.returned (.bool true)∧J (pre++[x]) W'∧Im Bs Bn W1 W')∨(e=.returned (.bool false)∧Jx (pre++[x]) W'))
  (hBs:ag W Bs #[.slice (some ⟨g,0,none⟩) cn cc] 119) (OM:ag W Bn #[.int .i64 64] 3) (hc0:0<cn) (h64:cn≤64) (hcc:cn≤cc) (hcm:cc≤maxLen) (h0:J [] W):
  CallsIn Fence.wide n Tryz.prog 146 #[.func (.yield l) #[] #[],.pointer (some ⟨Bs,0,none⟩),.pointer (some ⟨Bn,0,none⟩)] W fun e W'=>(∃v,e=.returned v)∧((∃ys,ys=[()]∧J ys W')∨(∃pre,pre<+: [()]∧Jx pre W')):=by
 have HY:=ae hY;have HJ:=ae hJ;have HS:=ae hBs;have HN:=ae OM;clear hY hJ hBs OM;refine callsIn_of_wp Tryz.func146 rfl trivial ?_ rfl;simp only [Tryz.ntmps146,List.size_toArray,List.length_cons,List.length_nil,Nat.reduceAdd,Nat.reduceSub,Array.replicate_succ,Array.replicate_zero,List.push_toArray,List.append_toArray,List.nil_append,List.cons_append];gi_wp2
 gi_loopw [4] (fun u wr=>Im Bs Bn W wr∧((u=.int .i64 0∧J [] wr)∨(u=.int .i64 64∧J [()] wr))) (fun u _=>64-(intOf u).toNat)
 case atStart=>exact ⟨⟨Nat.le_refl _,rfl,rfl⟩,.inl ⟨rfl,h0⟩⟩
 case round=>
  obtain ⟨hk,ut⟩:=hrel;have s0:wr.cell? ⟨Bs,0,none⟩=some (.slice (some ⟨g,0,none⟩) cn cc):=(show ag wr Bs _ _ from hk.2.1.trans (aa HS)).cell rfl;have n0:wr.cell? ⟨Bn,0,none⟩=some (.int .i64 64):=(show ag wr Bn _ _ from hk.2.2.trans (aa HN)).cell rfl
  rcases ut with ⟨rfl,hJs⟩|⟨rfl,hJs⟩
  ·have hcn:(0:Int)<(cn:Int):=by omega
   have hJd:=aa HJ [] wr wr.drew none hJs ⟨rfl,rfl,rfl,Nat.le_refl _,fun _ _ _=>rfl⟩ (fun r e=>by cases e);obtain ⟨fn,tmps,assign,body,hy,hR⟩:=aa HY [] () _ hJd (by simp);have hmin:min (64:Int) (cn:Int)=(cn:Int):=by omega
   have hmin':min (64:Nat) cn=cn:=by omega
   have d0:wr.drew.cell? ⟨Bs,0,none⟩=some (.slice (some ⟨g,0,none⟩) cn cc):=s0;have e0:wr.drew.cell? ⟨Bn,0,none⟩=some (.int .i64 64):=n0;have HK:=ae hk;clear hJd hJs hk;gi_wp2
   gi_region
   all_goals gi_wp2
   all_goals (
    refine hR.mono ?_;rintro e W3 (⟨rfl,hJ3,hk3⟩|⟨rfl,LM⟩)
    ·have HJ3:=ae hJ3;have k3:=(aa HK).trans (show Im Bs Bn wr W3 from hk3);have n3:W3.cell? ⟨Bn,0,none⟩=some (.int .i64 64):=(show ag W3 Bn _ _ from k3.2.2.trans (aa HN)).cell rfl;have K3:=ae k3;clear hJ3 hk3 k3;gi_wp2;go_roundw
     case rel=>exact ⟨aa K3,.inr ⟨rfl,aa HJ3⟩⟩
     case measure=>simp [intOf]
    ·gi_wp2;refine bodyPost_ret (results_none rfl _ _ _) rfl ?_;exact ⟨⟨_,rfl⟩,.inr ⟨[()],List.prefix_refl _,LM⟩⟩)
  ·have hcn:¬((64:Int)<(cn:Int)):=by omega
   clear hk;gi_wp2;go_end0;exact ⟨⟨_,rfl⟩,.inl hJs⟩
end Go.Proofs.YtlbpnlngckgcbaaGreatDoor
namespace Go.Proofs.YtlbpnlngckgcbaaGreatDoor
open Go.RowKit Go.PlainAid
structure MS (w:World) (cv hv lv:Value) (cs:List Tg) (hl:List Hd) (qs:List (Value×List (It×Value))):Prop where
 cr:wo w cv cs
 hs:ND w hv hl
 ln:Av 0 w lv qs
 ok:∀q∈qs,∀p∈q.2,MF p
 few:∀q∈qs,q.2.length≤1000000
section
variable {w w':World} {cv hv lv:Value} {cs:List Tg} {hl:List Hd} {qs:List (Value×List (It×Value))} {mb n:Nat} {K:Sj→Nat}
theorem MS.grp (h:MS w cv hv lv cs hl qs) {q:Value×List (It×Value)} (hq:q∈qs):Ph w cv hv q.1 cs hl q.2:=⟨h.cr,h.hs,h.ln.grp q hq,h.ok q hq,h.few q hq⟩
theorem MS.cellsK (h:MS w cv hv lv cs hl qs) (k:kK w w'):MS w' cv hv lv cs hl qs:=⟨h.cr.cellsK k,h.hs.cellsK k,h.ln.frame (fun g cs T f hh _=>k.2 g cs T f hh),h.ok,h.few⟩
end
def Em (q:Value×List (It×Value)):List TR:=q.2.map fun p=>Gm p.1
def oN (qs:List (Value×List (It×Value))):Nat:=(qs.map fun q=>q.2.length).sum
theorem En {qs:List (Value×List (It×Value))} {j:Nat} {q:Value×List (It×Value)} (h:qs[j]? =some q):oN (qs.take (j+1))=oN (qs.take j)+q.2.length∧(qs.take (j+1)).map Em=(qs.take j).map Em++[Em q]:=by
 have hj:=(List.getElem?_eq_some_iff.1 h).1;have e:qs.take (j+1)=qs.take j++[q]:=by
  rw [List.take_succ_eq_append_getElem hj];rw [RI hj] at h;rw [Option.some.inj h]
 rw [e];unfold oN;simp
theorem JN {qs:List (Value×List (It×Value))} (j:Nat):oN (qs.take j)≤oN qs:=by
 have:oN qs=oN (qs.take j)+oN (qs.drop j):=by
  unfold oN;rw [←List.sum_append,←List.map_append,List.take_append_drop]
 omega
theorem GD (ls:List (It×Value)) (hl:List Hd):(yt ls hl).length=ls.length*hl.length:=by
 unfold yt
 induction ls with
 |nil=>simp
 |cons p ls ih=>rw [List.flatMap_cons,List.length_append,ih,List.length_map,List.length_cons,Nat.add_mul,Nat.one_mul,Nat.add_comm]
structure Rh (cs:List Tg) (hl:List Hd) (qs:List (Value×List (It×Value))) (j n:Nat) (K:Sj→Nat):Prop where
 run:Run cs (hl.map jq) ((qs.take j).map Em) (fun _=>0) K
 few:n≤64000*oN (qs.take j)
theorem Eo (w:World) (ca ha:Option Addr) (cn cc hn hc mb n j:Nat) (lv:Value) (K:Sj→Nat) (cs:List Tg) (hl:List Hd) (qs:List (Value×List (It×Value))) (q:Value×List (It×Value))
  (G:MS w (.slice ca cn cc) (.slice ha hn hc) lv cs hl qs) (hk:nW w mb n K) (hK:Rh cs hl qs j n K) (hq:qs[j]? =some q) (hG:Ef (qs.map Em) (hl.map jq)) (hd:∀x∈hl,∀y∈hl,x.kd=y.kd→x.id=y.id→x=y) (hs:oN qs≤1000000):
  Calls Tryz.prog 99 #[.agg #[.slice ca cn cc,.slice ha hn hc,.map (some mb)],q.1] w fun e w'=>e=.returned (.tuple #[])∧aS (fun k=>k=mb) w w'∧∃n' K',nW w' mb n' K'∧Rh cs hl qs (j+1) n' K':=by
 have hqm:=List.mem_of_getElem? hq;have hj:=(List.getElem?_eq_some_iff.1 hq).1;have G1:=G.grp hqm;obtain ⟨sa,sc,hv⟩:=ak G1.ln.row;have hc64:=G.cr.most;have hgm:Em q∈qs.map Em:=List.mem_map.2 ⟨q,hqm,rfl⟩;have C:=Ee hc64 (Gs hG hgm hd) K;have hap:∀g'∈(qs.take j).map Em,∀x∈g',∀y∈Em q,¬(x.1.name=y.1.name∧x.2.name=y.2.name):=fun g' hg'=>by
  have hpw:=List.pairwise_iff_getElem.1 hG.ap;obtain ⟨i,hi,rfl⟩:=List.getElem_of_mem hg';rw [List.length_map,List.length_take] at hi;have:=hpw i j (by simp;omega) (by simpa using hj) (by omega);rw [RI hj] at hq;have e:=Option.some.inj hq;simp only [List.getElem_map,List.getElem_take,e] at this ⊢;exact this
 have I0:Gq cs q.2 hl K K:=AB (vK hK.run (fun s i _=>by simp)) (fun s ht=>Gt hK.run hap s (BG.2 ht));have hmu:gN (yt q.2 hl) K≤64000*q.2.length:=by
  have h1:=uo K (yt q.2 hl);rw [GD] at h1;have h2:q.2.length*hl.length≤q.2.length*1000:=Nat.mul_le_mul_left _ G.hs.most;omega
 obtain ⟨e1,e2⟩:=En hq;have e3:=JN (qs:=qs) (j+1);have hf:=hK.few;rw [hv] at G1 ⊢;refine (Ay w ca ha sa cn cc hn hc _ sc mb n (n+gN (yt q.2 hl) K) K cs hl q.2 (Gq cs q.2 hl K) (gN (yt q.2 hl)) G1 C hk I0 RH (by unfold maxLen;omega)).mono ?_;rintro e w' ⟨rfl,hb,n',K',hk',hI',hn',hfix⟩;refine ⟨rfl,hb,n',K',hk',⟨?_,?_⟩⟩
 ·rw [e2];exact BH hK.run ⟨K',MI hI' hfix,rfl⟩
 ·rw [e1];omega
def sO (t:Tg):List Value:=[.string t.kind,.string t.id]
def bn (X:Nat) (cs:List Tg):Nat→List Tg
 |0=>[]
 |j+1=>bn X cs j++(match cs[j]? with
  |some t=>if X.testBit j then [t] else []
  |none=>[])
theorem Ep {X j:Nat} {cs:List Tg} {t:Tg} (h:cs[j]? =some t) (hb:X.testBit j=true):bn X cs (j+1)=bn X cs j++[t]:=by
 rw [bn,h];simp [hb]
theorem GG {X j:Nat} {cs:List Tg} {t:Tg} (h:cs[j]? =some t) (hb:X.testBit j=false):bn X cs (j+1)=bn X cs j:=by
 rw [bn,h];simp [hb]
theorem lu (X:Nat) (cs:List Tg):∀j,(bn X cs j).length≤j
 |0=>by simp [bn]
 |j+1=>by
  have ih:=lu X cs j;rw [bn,List.length_append]
  cases cs[j]? with
  |none=>simp;omega
  |some t=>
   simp only
   split<;>simp<;>omega
theorem JO {X j:Nat} (hX:X<18446744073709551616) (hj:j<64):(bits .and .u64 (X:Int) (IntKind.u64.wrap (2 ^ j)) != 0)=X.testBit j:=by
 have h2:2 ^ j<18446744073709551616:=Nat.pow_lt_pow_right (by omega) (show j<64 by omega);have e:IntKind.u64.wrap ((2:Int) ^ j)=((2 ^ j:Nat):Int):=by
  rw [show ((2:Int) ^ j)=((2 ^ j:Nat):Int) from by simp];generalize 2 ^ j=x at*;simp [IntKind.wrap,IntKind.bits,IntKind.signed];omega
 rw [e,u64_and_nat _ _ hX h2]
 cases hb:X.testBit j with
 |true=>
  have h3:(X&&& 2 ^ j).testBit j=true:=by rw [Nat.testBit_and,hb,Nat.testBit_two_pow_self];rfl
  rw [bne_iff_ne];intro h0;have h4:X&&& 2 ^ j=0:=by omega
  rw [h4] at h3;simp at h3
 |false=>
  have h3:X&&& 2 ^ j=0:=by
   apply Nat.eq_of_testBit_eq;intro i;rw [Nat.testBit_and]
   by_cases hi:i=j
   ·subst hi;rw [hb];simp
   ·rw [Nat.testBit_two_pow_of_ne (fun e=>hi e.symm)];simp
  rw [h3]
  rfl
