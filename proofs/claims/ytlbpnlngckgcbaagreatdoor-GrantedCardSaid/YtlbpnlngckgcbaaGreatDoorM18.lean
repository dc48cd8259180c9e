import Derived.Test.YtlbpnlngckgcbaaGreatDoorM17
import Derived.OrdersHeld
import Derived.OrdersIn
set_option linter.all false
set_option maxHeartbeats 4000000
set_option maxRecDepth 100000
namespace Go.Proofs.YtlbpnlngckgcbaaGreatDoor
open Go.RowKit Go.PlainAid
structure Ins where
 does:Nat
 rel:aei
 to:Nat
def JV (i:Ins):List Value:=[.int .i64 i.does,.string i.rel,.int .i64 i.to]
structure WI (base:Nat) (w:World) (b:Nat) (rel:aei) (v:Value) (l:List Ins):Prop where
 blk:ai w b #[.string rel,v] 293
 row:w.ownsRow base 298 3 v l.length (l.flatMap JV)
 low:base≤b
theorem WI.below {base:Nat} {w w':World} {b:Nat} {rel:aei} {v:Value} {l:List Ins} (h:WI base w b rel v l) (k:Below w.heap.size w w'):WI base w' b rel v l:=⟨h.blk.below k,ay h.row k,h.low⟩
theorem Tryz.infoIns:(Tryz.prog.info? 298).map (fun i=>(i.zero,i.size,i.bytes))=some (some (.agg #[.int .i64 0,.string ⟨#[]⟩,.int .i64 0]),3,32):=by kernel_rfl
structure ut (b:Nat) (v:Value) (w w':World) (v':Value):Prop where
 but:bW (fun k=>k=b∨v.ownBlock=some k) w w'
 own:∀k,v'.ownBlock=some k→v.ownBlock=some k∨w.heap.size≤k
theorem ut.trans {b:Nat} {x y z:World} {v v' v'':Value} (h:ut b v x y v') (k:ut b v' y z v''):ut b v x z v'' where
 but:=⟨k.but.os.trans h.but.os,k.but.tape.trans h.but.tape,k.but.output.trans h.but.output,Nat.le_trans h.but.size k.but.size,fun i hi hs=>(k.but.block i (Nat.lt_of_lt_of_le hi h.but.size) (fun e=>by
  rcases e with e|e
  ·exact hs (.inl e)
  ·rcases h.own i e with e|e
   ·exact hs (.inr e)
   ·omega)).trans (h.but.block i hi hs)⟩
 own:=fun i hi=>by
  rcases k.own i hi with e|e
  ·exact h.own i e
  ·exact .inr (Nat.le_trans h.but.size e)
theorem ut.of_below {b:Nat} {v:Value} {x y:World} (h:Below x.heap.size x y):ut b v x y v:=⟨.of_below h,fun _ e=> .inl e⟩
theorem ut.below {base b:Nat} {rel:aei} {v v':Value} {l:List Ins} {w w':World} (h:WI base w b rel v l) (k:ut b v w w' v'):Below base w w':=by
 have hb:=h.blk.lt;have hl:=h.low;exact k.but.below (by omega) (fun g e=>by
  rcases e with e|e
  ·omega
  ·exact (h.row.lt g e).1)
theorem ut.blk {b:Nat} {v v':Value} {w w':World} (k:ut b v w w' v') {g:Nat} {cs:Array Value} {T:TypeId} (h:ai w g cs T) (hb:g≠b) (hv:v.ownBlock≠some g):ai w' g cs T:=k.but.blk h (fun e=>by
 rcases e with e|e
 ·exact hb e
 ·exact hv e)
def Lv (base b:Nat) (rel:aei) (v:Value) (l:List Ins) (i:Ins) (w:World) (e:Ending) (w':World):Prop:=∃v',e=.returned (.int .i64 l.length)∧ut b v w w' v'∧WI base w' b rel v' (l++[i])
theorem Nc {base b:Nat} {rel:aei} {va:Option Addr} {vc:Nat} {l:List Ins} {i:Ins} {w W w5:World} {o:Obj} {g5 aD:Nat} (H:WI base w b rel (.slice va l.length vc) l) (hB:Below w.heap.size w W)
  (G5:(W.alloc o).drew.grownBy w5 (Value.slice va l.length vc).ownBlock) (O5:w5.ownsRow base 298 3 (.slice (some ⟨g5,0,none⟩) (l.length+1) aD) (l.length+1) (l.flatMap JV++JV i))
  (A5:(Value.slice va l.length vc).ownBlock=some g5∨g5=W.heap.size+1) (K5:ai w5 b #[.string rel,.slice va l.length vc] 293):
  Lv base b rel (.slice va l.length vc) l i w (.returned (.int .i64 l.length)) (w5.setCell ⟨b,1,none⟩ (.slice (some ⟨g5,0,none⟩) (l.length+1) aD)):=by
 have vZ:=H.low;have b2:=(hB.alloc hB.size o).drew;refine ⟨_,rfl,⟨((bW.of_below b2).trans (eQ G5 (fun k hk=> .inr hk))).set (.inl rfl) _,fun k hk=> ?_⟩,⟨K5.set 1 _,?_,vZ⟩⟩
 ·simp only [Value.ownBlock,Option.some.injEq] at hk
  rcases A5 with e|e
  ·exact .inl (by rw [e,hk])
  ·exact .inr (by have:=hB.size;omega)
 have:=aX O5 K5 (by decide) 1 (.slice (some ⟨g5,0,none⟩) (l.length+1) aD);rw [List.flatMap_append,List.flatMap_singleton,List.length_append];exact this
theorem kR (base b:Nat) (rel:aei) (v:Value) (l:List Ins) (i:Ins) (w:World) (h:WI base w b rel v l) (hl:l.length≤100000):
  Calls Tryz.prog 153 #[.pointer (some ⟨b,0,none⟩),.agg #[.int .i64 i.does,.string i.rel,.int .i64 i.to]] w (Lv base b rel v l i w):=by
 obtain ⟨va,vc,rfl⟩:=au h.row;have H:=af h;have b1:=(Below.refl w.heap.size w).alloc aeg (.cells #[.int .i64 i.does,.string i.rel,.int .i64 i.to] 298);have B1:=af b1;have H1:=af (h.below b1);have PB:=af (ai.new w #[.int .i64 i.does,.string i.rel,.int .i64 i.to] 298);have hbl:=h.blk.lt;clear h b1;go_enter Tryz.func153,Tryz.ntmps153;go_wp2_with fail;generalize (w.alloc (.cells #[.int .i64 i.does,.string i.rel,.int .i64 i.to] 298))=W at*;obtain ⟨c0,c1⟩:W.cell? ⟨b,0,none⟩=some (.string rel)∧W.cell? ⟨b,1,none⟩=some (.slice va l.length vc):=⟨(ae H1).blk.cell rfl,(ae H1).blk.cell rfl⟩;obtain ⟨x0,x1,x2⟩:W.cell? ⟨w.heap.size,0,none⟩=some (.int .i64 i.does)∧W.cell? ⟨w.heap.size,1,none⟩=some (.string i.rel)∧W.cell? ⟨w.heap.size,2,none⟩=some (.int .i64 i.to):=⟨(ae PB).cell rfl,(ae PB).cell rfl,(ae PB).cell rfl⟩;obtain ⟨i0,hi0,hz0,hz1,hz2⟩:=info_parts Tryz.infoIns;have HI:=af hi0;have fG:=af hz0;have fH:=af hz1;have fI:=af hz2;clear hi0 hz0 hz1 hz2;have hbk:=(ae H1).blk;have hz:=hbk.fz;have HO:=af (ae H1).row;have vZ:=(ae H1).low;have m7:=World.new_ne W _ c1;have m8:=World.new_ne W _ x0;have c7:(W.alloc (.cells #[.int .i64 i.does,.string i.rel,.int .i64 i.to] 298)).cell? ⟨b,1,none⟩=some (.slice va l.length vc):=(hbk.alloc _).cell rfl;have aaK:¬(b=W.heap.size):=by have:=hbk.lt;omega
 have hWl:=hbk.lt;have uO:=af hbk;clear hbk;have rM:=af (show ∀u∈JV i,u.oneCell'=true from by
  intro u hu;simp only [JV,List.mem_cons,List.not_mem_nil,or_false] at hu
  rcases hu with rfl|rfl|rfl<;>rfl)
 have Dy:=af (show l.length+1≤maxLen from by unfold maxLen;omega);have AC:=af (show (l.length+1)*32≤140737488355328 from by omega);have HS:=af (show base≤(W.alloc (.cells #[.int .i64 i.does,.string i.rel,.int .i64 i.to] 298)).drew.heap.size from by
  have:=((Below.refl _ W).alloc aeg (.cells #[.int .i64 i.does,.string i.rel,.int .i64 i.to] 298)).drew.size;omega)
 have HH:=af (show (W.alloc (.cells #[.int .i64 i.does,.string i.rel,.int .i64 i.to] 298)).drew.heap.size=W.heap.size+1 from by simp)
 go_region_law (refine step_append_lies _ rfl (.tmp 9) (.tmp 11) 199 rfl base 298 i0 _ 3 32 Tryz.underlying199 (ae HI) (ae fG) (ae fH) (ae fI) rfl (by decide) (.slice va l.length vc) l.length (l.flatMap JV) (by simp [Act.eval,Act.put]) (bK ((ae HO).alloc _)) ⟨W.heap.size,0,none⟩ 1 1 (JV i) (by simp [Act.eval,Act.put]) rfl (World.news_of_block (B:=W.heap.size) (cs:=#[.int .i64 i.does,.string i.rel,.int .i64 i.to]) (t:=298) (fr:=(0,0)) (ai.new W _ _).drew) (ae rM) (by decide) (ae Dy) (ae AC) (ae HS) (W.heap.size+1) (ae HH) ?_;intro g5 aD w5 aC aj aP di;have fU:=bK ((ae HO).alloc (.cells #[.int .i64 i.does,.string i.rel,.int .i64 i.to] 298));have uP:=((ae uO).alloc (.cells #[.int .i64 i.does,.string i.rel,.int .i64 i.to] 298)).drew;have K5:ai w5 b _ 293:=(aj.block b uP.lt (own_ne fU uP (by decide))).trans uP;obtain ⟨q0,q1⟩:=iH K5;have zq:=K5.fz;have Xg:=af K5;have G5:=af aj;have O5:=af aC;have A5:=af aP;have lq:=K5.lt;clear fU uP K5 aj aC aP)
 all_goals
  go_wp2;go_ret;exact Nc (ae H) (ae B1) (ae G5) (ae O5) (ae A5) (ae Xg)
def rY (l:List Ins) (k:Nat):List Ins:=match l[k]? with
 |some i=>l.set k ⟨i.does,i.rel,l.length⟩
 |none=>l
theorem F7 {l:List Ins} {k:Nat} (hk:k<l.length):rY l k=l.set k ⟨l[k].does,l[k].rel,l.length⟩:=by
 unfold rY;rw [aeh hk]
theorem Nf (l:List Ins) (k:Nat):(rY l k).length=l.length:=by
 unfold rY
 split
 ·simp
 ·rfl
theorem Qw (u:Nat):∀(l:List Ins) (k:Nat) (h:k<l.length),(l.flatMap JV).set (k*3+2) (.int .i64 u)=(l.set k ⟨l[k].does,l[k].rel,u⟩).flatMap JV
 | [],k,h=>by simp at h
 |i::l,0,_=>rfl
 |i::l,k+1,h=>by
  have ih:=Qw u l k (by simpa using h);rw [List.flatMap_cons,List.set_append_right _ _ (by show 3≤_;omega),show (k+1)*3+2-(JV i).length=k*3+2 by show (k+1)*3+2-3=_;omega,ih,List.set_cons_succ,List.flatMap_cons]
  rfl
theorem F8 (base b:Nat) (rel:aei) (v:Value) (l:List Ins) (k:Nat) (w:World) (h:WI base w b rel v l) (hl:l.length≤100000) (hk:k<l.length):
  Calls Tryz.prog 246 #[.pointer (some ⟨b,0,none⟩),.int .i64 k] w fun e w'=>e=.returned (.tuple #[])∧ut b v w w' v∧WI base w' b rel v (rY l k):=by
 obtain ⟨g,c,e1,hc⟩:=bP JV 3 (fun _=>rfl) h.row k l[k] (aeh hk);subst e1;have k2:w.cell? ⟨g,k*3+2,none⟩=some (.int .i64 l[k].to):=hc 2 _ (by omega) rfl;obtain ⟨c0,c1⟩:=iH h.blk;obtain ⟨cur,hblk,hge⟩:=jQ h.row;have hz:=hblk.fz;have hkn:(k:Int)<(l.length:Int):=by omega
 have hgb:¬(g=b):=fun e=>by
  have hb:=h.blk;subst e;unfold ai at hblk hb;rw [hb] at hblk;simp at hblk
 have hgb':¬(b=g):=fun e=>hgb e.symm
 have HW:=af (show (w.setCell ⟨g,k*3+2,none⟩ (.int .i64 l.length)).ownsRow base 298 3 (.slice (some ⟨g,0,none⟩) l.length c) (rY l k).length ((rY l k).flatMap JV) from by
  have:=uI h.row (k*3+2) (.int .i64 l.length);rw [Nf,F7 hk,←Qw];exact this)
 have HB:=af (h.blk.other (a:=⟨g,k*3+2,none⟩) hgb' (.int .i64 l.length));have vZ:=h.low;have HG:=af hge;generalize l[k].to=t0 at*;clear h hc hblk hge;go_enter Tryz.func246,Tryz.ntmps246;go_wp2_with fail;have bl:bW (fun k=>k=b∨(Value.slice (some ⟨g,0,none⟩) l.length c).ownBlock=some k) w (w.setCell ⟨g,k*3+2,none⟩ (.int .i64 l.length)):=(bW.refl _ w).set (.inr rfl) _;have BL:=af bl;clear bl
 go_region
 all_goals (
  go_end0;exact ⟨rfl,⟨(ae BL).drew,fun _ e=> .inl e⟩,⟨(ae HB).drew,bK (ae HW),vZ⟩⟩)
def qw (n:Nat) (r:aei) (each:Ins):List Ins:=[⟨1,⟨#[]⟩,0⟩,⟨3,r,n+5⟩,each,⟨6,⟨#[]⟩,0⟩,⟨10,⟨#[]⟩,n+1⟩]
theorem Ng (l:List Ins) (r:aei) (each:Ins):rY (((((l++[⟨1,⟨#[]⟩,0⟩])++[⟨3,r,0⟩])++[each])++[⟨6,⟨#[]⟩,0⟩])++[⟨10,⟨#[]⟩,l.length+1⟩]) (l.length+1)=l++qw l.length r each:=by
 have e:((((l++[⟨1,⟨#[]⟩,0⟩])++[⟨3,r,0⟩])++[each])++[⟨6,⟨#[]⟩,0⟩])++[⟨10,⟨#[]⟩,l.length+1⟩]=l++[⟨1,⟨#[]⟩,0⟩,⟨3,r,0⟩,each,⟨6,⟨#[]⟩,0⟩,(⟨10,⟨#[]⟩,l.length+1⟩:Ins)]:=by simp
 rw [e,F7 (by simp)];unfold qw;rw [List.set_append_right _ _ (by omega),show l.length+1-l.length=1 by omega];simp
def Qx (base b:Nat) (rel:aei) (v:Value) (l:List Ins) (r:aei) (each:Ins) (w:World) (e:Ending) (w':World):Prop:=∃v',e=.returned (.tuple #[])∧ut b v w w' v'∧WI base w' b rel v' (l++qw l.length r each)
theorem F9 (base b:Nat) (rel:aei) (v:Value) (l:List Ins) (r:aei) (each:Ins) (w:World) (h:WI base w b rel v l) (hl:l.length≤90000):
  Calls Tryz.prog 210 #[.pointer (some ⟨b,0,none⟩),.string r,.agg #[.int .i64 each.does,.string each.rel,.int .i64 each.to]] w fun e w'=>Qx base b rel v l r each w e w':=by
 have b0:=(Below.refl w.heap.size w).alloc aeg (.cells #[.int .i64 each.does,.string each.rel,.int .i64 each.to] 298);have Z0:=af (h.below b0);have F0:=af (ut.of_below (b:=b) (v:=v) b0);have E0:=af (ai.new w #[.int .i64 each.does,.string each.rel,.int .i64 each.to] 298);have rX:w.heap.size≠b:=by have:=h.blk.lt;omega
 have HQ:=af (show v.ownBlock≠some w.heap.size from fun e=>by have:=(h.row.lt _ e).2;omega);have HE:=af (Ng l r each);clear h b0;have V6:((l.length+1:Nat):Int)=(l.length:Int)+1:=by omega
 have HEC:=af V6;clear V6;go_enter Tryz.func210,Tryz.ntmps210;go_wp2_with fail;generalize w.alloc (.cells #[.int .i64 each.does,.string each.rel,.int .i64 each.to] 298)=W at*;have G0:=af (ut.of_below (b:=b) (v:=v) (Below.refl W.heap.size W));have C1:=af (kR base b rel _ l ⟨1,⟨#[]⟩,0⟩ W (ae Z0) (by omega));refine (ae C1).mono ?_;rintro e w1 ⟨v1,rfl,hb1,hz1⟩;have Z1:=af hz1;have F1:=af (ut.trans (ae G0) hb1);clear hb1 hz1 C1;have C2:=af (kR base b rel _ (l++[⟨1,⟨#[]⟩,0⟩]) ⟨3,r,0⟩ w1 (ae Z1) (by first|omega|(simp;omega)))
 skip
 go_wp2_with fail;refine (ae C2).mono ?_;rintro e w2 ⟨v2,rfl,hb2,hz2⟩;have Z2:=af hz2;have F2:=af (ut.trans (ae F1) hb2);clear hb2 hz2 C2;have EB:=(ae F2).blk (ae E0) rX (ae HQ);obtain ⟨e0,e1,e2⟩:=three EB;clear EB;have C3:=af (kR base b rel _ ((l++[⟨1,⟨#[]⟩,0⟩])++[⟨3,r,0⟩]) each w2 (ae Z2) (by first|omega|(simp;omega)))
 skip
 go_wp2_with fail;refine (ae C3).mono ?_;rintro e w3 ⟨v3,rfl,hb3,hz3⟩;have Z3:=af hz3;have F3:=af (ut.trans (ae F2) hb3);clear hb3 hz3 C3;clear e0 e1 e2;have C4:=af (kR base b rel _ (((l++[⟨1,⟨#[]⟩,0⟩])++[⟨3,r,0⟩])++[each]) ⟨6,⟨#[]⟩,0⟩ w3 (ae Z3) (by first|omega|(simp;omega)))
 skip
 go_wp2_with fail;refine (ae C4).mono ?_;rintro e w4 ⟨v4,rfl,hb4,hz4⟩;have Z4:=af hz4;have F4:=af (ut.trans (ae F3) hb4);clear hb4 hz4 C4;have C5:=af (kR base b rel _ ((((l++[⟨1,⟨#[]⟩,0⟩])++[⟨3,r,0⟩])++[each])++[⟨6,⟨#[]⟩,0⟩]) ⟨10,⟨#[]⟩,l.length+1⟩ w4 (ae Z4) (by first|omega|(simp;omega)))
 (dsimp only at C5;rw [ae HEC] at C5)
 go_wp2_with fail;refine (ae C5).mono ?_;rintro e w5 ⟨v5,rfl,bV,hz5⟩;have Z5:=af hz5;have F5:=af (ut.trans (ae F4) bV);clear bV hz5 C5;have CL:=af (F8 base b rel _ _ (l.length+1) w5 (ae Z5) (by simp;omega) (by simp));rw [ae HE,ae HEC] at CL;go_wp2_with fail;refine (ae CL).mono ?_;rintro e w6 ⟨rfl,tL,hz6⟩;have Z6:=af hz6;have F6:=af ((ae F0).trans (ut.trans (ae F5) tL));clear tL hz6 CL;go_wp2;go_end0;exact ⟨_,rfl,ae F6,ae Z6⟩
end Go.Proofs.YtlbpnlngckgcbaaGreatDoor
namespace Go.Proofs.YtlbpnlngckgcbaaGreatDoor
open Go.RowKit Go.PlainAid
end Go.Proofs.YtlbpnlngckgcbaaGreatDoor
namespace Go.Proofs.YtlbpnlngckgcbaaGreatDoor
open Go.RowKit Go.PlainAid
end Go.Proofs.YtlbpnlngckgcbaaGreatDoor
namespace Go.Proofs.YtlbpnlngckgcbaaGreatDoor
open Go.RowKit Go.PlainAid
end Go.Proofs.YtlbpnlngckgcbaaGreatDoor
namespace Go.Proofs.YtlbpnlngckgcbaaGreatDoor
open Go.RowKit Go.PlainAid
def aY (rel:aei):Nat→Ex→List Ins
 |m,⟨n,some x,some y⟩=>if n.kind=3 then aY rel m x++aY rel (m+(aY rel m x).length) y++[⟨6,⟨#[]⟩,0⟩]
  else aY rel m x++[⟨9,⟨#[]⟩,m+(aY rel m x).length+(aY rel (m+(aY rel m x).length+1) y).length+2⟩]++aY rel (m+(aY rel m x).length+1) y++[⟨if n.kind=4 then 7 else 8,⟨#[]⟩,0⟩]
 |m,⟨n,none,_⟩=>if n.kind=0 then qw m rel ⟨4,⟨#[]⟩,0⟩ else if n.kind=1 then [⟨2,n.n1,0⟩] else qw m n.n1 ⟨5,n.n2,0⟩
 |_,⟨_,some _,none⟩=>[]
def qx (base b:Nat) (rel:aei) (v:Value) (l c:List Ins) (w:World) (e:Ending) (w':World):Prop:=∃v',e=.returned (.tuple #[])∧ut b v w w' v'∧WI base w' b rel v' (l++c)
theorem WI.gkept {base:Nat} {w w':World} {b:Nat} {rel:aei} {v v':Value} {l:List Ins} (h:WI base w b rel v l) (k:ut b v w w' v') (bb:Nat):lX bb w w':=fun g cs f _ hh=>k.but.block g (lt_of_some hh) (fun e=>by
 rcases e with rfl|e
 ·have:=h.blk;unfold ai at this;rw [this] at hh;simp at hh
 ·rcases h.row.2 with ⟨e2,_⟩|⟨g',cap,cur,e2,_,hc,_⟩
  ·rw [e2] at e;simp [Value.ownBlock] at e
  ·rw [e2] at e;simp only [Value.ownBlock,Option.some.injEq] at e;rw [e] at hc;rw [hc] at hh;simp at hh)
theorem Nh (base b:Nat) (rel:aei) (v:Value) (l:List Ins) (p:Nat) (sa:Option Addr) (sn sc:Nat) (w:World) (h:WI base w b rel v l) (hl:l.length≤90000):
  Calls Tryz.prog 152 #[.pointer (some ⟨b,0,none⟩),.iface 236 (.agg #[.int .i64 p,.slice sa sn sc])] w (qx base b rel v l (qw l.length rel ⟨4,⟨#[]⟩,0⟩) w):=by
 have f0:=dU;have f1:=fe;have f2:=fo;have f3:=cZ;have f4:=dV;have f5:=dW;have g1:=iA;have g2:=iB;have g3:=dY;have g4:=gq;have g5:=gz;have h2:=iC;have h3:=dZ;have h4:=gu;have h5:=gB;have i3:=dx;have i4:=eD;have i5:=eG;have j4:=gH;have j5:=gI;have k5:=fq;have b0:=(Below.refl w.heap.size w).alloc aeg (.cells #[.int .i64 p,.slice sa sn sc] 236);have F0:=af (ut.of_below (b:=b) (v:=v) b0);have C:=af (F9 base b rel v l rel ⟨4,⟨#[]⟩,0⟩ _ (h.below b0) hl);have c0:w.cell? ⟨b,0,none⟩=some (.string rel):=h.blk.cell rfl;have c0':(w.alloc (.cells #[.int .i64 p,.slice sa sn sc] 236)).cell? ⟨b,0,none⟩=some (.string rel):=(h.below b0).blk.cell rfl;have m7:=World.new_ne w _ c0;have hne:¬(w.heap.size=b):=by have:=h.blk.lt;omega
 have fT:¬(b=w.heap.size):=by have:=h.blk.lt;omega
 clear h b0;go_enter Tryz.func152,Tryz.ntmps152;go_wp2_with fail;refine (ae C).mono ?_;rintro e w1 ⟨v1,rfl,hf,hz⟩;have HF:=af ((ae F0).trans hf);have HZ:=af hz;clear hf hz C;go_wp2;go_end0;exact ⟨_,rfl,ae HF,ae HZ⟩
theorem Qy (base b:Nat) (rel:aei) (v:Value) (l:List Ins) (p:Nat) (s:aei) (w:World) (h:WI base w b rel v l) (hl:l.length≤90000):
  Calls Tryz.prog 152 #[.pointer (some ⟨b,0,none⟩),.iface 238 (.agg #[.int .i64 p,.string s])] w (qx base b rel v l [⟨2,s,0⟩] w):=by
 have f0:=dU;have f1:=fe;have f2:=fo;have f3:=cZ;have f4:=dV;have f5:=dW;have g1:=iA;have g2:=iB;have g3:=dY;have g4:=gq;have g5:=gz;have h2:=iC;have h3:=dZ;have h4:=gu;have h5:=gB;have i3:=dx;have i4:=eD;have i5:=eG;have j4:=gH;have j5:=gI;have k5:=fq;have b0:=(Below.refl w.heap.size w).alloc aeg (.cells #[.int .i64 p,.string s] 238);have F0:=af (ut.of_below (b:=b) (v:=v) b0);have C:=af (kR base b rel v l ⟨2,s,0⟩ _ (h.below b0) (by omega));clear h b0;go_enter Tryz.func152,Tryz.ntmps152;go_wp2_with fail;refine (ae C).mono ?_;rintro e w1 ⟨v1,rfl,hf,hz⟩;have HF:=af ((ae F0).trans hf);have HZ:=af hz;clear hf hz C;go_wp2;go_end0;exact ⟨_,rfl,ae HF,ae HZ⟩
theorem Qz (base b:Nat) (rel:aei) (v:Value) (l:List Ins) (p p1 p2:Nat) (s t:aei) (w:World) (h:WI base w b rel v l) (hl:l.length≤90000):
  Calls Tryz.prog 152 #[.pointer (some ⟨b,0,none⟩),.iface 240 (.agg #[.int .i64 p,.int .i64 p1,.string s,.int .i64 p2,.string t])] w (qx base b rel v l (qw l.length s ⟨5,t,0⟩) w):=by
 have f0:=dU;have f1:=fe;have f2:=fo;have f3:=cZ;have f4:=dV;have f5:=dW;have g1:=iA;have g2:=iB;have g3:=dY;have g4:=gq;have g5:=gz;have h2:=iC;have h3:=dZ;have h4:=gu;have h5:=gB;have i3:=dx;have i4:=eD;have i5:=eG;have j4:=gH;have j5:=gI;have k5:=fq;have b0:=(Below.refl w.heap.size w).alloc aeg (.cells #[.int .i64 p,.int .i64 p1,.string s,.int .i64 p2,.string t] 240);have F0:=af (ut.of_below (b:=b) (v:=v) b0);have C:=af (F9 base b rel v l s ⟨5,t,0⟩ _ (h.below b0) hl);clear h b0;go_enter Tryz.func152,Tryz.ntmps152;go_wp2_with fail;refine (ae C).mono ?_;rintro e w1 ⟨v1,rfl,hf,hz⟩;have HF:=af ((ae F0).trans hf);have HZ:=af hz;clear hf hz C;go_wp2;go_end0;exact ⟨_,rfl,ae HF,ae HZ⟩
theorem om (rel:aei) (e:Ex):∀n,(aY rel n e).length≤8*(ax e).length:=by
 induction e using Ex.ind with
 |h0 n r=>
  intro m;have:(ax ⟨n,none,r⟩).length=1:=by simp [ax]
  rw [this];unfold aY
  split
  ·simp [qw]
  ·split
   ·simp
   ·simp [qw]
 |h1 n a=>intro m;simp [aY]
 |h2 n a c iha Vy=>
  intro m;have hpl:(ax ⟨n,some a,some c⟩).length=(ax a).length+1+(ax c).length:=by simp [ax];omega
  rw [hpl];have h1:=iha m;have h2:=Vy (m+(aY rel m a).length);have h3:=Vy (m+(aY rel m a).length+1);unfold aY
  split
  ·simp only [List.length_append,List.length_cons,List.length_nil];omega
  ·simp only [List.length_append,List.length_cons,List.length_nil];omega
def UQ (base b:Nat) (rel:aei) (bb:Nat) (e:Ex):Prop:=∀(v:Value) (l:List Ins) (w:World) (val:Value),aH bb w e val→WI base w b rel v l→l.length+8*(ax e).length≤80000→Calls Tryz.prog 152 #[.pointer (some ⟨b,0,none⟩),val] w (qx base b rel v l (aY rel l.length e) w)
theorem Ga (base b:Nat) (rel:aei) (bb:Nat) (x y:Ex) (hx:UQ base b rel bb x) (hy:UQ base b rel bb y) (v:Value) (l:List Ins) (p:Nat) (vx vy:Value) (w:World) (rx:aH bb w x vx) (ry:aH bb w y vy) (h:WI base w b rel v l) (hl:l.length+8*((ax x).length+(ax y).length)+8≤80000):
  Calls Tryz.prog 152 #[.pointer (some ⟨b,0,none⟩),.iface 244 (.agg #[.int .i64 p,vx,vy])] w (qx base b rel v l (aY rel l.length x++aY rel (l.length+(aY rel l.length x).length) y++[⟨6,⟨#[]⟩,0⟩]) w):=by
 have f0:=dU;have f1:=fe;have f2:=fo;have f3:=cZ;have f4:=dV;have f5:=dW;have g1:=iA;have g2:=iB;have g3:=dY;have g4:=gq;have g5:=gz;have h2:=iC;have h3:=dZ;have h4:=gu;have h5:=gB;have i3:=dx;have i4:=eD;have i5:=eG;have j4:=gH;have j5:=gI;have k5:=fq;obtain ⟨xa,xv,rfl⟩:=rx.isI;obtain ⟨ya,yv,rfl⟩:=ry.isI;have b0:=(Below.refl w.heap.size w).alloc aeg (.cells #[.int .i64 p,.iface xa xv,.iface ya yv] 244);have Z0:=af (h.below b0);have F0:=af (ut.of_below (b:=b) (v:=v) b0);have E0:=af (ai.new w #[.int .i64 p,.iface xa xv,.iface ya yv] 244);have rX:w.heap.size≠b:=by have:=h.blk.lt;omega
 have HQ:=af (show v.ownBlock≠some w.heap.size from fun e=>by have:=(h.row.lt _ e).2;omega);have lx:=om rel x l.length;have ly:=om rel y (l.length+(aY rel l.length x).length);have C1:=af (hx v l _ _ (rx.but (But.of_below b0)) (h.below b0) (by omega));have RY:=af (ry.but (But.of_below b0));have HY:=af hy;generalize Yl:aY rel l.length x=cx at*;have HCY:=af (show aY rel (l++cx).length y=aY rel (l.length+cx.length) y from by rw [List.length_append]);generalize hcy:aY rel (l.length+cx.length) y=cy at*;clear h b0 rx ry hx hy Yl hcy;go_enter Tryz.func152,Tryz.ntmps152;go_wp2_with fail;generalize (w.alloc (.cells #[.int .i64 p,.iface xa xv,.iface ya yv] 244))=W at*;refine (ae C1).mono ?_;rintro e w1 ⟨v1,rfl,f1,z1⟩;have C2:=af (ae HY v1 (l++cx) w1 _ (aH.frame ((ae Z0).gkept f1 bb) _ _ (ae RY)) z1 (by rw [List.length_append];omega));rw [ae HCY] at C2;have e1:=(f1.blk (ae E0) rX (ae HQ));obtain ⟨x0,x1,x2⟩:=three e1;have F1:=af ((ae F0).trans f1);clear f1 z1 C1 HY RY e1;go_wp2_with fail;refine (ae C2).mono ?_;rintro e w2 ⟨v2,rfl,f2,z2⟩;have C3:=af (kR base b rel v2 _ ⟨6,⟨#[]⟩,0⟩ w2 z2 (by rw [List.length_append,List.length_append];omega));have F2:=af ((ae F1).trans f2);clear f2 z2 C2 x0 x1 x2;go_wp2_with fail;refine (ae C3).mono ?_;rintro e w3 ⟨v3,rfl,f3,z3⟩;have F3:=af ((ae F2).trans f3);have Z3:=af z3;clear f3 z3 C3;go_wp2;go_end0;exact ⟨_,rfl,ae F3,by simpa [List.append_assoc] using ae Z3⟩
theorem Gb (l cx cy:List Ins) (d:Nat):rY ((((l++cx)++[⟨9,⟨#[]⟩,0⟩])++cy)++[⟨d,⟨#[]⟩,0⟩]) (l.length+cx.length)=l++(cx++[⟨9,⟨#[]⟩,l.length+cx.length+cy.length+2⟩]++cy++[⟨d,⟨#[]⟩,0⟩]):=by
 have e:(((l++cx)++[⟨9,⟨#[]⟩,0⟩])++cy)++[(⟨d,⟨#[]⟩,0⟩:Ins)]=(l++cx)++(⟨9,⟨#[]⟩,0⟩::(cy++[⟨d,⟨#[]⟩,0⟩])):=by simp
 have hk:l.length+cx.length<((l++cx)++((⟨9,⟨#[]⟩,0⟩:Ins)::(cy++[⟨d,⟨#[]⟩,0⟩]))).length:=by simp
 have hg:((l++cx)++((⟨9,⟨#[]⟩,0⟩:Ins)::(cy++[⟨d,⟨#[]⟩,0⟩])))[l.length+cx.length]? =some ⟨9,⟨#[]⟩,0⟩:=by
  rw [List.getElem?_append_right (by simp)];simp
 rw [e];unfold rY;rw [hg];simp only;rw [List.set_append_right _ _ (by simp),show l.length+cx.length-(l++cx).length=0 by simp,List.set_cons_zero];simp;omega
theorem zh (base b:Nat) (rel:aei) (bb:Nat) (x y:Ex) (hx:UQ base b rel bb x) (hy:UQ base b rel bb y) (v:Value) (l:List Ins) (p d:Nat) (vx vy:Value) (w:World) (rx:aH bb w x vx) (ry:aH bb w y vy) (h:WI base w b rel v l) (hl:l.length+8*((ax x).length+(ax y).length)+8≤80000):
  Calls Tryz.prog 211 #[.pointer (some ⟨b,0,none⟩),.agg #[.int .i64 p,vx,vy],.int .i64 d] w (qx base b rel v l (aY rel l.length x++[⟨9,⟨#[]⟩,l.length+(aY rel l.length x).length+(aY rel (l.length+(aY rel l.length x).length+1) y).length+2⟩]++aY rel (l.length+(aY rel l.length x).length+1) y++[⟨d,⟨#[]⟩,0⟩]) w):=by
 obtain ⟨xa,xv,rfl⟩:=rx.isI;obtain ⟨ya,yv,rfl⟩:=ry.isI;have b0:=(Below.refl w.heap.size w).alloc aeg (.cells #[.int .i64 p,.iface xa xv,.iface ya yv] 242);have Z0:=af (h.below b0);have F0:=af (ut.of_below (b:=b) (v:=v) b0);have E0:=af (ai.new w #[.int .i64 p,.iface xa xv,.iface ya yv] 242);have rX:w.heap.size≠b:=by have:=h.blk.lt;omega
 have HQ:=af (show v.ownBlock≠some w.heap.size from fun e=>by have:=(h.row.lt _ e).2;omega);have lx:=om rel x l.length;have ly:=om rel y (l.length+(aY rel l.length x).length+1);have C1:=af (hx v l _ _ (rx.but (But.of_below b0)) (h.below b0) (by omega));have RY:=af (ry.but (But.of_below b0));have HY:=af hy;generalize Yl:aY rel l.length x=cx at*;have HCY:=af (show aY rel ((l++cx)++[(⟨9,⟨#[]⟩,0⟩:Ins)]).length y=aY rel (l.length+cx.length+1) y from by rw [List.length_append,List.length_append];rfl);generalize hcy:aY rel (l.length+cx.length+1) y=cy at*;have HE:=af (Gb l cx cy d);have HEC:=af (show ((l.length+cx.length:Nat):Int)=(l.length:Int)+(cx.length:Int) from by omega);clear h b0 rx ry hx hy Yl hcy;go_enter Tryz.func211,Tryz.ntmps211;go_wp2_with fail;generalize (w.alloc (.cells #[.int .i64 p,.iface xa xv,.iface ya yv] 242))=W at*;refine (ae C1).mono ?_;rintro e w1 ⟨v1,rfl,f1,z1⟩;have C2:=af (kR base b rel v1 _ ⟨9,⟨#[]⟩,0⟩ w1 z1 (by rw [List.length_append];omega));have RY1:=af (aH.frame ((ae Z0).gkept f1 bb) _ _ (ae RY));have Z1:=af z1;have G1:=af f1;clear f1 z1 C1 RY;go_wp2_with fail;refine (ae C2).mono ?_;rintro e w2 ⟨v2,rfl,f2,z2⟩;have C3:=af (ae HY v2 _ w2 _ (aH.frame ((ae Z1).gkept f2 bb) _ _ (ae RY1)) z2 (by rw [List.length_append,List.length_append];simp;omega));rw [ae HCY] at C3;have G2:=af ((ae G1).trans f2);obtain ⟨x0,x1,x2⟩:=three ((ae G2).blk (ae E0) rX (ae HQ));clear f2 z2 C2 RY1 Z1 HY;go_wp2_with fail;refine (ae C3).mono ?_;rintro e w3 ⟨v3,rfl,f3,z3⟩;have C4:=af (kR base b rel v3 _ ⟨d,⟨#[]⟩,0⟩ w3 z3 (by rw [List.length_append,List.length_append,List.length_append];simp;omega));have G3:=af ((ae G2).trans f3);clear f3 z3 C3 x0 x1 x2;go_wp2_with fail;refine (ae C4).mono ?_;rintro e w4 ⟨v4,rfl,f4,z4⟩;have C5:=af (F8 base b rel v4 _ (l.length+cx.length) w4 z4 (by simp;omega) (by simp));rw [ae HE,ae HEC] at C5;have G4:=af ((ae G3).trans f4);clear f4 z4 C4;go_wp2_with fail;refine (ae C5).mono ?_;rintro e w5 ⟨rfl,f5,z5⟩;have G5:=af ((ae F0).trans ((ae G4).trans f5));have Z5:=af z5;clear f5 z5 C5;go_wp2;go_end0;exact ⟨_,rfl,ae G5,ae Z5⟩
theorem Ni (base b:Nat) (rel:aei) (bb:Nat) (x y:Ex) (hx:UQ base b rel bb x) (hy:UQ base b rel bb y) (v:Value) (l:List Ins) (p:Nat) (vx vy:Value) (w:World) (rx:aH bb w x vx) (ry:aH bb w y vy) (h:WI base w b rel v l) (hl:l.length+8*((ax x).length+(ax y).length)+8≤80000):
  Calls Tryz.prog 152 #[.pointer (some ⟨b,0,none⟩),.iface 245 (.agg #[.int .i64 p,vx,vy])] w (qx base b rel v l (aY rel l.length x++[⟨9,⟨#[]⟩,l.length+(aY rel l.length x).length+(aY rel (l.length+(aY rel l.length x).length+1) y).length+2⟩]++aY rel (l.length+(aY rel l.length x).length+1) y++[⟨7,⟨#[]⟩,0⟩]) w):=by
 have f0:=dU;have f1:=fe;have f2:=fo;have f3:=cZ;have f4:=dV;have f5:=dW;have g1:=iA;have g2:=iB;have g3:=dY;have g4:=gq;have g5:=gz;have h2:=iC;have h3:=dZ;have h4:=gu;have h5:=gB;have i3:=dx;have i4:=eD;have i5:=eG;have j4:=gH;have j5:=gI;have k5:=fq;obtain ⟨xa,xv,rfl⟩:=rx.isI;obtain ⟨ya,yv,rfl⟩:=ry.isI;have b0:=(Below.refl w.heap.size w).alloc aeg (.cells #[.int .i64 p,.iface xa xv,.iface ya yv] 245);have F0:=af (ut.of_below (b:=b) (v:=v) b0);have C:=af (zh base b rel bb x y hx hy v l p 7 _ _ _ (rx.but (But.of_below b0)) (ry.but (But.of_below b0)) (h.below b0) hl);clear h b0 rx ry hx hy;go_enter Tryz.func152,Tryz.ntmps152;go_wp2_with fail;refine (ae C).mono ?_;rintro e w1 ⟨v1,rfl,hf,hz⟩;have HF:=af ((ae F0).trans hf);have HZ:=af hz;clear hf hz C;go_wp2;go_end0;exact ⟨_,rfl,ae HF,ae HZ⟩
theorem Nj (base b:Nat) (rel:aei) (bb:Nat) (x y:Ex) (hx:UQ base b rel bb x) (hy:UQ base b rel bb y) (v:Value) (l:List Ins) (p:Nat) (vx vy:Value) (w:World) (rx:aH bb w x vx) (ry:aH bb w y vy) (h:WI base w b rel v l) (hl:l.length+8*((ax x).length+(ax y).length)+8≤80000):
  Calls Tryz.prog 152 #[.pointer (some ⟨b,0,none⟩),.iface 246 (.agg #[.int .i64 p,vx,vy])] w (qx base b rel v l (aY rel l.length x++[⟨9,⟨#[]⟩,l.length+(aY rel l.length x).length+(aY rel (l.length+(aY rel l.length x).length+1) y).length+2⟩]++aY rel (l.length+(aY rel l.length x).length+1) y++[⟨8,⟨#[]⟩,0⟩]) w):=by
 have f0:=dU;have f1:=fe;have f2:=fo;have f3:=cZ;have f4:=dV;have f5:=dW;have g1:=iA;have g2:=iB;have g3:=dY;have g4:=gq;have g5:=gz;have h2:=iC;have h3:=dZ;have h4:=gu;have h5:=gB;have i3:=dx;have i4:=eD;have i5:=eG;have j4:=gH;have j5:=gI;have k5:=fq;obtain ⟨xa,xv,rfl⟩:=rx.isI;obtain ⟨ya,yv,rfl⟩:=ry.isI;have b0:=(Below.refl w.heap.size w).alloc aeg (.cells #[.int .i64 p,.iface xa xv,.iface ya yv] 246);have F0:=af (ut.of_below (b:=b) (v:=v) b0);have C:=af (zh base b rel bb x y hx hy v l p 8 _ _ _ (rx.but (But.of_below b0)) (ry.but (But.of_below b0)) (h.below b0) hl);clear h b0 rx ry hx hy;go_enter Tryz.func152,Tryz.ntmps152;go_wp2_with fail;refine (ae C).mono ?_;rintro e w1 ⟨v1,rfl,hf,hz⟩;have HF:=af ((ae F0).trans hf);have HZ:=af hz;clear hf hz C;go_wp2;go_end0;exact ⟨_,rfl,ae HF,ae HZ⟩
theorem Nk (base b:Nat) (rel:aei) (bb:Nat) (e:Ex):UQ base b rel bb e:=by
 induction e using Ex.ind with
 |h0 n r=>
  intro v l w val h hw hl;have hp:(ax ⟨n,none,r⟩).length=1:=by simp [ax]
  rw [hp] at hl
  rcases h with ⟨hk,sv,rfl,hrow⟩|⟨hk,rfl⟩|⟨hk,rfl⟩
  ·have he:aY rel l.length ⟨n,none,r⟩=qw l.length rel ⟨4,⟨#[]⟩,0⟩:=by simp [aY,hk]
   obtain ⟨sa,sc,rfl⟩:=au hrow;rw [he];exact Nh base b rel v l _ _ _ _ w hw (by omega)
  ·have he:aY rel l.length ⟨n,none,r⟩=[⟨2,n.n1,0⟩]:=by simp [aY,hk]
   rw [he];exact Qy base b rel v l _ _ w hw (by omega)
  ·have he:aY rel l.length ⟨n,none,r⟩=qw l.length n.n1 ⟨5,n.n2,0⟩:=by simp [aY,hk]
   rw [he];exact Qz base b rel v l _ _ _ _ _ w hw (by omega)
 |h1 n a=>intro v l w val h;exact h.elim
 |h2 n a c iha Vy=>
  intro v l w val h hw hl;have hpl:(ax ⟨n,some a,some c⟩).length=(ax a).length+1+(ax c).length:=by simp [ax];omega
  rw [hpl] at hl;obtain ⟨vx,vy,rfl,rx,ry⟩:=h
  by_cases k3:n.kind=3
  ·have ht:jl n.kind=244:=by simp [jl,k3]
   rw [aY,if_pos k3,ht];exact Ga base b rel bb a c iha Vy v l _ _ _ w rx ry hw (by omega)
  ·by_cases k4:n.kind=4
   ·have ht:jl n.kind=245:=by simp [jl,k4]
    rw [aY,if_neg k3,if_pos k4,ht];exact Ni base b rel bb a c iha Vy v l _ _ _ w rx ry hw (by omega)
   ·have ht:jl n.kind=246:=by simp [jl,k3,k4]
    rw [aY,if_neg k3,if_neg k4,ht];exact Nj base b rel bb a c iha Vy v l _ _ _ w rx ry hw (by omega)
def vw (t:aei) (e:Ex):List Ins:=aY t 0 e++[⟨0,⟨#[]⟩,0⟩]
def Ym (k t:aei) (e:Ex) (w:World) (e':Ending) (w':World):Prop:=∃v',e'=.returned (.agg #[.string k,.string t,v'])∧Below w.heap.size w w'∧w'.ownsRow w.heap.size 298 3 v' (vw t e).length ((vw t e).flatMap JV)
theorem V7 {P:Program} {fn:Func} {p:Tmp} {ty:TypeId} (h:fn.results=#[.cell p ty]) (tmps:Array Value) (w:World) (g:Nat) (cs':Array Value) (t:TypeId) (d:TypeDesc)
  (hp:tmps.getD p undef=.pointer (some ⟨g,0,none⟩)) (hb:∃cs,ai w g cs t∧cs=cs')
  (hu:P.underlying ty=some d) (hd:(match d with| .struct _| .array _ _=>true|_=>false)=true) (hi:(P.info? ty).map (·.size)=some cs'.size):
  (results fn tmps).run P w=.ok (.agg cs') w:=by
 obtain ⟨cs,hb,rfl⟩:=hb;exact results_cell_row h tmps w g t cs (0,0) d hp hb hu hd hi
theorem JW (bb:Nat) (k t:aei) (pl:Nat) (e:Ex) (val:Value) (w:World) (h:aH bb w e val) (hp:(ax e).length≤1000):
  Calls Tryz.prog 101 #[.agg #[.string k,.int .i64 pl,.string t,val]] w (Ym k t e w):=by
 obtain ⟨va,vv,rfl⟩:=h.isI;have b0:Below w.heap.size w (((w.alloc (.cells #[.string k,.int .i64 pl,.string t,.iface va vv] 198)).alloc (.cells #[.string ⟨#[]⟩,.string ⟨#[]⟩,.slice none 0 0] 201)).alloc (.cells #[.string t,.slice none 0 0] 293)):=(((Below.refl w.heap.size w).alloc aeg _).alloc (by simp) _).alloc (by simp;omega) _;have Z0:WI w.heap.size (((w.alloc (.cells #[.string k,.int .i64 pl,.string t,.iface va vv] 198)).alloc (.cells #[.string ⟨#[]⟩,.string ⟨#[]⟩,.slice none 0 0] 201)).alloc (.cells #[.string t,.slice none 0 0] 293)) (w.heap.size+1+1) t (.slice none 0 0) []:=⟨ai.new' _ _ _ _ (by simp),World.ownsRow_nil _ _ _ _,by omega⟩;have R0:=af (((ai.new w #[.string k,.int .i64 pl,.string t,.iface va vv] 198).alloc (.cells #[.string ⟨#[]⟩,.string ⟨#[]⟩,.slice none 0 0] 201)).alloc (.cells #[.string t,.slice none 0 0] 293));have L0:=af ((ai.new' (w.alloc (.cells #[.string k,.int .i64 pl,.string t,.iface va vv] 198)) #[.string ⟨#[]⟩,.string ⟨#[]⟩,.slice none 0 0] 201 (w.heap.size+1) (by simp)).alloc (.cells #[.string t,.slice none 0 0] 293));have lc:=om t e 0;have C1:=af (Nk w.heap.size (w.heap.size+1+1) t bb e (.slice none 0 0) [] _ _ (h.but (But.of_below b0)) Z0 (by simp;omega));have HZ:=af Z0;have B0:=af b0;rw [List.length_nil] at C1;clear h b0 Z0;go_enter Tryz.func101,Tryz.ntmps101;go_wp2_with fail;generalize (((w.alloc (.cells #[.string k,.int .i64 pl,.string t,.iface va vv] 198)).alloc (.cells #[.string ⟨#[]⟩,.string ⟨#[]⟩,.slice none 0 0] 201)).alloc (.cells #[.string t,.slice none 0 0] 293))=W at*;refine (ae C1).mono ?_;rintro e' w1 ⟨v1,rfl,f1,z1⟩;rw [List.nil_append] at z1;have C2:=af (kR w.heap.size (w.heap.size+1+1) t v1 _ ⟨0,⟨#[]⟩,0⟩ w1 z1 (by omega));have F1:=af f1;clear f1 z1 C1;go_wp2_with fail;refine (ae C2).mono ?_;rintro e' w2 ⟨v2,rfl,f2,z2⟩;have F2:=(ae F1).trans f2;have R2:=F2.blk (ae R0) (by omega) (by simp [Value.ownBlock]);have L2:=F2.blk (ae L0) (by omega) (by simp [Value.ownBlock]);obtain ⟨q0,q1,q2,q3⟩:w2.cell? ⟨w.heap.size,0,none⟩=some (.string k)∧w2.cell? ⟨w.heap.size,1,none⟩=some (.int .i64 pl)∧w2.cell? ⟨w.heap.size,2,none⟩=some (.string t)∧w2.cell? ⟨w.heap.size,3,none⟩=some (.iface va vv):=⟨R2.cell rfl,R2.cell rfl,R2.cell rfl,R2.cell rfl⟩;obtain ⟨y0,y1,y2⟩:=three L2;have yz:=L2.fz;obtain ⟨va2,vc2,rfl⟩:=au z2.row;obtain ⟨u0,u1⟩:=iH z2.blk;have HB:=af ((ae B0).trans (F2.below (ae HZ)));have HL:=af L2;have HW:=af z2;clear f2 z2 C2 F2 R2 L2;go_wp2_with fail;have hn:(vw t e).length=(aY t 0 e).length+1:=by simp [vw]
 refine bodyPost_ret (v:=.agg #[.string k,.string t,.slice va2 ((aY t 0 e).length+1) vc2]) (V7 Tryz.results101 _ _ (w.heap.size+1) _ 201 _ rfl ?hB Tryz.underlying201 rfl (by kernel_rfl)) rfl ?post
 case hB=>exact ⟨_,(by with_reducible repeat (first|exact ae HL|apply ai.alloc|apply ai.drew|apply ai.set|(apply ai.other;case ha=>exact (by first|omega|(simp;omega)|simp)))),by rfl⟩
 case post=>
  have K0:=ae HL;have O0:=(ae HW).row;have O1:=aX O0 K0 (by decide) 0 (.string k);have K1:=K0.set 0 (.string k);have O2:=aX O1 K1 (by decide) 1 (.string t);have K2:=K1.set 1 (.string t);have O3:=aX O2 K2 (by decide) 2 (.slice va2 ((aY t 0 e).length+1) vc2);refine ⟨_,rfl,(by with_reducible repeat (first|exact ae HB|refine Below.drew ?_|(refine Below.setCell ?_ ?_ _;rotate_left;exact (by first|omega|(simp;omega)|simp))|(refine Below.alloc ?_ ?_ _;rotate_left;exact (by first|omega|(simp;omega)|simp)))),?_⟩;rw [hn];rw [show (aY t 0 e++[(⟨0,⟨#[]⟩,0⟩:Ins)]).length=(aY t 0 e).length+1 from by simp] at O3;exact O3
def pF {α:Type} (n:Nat) (g:List (List α)):List (List α):=g++List.replicate (n-g.length) []
def lD {α:Type} (n:Nat) (x:α) (g:List (List α)):List (List α):=(pF n g).set (n-1) ((pF n g).getD (n-1) []++[x])
def kS {α:Type} (rk:α→Nat) (l:List α):List (List α):=l.foldl (fun g x=>lD (rk x) x g) []
theorem DV {α:Type} (rk:α→Nat) (l:List α) (x:α):kS rk (l++[x])=lD (rk x) x (kS rk l):=by simp [kS]
def OD (x:It):List Value:=[.string x.1.1.name,.int .i64 x.2.1.place,.string x.2.1.name,x.2.2]
structure q8 (base:Nat) (w:World) (sv:Value) (ps:List (Value×List It)):Prop where
 row:w.ownsRow base 196 1 sv ps.length (ps.map Prod.fst)
 inn:∀p∈ps,w.ownsRow base 198 4 p.1 p.2.length (p.2.flatMap OD)
 ap:ps.Pairwise (fun p q=>∀k,p.1.ownBlock=some k→q.1.ownBlock≠some k)
theorem q8.frame {base:Nat} {w w':World} {sv:Value} {ps:List (Value×List It)} (h:q8 base w sv ps) (k:∀(g:Nat) (cs:Array Value) (T:TypeId) (f:Nat×Nat),w.heap[g]? =some (Obj.cells cs T f)→(T=196∨T=198)→w'.heap[g]? =w.heap[g]?):q8 base w' sv ps:=
 ⟨ak h.row (fun g cs f _ hh=>k g cs _ f hh (.inl rfl)),fun p hp=>ak (h.inn p hp) (fun g cs f _ hh=>k g cs _ f hh (.inr rfl)),h.ap⟩
theorem q8.below {base:Nat} {w w':World} {sv:Value} {ps:List (Value×List It)} (h:q8 base w sv ps) (k:Below w.heap.size w w'):q8 base w' sv ps:=h.frame (fun g cs T f hh _=>k.block g (lt_of_some hh))
def Nl (sv:Value) (ps:List (Value×List It)) (k:Nat):Prop:=sv.ownBlock=some k∨∃p∈ps,p.1.ownBlock=some k
theorem q8.lt {base:Nat} {w:World} {sv:Value} {ps:List (Value×List It)} (h:q8 base w sv ps) {k:Nat} (hk:Nl sv ps k):base≤k∧k<w.heap.size:=by
 rcases hk with e|⟨p,hp,e⟩
 ·exact h.row.lt k e
 ·exact (h.inn p hp).lt k e
theorem qy {w:World} {base:Nat} {e:TypeId} {size:Nat} {v:Value} {n:Nat} {xs:List Value} (h:w.ownsRow base e size v n xs) {k:Nat} (hk:v.ownBlock=some k):∃cs,ai w k cs e:=by
 rcases h.2 with ⟨rfl,_⟩|⟨g,cap,cur,rfl,_,hh,_⟩
 ·cases hk
 ·simp only [Value.ownBlock,Option.some.injEq] at hk;subst hk;exact ⟨cur,hh⟩
theorem q8.ty {base:Nat} {w:World} {sv:Value} {ps:List (Value×List It)} (h:q8 base w sv ps) {k:Nat} (hk:Nl sv ps k):∃cs T,ai w k cs T∧(T=196∨T=198):=by
 rcases hk with e|⟨p,hp,e⟩
 ·obtain ⟨cs,hb⟩:=qy h.row e;exact ⟨cs,_,hb,.inl rfl⟩
 ·obtain ⟨cs,hb⟩:=qy (h.inn p hp) e;exact ⟨cs,_,hb,.inr rfl⟩
theorem q8.off {base:Nat} {w:World} {sv:Value} {ps:List (Value×List It)} (h:q8 base w sv ps) {g:Nat} {cs:Array Value} {T:TypeId} (hb:ai w g cs T) (h1:T≠196) (h2:T≠198):¬Nl sv ps g:=fun e=>by
 obtain ⟨cs',T',hb',hT⟩:=h.ty e;unfold ai at hb hb';rw [hb] at hb'
 cases hb'
 rcases hT with e|e
 ·exact h1 e
 ·exact h2 e
structure AR (sb:Nat) (sv:Value) (ps:List (Value×List It)) (w w':World) (Ey:Value) (ps':List (Value×List It)):Prop where
 but:bW (fun k=>k=sb∨Nl sv ps k) w w'
 own:∀k,Nl Ey ps' k→Nl sv ps k∨w.heap.size≤k
section
variable {sb:Nat} {sv Ey aaL:Value} {ps ps' aaM:List (Value×List It)} {w w' w'':World}
theorem AR.below (h:Below w.heap.size w w'):AR sb sv ps w w' sv ps:=⟨.of_below h,fun _ e=> .inl e⟩
theorem AR.trans (h:AR sb sv ps w w' Ey ps') (k:AR sb Ey ps' w' w'' aaL aaM):AR sb sv ps w w'' aaL aaM where
 but:=⟨k.but.os.trans h.but.os,k.but.tape.trans h.but.tape,k.but.output.trans h.but.output,Nat.le_trans h.but.size k.but.size,fun i hi hs=>(k.but.block i (Nat.lt_of_lt_of_le hi h.but.size) (fun e=>by
  rcases e with e|e
  ·exact hs (.inl e)
  ·rcases h.own i e with e|e
   ·exact hs (.inr e)
   ·omega)).trans (h.but.block i hi hs)⟩
 own:=fun i hi=>by
  rcases k.own i hi with e|e
  ·exact h.own i e
  ·exact .inr (Nat.le_trans h.but.size e)
theorem q8.push {base g cap:Nat} (h:q8 base w sv ps) (hg:w.grownBy w' sv.ownBlock) (hown:w'.ownsRow base 196 1 (.slice (some ⟨g,0,none⟩) (ps.length+1) cap) (ps.length+1) (ps.map Prod.fst++[.slice none 0 0])):q8 base w' (.slice (some ⟨g,0,none⟩) (ps.length+1) cap) (ps++[(.slice none 0 0,[])]):=by
 refine ⟨by simpa using hown,fun p hp=> ?_,?_⟩
 ·rcases List.mem_append.1 hp with hp|hp
  ·exact ak (h.inn p hp) (fun g cs f _ hh=>hg.block g (lt_of_some hh) (cO h.row hh (by decide)))
  ·rw [List.mem_singleton] at hp;subst hp;exact World.ownsRow_nil _ _ _ _
 ·refine List.pairwise_append.2 ⟨h.ap,by simp,fun p _ q hq k hk e=> ?_⟩;rw [List.mem_singleton] at hq;subst hq;simp [Value.ownBlock] at e
theorem AR.push {base g cap:Nat} (h:q8 base w sv ps) (hg:w.grownBy w' sv.ownBlock) (hat:sv.ownBlock=some g∨w.heap.size≤g) (u:Value):AR sb sv ps w (w'.setCell ⟨sb,0,none⟩ u) (.slice (some ⟨g,0,none⟩) (ps.length+1) cap) (ps++[(.slice none 0 0,[])]):=by
 refine ⟨(eQ hg (fun k hk=> .inr (.inl hk))).set (.inl rfl) _,fun k hk=> ?_⟩
 rcases hk with e|⟨p,hp,e⟩
 ·simp only [Value.ownBlock,Option.some.injEq] at e;subst e
  rcases hat with e|e
  ·exact .inl (.inl e)
  ·exact .inr e
 ·rcases List.mem_append.1 hp with hp|hp
  ·exact .inl (.inr ⟨p,hp,e⟩)
  ·rw [List.mem_singleton] at hp;subst hp;simp [Value.ownBlock] at e
theorem q8.put {base g0 c0 g cap i:Nat} {p:Value×List It} {x:It} (h:q8 base w (.slice (some ⟨g0,0,none⟩) ps.length c0) ps) (hi:ps[i]? =some p) (hg:w.grownBy w' p.1.ownBlock) (hown:w'.ownsRow base 198 4 (.slice (some ⟨g,0,none⟩) (p.2.length+1) cap) (p.2.length+1) (p.2.flatMap OD++OD x)) (hat:p.1.ownBlock=some g∨w.heap.size≤g):
  q8 base (w'.setCell ⟨g0,i,none⟩ (.slice (some ⟨g,0,none⟩) (p.2.length+1) cap)) (.slice (some ⟨g0,0,none⟩) ps.length c0) (ps.set i (.slice (some ⟨g,0,none⟩) (p.2.length+1) cap,p.2++[x])):=by
 have hil:i<ps.length:=by
  rcases Nat.lt_or_ge i ps.length with h|h
  ·exact h
  ·rw [List.getElem?_eq_none h] at hi;cases hi
 have hp:p∈ps:=List.mem_of_getElem? hi;have hpe:ps[i]=p:=by rw [aeh hil] at hi;exact Option.some.inj hi
 have r1:w'.ownsRow base 196 1 (.slice (some ⟨g0,0,none⟩) ps.length c0) ps.length (ps.map Prod.fst):=ak h.row (fun g cs f _ hh=>hg.block g (lt_of_some hh) (cO (h.inn p hp) hh (by decide)));obtain ⟨cur,hb,_⟩:=jQ r1;have hap:=List.pairwise_iff_getElem.1 h.ap;refine ⟨?_,fun q hq=> ?_,?_⟩
 ·have:=uI r1 i (.slice (some ⟨g,0,none⟩) (p.2.length+1) cap);rw [List.length_set,List.map_set];exact this
 ·obtain ⟨j,hj,rfl⟩:=List.getElem_of_mem hq;rw [List.length_set] at hj;refine aX ?_ hb (by decide) _ _
  by_cases e:i=j
  ·subst e;rw [List.getElem_set_self];simp only [List.length_append,List.length_cons,List.length_nil,List.flatMap_append,List.flatMap_cons,List.flatMap_nil,List.append_nil];exact hown
  ·rw [List.getElem_set_ne e];refine fC (h.inn _ (List.getElem_mem hj)) (fun k cs f hk hh=>hg.block k (lt_of_some hh) (fun ek=> ?_))
   rcases Nat.lt_or_gt_of_ne e with hlt|hlt
   ·exact hap i j hil hj hlt k (by rw [hpe];exact ek.symm) hk
   ·exact hap j i hj hil hlt k hk (by rw [hpe];exact ek.symm)
 ·refine List.pairwise_iff_getElem.2 (fun a b ha hb' hab k hk e=> ?_);rw [List.length_set] at ha hb';have old:∀j (hj:j<ps.length),j≠i→ps[j].1.ownBlock=some k→g=k→False:=fun j hj hji hk e=>by
   subst e
   rcases hat with e|e
   ·rcases Nat.lt_or_gt_of_ne hji with hlt|hlt
    ·exact hap j i hj hil hlt g hk (by rw [hpe];exact e)
    ·exact hap i j hil hj hlt g (by rw [hpe];exact e) hk
   ·have:=((h.inn _ (List.getElem_mem hj)).lt g hk).2;omega
  by_cases ea:i=a
  ·subst ea;rw [List.getElem_set_self] at hk;rw [List.getElem_set_ne (by omega)] at e;exact old b hb' (by omega) e (by simpa [Value.ownBlock] using hk)
  ·rw [List.getElem_set_ne ea] at hk
   by_cases eb:i=b
   ·subst eb;rw [List.getElem_set_self] at e;exact old a ha (by omega) hk (by simpa [Value.ownBlock] using e)
   ·rw [List.getElem_set_ne eb] at e;exact hap a b ha hb' hab k hk e
theorem AR.put {g0 c0 g cap i n:Nat} {p:Value×List It} {l:List It} (hi:ps[i]? =some p) (hg:w.grownBy w' p.1.ownBlock) (hat:p.1.ownBlock=some g∨w.heap.size≤g) (u:Value):
  AR sb (.slice (some ⟨g0,0,none⟩) n c0) ps w (w'.setCell ⟨g0,i,none⟩ u) (.slice (some ⟨g0,0,none⟩) n c0) (ps.set i (.slice (some ⟨g,0,none⟩) (l.length) cap,l)):=by
 have hp:p∈ps:=List.mem_of_getElem? hi;refine ⟨(eQ hg (fun k hk=> .inr (.inr ⟨p,hp,hk⟩))).set (.inr (.inl rfl)) _,fun k hk=> ?_⟩
 rcases hk with e|⟨q,hq,e⟩
 ·exact .inl (.inl e)
 ·rcases List.mem_or_eq_of_mem_set hq with hq|rfl
  ·exact .inl (.inr ⟨q,hq,e⟩)
  ·simp only [Value.ownBlock,Option.some.injEq] at e;subst e
   rcases hat with e|e
   ·exact .inl (.inr ⟨p,hp,e⟩)
   ·exact .inr e
theorem AR.ck {base:Nat} {B:Nat} (h:q8 base w sv ps) (k:AR sb sv ps w w' Ey ps') (hb:ai w sb #[sv] 194):KeepsFrom B w w'∧CK w w':=by
 have key:∀(i:Nat) (o:Obj),w.heap[i]? =some o→(o.isCells=false∨∃cs T f,o=.cells cs T f∧MT T)→w'.heap[i]? =w.heap[i]? :=fun i o hi ho=>k.but.block i (lt_of_some hi) (fun e=>by
  rcases e with e|e
  ·subst e;unfold ai at hb;rw [hb] at hi
   cases hi
   rcases ho with ho|⟨cs,T,f,ho,ht⟩
   ·cases ho
   ·cases ho
    exact absurd ht (by unfold MT;decide)
  ·obtain ⟨cs,T,hbk,hT⟩:=h.ty e;unfold ai at hbk;rw [hbk] at hi
   cases hi
   rcases ho with ho|⟨cs',T',f',ho,ht⟩
   ·cases ho
   ·cases ho
    rcases hT with rfl|rfl<;>exact absurd ht (by unfold MT;decide))
 exact ⟨⟨k.but.size,fun i o _ hi ho=>(key i o hi (.inl ho)).trans hi⟩,k.but.size,fun g cs T f hh ht=>key g _ hh (.inr ⟨cs,T,f,rfl,ht⟩)⟩
theorem AR.outer {base:Nat} {W0:World} (h:q8 base w sv ps) (k:AR sb sv ps w w' Ey ps') (h0:bW (fun k=>k=sb) W0 w) (hb:W0.heap.size≤base):bW (fun k=>k=sb) W0 w':=
 ⟨k.but.os.trans h0.os,k.but.tape.trans h0.tape,k.but.output.trans h0.output,Nat.le_trans h0.size k.but.size,fun i hi hs=>(k.but.block i (Nat.lt_of_lt_of_le hi h0.size) (fun e=>by
  rcases e with e|e
  ·exact hs e
  ·have:=(h.lt e).1;omega)).trans (h0.block i hi hs)⟩
theorem q8.set {base g:Nat} {cs:Array Value} {T:TypeId} (h:q8 base w sv ps) (hb:ai w g cs T) (h1:T≠196) (h2:T≠198) (o:Nat) (u:Value):q8 base (w.setCell ⟨g,o,none⟩ u) sv ps:=⟨aX h.row hb h1 o u,fun p hp=>aX (h.inn p hp) hb h2 o u,h.ap⟩
theorem q8.base {base base':Nat} (h:q8 base w sv ps) (hb:base'≤base):q8 base' w sv ps:=⟨aO h.row hb,fun p hp=>aO (h.inn p hp) hb,h.ap⟩
theorem q8.oth {base:Nat} {row:Option Nat} (h:q8 base w sv ps) (hg:w.grownBy w' row) (hr:∀r,row=some r→∃o:Obj,w.heap[r]? =some o∧o.isCells=false):q8 base w' sv ps:=h.frame (fun g cs T f hh _=>hg.block g (lt_of_some hh) (fun e=>by
 obtain ⟨o,ho,hc⟩:=hr g e.symm;rw [hh] at ho
 cases ho
 cases hc))
end
def xX:Op→Bool
 | .defer _=>true
 |_=>false
theorem zi {l n:Nat} {P:Program} {o:Oper} {a:Act} {w:World} {K:Act→World→Prop} {Q:Exit→Act→World→Prop} (hd:xX o.op=false) (h:o.wp P a w K Q):o.wpIn (Fence.wide.inRound l) n P a w K Q:=by
 refine ⟨fun _ _=>trivial,?_⟩;rw [show (Fence.wide.inRound l).round=some l from rfl,Oper.semAt_some l _ _ (fun c e=>by rw [e] at hd;cases hd)];unfold Oper.wp at h;generalize (execOp a.eval o).run P w=r at*
 cases r with
 |ok x w'=>
  cases x<;>simp only [Oper.upon,Oper.uponIn] at h ⊢<;>first|exact h|exact ⟨(fun e=>by cases e),CallsIn.inRound l (callsIn_wide.2 h)⟩|exact ⟨(fun e=>by cases e),fun c cs _=>let ⟨v,w',r,s⟩:=h c cs;⟨v,w',r,stepsIn_wide.2 s⟩⟩
 |halt x w'=>cases x<;>simp only [Oper.upon,Oper.uponIn] at h ⊢<;>exact h
theorem q9 {l n:Nat} {P:Program} {md:Region.Mode} {ops:Array Oper} {Q:Exit→Act→World→Prop} (hd:∀(i:Nat) (o:Oper),ops[i]? =some o→xX o.op=false) (hL:¬LetsOut Q):∀(fuel:Nat) (listed:Array Bool) (a:Act) (w:World),wpAny P md ops Q fuel listed a w→wpAnyIn (Fence.wide.inRound l) n P md ops Q fuel listed a w
 |0,_,_,_,h=>h
 |fuel+1,listed,a,w,h=>⟨h.1,fun i hi=>by
  have hh:=h.2 i hi;unfold wpOp at hh;unfold wpOpIn
  cases ho:ops[i]? with
  |none=>
   simp only [ho] at hh ⊢;exact q9 hd hL fuel _ _ _ hh
  |some o=>
   simp only [ho] at hh ⊢
   by_cases hw:Region.wanted o (yielded ops a.tmps)=true
   ·rw [if_pos hw] at hh ⊢
    rcases hh with hh|⟨_,hh⟩
    ·exact Oper.wpIn_mono (fun a w=>q9 hd hL fuel _ a w) (zi (hd i o ho) hh)
    ·exact absurd hh hL
   ·rw [if_neg hw] at hh ⊢;exact ⟨fun _ _=>trivial,q9 hd hL fuel _ _ _ hh⟩⟩
def QN (Q:Exit→Act→World→Prop):Exit→Act→World→Prop:=fun e a w=>e=.normal∧Q .normal a w
theorem DW {S:World→Prop} {l n id:Nat} {P:Program} {ops:Array Oper} {Q:Exit→Act→World→Prop} {a:Act} {w:World} (hm:P.follows .mixedOrders=true) (hd:(ops.all fun o=> !(xX o.op))=true) (hS:S w.drew)
  (h:S w.drew→wpAnyH P .any ops (QN Q) S ops.size (Array.replicate ops.size false) a w.drew):(Code.region id ops true).wpIn (Fence.wide.inRound l) n P Q a w:=by
 have hL:¬LetsOut (QN Q):=by
  rintro ⟨_,_,e,_⟩
  cases e
 have hd':∀(i:Nat) (o:Oper),ops[i]? =some o→xX o.op=false:=fun i o ho=>by
  obtain ⟨hi,rfl⟩:=Array.getElem?_eq_some_iff.1 ho
  simpa using Array.all_eq_true.1 hd i hi
 exact wpIn_mono (Q:=QN Q) (wpIn_region_any hm (q9 hd' hL _ _ _ _ (wpAny_of_held _ _ _ _ (h hS)))) (fun e a w h=>by rw [h.1];exact h.2)
