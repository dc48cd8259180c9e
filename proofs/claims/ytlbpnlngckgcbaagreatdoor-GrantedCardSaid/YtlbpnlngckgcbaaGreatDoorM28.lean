import Derived.Test.YtlbpnlngckgcbaaGreatDoorM27
set_option linter.all false
set_option maxHeartbeats 4000000
set_option maxRecDepth 100000
namespace Go.Proofs.YtlbpnlngckgcbaaGreatDoor
open Go.RowKit Go.PlainAid
theorem RI {l:List aei} {M:aei} {k:Nat} (hk:k<l.length):(List.replicate k (Value.string M)++(fP l).drop k).set k (.string M)=List.replicate (k+1) (.string M)++(fP l).drop (k+1):=by
 have hl:(fP l).length=l.length:=by simp [fP]
 rw [List.drop_eq_getElem_cons (by omega),List.set_append_right _ _ (by simp),List.length_replicate,Nat.sub_self,List.set_cons_zero,List.replicate_succ'];simp
theorem Vo {l:List aei} {M:aei} {k:Nat} (hk:k<l.length):∃x,(List.replicate k (Value.string M)++(fP l).drop k)[k]? =some (.string x):=by
 refine ⟨l[k],?_⟩;rw [List.getElem?_append_right (by simp)];simp [fP,hk]
theorem LW {w w':World} {base lim:Nat} {e:TypeId} {size:Nat} {v r:Value} {n m:Nat} {xs ys:List Value} (h:w.ownsRow base e size r n xs) (k:bW (fun q=>v.ownBlock=some q) w w') (hv:w.ownsRow lim 9 1 v m ys) (he:e≠9):w'.ownsRow base e size r n xs:=
 ak h (fun g cs f _ hh=>k.block g (lt_of_some hh) (fun e'=>cO hv hh he e'.symm))
theorem Tryz.infoSts:(Tryz.prog.info? 22).map (fun i=>(i.zero,i.size,i.bytes))=some (some (.slice none 0 0),1,24):=by kernel_rfl
theorem Vp {base lim b:Nat} {lv jK jy v:Value} {us:List cB} {ms:List (Value×Nat)} {w:World} (h:WS base w b lv jK jy us ms) (MZ:base≤lim) (hlw:lim≤w.heap.size) (l:List aei) (hv:w.ownsRow lim 9 1 v l.length (fP l)) (hl:l.length≤100) (hmk:∀m∈ms,lS lim w m.1 (qB m.2)) (hll:∀k,jK.ownBlock=some k→k<lim) (hlen:ms.length+4≤8796093022208) (hp:qA w):
  Calls Tryz.prog 89 #[.pointer (some ⟨b,0,none⟩),v] w fun e w'=>e=.returned (.tuple #[])∧∃Ot KJ OI,WS base w' b lv Ot KJ us OI∧Below base w w'∧OI.length=ms.length+4:=by
 obtain ⟨i0,hi0,hz0,hz1,hz2⟩:=info_parts Tryz.infoStr;obtain ⟨i1,hi1,hy0,hy1,hy2⟩:=info_parts Tryz.infoSts;obtain ⟨i2,hi2,hx0,hx1,hx2⟩:=info_parts Tryz.infoInt;have HI:=af hi0;have fG:=af hz0;have fH:=af hz1;have fI:=af hz2;obtain ⟨lsa,lsc,rfl⟩:=au h.ls;obtain ⟨ksa,ksc,rfl⟩:=au h.ks;obtain ⟨va,vc,rfl⟩:=au hv;obtain ⟨YW,Vq,rfl⟩:=au h.l;obtain ⟨c0,c1,c2⟩:=three h.blk;have C:=af (Gj ms.length w (by omega) hp);have H:=af h;have HV:=af hv;have HMK:=af hmk;have Du:=af hll;have hbl:=h.blk.lt;generalize hM:qB ms.length=M at*;have HM:=af hM;clear h hv hmk hll hp hi0 hz0 hz1 hz2 hM;go_enter Tryz.func89,Tryz.ntmps89;go_wp2_with fail;refine (ae C).mono ?_;rintro e w1 ⟨rfl,hb1⟩;have B1:=af hb1;have hs1:=hb1.size;clear hb1 C c0 c1 c2;go_wp2_with fail
 go_loopw [6] (fun u wr=>∃k:Nat,k≤l.length∧u=.int .i64 k∧bW (fun q=>(Value.slice va l.length vc).ownBlock=some q) w1 wr∧wr.ownsRow lim 9 1 (.slice va l.length vc) l.length (List.replicate k (.string M)++(fP l).drop k)) (fun u _=>l.length-(intOf u).toNat)
 case atStart=>exact ⟨0,by omega,rfl,bW.refl _ _,by simpa using ay (ae HV) (ae B1)⟩
 case round=>
  obtain ⟨k,hk,rfl,tN,hrow⟩:=hrel
  by_cases vB:k<l.length
  ·have hkn:(k:Int)<(l.length:Int):=by omega
   obtain ⟨x,hx⟩:=Vo (M:=M) vB;obtain ⟨g,c,e1,k0⟩:=aK hrow k _ hx;simp only [Value.slice.injEq,true_and] at e1;obtain ⟨rfl,rfl⟩:=e1;obtain ⟨cur,hblk,_⟩:=jQ hrow;have kz:=hblk.fz;have HR:=af (uI hrow k (.string M));have HB:=af (tN.set (show (fun q=>(Value.slice (some ⟨g,0,none⟩) l.length vc).ownBlock=some q) (⟨g,k,none⟩:Addr).block from rfl) (.string M));have HS:=af (RI (M:=M) vB);clear tN hrow hblk hx;go_wp2;go_roundw
   case rel=>exact ⟨k+1,by omega,by go_num,ae HB,by rw [←ae HS];exact ae HR⟩
   case measure=>simp [intOf];omega
  ·have hkn:¬((k:Int)<(l.length:Int)):=by omega
   have hkl:k=l.length:=by omega
   subst hkl;rw [List.drop_of_length_le (by simp [fP]),List.append_nil] at hrow;have N0:=af ((bW.of_below (S:=fun q=>(Value.slice va l.length vc).ownBlock=some q) (ae B1)).trans tN);have R0:=af hrow;have K0:=af (tN.blk ((ae H).blk.below (ae B1)) (fun e=>own_ne (ay (ae HV) (ae B1)) ((ae H).blk.below (ae B1)) (by decide) e.symm));have hsw:=tN.size;clear tN hrow;have abG:=af ((ae R0).alloc (.cells #[.string M] 9));have abH:=af (World.news_of_block (B:=wr.heap.size) (cs:=#[.string M]) (t:=9) (fr:=(0,0)) (ai.new wr #[.string M] 9));have abI:=af (show ∀u∈([.string M]:List Value),u.oneCell'=true from by
    intro u hu;simp at hu;subst hu
    rfl)
   have abJ:=af (show l.length+1≤maxLen from by unfold maxLen;omega);have abK:=af (show (l.length+1)*16≤140737488355328 from by omega);have abL:=af (show lim≤(wr.alloc (.cells #[.string M] 9)).heap.size from by simp;omega);have abM:=af (show (wr.alloc (.cells #[.string M] 9)).heap.size=wr.heap.size+1 from by simp);go_wp2_with (at_builtin;go_must (refine jW _ rfl _ _ 22 rfl lim 9 i0 _ 16 Tryz.underlying22 (ae HI) (ae fG) (ae fH) (ae fI) rfl (.slice va l.length vc) l.length (List.replicate l.length (.string M)) rfl (ae abG) ⟨wr.heap.size,0,none⟩ 1 1 [.string M] rfl rfl (ae abH) (ae abI) (by decide) (ae abJ) (ae abK) (ae abL) (wr.heap.size+1) (ae abM) ?YX))
   case YX=>
    intro g5 aD w5 o5 ZK at5 lt5 r5 kk5;have b5:=(Below.refl wr.heap.size wr).alloc aeg (.cells #[.string M] 9);have N5:=af (((ae N0).trans (.of_below b5)).trans (eQ ZK (fun k hk=>hk)));have R5:=af r5;have KA:=(ae K0).below b5;have K5:=af (show ai w5 b _ 31 from (ZK.block b KA.lt (own_ne ((ae R0).alloc (.cells #[.string M] 9)) KA (by decide))).trans KA);have M5:=af (eX.of_own (n:=l.length+1) (t:=M) (by rw [show List.replicate (l.length+1) (Value.string M)=List.replicate l.length (.string M)++[.string M] by rw [show ([.string M]:List Value)=List.replicate 1 (.string M) from rfl,List.replicate_append_replicate]];exact o5) (by omega));have hn5:∀u∈([.string M]:List Value),u=.string M:=by
     intro u hu
     simpa using hu
    have hsz5:wr.heap.size≤w5.heap.size:=by have:=b5.size;have:=ZK.size;omega
    clear r5 KA o5 ZK at5 kk5 b5 abG abH abI abJ abK abL abM hn5;have abN:=af ((ae R5).alloc (.cells #[.string M,.string M] 9));have abO:=af (World.news_of_block (B:=w5.heap.size) (cs:=#[.string M,.string M]) (t:=9) (fr:=(0,0)) (ai.new w5 #[.string M,.string M] 9));have abP:=af (show ∀u∈([.string M,.string M]:List Value),u.oneCell'=true from by
     intro u hu;simp at hu;subst hu
     rfl)
    have abQ:=af (show l.length+2≤maxLen from by unfold maxLen;omega);have abR:=af (show (l.length+2)*16≤140737488355328 from by omega);have abS:=af (show lim≤(w5.alloc (.cells #[.string M,.string M] 9)).heap.size from by simp;omega);have abT:=af (show (w5.alloc (.cells #[.string M,.string M] 9)).heap.size=w5.heap.size+1 from by simp);go_wp2_with (at_builtin;go_must (refine jW _ rfl _ _ 22 rfl lim 9 i0 _ 16 Tryz.underlying22 (ae HI) (ae fG) (ae fH) (ae fI) rfl (.slice va l.length vc) l.length (List.replicate l.length (.string M)) rfl (ae abN) ⟨w5.heap.size,0,none⟩ 2 2 [.string M,.string M] rfl rfl (ae abO) (ae abP) (by decide) (ae abQ) (ae abR) (ae abS) (w5.heap.size+1) (ae abT) ?YY))
    case YY=>
     intro g6 jY w6 o6 gr6 at6 lt6 r6 kk6;have b6:=(Below.refl w5.heap.size w5).alloc aeg (.cells #[.string M,.string M] 9);have N6:=af (((ae N5).trans (.of_below b6)).trans (eQ gr6 (fun k hk=>hk)));have R6:=af r6;have KA:=(ae K5).below b6;have K6:=af (show ai w6 b _ 31 from (gr6.block b KA.lt (own_ne ((ae R5).alloc (.cells #[.string M,.string M] 9)) KA (by decide))).trans KA);have M6:=af (eX.of_own (n:=l.length+2) (t:=M) (by rw [show List.replicate (l.length+2) (Value.string M)=List.replicate l.length (.string M)++[.string M,.string M] by rw [show ([.string M,.string M]:List Value)=List.replicate 2 (.string M) from rfl,List.replicate_append_replicate]];exact o6) (by omega));have Zu:∀u∈([.string M,.string M]:List Value),u=.string M:=by
      intro u hu
      simpa using hu
     have hsz6:w5.heap.size≤w6.heap.size:=by have:=b6.size;have:=gr6.size;omega
     have M56:=af (((ae M5).frame (fun g cs f hh=>b6.block g (lt_of_some hh))).app gr6 Zu kk6);clear r6 KA o6 gr6 at6 kk6 b6 abN abO abP abQ abR abS abT Zu M5;have abV:=af ((ae R6).alloc (.cells #[.string M,.string M,.string M] 9));have abW:=af (World.news_of_block (B:=w6.heap.size) (cs:=#[.string M,.string M,.string M]) (t:=9) (fr:=(0,0)) (ai.new w6 #[.string M,.string M,.string M] 9));have abX:=af (show ∀u∈([.string M,.string M,.string M]:List Value),u.oneCell'=true from by
      intro u hu;simp at hu;subst hu
      rfl)
     have abY:=af (show l.length+3≤maxLen from by unfold maxLen;omega);have abZ:=af (show (l.length+3)*16≤140737488355328 from by omega);have ab0:=af (show lim≤(w6.alloc (.cells #[.string M,.string M,.string M] 9)).heap.size from by simp;omega);have ab1:=af (show (w6.alloc (.cells #[.string M,.string M,.string M] 9)).heap.size=w6.heap.size+1 from by simp);go_wp2_with (at_builtin;go_must (refine jW _ rfl _ _ 22 rfl lim 9 i0 _ 16 Tryz.underlying22 (ae HI) (ae fG) (ae fH) (ae fI) rfl (.slice va l.length vc) l.length (List.replicate l.length (.string M)) rfl (ae abV) ⟨w6.heap.size,0,none⟩ 3 3 [.string M,.string M,.string M] rfl rfl (ae abW) (ae abX) (by decide) (ae abY) (ae abZ) (ae ab0) (w6.heap.size+1) (ae ab1) ?YZ))
     case YZ=>
      intro g7 mO w7 o7 ZL at7 lt7 r7 kk7;have b7:=(Below.refl w6.heap.size w6).alloc aeg (.cells #[.string M,.string M,.string M] 9);have N7:=af (((ae N6).trans (.of_below b7)).trans (eQ ZL (fun k hk=>hk)));have R7:=af r7;have KA:=(ae K6).below b7;have K7:=af (show ai w7 b _ 31 from (ZL.block b KA.lt (own_ne ((ae R6).alloc (.cells #[.string M,.string M,.string M] 9)) KA (by decide))).trans KA);have M7:=af (eX.of_own (n:=l.length+3) (t:=M) (by rw [show List.replicate (l.length+3) (Value.string M)=List.replicate l.length (.string M)++[.string M,.string M,.string M] by rw [show ([.string M,.string M,.string M]:List Value)=List.replicate 3 (.string M) from rfl,List.replicate_append_replicate]];exact o7) (by omega));have hn7:∀u∈([.string M,.string M,.string M]:List Value),u=.string M:=by
       intro u hu
       simpa using hu
      have hsz7:w6.heap.size≤w7.heap.size:=by have:=b7.size;have:=ZL.size;omega
      have M57:=af (((ae M56).frame (fun g cs f hh=>b7.block g (lt_of_some hh))).app ZL hn7 kk7);have M67:=af (((ae M6).frame (fun g cs f hh=>b7.block g (lt_of_some hh))).app ZL hn7 kk7);have M07:=af (eX.of_own (ae R7) (by omega));obtain ⟨q0,q1,q2⟩:=three (ae K7);have qz:=(ae K7).fz;have qg:=(ae K7).lt;have L7:=af (LW (ae H).ls (ae N7) (ae HV) (by decide));have Vr:=af ((ae L7).alloc (.cells #[.slice va l.length vc,.slice (some ⟨g5,0,none⟩) (l.length+1) aD,.slice (some ⟨g6,0,none⟩) (l.length+2) jY,.slice (some ⟨g7,0,none⟩) (l.length+3) mO] 22));clear r7 KA o7 ZL at7 kk7 b7 abV abW abX abY abZ ab0 ab1 hn7 M6 M56;have ab2:=af (World.news_of_block (B:=w7.heap.size) (cs:=#[.slice va l.length vc,.slice (some ⟨g5,0,none⟩) (l.length+1) aD,.slice (some ⟨g6,0,none⟩) (l.length+2) jY,.slice (some ⟨g7,0,none⟩) (l.length+3) mO]) (t:=22) (fr:=(0,0)) (ai.new w7 #[.slice va l.length vc,.slice (some ⟨g5,0,none⟩) (l.length+1) aD,.slice (some ⟨g6,0,none⟩) (l.length+2) jY,.slice (some ⟨g7,0,none⟩) (l.length+3) mO] 22));have ab3:=af (show ∀u∈([.slice va l.length vc,.slice (some ⟨g5,0,none⟩) (l.length+1) aD,.slice (some ⟨g6,0,none⟩) (l.length+2) jY,.slice (some ⟨g7,0,none⟩) (l.length+3) mO]:List Value),u.oneCell'=true from by
       intro u hu;simp only [List.mem_cons,List.not_mem_nil,or_false] at hu
       rcases hu with rfl|rfl|rfl|rfl<;>rfl)
      have ab4:=af (show ms.length+4≤maxLen from by unfold maxLen;omega);have ab5:=af (show ((ms.length+4)+(ms.length+4) / 4+192)*24≤281474976710656 from by omega);have ab6:=af (show base≤(w7.alloc (.cells #[.slice va l.length vc,.slice (some ⟨g5,0,none⟩) (l.length+1) aD,.slice (some ⟨g6,0,none⟩) (l.length+2) jY,.slice (some ⟨g7,0,none⟩) (l.length+3) mO] 22)).heap.size from by simp;omega);go_wp2_with (at_builtin;go_must (refine wpList_append_own_wide _ rfl _ _ 28 rfl base 22 i1 _ 1 24 Tryz.underlying28 hi1 hy0 hy1 hy2 rfl (by decide) (.slice lsa ms.length lsc) ms.length (ms.map Prod.fst) rfl (ae Vr) ⟨w7.heap.size,0,none⟩ 4 4 [.slice va l.length vc,.slice (some ⟨g5,0,none⟩) (l.length+1) aD,.slice (some ⟨g6,0,none⟩) (l.length+2) jY,.slice (some ⟨g7,0,none⟩) (l.length+3) mO] rfl rfl (ae ab2) (ae ab3) (ae ab4) (ae ab5) (ae ab6) ?Y0))
      case Y0=>
       intro v8 w8 o8 gr8 _;obtain ⟨a8,c8,rfl⟩:=au o8;have b8:=(Below.refl w7.heap.size w7).alloc aeg (.cells #[.slice va l.length vc,.slice (some ⟨g5,0,none⟩) (l.length+1) aD,.slice (some ⟨g6,0,none⟩) (l.length+2) jY,.slice (some ⟨g7,0,none⟩) (l.length+3) mO] 22);have KA:=(ae K7).below b8;have K8:ai w8 b _ 31:=(gr8.block b KA.lt (own_ne (ae Vr) KA (by decide))).trans KA;have KS7:=LW (ae H).ks (ae N7) (ae HV) (by decide);have KS8:w8.ownsRow base 3 1 (.slice ksa ms.length ksc) ms.length (ms.map fun m=> .int .i64 m.2):=ak (KS7.alloc (.cells #[.slice va l.length vc,.slice (some ⟨g5,0,none⟩) (l.length+1) aD,.slice (some ⟨g6,0,none⟩) (l.length+2) jY,.slice (some ⟨g7,0,none⟩) (l.length+3) mO] 22)) (fun g cs f _ hh=>gr8.block g (lt_of_some hh) (cO (ae Vr) hh (by decide)));obtain ⟨y0,y1,y2⟩:=three K8;have yz:=K8.fz;have HK8:=af K8;have HKS:=af (aX KS8 K8 (by decide) 1 (.slice a8 (ms.length+4) c8));have HO8:=af o8;have HG8:=af gr8;have HB8:=af b8;have Sb:w7.heap.size+1≤w8.heap.size:=by have:=gr8.size;simp at this;exact this
       clear o8 gr8 b8 KA K8 KS7 KS8 q0 q1 q2 qz ab2 ab3 ab4 ab5 ab6;have Y4:=af ((ae HKS).alloc (.cells #[.int .i64 ms.length,.int .i64 ms.length,.int .i64 ms.length,.int .i64 ms.length] 3));have HNW9:=af (World.news_of_block (B:=w8.heap.size) (cs:=#[.int .i64 ms.length,.int .i64 ms.length,.int .i64 ms.length,.int .i64 ms.length]) (t:=3) (fr:=(0,0)) (ai.new' (w8.setCell ⟨b,1,none⟩ (.slice a8 (ms.length+4) c8)) #[.int .i64 ms.length,.int .i64 ms.length,.int .i64 ms.length,.int .i64 ms.length] 3 w8.heap.size (by simp [World.setCell])));have HON9:=af (show ∀u∈([.int .i64 ms.length,.int .i64 ms.length,.int .i64 ms.length,.int .i64 ms.length]:List Value),u.oneCell'=true from by
        intro u hu;simp at hu;subst hu
        rfl)
       have HSX9:=af (show ms.length+4≤maxLen from by unfold maxLen;omega);have HBY9:=af (show (ms.length+4)*8≤140737488355328 from by omega);have HBS9:=af (show base≤((w8.setCell ⟨b,1,none⟩ (.slice a8 (ms.length+4) c8)).alloc (.cells #[.int .i64 ms.length,.int .i64 ms.length,.int .i64 ms.length,.int .i64 ms.length] 3)).heap.size from by simp;omega);have HHS9:=af (show ((w8.setCell ⟨b,1,none⟩ (.slice a8 (ms.length+4) c8)).alloc (.cells #[.int .i64 ms.length,.int .i64 ms.length,.int .i64 ms.length,.int .i64 ms.length] 3)).heap.size=w8.heap.size+1 from by simp);go_wp2_with (at_builtin;go_must (refine wpList_append_lies _ rfl _ _ 29 rfl base 3 i2 _ 1 8 Tryz.underlying29 hi2 hx0 hx1 hx2 rfl (by decide) (.slice ksa ms.length ksc) ms.length (ms.map fun m=> .int .i64 m.2) rfl (ae Y4) ⟨w8.heap.size,0,none⟩ 4 4 [.int .i64 ms.length,.int .i64 ms.length,.int .i64 ms.length,.int .i64 ms.length] rfl rfl (ae HNW9) (ae HON9) (by decide) (ae HSX9) (ae HBY9) (ae HBS9) (w8.heap.size+1) (ae HHS9) ?Y5))
       case Y5=>
        intro g9 Ou w9 o9 gr9 at9 lt9;have K8s:=(ae HK8).set 1 (.slice a8 (ms.length+4) c8);have b9:=(Below.refl _ (w8.setCell ⟨b,1,none⟩ (.slice a8 (ms.length+4) c8))).alloc aeg (.cells #[.int .i64 ms.length,.int .i64 ms.length,.int .i64 ms.length,.int .i64 ms.length] 3);have KA:=K8s.below b9;have K9:ai w9 b #[.slice YW us.length Vq,.slice a8 (ms.length+4) c8,.slice ksa ms.length ksc] 31:=(gr9.block b KA.lt (own_ne (ae Y4) KA (by decide))).trans KA;obtain ⟨z0,z1,z2⟩:=three K9;have zz:=K9.fz;have fr:∀(g:Nat) (cs:Array Value) (T:TypeId) (f:Nat×Nat),w8.heap[g]? =some (Obj.cells cs T f)→T≠31→T≠3→(w9.setCell ⟨b,2,none⟩ (.slice (some ⟨g9,0,none⟩) (ms.length+4) Ou)).heap[g]? =w8.heap[g]? :=fun g cs T f hh t1 t2=>by
         have e1:(w8.setCell ⟨b,1,none⟩ (.slice a8 (ms.length+4) c8)).heap[g]? =w8.heap[g]? :=Below.heap_setCell _ _ _ _ (fun (e:g=b)=>by
          have:=ae HK8;subst e;unfold ai at this;rw [this] at hh
          cases hh
          exact t1 rfl)
         have e2:=(b9.block g (by rw [show (w8.setCell ⟨b,1,none⟩ (.slice a8 (ms.length+4) c8)).heap.size=w8.heap.size by simp];exact lt_of_some hh)).trans e1;have e3:=(gr9.block g (lt_of_some (e2.trans hh)) (cO (ae Y4) (e2.trans hh) t2)).trans e2;exact (Below.heap_setCell _ _ _ _ (fun (e:g=b)=>by
          subst e;unfold ai at K9;rw [K9,hh] at e3
          cases e3
          exact t1 rfl)).trans e3
        have fs:∀(g:Nat) (cs:Array Value) (f:Nat×Nat),w7.heap[g]? =some (Obj.cells cs 9 f)→(w9.setCell ⟨b,2,none⟩ (.slice (some ⟨g9,0,none⟩) (ms.length+4) Ou)).heap[g]? =w7.heap[g]? :=fun g cs f hh=>by
         have e1:=(ae HB8).block g (lt_of_some hh);have e2:=((ae HG8).block g (lt_of_some (e1.trans hh)) (cO (ae Vr) (e1.trans hh) (by decide))).trans e1;exact (fr g cs _ f (e2.trans hh) (by decide) (by decide)).trans e2
        have HLS:=af (show (w9.setCell ⟨b,2,none⟩ (.slice (some ⟨g9,0,none⟩) (ms.length+4) Ou)).ownsRow base 22 1 (.slice a8 (ms.length+4) c8) (ms.length+4) _ from ak (ae HO8) (fun g cs f _ hh=>fr g cs _ f hh (by decide) (by decide)));have HKK:=af (aX o9 K9 (by decide) 2 (.slice (some ⟨g9,0,none⟩) (ms.length+4) Ou));have HKB:=af (K9.set 2 (.slice (some ⟨g9,0,none⟩) (ms.length+4) Ou));have HMA:=af ((ae M07).frame fs);have QQ:=af ((ae M57).frame fs);have HMC:=af ((ae M67).frame fs);have HMD:=af ((ae M7).frame fs);have bu:bW (OS b (.slice lsa ms.length lsc) (.slice ksa ms.length ksc) (.slice va l.length vc)) w (w9.setCell ⟨b,2,none⟩ (.slice (some ⟨g9,0,none⟩) (ms.length+4) Ou)):=
         ((((((ae N7).mono (fun k e=> .inr (.inr (.inr e)))).trans (.of_below (ae HB8))).trans (eQ (ae HG8) (fun k hk=> .inr (.inl hk)))).set (a:=⟨b,1,none⟩) (.inl rfl) _).trans (.of_below b9)).trans (eQ gr9 (fun k hk=> .inr (.inr (.inl hk)))) |>.set (a:=⟨b,2,none⟩) (.inl rfl) _
        have HBU:=af bu;have HAT:=af at9;clear o9 gr9 at9 b9 KA K8s K9 fr fs bu y0 y1 y2 yz;go_wp2;go_end0;refine ⟨rfl,_,_,Oq (ae H) MZ hlw (ae HV) (ae HMK) (ae Du) (ae HBU) (ae HKB) (ae HLS) (ae HKK) ?_ ?_ ?_ ?_ ?_⟩
        ·intro k hk;simp only [Value.ownBlock,Option.some.injEq] at hk;subst hk
         rcases ae HAT with e|e
         ·exact .inl e
         ·right;have h1:=(ae N7).size;omega
        ·rw [ae HM];exact ae HMA
        ·rw [ae HM];exact ae QQ
        ·rw [ae HM];exact ae HMC
        ·rw [ae HM];exact ae HMD
theorem eX.form {w:World} {v:Value} {t:aei} (h:eX w v t):∃a n c,v=.slice a n c∧n≤1000∧∀k,k<n→∃g,a=some ⟨g,0,none⟩∧w.cell? ⟨g,k,none⟩=some (.string t):=by
 rcases h with rfl|⟨g,n,c,cs,f,rfl,h2,h3,h4⟩
 ·exact ⟨none,0,0,rfl,by omega,fun k hk=>by omega⟩
 ·exact ⟨_,n,c,rfl,h3,fun k hk=>⟨g,rfl,by simp [World.cell?,h2,h4 k hk]⟩⟩
theorem Ov {base b:Nat} {lv jK jy:Value} {us:List cB} {ms:List (Value×Nat)} {w:World} (h:WS base w b lv jK jy us ms) (hlen:ms.length≤8796093022208) (hp:qA w) (h2:2<w.heap.size):
  Calls Tryz.prog 48 #[.pointer (some ⟨b,0,none⟩)] w fun e w'=>e=.returned (.bool true)∧Below w.heap.size w w':=by
 obtain ⟨lsa,lsc,rfl⟩:=au h.ls;obtain ⟨ksa,ksc,rfl⟩:=au h.ks;obtain ⟨YW,Vq,rfl⟩:=au h.l;have H:=af h;have HP:=af hp;clear h hp;go_enter Tryz.func48,Tryz.ntmps48;go_wp2_with fail
 go_loopw [3] (fun u wr=>∃i:Nat,i≤ms.length∧u=.int .i64 i∧Below w.heap.size w wr) (fun u _=>ms.length-(intOf u).toNat)
 case atStart=>exact ⟨0,by omega,rfl,Below.refl _ _⟩
 case round=>
  obtain ⟨i,hi,rfl,hb⟩:=hrel;obtain ⟨WO,hWO⟩:∃WO,WO=wr:=⟨_,rfl⟩;subst hWO;have hW:=(ae H).below hb;obtain ⟨c0,c1,c2⟩:=three hW.blk;have HB:=af hb
  by_cases hit:i<ms.length
  ·have hin:(i:Int)<(ms.length:Int):=by omega
   obtain ⟨g1,d1,e1,k1⟩:=aK hW.ls i _ (by rw [List.getElem?_map,aeh hit];rfl);obtain ⟨g2,d2,e2,k2⟩:=aK hW.ks i _ (by rw [List.getElem?_map,aeh hit];rfl);simp only [Value.slice.injEq,true_and] at e1 e2;obtain ⟨rfl,rfl⟩:=e1;obtain ⟨rfl,rfl⟩:=e2;have hmr:=hW.mrk _ (List.getElem_mem hit);have hms:=hW.mks _ (List.getElem_mem hit);generalize ms[i]=m at*;obtain ⟨mv,K⟩:=m;simp only at k1 k2 hmr hms;obtain ⟨va,n,vc,rfl,hn,hcs⟩:=hmr.form;have C:=af (Gj K WO (by omega) ((ae HP).below hb h2));have HC:=af hcs;have HK1:=af k1;have HWO:=af hW;generalize qB K=M at*;clear hW hmr hcs hb;go_wp2_with fail;refine (ae C).mono ?_;rintro e w1 ⟨rfl,hb1⟩;have B1:=af hb1;clear C hb1 c0 c1 c2 k1 k2;go_wp2_with fail
   go_loopw [5] (fun u wi=>∃k:Nat,k≤n∧u=.int .i64 k∧Below WO.heap.size WO wi) (fun u _=>n-(intOf u).toNat)
   case atStart=>exact ⟨0,by omega,rfl,ae B1⟩
   case round=>
    obtain ⟨k,hk,rfl,qU⟩:=hrel;have hWi:=(ae HWO).below qU;obtain ⟨c0,c1,c2⟩:=three hWi.blk;have k1:wr.cell? ⟨g1,i,none⟩=some (.slice va n vc):=ag (ae HK1) qU;have uM:=af qU
    by_cases vB:k<n
    ·have hkn:(k:Int)<(n:Int):=by omega
     obtain ⟨g,rfl,k3⟩:=ae HC k vB;have k4:=ag k3 qU;clear hWi qU k3;go_wp2;go_roundw
     case rel=>exact ⟨k+1,by omega,by go_num,ae uM⟩
     case measure=>simp [intOf];omega
    ·have hkn:¬((k:Int)<(n:Int)):=by omega
     clear hWi qU;go_wp2;go_roundw
     case rel=>exact ⟨i+1,by omega,by go_num,(ae HB).trans ((ae uM).mono (ae HB).size)⟩
     case measure=>simp [intOf];omega
  ·have hin:¬((i:Int)<(ms.length:Int)):=by omega
   clear hW hb;go_wp2;go_ret;exact ⟨rfl,ae HB⟩
def jg (base b:Nat) (nu n:Nat) (w:World) (e:Ending) (w':World):Prop:=e=.returned (.bool true)∧∃lv jK jy us ms,WS base w' b lv jK jy us ms∧Below base w w'∧ms.length≤n+4∧1≤us.length∧us.length≤nu+1
theorem Ij {base b:Nat} {lv jK jy:Value} {us:List cB} {ms:List (Value×Nat)} {u:cB} {w:World} (h:WS base w b lv jK jy us ms) (hu:u∈us) (ee:Int) (s rr ww:aei) (kd:Int) (l7:kd=6) (hlen:ms.length+4≤8796093022208) (hp:qA w) (h2:2<w.heap.size):
  Calls Tryz.prog 47 #[.pointer (some ⟨b,0,none⟩),.agg #[.pointer (some ⟨u.x,0,none⟩),.pointer (some ⟨u.y,0,none⟩)],.agg #[.int .i64 kd,.int .i64 ee,.string s,.string rr,.string ww]] w (jg base b us.length ms.length w):=by
 subst l7;have bw:Below w.heap.size w ((w.alloc (.cells #[.pointer (some ⟨u.x,0,none⟩),.pointer (some ⟨u.y,0,none⟩)] 86)).alloc (.cells #[.int .i64 6,.int .i64 ee,.string s,.string rr,.string ww] 34)):=((Below.refl _ w).alloc aeg _).alloc (by simp) _;have bF:base≤w.heap.size:=by have:=h.low;have:=h.blk.lt;omega
 have Ow:1≤us.length:=List.length_pos_of_mem hu;obtain ⟨W,hW⟩:∃W,((w.alloc (.cells #[.pointer (some ⟨u.x,0,none⟩),.pointer (some ⟨u.y,0,none⟩)] 86)).alloc (.cells #[.int .i64 6,.int .i64 ee,.string s,.string rr,.string ww] 34))=W:=⟨_,rfl⟩;have PB:=(ai.new w #[.pointer (some ⟨u.x,0,none⟩),.pointer (some ⟨u.y,0,none⟩)] 86).alloc (.cells #[.int .i64 6,.int .i64 ee,.string s,.string rr,.string ww] 34);have SB:=ai.new' (w.alloc (.cells #[.pointer (some ⟨u.x,0,none⟩),.pointer (some ⟨u.y,0,none⟩)] 86)) #[.int .i64 6,.int .i64 ee,.string s,.string rr,.string ww] 34 (w.heap.size+1) (by simp);rw [hW] at bw PB SB;have hS:=h.below bw;have hR:=hS.ur u hu;obtain ⟨e1,e2⟩:=Ie hR.both;have C1:=Ic u.x W _ _ _ _ hR.up.p e2;rw [e1] at C1;have hl:(mM u.ss).length≤24:=by rw [wE];exact hR.ud.most
 have HCD:=af (fun w' (k:Below W.heap.size W w')=>Ib u.y w' _ _ _ (hR.ud.d.below k));generalize mM u.ss=L at*;have HC1:=af C1;have HS:=af hS;have HB:=af bw;have wM:=af PB;have HSB:=af SB;have HP:=af hp;have HW:=af hW;have hsW:=bw.size;have hbase:base≤W.heap.size:=by have:=hS.low;have:=hS.blk.lt;omega
 clear h hS hR hu e1 e2 C1 bw PB SB hp hW;go_enter Tryz.func47,Tryz.ntmps47;go_wp2_with fail;rw [ae HW];refine (ae HC1).mono ?_;rintro e w1 ⟨v1,rfl,hb1,hr1⟩;obtain ⟨a1,c1,rfl⟩:=au hr1;have C2:=af (ae HCD w1 hb1);obtain ⟨p0,p1⟩:=iH ((ae wM).below hb1);have B1:=af hb1;have R1:=af hr1;clear hb1 hr1 HC1 HCD;go_wp2_with fail;refine (ae C2).mono ?_;rintro e w2 ⟨v2,rfl,hb2,hr2⟩;obtain ⟨a2,c2,rfl⟩:=au hr2;have B2:=af ((ae B1).trans (hb2.mono (ae B1).size));have R2:=ay (ae R1) hb2;have C3:=af (Ry _ _ _ _ L w2 R2 hr2 (by omega));have dS:=af R2;clear hb2 hr2 C2 p0 p1 R2;go_wp2_with fail;refine (ae C3).mono ?_;rintro e w3 ⟨rfl,hb3⟩;have B3:=af ((ae B2).trans (hb3.mono (ae B2).size));have C4:=af (Vp ((ae HS).below (ae B3)) hbase (ae B3).size L (ay (ae dS) hb3) (by omega) (fun m hm=>((ae HS).mrk m hm).lim.below (ae B3)) (fun k hk=>((ae HS).ls.lt k hk).2) hlen ((ae HP).below ((ae HB).trans ((ae B3).mono hsW)) h2));clear hb3 C3 B2 B1;go_wp2_with fail;refine (ae C4).mono ?_;rintro e w4 ⟨rfl,Ot,KJ,OI,hws,hb4,hl4⟩;have HF:=af (show jg base b us.length ms.length w (.returned (.bool true)) w4 from ⟨rfl,_,_,_,_,_,hws,(((ae HB).trans ((ae B3).mono hsW)).mono bF).trans hb4,by omega,Ow,by omega⟩);clear hws hb4 hl4 C4;go_wp2;go_ret;exact ae HF
theorem Tryz.infoPr:(Tryz.prog.info? 86).map (fun i=>(i.zero,i.size,i.bytes))=some (some (.agg #[.pointer none,.pointer none]),2,16):=by kernel_rfl
theorem WS.push {base:Nat} {w W w5:World} {b g5 aD:Nat} {lv jK jy:Value} {us:List cB} {ms:List (Value×Nat)} {u:cB} {o:Obj} (h:WS base w b lv jK jy us ms) (hB:Below w.heap.size w W) (hu:UR W u) (hnew:∀k,US u k→w.heap.size≤k) (hI:∀k,u.I k→w.heap.size≤k)
  (hg:(W.alloc o).grownBy w5 lv.ownBlock) (hown:w5.ownsRow base 86 2 (.slice (some ⟨g5,0,none⟩) (us.length+1) aD) (us.length+1) (us.flatMap Vl++Vl u)):
  WS base (w5.setCell ⟨b,0,none⟩ (.slice (some ⟨g5,0,none⟩) (us.length+1) aD)) b (.slice (some ⟨g5,0,none⟩) (us.length+1) aD) jK jy (us++[u]) ms∧Below base w (w5.setCell ⟨b,0,none⟩ (.slice (some ⟨g5,0,none⟩) (us.length+1) aD)):=by
 have b1:=hB.alloc hB.size o;have h1:=h.below b1;have hu1:UR (W.alloc o) u:=hu.below ((Below.refl _ _).alloc aeg o);have bF:base≤w.heap.size:=by have:=h.low;have:=h.blk.lt;omega
 have K5:ai w5 b #[lv,jK,jy] 31:=(hg.block b h1.blk.lt (own_ne h1.l h1.blk (by decide))).trans h1.blk;obtain ⟨F,hF⟩:∃F,w5.setCell ⟨b,0,none⟩ (.slice (some ⟨g5,0,none⟩) (us.length+1) aD)=F:=⟨_,rfl⟩;have bu:bW (fun k=>k=b∨lv.ownBlock=some k) (W.alloc o) F:=by rw [←hF];exact (eQ hg (fun k hk=> .inr hk)).set (a:=⟨b,0,none⟩) (.inl rfl) _
 have ty:∀(g:Nat) (cs:Array Value) (T:TypeId) (f:Nat×Nat),(g=b∨lv.ownBlock=some g)→(W.alloc o).heap[g]? =some (Obj.cells cs T f)→T=31∨T=86:=fun g cs T f hs hh=>by
  rcases hs with rfl|e
  ·have:=h1.blk;unfold ai at this;rw [this] at hh
   cases hh
   exact .inl rfl
  ·obtain ⟨cs',hb'⟩:=qy h1.l e;unfold ai at hb';rw [hb'] at hh
   cases hh
   exact .inr rfl
 have keep:∀(v:cB),UR (W.alloc o) v→UR F v:=fun v hv=>hv.keep bu (fun g hg hs=>by
   obtain ⟨cs,T,hb',hT⟩:=hv.ty hg;have:=ty g cs T _ hs hb'
   rcases hT with rfl|rfl|rfl|rfl<;>simp at this)
  (fun g cs T f hs hh ht=>by
   rcases ty g cs T f hs hh with rfl|rfl<;>exact absurd ht (by unfold MD LT RT;decide))
 have key:∀(g:Nat) (cs:Array Value) (T:TypeId) (f:Nat×Nat),(W.alloc o).heap[g]? =some (Obj.cells cs T f)→T≠31→T≠86→F.heap[g]? =(W.alloc o).heap[g]? :=fun g cs T f hh t1 t2=>bu.block g (lt_of_some hh) (fun hs=>by
  rcases ty g cs T f hs hh with e|e
  ·exact t1 e
  ·exact t2 e)
 have hl5:=aX hown K5 (by decide) 0 (.slice (some ⟨g5,0,none⟩) (us.length+1) aD);have bV:=K5.set 0 (.slice (some ⟨g5,0,none⟩) (us.length+1) aD);rw [hF] at hl5 bV ⊢;refine ⟨⟨bV,h.low,by simpa using hl5,ak h1.ls (fun g cs f _ hh=>key g cs _ f hh (by decide) (by decide)),ak h1.ks (fun g cs f _ hh=>key g cs _ f hh (by decide) (by decide)),fun v hv=> ?_,fun v hv=> ?_,?_,fun v hv=> ?_,fun m hm=>(h1.mrk m hm).frame (fun g cs f hh=>key g cs _ f hh (by decide) (by decide)),h.mks⟩,?_⟩
 ·rcases List.mem_append.1 hv with hv|hv
  ·exact keep v (h1.ur v hv)
  ·rw [List.mem_singleton] at hv;subst hv;exact keep v hu1
 ·rcases List.mem_append.1 hv with hv|hv
  ·exact h.lowu v hv
  ·rw [List.mem_singleton] at hv;subst hv;exact fun k hk=>Nat.le_trans bF (hnew k hk)
 ·refine List.pairwise_append.2 ⟨h.ap,by simp,fun v hv q hq k hk hk'=> ?_⟩;rw [List.mem_singleton] at hq;subst hq;have h1:=(h.ur v hv).lt hk;have h2:=hnew k hk';omega
 ·rcases List.mem_append.1 hv with hv|hv
  ·exact h.apk v hv
  ·rw [List.mem_singleton] at hv;subst hv;intro k hk hI';have h1:=(h.ks.lt k hk).2;have h2:=hI k hI';omega
 ·exact (b1.mono bF).trans (bu.below (Nat.le_trans bF b1.size) (fun g hg=>by
   rcases hg with rfl|e
   ·exact h.low
   ·exact (h.l.lt g e).1))
def RJ (base b:Nat) (n m:Nat) (r:Bool) (w:World) (e:Ending) (w':World):Prop:=e=.returned (.bool true)∧∃lv jK jy us ms,WS base w' b lv jK jy us ms∧Below base w w'∧ms.length=m∧us.length=if r then n+1 else n
theorem KL {base b:Nat} {lv jK jy:Value} {us:List cB} {ms:List (Value×Nat)} {w:World} (h:WS base w b lv jK jy us ms) (s:aei) (hg:Laid w) (o:Option Nat) (c:Nat) (hr:kW s=.error (o,c)):
  Calls Tryz.prog 44 #[.pointer (some ⟨b,0,none⟩),.string s] w (RJ base b us.length ms.length false w):=by
 have hc:=(rH hr w).1;have C1:=af (Rs s w o c hr hc hg);have CD:=af (fun w'=>QH s w' c _ hc (rH hr w').2.choose_spec);have H:=af h;have hc2:((c:Int) != 0)=true:=bne_iff_ne.2 (by omega);have hc3:((c:Int)==0)=false:=by rw [beq_eq_false_iff_ne];omega
 have bF:base≤w.heap.size:=by have:=h.low;have:=h.blk.lt;omega
 clear h hr hg;go_enter Tryz.func44,Tryz.ntmps44;go_wp2_with fail;refine (ae C1).mono ?_;rintro e w1 ⟨rfl,hb1⟩;have B1:=af hb1;have C2:=af (ae CD w1);clear hb1 C1 CD;go_wp2_with fail;refine (ae C2).mono ?_;rintro e w2 ⟨rfl,hb2⟩;have B2:=af ((ae B1).trans (hb2.mono (ae B1).size));clear hb2 C2;go_wp2;go_ret;exact ⟨rfl,_,_,_,_,_,(ae H).below (ae B2),(ae B2).mono bF,rfl,rfl⟩
theorem CS {base b:Nat} {lv jK jy:Value} {us:List cB} {ms:List (Value×Nat)} {w:World} (h:WS base w b lv jK jy us ms) (s:aei) (hg:Laid w) (ts:List Ty) (hr:kW s=.ok ts) (hlen:us.length+1≤8796093022208):
  Calls Tryz.prog 44 #[.pointer (some ⟨b,0,none⟩),.string s] w (RJ base b us.length ms.length true w):=by
 obtain ⟨i0,hi0,hz0,hz1,hz2⟩:=info_parts Tryz.infoPr;obtain ⟨YW,Vq,rfl⟩:=au h.l;have C1:=af (Vk LXp QE QD s w ts hr hg);have CD:=af (fun w'=>UX s w' (XM ts (fun k=>w'.heap.size≤k)) (fun bm w w' h k=>h.kd k) (Hq hr w'));have H:=af h;have bF:base≤w.heap.size:=by have:=h.low;have:=h.blk.lt;omega
 clear h hr hg;go_enter Tryz.func44,Tryz.ntmps44;go_wp2_with fail;refine (ae C1).mono ?_;rintro e w1 ⟨mv,plv,bm,tl,x,rfl,hp1,RZ,hx1,hb1,hx⟩;have B1:=af hb1;have C2:=af (ae CD w1);have hs1:=hb1.size;have UP:=af (show Rz w1 x mv plv (.slice none 0 0) ts [] from ⟨hp1,⟨bm,tl,RZ⟩,hx1⟩);clear hb1 C1 CD hp1 RZ hx1;go_wp2_with fail;refine (ae C2).mono ?_;rintro e w2 ⟨Wo,y,rfl,hd2,hx2,hb2,hy⟩;have B2:=af ((ae B1).trans (hb2.mono (ae B1).size));have UU:=af (show UR w2 ⟨x,y,Wo,mv,plv,.slice none 0 0,.slice none 0 0,ts,[],[],fun k=>w1.heap.size≤k∧k<w2.heap.size⟩ from ⟨(ae UP).keep (S:=fun _=>False) (.of_below hb2) (fun _ _ e=>e) (fun _ _ _ _ e=>e.elim),⟨hd2,hx2.fin,fun k hk=>hk.2,by simp⟩,Ih⟩);have ZM:=af ((ae H).below (ae B2));obtain ⟨c0,c1,c2⟩:=three (ae ZM).blk;have cz:=(ae ZM).blk.fz;have hb2l:=(ae ZM).blk.lt;have HOW:=af ((ae ZM).l.alloc (.cells #[.pointer (some ⟨x,0,none⟩),.pointer (some ⟨y,0,none⟩)] 86));have HNW:=af (World.news_of_block (B:=w2.heap.size) (cs:=#[.pointer (some ⟨x,0,none⟩),.pointer (some ⟨y,0,none⟩)]) (t:=86) (fr:=(0,0)) (ai.new w2 _ _));have HON:=af (show ∀u∈([.pointer (some ⟨x,0,none⟩),.pointer (some ⟨y,0,none⟩)]:List Value),u.oneCell'=true from by
  intro u hu;simp only [List.mem_cons,List.not_mem_nil,or_false] at hu
  rcases hu with rfl|rfl<;>rfl)
 have HSX:=af (show us.length+1≤maxLen from by unfold maxLen;omega);have AC:=af (show (us.length+1)*16≤140737488355328 from by omega);have HBS:=af (show base≤(w2.alloc (.cells #[.pointer (some ⟨x,0,none⟩),.pointer (some ⟨y,0,none⟩)] 86)).heap.size from by have:=(ae B2).size;simp;omega);have HHS:=af (show (w2.alloc (.cells #[.pointer (some ⟨x,0,none⟩),.pointer (some ⟨y,0,none⟩)] 86)).heap.size=w2.heap.size+1 from by simp);clear hb2 C2 hd2 hx2;go_wp2_with (at_builtin;go_must (refine wpList_append_lies _ rfl _ _ 27 rfl base 86 i0 _ 2 16 Tryz.underlying27 hi0 hz0 hz1 hz2 rfl (by decide) (.slice YW us.length Vq) us.length (us.flatMap Vl) rfl (ae HOW) ⟨w2.heap.size,0,none⟩ 1 1 [.pointer (some ⟨x,0,none⟩),.pointer (some ⟨y,0,none⟩)] rfl rfl (ae HNW) (ae HON) (by decide) (ae HSX) (ae AC) (ae HBS) (w2.heap.size+1) (ae HHS) ?hrest))
 case hrest=>
  intro g5 aD w5 aC aj aP di;have h1:=(ae H).below (ae B2);have K5:ai w5 b _ 31:=(aj.block b (by simp;omega) (own_ne (ae HOW) ((ae ZM).blk.alloc _) (by decide))).trans ((ae ZM).blk.alloc _);obtain ⟨q0,q1,q2⟩:=three K5;have qz:=K5.fz;have HF:=af (WS.push (u:=⟨x,y,Wo,mv,plv,.slice none 0 0,.slice none 0 0,ts,[],[],fun k=>w1.heap.size≤k∧k<w2.heap.size⟩) (ae H) (ae B2) (ae UU) (fun k hk=>by
   rcases hk with (e|⟨n,c,e⟩)|(e|⟨n,c,e⟩)
   ·subst e;exact hx
   ·cases e
   ·subst e;exact Nat.le_trans hs1 hy
   ·cases e) (fun k hk=>Nat.le_trans hs1 hk.1) aj aC)
  clear aC aj aP h1 K5 c0 c1 c2 cz;go_wp2;go_ret;exact ⟨rfl,_,_,_,_,_,(ae HF).1,(ae HF).2,rfl,by simp⟩
def lm (c:Int) (n:Nat):Nat:=(if c<0 then (-(c+1)).toNat else c.toNat) % n
theorem Ik (c:Int) {n:Nat} (h:0<n):lm c n<n:=Nat.mod_lt _ h
theorem Il (c:Int) (n:Nat) (w:World) (h0: -9223372036854775808≤c) (h1:c≤9223372036854775807) (hn:0<n) (OZ:n≤9223372036854775807):
  Calls Tryz.prog 45 #[.int .i64 c,.int .i64 n] w fun e w'=>e=.returned (.int .i64 (lm c n))∧w'=w:=by
 unfold lm;have hnz:(n:Int)≠0:=by omega
 by_cases hc:c<0
 ·rw [if_pos hc];have e1:IntKind.i64.wrap (c+1)=c+1:=IntWalk.i64_in _ ⟨by omega,by omega⟩;have e2:IntKind.i64.wrap (-(c+1))= -(c+1):=IntWalk.i64_in _ ⟨by omega,by omega⟩;obtain ⟨m,hm⟩:∃m:Nat,-(c+1)=m:=⟨(-(c+1)).toNat,by omega⟩;have e3:IntKind.i64.wrap ((m % n:Nat):Int)=((m % n:Nat):Int):=IntWalk.i64_in _ ⟨by omega,by have:=Nat.mod_lt m hn;omega⟩;have e4:(m:Int).tmod (n:Int)=((m % n:Nat):Int):=rfl;rw [hm,Int.toNat_natCast];go_enter Tryz.func45,Tryz.ntmps45;go_wp2;go_ret;exact ⟨rfl,rfl⟩
 ·rw [if_neg hc];obtain ⟨m,rfl⟩:∃m:Nat,c=m:=⟨c.toNat,by omega⟩;have e3:IntKind.i64.wrap ((m % n:Nat):Int)=((m % n:Nat):Int):=IntWalk.i64_in _ ⟨by omega,by have:=Nat.mod_lt m hn;omega⟩;have e4:(m:Int).tmod (n:Int)=((m % n:Nat):Int):=rfl;rw [Int.toNat_natCast];go_enter Tryz.func45,Tryz.ntmps45;go_wp2;go_ret;exact ⟨rfl,rfl⟩
theorem RL {base b:Nat} {lv jK jy:Value} {us:List cB} {ms:List (Value×Nat)} {w:World} (h:WS base w b lv jK jy us ms) (Ow:1≤us.length) (ee:Int) (s rr ww:aei) (Vs:us.length+1≤8796093022208) (hg:Laid w):
  Calls Tryz.prog 15 #[.pointer (some ⟨b,0,none⟩),.agg #[.int .i64 2,.int .i64 ee,.string s,.string rr,.string ww]] w (jg base b us.length ms.length w):=by
 have bw:=(Below.refl w.heap.size w).alloc aeg (.cells #[.int .i64 2,.int .i64 ee,.string s,.string rr,.string ww] 34);have hW:=h.below bw;have hgW:=hg.below bw hg.lt;have C:Calls Tryz.prog 44 #[.pointer (some ⟨b,0,none⟩),.string s] (w.alloc (.cells #[.int .i64 2,.int .i64 ee,.string s,.string rr,.string ww] 34)) fun e w'=>jg base b us.length ms.length w e w':=by
  have bF:base≤w.heap.size:=by have:=h.low;have:=h.blk.lt;omega
  cases hr:kW s with
  |error er=>
   obtain ⟨o,c⟩:=er;refine (KL hW s hgW o c hr).mono fun e w' ⟨he,lv,jK,jy,us',OI,h1,h2,h3,h4⟩=>⟨he,lv,jK,jy,us',OI,h1,(bw.mono bF).trans h2,by omega,by simp at h4;omega,by simp at h4;omega⟩
  |ok ts=>
   refine (CS hW s hgW ts hr Vs).mono fun e w' ⟨he,lv,jK,jy,us',OI,h1,h2,h3,h4⟩=>⟨he,lv,jK,jy,us',OI,h1,(bw.mono bF).trans h2,by omega,by simp at h4;omega,by simp at h4;omega⟩
 have HC:=af C;clear h hW hgW hg C bw;go_enter Tryz.func15,Tryz.ntmps15;go_wp2_with fail;refine (ae HC).mono ?_;rintro e w2 hf;have HF:=af hf;obtain ⟨rfl,_⟩:=hf;clear HC;go_wp2;go_ret;exact ae HF
theorem qL {base b:Nat} {lv jK jy:Value} {us:List cB} {ms:List (Value×Nat)} {w:World} (h:WS base w b lv jK jy us ms) (Ow:1≤us.length) (kd ee:Int) (s rr ww:aei) (l7:kd=3∨kd=4∨kd=5) (hs:s.size≤maxLen) (he0: -9223372036854775808≤ee) (A7:ee≤9223372036854775807) (Vs:us.length+1≤8796093022208) (hg:Laid w) (hm:uW w) (h1:1<w.heap.size):
  Calls Tryz.prog 15 #[.pointer (some ⟨b,0,none⟩),.agg #[.int .i64 kd,.int .i64 ee,.string s,.string rr,.string ww]] w (jg base b us.length ms.length w):=by
 obtain ⟨YW,Vq,rfl⟩:=au h.l;have hil:lm ee us.length<us.length:=Ik ee Ow;obtain ⟨g,c,e1,hc⟩:=bP Vl 2 (fun _=>rfl) h.l (lm ee us.length) us[lm ee us.length] (aeh hil);simp only [Value.slice.injEq,true_and] at e1;obtain ⟨rfl,rfl⟩:=e1;have hi:us[lm ee us.length]? =some us[lm ee us.length]:=aeh hil;generalize us[lm ee us.length]=u at*;have CP:=af (fun w'=>Il ee us.length w' he0 A7 (by omega) (by omega));generalize lm ee us.length=i at*;have bw:=(Below.refl w.heap.size w).alloc aeg (.cells #[.int .i64 kd,.int .i64 ee,.string s,.string rr,.string ww] 34);have SB:=af (ai.new w #[.int .i64 kd,.int .i64 ee,.string s,.string rr,.string ww] 34);have HU0:=af (ag (show w.cell? ⟨g,i*2,none⟩=some (.pointer (some ⟨u.x,0,none⟩)) from hc 0 _ (by omega) rfl) bw);have HU1:=af (ag (show w.cell? ⟨g,i*2+1,none⟩=some (.pointer (some ⟨u.y,0,none⟩)) from hc 1 _ (by omega) rfl) bw);have Sg:=af (ag (three h.blk).1 bw);have pK:=af bw;have bF:base≤w.heap.size:=by have:=h.low;have:=h.blk.lt;omega
 have C:=af (fun W' (k:Below w.heap.size w W')=>(Ii (h.below k) hi kd ee s rr ww hs (hg.below k hg.lt) (hm.below k (by omega)) (by have:=k.size;omega)).mono (fun e w' ⟨he,hch⟩=>show jg base b us.length ms.length w e w' from by
  obtain ⟨⟨u',hws⟩,hb⟩:=hch;exact ⟨he,_,_,_,_,_,hws,(k.mono bF).trans hb,by omega,by simpa using Ow,by simp⟩))
 clear h hc hi hg hm bw;have n1':(kd==1)=false:=by rcases l7 with rfl|rfl|rfl<;>rfl
 have n2':(kd==2)=false:=by rcases l7 with rfl|rfl|rfl<;>rfl
 have hk3:((kd==3)=true)∨((kd==3)=false∧(kd==4)=true)∨((kd==3)=false∧(kd==4)=false∧(kd==5)=true):=by rcases l7 with rfl|rfl|rfl<;>decide
 clear l7
 rcases hk3 with m3|⟨m3,m4⟩|⟨m3,m4,m5⟩
 all_goals
  go_enter Tryz.func15,Tryz.ntmps15;go_wp2_with fail;generalize hWW:w.alloc (.cells #[.int .i64 kd,.int .i64 ee,.string s,.string rr,.string ww] 34)=W at*;have hlt:=(ae SB).lt;have q1:¬(w.heap.size=W.heap.size):=by omega
  have q2:¬(W.heap.size=w.heap.size):=by omega
  clear hWW;have s1:W.cell? ⟨w.heap.size,1,none⟩=some (.int .i64 ee):=(ae SB).cell rfl;obtain ⟨s0,s2,s3,s4⟩:W.cell? ⟨w.heap.size,0,none⟩=some (.int .i64 kd)∧W.cell? ⟨w.heap.size,2,none⟩=some (.string s)∧W.cell? ⟨w.heap.size,3,none⟩=some (.string rr)∧W.cell? ⟨w.heap.size,4,none⟩=some (.string ww):=⟨(ae SB).cell rfl,(ae SB).cell rfl,(ae SB).cell rfl,(ae SB).cell rfl⟩;have u0:=ae HU0;have u1:=ae HU1;have b0:=ae Sg;have hiz:(i:Int)<(us.length:Int):=by omega
  have n1:=World.new_ne W _ s1;have n2:=World.new_ne W _ u0;have n3:=World.new_ne W _ u1;have n4:=World.new_ne W _ b0
  go_region_held3 (fun w'=>w'.cell? ⟨b,0,none⟩=some (.slice (some ⟨g,0,none⟩) us.length Vq)∧w'.cell? ⟨w.heap.size,1,none⟩=some (.int .i64 ee)∧w'.cell? ⟨g,i*2,none⟩=some (.pointer (some ⟨u.x,0,none⟩))∧w'.cell? ⟨g,i*2+1,none⟩=some (.pointer (some ⟨u.y,0,none⟩))) (go_keep)
   ((go_at_call 45;refine (ae CP _).mono ?_;rintro e w' ⟨rfl,rfl⟩))
  all_goals
   go_wp2_with fail;refine (ae C _ (((ae pK).alloc (ae pK).size _).drew)).mono ?_;rintro e w2 hf;have HF:=af hf;obtain ⟨rfl,_⟩:=hf;clear C;go_wp2;go_ret;exact ae HF
structure St where
 kd:Int
 ee:Int
 s:aei
 rr:aei
 ww:aei
structure KM (x:St):Prop where
 e0: -9223372036854775808≤x.ee
 e1:x.ee≤9223372036854775807
 s:x.s.size≤maxLen
 r:x.rr.size≤maxLen
 w:x.ww.size≤maxLen
structure Env (w:World):Prop where
 laid:Laid w
 max:uW w
 pow:qA w
 lt:4<w.heap.size
theorem Env.below {w w':World} {B:Nat} (h:Env w) (k:Below B w w') (hB:4<B):Env w':=⟨h.laid.below k (by omega),h.max.below k (by omega),h.pow.below k (by omega),by have:=k.size;have:=h.lt;omega⟩
def Ws (ks:List Int):Prop:=∀(base b:Nat) (lv jK jy:Value) (us:List cB) (ms:List (Value×Nat)) (w:World) (x:St),WS base w b lv jK jy us ms→1≤us.length→us.length+1≤8796093022208→ms.length+4≤8796093022208→ks.any (fun k=>x.kd==k)=true→KM x→Env w→4<base→
 Calls Tryz.prog 15 #[.pointer (some ⟨b,0,none⟩),.agg #[.int .i64 x.kd,.int .i64 x.ee,.string x.s,.string x.rr,.string x.ww]] w (jg base b us.length ms.length w)
def Ox (w:World) (v:Value) (n:Nat):Prop:=(v=.slice none 0 0∧n=0)∨∃(ad:Addr) (c:Nat) (z:Nat→St),v=.slice (some ad) n c∧n≤c∧∀j,j<n→KM (z j)∧w.cell? (ad.add (j*5))=some (.int .i64 (z j).kd)∧w.cell? ⟨(ad.add (j*5)).block,(ad.add (j*5)).off+1,none⟩=some (.int .i64 (z j).ee)∧w.cell? ⟨(ad.add (j*5)).block,(ad.add (j*5)).off+2,none⟩=some (.string (z j).s)∧w.cell? ⟨(ad.add (j*5)).block,(ad.add (j*5)).off+3,none⟩=some (.string (z j).rr)∧w.cell? ⟨(ad.add (j*5)).block,(ad.add (j*5)).off+4,none⟩=some (.string (z j).ww)
theorem Ox.cell {w w':World} {ad:Addr} {n c j:Nat} (h:Ox w (.slice (some ad) n c) n) (k:Below w.heap.size w w') (hj:j<n):∃x:St,KM x∧w'.cell? (ad.add (j*5))=some (.int .i64 x.kd)∧w'.cell? ⟨(ad.add (j*5)).block,(ad.add (j*5)).off+1,none⟩=some (.int .i64 x.ee)∧w'.cell? ⟨(ad.add (j*5)).block,(ad.add (j*5)).off+2,none⟩=some (.string x.s)∧w'.cell? ⟨(ad.add (j*5)).block,(ad.add (j*5)).off+3,none⟩=some (.string x.rr)∧w'.cell? ⟨(ad.add (j*5)).block,(ad.add (j*5)).off+4,none⟩=some (.string x.ww):=by
 rcases h with ⟨h,_⟩|⟨ad',c',z,e,_,hz⟩
 ·cases h
 ·simp only [Value.slice.injEq,Option.some.injEq,true_and] at e;obtain ⟨rfl,rfl⟩:=e;obtain ⟨h0,h1,h2,h3,h4,h5⟩:=hz j hj;exact ⟨z j,h0,ag h1 k,ag h2 k,ag h3 k,ag h4 k,ag h5 k⟩
def Im:aei:=⟨#[116,121,112,101,32,117,115,101,114,32,123,32,125,32,116,121,112,101,32,103,114,111,117,112,32,123,32,109,101,109,98,101,114,58,32,91,117,115,101,114,44,32,103,114,111,117,112,35,109,101,109,98,101,114,93,59,32,125,32,116,121,112,101,32,100,111,99,32,123,32,112,97,114,101,110,116,58,32,91,100,111,99,93,59,32,111,119,110,101,114,58,32,91,117,115,101,114,93,59,32,98,97,110,110,101,100,58,32,91,117,115,101,114,44,32,117,115,101,114,42,93,59,32,101,100,105,116,111,114,58,32,91,117,115,101,114,44,32,103,114,111,117,112,35,109,101,109,98,101,114,93,32,124,32,111,119,110,101,114,32,124,32,112,97,114,101,110,116,46,101,100,105,116,111,114,59,32,118,105,101,119,101,114,58,32,40,91,117,115,101,114,42,93,32,124,32,101,100,105,116,111,114,41,32,45,32,98,97,110,110,101,100,59,32,125]⟩
theorem Vt:∃ts,kW Im=.ok ts:=by
 have h:(match kW Im with| .ok _=>true| .error _=>false)=true:=by kernel_rfl
 cases hr:kW Im with
 |ok ts=>exact ⟨ts,rfl⟩
 |error e=>rw [hr] at h;cases h
theorem Oy (ks:List Int) (hST:Ws ks) (v:Value) (n:Nat) (w0 w:World) (h:Ox w0 v n) (hn:n≤2199023255488) (g c:Nat) (hkl:ks.length≤100) (hks:∀k (hk:k<ks.length),w.cell? ⟨g,k,none⟩=some (.int .i64 ks[k])) (B0:Below w0.heap.size w0 w) (hE:Env w) (hE0:4<w0.heap.size):
  Calls Tryz.prog 16 #[v,.slice (some ⟨g,0,none⟩) ks.length c] w fun e w'=>e=.returned (.bool true)∧Below w0.heap.size w0 w':=by
 have hv:∃a c,v=.slice a n c∧(0<n→∃ad,a=some ad):=by
  rcases h with ⟨rfl,rfl⟩|⟨ad,c,z,rfl,h1,_⟩
  ·exact ⟨_,_,rfl,by omega⟩
  ·exact ⟨_,_,rfl,fun _=>⟨_,rfl⟩⟩
 obtain ⟨ra,rc,rfl,hra⟩:=hv;obtain ⟨ts,hts⟩:=Vt;have bw:=(Below.refl w.heap.size w).alloc aeg (.cells #[.slice none 0 0,.slice none 0 0,.slice none 0 0] 31);have WS0:WS w.heap.size (w.alloc (.cells #[.slice none 0 0,.slice none 0 0,.slice none 0 0] 31)) w.heap.size (.slice none 0 0) (.slice none 0 0) (.slice none 0 0) [] []:=⟨ai.new w _ _,Nat.le_refl _,World.ownsRow_nil _ _ _ _,World.ownsRow_nil _ _ _ _,World.ownsRow_nil _ _ _ _,by simp,by simp,List.Pairwise.nil,by simp,by simp,by simp⟩;have C1:=af (CS WS0 Im (hE.laid.below bw hE.laid.lt) ts hts (by simp));have HR:=af h;have HRA:=af hra;have HE:=af hE;have HST:=af hST;have Sg:=af B0;have pK:=af bw;have HKS:=af hks;have hlt:=hE.lt;have hw0:=B0.size;unfold Im at C1;clear h hra hE hST B0 bw hks WS0 hts;go_enter Tryz.func16,Tryz.ntmps16;go_wp2_with fail;refine (ae C1).mono ?_;rintro e w1 ⟨rfl,lv,jK,jy,us,ms,hws,hb1,RZ,hu1⟩;simp only [List.length_nil,if_true] at RZ hu1;obtain ⟨YW,Vq,rfl⟩:=au hws.l;obtain ⟨c0,c1,c2⟩:=three hws.blk;have hul:us.length=1:=by simpa using hu1
 have XY:=af hul;rw [hul] at c0;have B1:=af ((ae pK).trans hb1);have HW:=af hws;have HM:=af RZ;clear hws hb1 C1 RZ hu1 hul;go_wp2_with fail
 go_loopw [7] (fun u wr=>∃(i:Nat) (lv jK jy:Value) (us:List cB) (ms:List (Value×Nat)),i≤n∧u=.int .i64 i∧Below w.heap.size w wr∧WS w.heap.size wr w.heap.size lv jK jy us ms∧Hid (1≤us.length∧us.length≤i+1∧ms.length≤4*i)) (fun u _=>n-(intOf u).toNat)
 case atStart=>exact ⟨0,_,_,_,us,ms,by omega,rfl,ae B1,ae HW,af ⟨by rw [ae XY];omega,by rw [ae XY];omega,by rw [ae HM];omega⟩⟩
 case round=>
  clear c0 c1 c2;obtain ⟨i,lv,jK,jy,us,ms,hi,rfl,hb,hws,HL⟩:=hrel;obtain ⟨WO,hWO⟩:∃WO,WO=wr:=⟨_,rfl⟩;subst hWO;have HB:=af hb
  by_cases hit:i<n
  ·have hin:(i:Int)<(n:Int):=by omega
   obtain ⟨ad,rfl⟩:=ae HRA (by omega);have Zp:=af ((ae Sg).trans (hb.mono hw0));obtain ⟨x,hxo,x0,x1,x2,x3,x4⟩:=(ae HR).cell (ae Zp) hit;have HWS:=af hws;have HX:=af hxo;have Ji:=af x0;have HX1:=af x1;have HX2:=af x2;have HX3:=af x3;have HX4:=af x4;clear hb hws hxo x0 x1 x2 x3 x4;go_wp2_with fail
   go_loopw [8,9] (fun u8 u9 wi=>∃k:Nat,k≤ks.length∧u9=.int .i64 k∧u8=.bool ((ks.take k).any fun q=>x.kd==q)∧Below WO.heap.size WO wi) (fun _ u9 _=>ks.length-(intOf u9).toNat)
   case atStart=>exact ⟨0,by omega,rfl,rfl,Below.refl _ _⟩
   case round=>
    obtain ⟨k,hk,rfl,rfl,qU⟩:=hrel;have uM:=af qU
    by_cases vB:k<ks.length
    ·have hkn:(k:Int)<(ks.length:Int):=by omega
     have x0:=ag (ae Ji) qU;have y0:wr.cell? ⟨g,k,none⟩=some (.int .i64 ks[k]):=ag (ag (ae HKS k vB) (ae HB)) qU;have HTK:=af (show ((ks.take (k+1)).any fun q=>x.kd==q)=(((ks.take k).any fun q=>x.kd==q)||(x.kd==ks[k])) from by rw [List.take_succ_eq_append_getElem vB,List.any_append];simp);generalize ((ks.take k).any fun q=>x.kd==q)=t0 at*;generalize ks[k]=kk at*;clear qU
     cases t0
     ·go_wp2_with fail
      go_region
      all_goals
       go_wp2_with fail;exact ⟨⟨k+1,by omega,by go_num,by rw [ae HTK];simp,(ae uM).drew⟩,by simp [intOf];omega⟩
     ·go_wp2_with fail
      go_region
      all_goals
       go_wp2_with fail;exact ⟨⟨k+1,by omega,by go_num,by rw [ae HTK];simp,(ae uM).drew⟩,by simp [intOf];omega⟩
    ·have hkn:¬((k:Int)<(ks.length:Int)):=by omega
     rw [List.take_of_length_le (by omega)];have x0:=ag (ae Ji) qU;have x1:=ag (ae HX1) qU;have x2:=ag (ae HX2) qU;have x3:=ag (ae HX3) qU;have x4:=ag (ae HX4) qU;have Y6:=af ((ae HB).trans (qU.mono (ae HB).size));have hW2:=(ae HWS).below qU
     cases Y7:ks.any fun q=>x.kd==q
     ·have HW2:=af hW2;clear qU Y7 hW2;go_wp2;go_roundw
      case rel=>exact ⟨i+1,_,_,_,us,ms,by omega,by go_num,ae Y6,ae HW2,by
       obtain ⟨l1,l2,l3⟩:=ae HL;exact af ⟨l1,by omega,by omega⟩⟩
      case measure=>simp [intOf];omega
     ·have C2:=af (ae HST w.heap.size w.heap.size _ _ _ us ms wr x hW2 (ae HL).1 (by have:=(ae HL).2.1;omega) (by have:=(ae HL).2.2;omega) Y7 (ae HX) ((ae HE).below (ae Y6) hlt) hlt);clear qU Y7 hW2;go_wp2_with fail;refine (ae C2).mono ?_;rintro e w2 ⟨rfl,lv2,lsv2,ksv2,us2,ms2,Y8,hb2,hm2,hu2,hu3⟩;have B2:=af ((ae Y6).trans hb2);have C3:=af (Ov Y8 (by have:=(ae HL).2.2;omega) ((ae HE).below (ae B2) hlt).pow (by have:=(ae B2).size;omega));have HW2:=af Y8;have xG:=af (show 1≤us2.length∧us2.length≤i+1+1∧ms2.length≤4*(i+1) from by
       obtain ⟨l1,l2,l3⟩:=ae HL;exact ⟨hu2,by omega,by omega⟩)
      clear Y8 hb2 hm2 hu2 hu3 C2;go_wp2_with fail;refine (ae C3).mono ?_;rintro e w3 ⟨rfl,hb3⟩;have B3:=af ((ae B2).trans (hb3.mono (ae B2).size));have HW3:=af ((ae HW2).below hb3);clear hb3 C3;go_wp2;go_roundw
      case rel=>exact ⟨i+1,_,_,_,us2,ms2,by omega,by go_num,ae B3,ae HW3,xG⟩
      case measure=>simp [intOf];omega
  ·have hin:¬((i:Int)<(n:Int)):=by omega
   clear hb hws;go_wp2;go_ret;exact ⟨rfl,(ae Sg).trans ((ae HB).mono hw0)⟩
theorem RN {base b:Nat} {lv jK jy:Value} {us:List cB} {ms:List (Value×Nat)} {w:World} (h:WS base w b lv jK jy us ms) (Ow:1≤us.length) (kd ee:Int) (s rr ww:aei) (l7:kd=6∨kd=7∨kd=8) (he0: -9223372036854775808≤ee) (A7:ee≤9223372036854775807) (Vs:us.length+1≤8796093022208)
  (CA:∀W',Below w.heap.size w W'→∀u∈us,Calls Tryz.prog 47 #[.pointer (some ⟨b,0,none⟩),.agg #[.pointer (some ⟨u.x,0,none⟩),.pointer (some ⟨u.y,0,none⟩)],.agg #[.int .i64 kd,.int .i64 ee,.string s,.string rr,.string ww]] W' (jg base b us.length ms.length W')):
  Calls Tryz.prog 15 #[.pointer (some ⟨b,0,none⟩),.agg #[.int .i64 kd,.int .i64 ee,.string s,.string rr,.string ww]] w (jg base b us.length ms.length w):=by
 obtain ⟨YW,Vq,rfl⟩:=au h.l;have hil:lm ee us.length<us.length:=Ik ee Ow;obtain ⟨g,c,e1,hc⟩:=bP Vl 2 (fun _=>rfl) h.l (lm ee us.length) us[lm ee us.length] (aeh hil);simp only [Value.slice.injEq,true_and] at e1;obtain ⟨rfl,rfl⟩:=e1;have hi:us[lm ee us.length]? =some us[lm ee us.length]:=aeh hil;generalize us[lm ee us.length]=u at*;have CP:=af (fun w'=>Il ee us.length w' he0 A7 (by omega) (by omega));generalize lm ee us.length=i at*;have bw:=(Below.refl w.heap.size w).alloc aeg (.cells #[.int .i64 kd,.int .i64 ee,.string s,.string rr,.string ww] 34);have SB:=af (ai.new w #[.int .i64 kd,.int .i64 ee,.string s,.string rr,.string ww] 34);have HU0:=af (ag (show w.cell? ⟨g,i*2,none⟩=some (.pointer (some ⟨u.x,0,none⟩)) from hc 0 _ (by omega) rfl) bw);have HU1:=af (ag (show w.cell? ⟨g,i*2+1,none⟩=some (.pointer (some ⟨u.y,0,none⟩)) from hc 1 _ (by omega) rfl) bw);have Sg:=af (ag (three h.blk).1 bw);have pK:=af bw;have bF:base≤w.heap.size:=by have:=h.low;have:=h.blk.lt;omega
 have C:=af (fun W' (k:Below w.heap.size w W')=>(CA W' k u (List.mem_of_getElem? hi)).mono (fun e w' ⟨he,lv,jK,jy,us',OI,h1,h2,h3,h4⟩=>show jg base b us.length ms.length w e w' from ⟨he,lv,jK,jy,us',OI,h1,(k.mono bF).trans h2,h3,h4⟩));clear h hc hi bw CA;have n1':(kd==1)=false:=by rcases l7 with rfl|rfl|rfl<;>rfl
 have n2':(kd==2)=false:=by rcases l7 with rfl|rfl|rfl<;>rfl
 have m3:(kd==3)=false:=by rcases l7 with rfl|rfl|rfl<;>rfl
 have m4:(kd==4)=false:=by rcases l7 with rfl|rfl|rfl<;>rfl
 have m5:(kd==5)=false:=by rcases l7 with rfl|rfl|rfl<;>rfl
 have hk3:((kd==6)=true)∨((kd==6)=false∧(kd==7)=true)∨((kd==6)=false∧(kd==7)=false∧(kd==8)=true):=by rcases l7 with rfl|rfl|rfl<;>decide
 clear l7
 rcases hk3 with m6|⟨m6,m7⟩|⟨m6,m7,m8⟩
 all_goals
  go_enter Tryz.func15,Tryz.ntmps15;go_wp2_with fail;generalize hWW:w.alloc (.cells #[.int .i64 kd,.int .i64 ee,.string s,.string rr,.string ww] 34)=W at*;have hlt:=(ae SB).lt;have q1:¬(w.heap.size=W.heap.size):=by omega
  have q2:¬(W.heap.size=w.heap.size):=by omega
  clear hWW;have s1:W.cell? ⟨w.heap.size,1,none⟩=some (.int .i64 ee):=(ae SB).cell rfl;obtain ⟨s0,s2,s3,s4⟩:W.cell? ⟨w.heap.size,0,none⟩=some (.int .i64 kd)∧W.cell? ⟨w.heap.size,2,none⟩=some (.string s)∧W.cell? ⟨w.heap.size,3,none⟩=some (.string rr)∧W.cell? ⟨w.heap.size,4,none⟩=some (.string ww):=⟨(ae SB).cell rfl,(ae SB).cell rfl,(ae SB).cell rfl,(ae SB).cell rfl⟩;have u0:=ae HU0;have u1:=ae HU1;have b0:=ae Sg;have hiz:(i:Int)<(us.length:Int):=by omega
  have n1:=World.new_ne W _ s1;have n2:=World.new_ne W _ u0;have n3:=World.new_ne W _ u1;have n4:=World.new_ne W _ b0
  go_region_held3 (fun w'=>w'.cell? ⟨b,0,none⟩=some (.slice (some ⟨g,0,none⟩) us.length Vq)∧w'.cell? ⟨w.heap.size,1,none⟩=some (.int .i64 ee)∧w'.cell? ⟨g,i*2,none⟩=some (.pointer (some ⟨u.x,0,none⟩))∧w'.cell? ⟨g,i*2+1,none⟩=some (.pointer (some ⟨u.y,0,none⟩))) (go_keep)
   ((go_at_call 45;refine (ae CP _).mono ?_;rintro e w' ⟨rfl,rfl⟩))
  all_goals
   go_wp2_with fail;refine (ae C _ (((ae pK).alloc (ae pK).size _).drew)).mono ?_;rintro e w2 hf;have HF:=af hf;obtain ⟨rfl,_⟩:=hf;clear C;go_wp2;go_ret;exact ae HF
theorem Et:Ws [2,3,4,5,6]:=by
 intro base b lv jK jy us ms w x h Ow Vs hlm hk ho he hb;have hlt:=he.lt;simp only [List.any_cons,List.any_nil,Bool.or_false,Bool.or_eq_true,beq_iff_eq] at hk;obtain ⟨kd,ee,s,rr,ww⟩:=x;simp only at hk
 rcases hk with rfl|rfl|rfl|rfl|rfl
 ·exact RL h Ow ee s rr ww Vs he.laid
 ·exact qL h Ow 3 ee s rr ww (.inl rfl) ho.s ho.e0 ho.e1 Vs he.laid he.max (by omega)
 ·exact qL h Ow 4 ee s rr ww (.inr (.inl rfl)) ho.s ho.e0 ho.e1 Vs he.laid he.max (by omega)
 ·exact qL h Ow 5 ee s rr ww (.inr (.inr rfl)) ho.s ho.e0 ho.e1 Vs he.laid he.max (by omega)
 ·exact RN h Ow 6 ee s rr ww (.inl rfl) ho.e0 ho.e1 Vs (fun W' k u hu=>Ij (h.below k) hu ee s rr ww 6 rfl hlm (he.pow.below k (by omega)) (by have:=k.size;omega))
theorem Io (v:Value) (n:Nat) (w:World) (h:Ox w v n) (hn:n≤2199023255488) (hE:Env w):
  Calls Tryz.prog 4 #[v] w fun e w'=>e=.returned (.bool true)∧Below w.heap.size w w':=by
 have bw:=(Below.refl w.heap.size w).alloc aeg (.cells #[.int .i64 2,.int .i64 3,.int .i64 4,.int .i64 5,.int .i64 6] 3);have KB:=ai.new w #[.int .i64 2,.int .i64 3,.int .i64 4,.int .i64 5,.int .i64 6] 3;have C:=af (Oy [2,3,4,5,6] Et v n w _ h hn w.heap.size 5 (by simp) (fun k hk=>KB.cell (by
  match k,hk with
  |0,_=>rfl
  |1,_=>rfl
  |2,_=>rfl
  |3,_=>rfl
  |4,_=>rfl)) bw (hE.below bw hE.lt) hE.lt)
 have hv:∃a c,v=.slice a n c:=by
  rcases h with ⟨rfl,rfl⟩|⟨ad,c,z,rfl,h1,_⟩
  ·exact ⟨_,_,rfl⟩
  ·exact ⟨_,_,rfl⟩
 obtain ⟨ra,rc,rfl⟩:=hv;clear h hE bw KB;go_enter Tryz.func4,Tryz.ntmps4;go_wp2_with fail;refine (ae C).mono ?_;rintro e w1 ⟨rfl,hb⟩;have HB:=af hb;clear hb C;go_wp2;go_ret;exact ⟨rfl,ae HB⟩
