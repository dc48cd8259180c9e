import Derived.Test.YtlbpnlngckgcbaaGreatDoorM18
set_option linter.all false
set_option maxHeartbeats 4000000
set_option maxRecDepth 100000
namespace Go.Proofs.YtlbpnlngckgcbaaGreatDoor
open Go.RowKit Go.PlainAid
def vD (i r:RJ):Nat:=if r.size=0 then (if eqs i jR then 1 else 0) else 2
theorem Dr (k i r:RJ) (w:World):
  Calls Tryz.prog 154 #[.agg #[.string k,.string i,.string r]] w fun e w'=>e=.returned (.int .i64 (vD i r))∧Below w.heap.size w w':=by
 have B0:=ae ((Below.refl w.heap.size w).alloc RH (.cells #[.string k,.string i,.string r] 102));unfold vD
 by_cases h0:r.size=0
 ·rw [if_pos h0];have hr:(r.toList== [])=true:=by rw [aC,beq_iff_eq];exact List.eq_nil_of_length_eq_zero (by rw [aN];exact h0)
  have hr2:r.toList.isEmpty=true:=by rw [aC,List.isEmpty_iff];exact List.eq_nil_of_length_eq_zero (by rw [aN];exact h0)
  have hbs:eqs i jR=(i.toList== [42]):=by unfold eqs jR;rw [aC];rfl
  rw [hbs];clear h0 hbs
  cases hst:(i.toList== [42])
  ·rw [if_neg (by simp)];go_enter Tryz.func154,Tryz.ntmps154;go_wp2;go_ret;exact ⟨rfl,aa B0⟩
  ·rw [if_pos rfl];go_enter Tryz.func154,Tryz.ntmps154;go_wp2;go_ret;exact ⟨rfl,aa B0⟩
 ·rw [if_neg h0];have hr2:r.toList.isEmpty=false:=by
   rw [aC,Bool.eq_false_iff];intro h;rw [List.isEmpty_iff] at h;exact h0 (by rw [←aN,h];rfl)
  have hr:(r.toList== [])=false:=by rw [aC] at hr2 ⊢;revert hr2;cases cO r<;>simp
  clear h0;go_enter Tryz.func154,Tryz.ntmps154;go_wp2;go_ret;exact ⟨rfl,aa B0⟩
def fM (g:Gr) (t:Tu):Bool:=eqs g.ty t.sub&&((g.reach==vD t.who t.of)&&eqs g.rel t.of)
theorem Dt (g:Gr) (t:Tu) (w:World):
  Calls Tryz.prog 104 #[sQ g,.agg #[.string t.sub,.string t.who,.string t.of]] w fun e w'=>e=.returned (.bool (fM g t))∧Below w.heap.size w w':=by
 obtain ⟨R,hR⟩:∃R,R=fM g t:=⟨_,rfl⟩;rw [←hR];unfold fM at hR;unfold sQ aL;have C:=ae (fun w=>Dr t.sub t.who t.of w);generalize vD t.who t.of=n at*;have B0:=ae (((Below.refl w.heap.size w).alloc RH (.cells #[.int .i64 g.tp,.string g.ty,.int .i64 g.reach,.int .i64 g.rp,.string g.rel] 207)).alloc (by simp) (.cells #[.string t.sub,.string t.who,.string t.of] 102));have G0:=ae ((ag.new w #[.int .i64 g.tp,.string g.ty,.int .i64 g.reach,.int .i64 g.rp,.string g.rel] 207).alloc (.cells #[.string t.sub,.string t.who,.string t.of] 102));have S0:=ae (ag.new' (w.alloc (.cells #[.int .i64 g.tp,.string g.ty,.int .i64 g.reach,.int .i64 g.rp,.string g.rel] 207)) #[.string t.sub,.string t.who,.string t.of] 102 (w.heap.size+1) (by simp))
 cases h1:eqs g.ty t.sub
 ·rw [h1,Bool.false_and] at hR;subst hR;have h1':(g.ty.toList==t.sub.toList)=false:=by rw [←mG];exact h1
  clear h1;go_enter Tryz.func104,Tryz.ntmps104;go_wp2_with fail;generalize ((w.alloc (.cells #[.int .i64 g.tp,.string g.ty,.int .i64 g.reach,.int .i64 g.rp,.string g.rel] 207)).alloc (.cells #[.string t.sub,.string t.who,.string t.of] 102))=W at*;have g1:W.cell? ⟨w.heap.size,1,none⟩=some (.string g.ty):=(aa G0).cell rfl;have s0:W.cell? ⟨w.heap.size+1,0,none⟩=some (.string t.sub):=(aa S0).cell rfl
  go_quiet (fail)
  go_wp2;go_ret;exact ⟨rfl,below_drewN (aa B0) _⟩
 ·have e1:g.ty=t.sub:=(eT _ _).1 h1;rw [h1,Bool.true_and] at hR;rw [e1] at G0 S0 B0 ⊢;clear h1
  cases h2:(g.reach==n)
  ·rw [h2,Bool.false_and] at hR;subst hR;have h2':((g.reach:Int)==(n:Int))=false:=by rw [beq_eq_false_iff_ne] at h2 ⊢;omega
   clear h2;go_enter Tryz.func104,Tryz.ntmps104;go_wp2_with fail;generalize ((w.alloc (.cells #[.int .i64 g.tp,.string t.sub,.int .i64 g.reach,.int .i64 g.rp,.string g.rel] 207)).alloc (.cells #[.string t.sub,.string t.who,.string t.of] 102))=W at*;have g1:W.cell? ⟨w.heap.size,1,none⟩=some (.string t.sub):=(aa G0).cell rfl;have g2:W.cell? ⟨w.heap.size,2,none⟩=some (.int .i64 g.reach):=(aa G0).cell rfl;have g4:W.cell? ⟨w.heap.size,4,none⟩=some (.string g.rel):=(aa G0).cell rfl;have s0:W.cell? ⟨w.heap.size+1,0,none⟩=some (.string t.sub):=(aa S0).cell rfl;have s1:W.cell? ⟨w.heap.size+1,1,none⟩=some (.string t.who):=(aa S0).cell rfl;have s2:W.cell? ⟨w.heap.size+1,2,none⟩=some (.string t.of):=(aa S0).cell rfl;have D:=ae (aa C W.drew);clear C G0 S0 e1;refine wp_region_held_drew (S:=fun w'=>w'.cell? ⟨w.heap.size,1,none⟩=some (.string t.sub)∧w'.cell? ⟨w.heap.size,2,none⟩=some (.int .i64 g.reach)∧w'.cell? ⟨w.heap.size,4,none⟩=some (.string g.rel)∧w'.cell? ⟨w.heap.size+1,0,none⟩=some (.string t.sub)∧w'.cell? ⟨w.heap.size+1,1,none⟩=some (.string t.who)∧w'.cell? ⟨w.heap.size+1,2,none⟩=some (.string t.of)) (by kernel_rfl) (by go_keep) (fun hHeld=> ?_);refine wpAnyH_take (i:=0) (v:= ?v0) rfl (by kernel_rfl) (by kernel_rfl) (by kernel_rfl) (fun _ _ _ h=>h) (Or.inl ⟨by rfl,?hy0⟩) (by assumption) ?_
   case hy0=>(intro w' hSw;(try dsimp only at hSw);go_simp)<;>with_reducible rfl
   simp only [Act.put,List.setIfInBounds_toArray,List.set_cons_zero,List.set_cons_succ,List.getElem_toArray,List.getElem_cons_zero,List.getElem_cons_succ];refine wpAnyH_take (i:=1) (v:= ?v1) rfl (by kernel_rfl) (by kernel_rfl) (by kernel_rfl) (fun _ _ _ h=>h) (Or.inl ⟨by rfl,?hy1⟩) (by assumption) ?_
   case hy1=>(intro w' hSw;(try dsimp only at hSw);go_simp)<;>with_reducible rfl
   simp only [Act.put,List.setIfInBounds_toArray,List.set_cons_zero,List.set_cons_succ,List.getElem_toArray,List.getElem_cons_zero,List.getElem_cons_succ];refine wpAnyH_take (i:=2) (v:= ?v2) rfl (by kernel_rfl) (by kernel_rfl) (by kernel_rfl) (fun _ _ _ h=>h) (Or.inl ⟨by rfl,?hy2⟩) (by assumption) ?_
   case hy2=>(intro w' hSw;(try dsimp only at hSw);go_simp)<;>with_reducible rfl
   simp only [Act.put,List.setIfInBounds_toArray,List.set_cons_zero,List.set_cons_succ,List.getElem_toArray,List.getElem_cons_zero,List.getElem_cons_succ];refine wpAnyH_take (i:=3) (v:= ?v3) rfl (by kernel_rfl) (by kernel_rfl) (by kernel_rfl) (fun _ _ _ h=>h) (Or.inl ⟨by rfl,?hy3⟩) (by assumption) ?_
   case hy3=>(intro w' hSw;(try dsimp only at hSw);go_simp)<;>with_reducible rfl
   simp only [Act.put,List.setIfInBounds_toArray,List.set_cons_zero,List.set_cons_succ,List.getElem_toArray,List.getElem_cons_zero,List.getElem_cons_succ];refine wpAnyH_take (i:=4) (v:= ?v4) rfl (by kernel_rfl) (by kernel_rfl) (by kernel_rfl) (fun _ _ _ h=>h) (Or.inl ⟨by rfl,?hy4⟩) (by assumption) ?_
   case hy4=>(intro w' hSw;(try dsimp only at hSw);go_simp)<;>with_reducible rfl
   simp only [Act.put,List.setIfInBounds_toArray,List.set_cons_zero,List.set_cons_succ,List.getElem_toArray,List.getElem_cons_zero,List.getElem_cons_succ];refine wpAnyH_take (i:=5) (v:= ?v5) rfl (by kernel_rfl) (by kernel_rfl) (by kernel_rfl) (fun _ _ _ h=>h) (Or.inl ⟨by rfl,?hy5⟩) (by assumption) ?_
   case hy5=>(intro w' hSw;(try dsimp only at hSw);go_simp)<;>with_reducible rfl
   simp only [Act.put,List.setIfInBounds_toArray,List.set_cons_zero,List.set_cons_succ,List.getElem_toArray,List.getElem_cons_zero,List.getElem_cons_succ];refine wpAnyH_take (i:=6) (v:= ?v6) rfl (by kernel_rfl) (by kernel_rfl) (by kernel_rfl) (fun _ _ _ h=>h) (Or.inl ⟨by rfl,?hy6⟩) (by assumption) ?_
   case hy6=>(intro w' hSw;(try dsimp only at hSw);go_simp)<;>with_reducible rfl
   simp only [Act.put,List.setIfInBounds_toArray,List.set_cons_zero,List.set_cons_succ,List.getElem_toArray,List.getElem_cons_zero,List.getElem_cons_succ];refine wpAnyH_take (i:=7) (v:= ?v7) rfl (by kernel_rfl) (by kernel_rfl) (by kernel_rfl) (fun _ _ _ h=>h) (Or.inl ⟨by rfl,?hy7⟩) (by assumption) ?_
   case hy7=>(intro w' hSw;(try dsimp only at hSw);go_simp)<;>with_reducible rfl
   simp only [Act.put,List.setIfInBounds_toArray,List.set_cons_zero,List.set_cons_succ,List.getElem_toArray,List.getElem_cons_zero,List.getElem_cons_succ];refine wpAnyH_take (i:=8) (v:= ?v8) rfl (by kernel_rfl) (by kernel_rfl) (by kernel_rfl) (fun _ _ _ h=>h) (Or.inl ⟨by rfl,?hy8⟩) (by assumption) ?_
   case hy8=>(intro w' hSw;(try dsimp only at hSw);go_simp)<;>with_reducible rfl
   simp only [Act.put,List.setIfInBounds_toArray,List.set_cons_zero,List.set_cons_succ,List.getElem_toArray,List.getElem_cons_zero,List.getElem_cons_succ];refine wpAnyH_take (i:=9) (v:= ?v9) rfl (by kernel_rfl) (by kernel_rfl) (by kernel_rfl) (fun _ _ _ h=>h) (Or.inl ⟨by rfl,?hy9⟩) (by assumption) ?_
   case hy9=>(intro w' hSw;(try dsimp only at hSw);go_simp)<;>with_reducible rfl
   simp only [Act.put,List.setIfInBounds_toArray,List.set_cons_zero,List.set_cons_succ,List.getElem_toArray,List.getElem_cons_zero,List.getElem_cons_succ];refine wpAnyH_take (i:=10) (v:= ?v10) rfl (by kernel_rfl) (by kernel_rfl) (by kernel_rfl) (fun _ _ _ h=>h) (Or.inl ⟨by rfl,?hy10⟩) (by assumption) ?_
   case hy10=>(intro w' hSw;(try dsimp only at hSw);go_simp)<;>with_reducible rfl
   simp only [Act.put,List.setIfInBounds_toArray,List.set_cons_zero,List.set_cons_succ,List.getElem_toArray,List.getElem_cons_zero,List.getElem_cons_succ];refine wpAnyH_ready (rs:=[11]) (by kernel_rfl) (by simp) ?_;refine AllReadyH.cons rfl (fun K hK=> ?_) AllReadyH.nil
   go_simp
   refine (aa D).mono ?_;rintro e w1 ⟨rfl,hb1⟩;have BB:=ae (show Below W.heap.size W w1 from (Below.refl _ W).drew.trans hb1);have d1:=af g1 (aa BB);have d2:=af g2 (aa BB);have d4:=af g4 (aa BB);have s0':=af s0 (aa BB);have s1':=af s1 (aa BB);have s2':=af s2 (aa BB);clear hb1;refine hK.out _ _ ⟨d1,d2,d4,s0',s1',s2'⟩ (fun L9=> ?_);clear hK K hHeld
   try simp only [Act.put,List.setIfInBounds_toArray,List.set_cons_zero,List.set_cons_succ,List.getElem_toArray,List.getElem_cons_zero,List.getElem_cons_succ]
   refine wpAnyH_take (i:=12) (v:= ?v12) rfl (by kernel_rfl) (by kernel_rfl) (by kernel_rfl) (fun _ _ _ h=>h) (Or.inl ⟨by rfl,?hy12⟩) (by assumption) ?_
   case hy12=>(intro w' hSw;(try dsimp only at hSw);go_simp)<;>with_reducible rfl
   simp only [Act.put,List.setIfInBounds_toArray,List.set_cons_zero,List.set_cons_succ,List.getElem_toArray,List.getElem_cons_zero,List.getElem_cons_succ];refine wpAnyH_take (i:=13) (v:= ?v13) rfl (by kernel_rfl) (by kernel_rfl) (by kernel_rfl) (fun _ _ _ h=>h) (Or.inl ⟨by rfl,?hy13⟩) (by assumption) ?_
   case hy13=>(intro w' hSw;(try dsimp only at hSw);go_simp)<;>with_reducible rfl
   simp only [Act.put,List.setIfInBounds_toArray,List.set_cons_zero,List.set_cons_succ,List.getElem_toArray,List.getElem_cons_zero,List.getElem_cons_succ];refine wpAnyH_take (i:=14) (v:= ?v14) rfl (by kernel_rfl) (by kernel_rfl) (by kernel_rfl) (fun _ _ _ h=>h) (Or.inl ⟨by rfl,?hy14⟩) (by assumption) ?_
   case hy14=>(intro w' hSw;(try dsimp only at hSw);go_simp)<;>with_reducible rfl
   simp only [Act.put,List.setIfInBounds_toArray,List.set_cons_zero,List.set_cons_succ,List.getElem_toArray,List.getElem_cons_zero,List.getElem_cons_succ];refine wpAnyH_take (i:=15) (v:=undef) rfl (by kernel_rfl) (by kernel_rfl) (by kernel_rfl) (fun _ _ _ h=>h) (Or.inr ⟨by rfl,rfl⟩) (by assumption) ?_;simp only [Act.put,List.setIfInBounds_toArray,List.set_cons_zero,List.set_cons_succ,List.getElem_toArray,List.getElem_cons_zero,List.getElem_cons_succ];refine wpAnyH_take (i:=16) (v:=undef) rfl (by kernel_rfl) (by kernel_rfl) (by kernel_rfl) (fun _ _ _ h=>h) (Or.inr ⟨by rfl,rfl⟩) (by assumption) ?_;simp only [Act.put,List.setIfInBounds_toArray,List.set_cons_zero,List.set_cons_succ,List.getElem_toArray,List.getElem_cons_zero,List.getElem_cons_succ];refine wpAnyH_take (i:=17) (v:=undef) rfl (by kernel_rfl) (by kernel_rfl) (by kernel_rfl) (fun _ _ _ h=>h) (Or.inr ⟨by rfl,rfl⟩) (by assumption) ?_;simp only [Act.put,List.setIfInBounds_toArray,List.set_cons_zero,List.set_cons_succ,List.getElem_toArray,List.getElem_cons_zero,List.getElem_cons_succ];refine wpAnyH_take (i:=18) (v:=undef) rfl (by kernel_rfl) (by kernel_rfl) (by kernel_rfl) (fun _ _ _ h=>h) (Or.inr ⟨by rfl,rfl⟩) (by assumption) ?_;simp only [Act.put,List.setIfInBounds_toArray,List.set_cons_zero,List.set_cons_succ,List.getElem_toArray,List.getElem_cons_zero,List.getElem_cons_succ];refine wpAnyH_take (i:=19) (v:=undef) rfl (by kernel_rfl) (by kernel_rfl) (by kernel_rfl) (fun _ _ _ h=>h) (Or.inr ⟨by rfl,rfl⟩) (by assumption) ?_;simp only [Act.put,List.setIfInBounds_toArray,List.set_cons_zero,List.set_cons_succ,List.getElem_toArray,List.getElem_cons_zero,List.getElem_cons_succ];refine wpAnyH_take (i:=20) (v:=undef) rfl (by kernel_rfl) (by kernel_rfl) (by kernel_rfl) (fun _ _ _ h=>h) (Or.inr ⟨by rfl,rfl⟩) (by assumption) ?_;simp only [Act.put,List.setIfInBounds_toArray,List.set_cons_zero,List.set_cons_succ,List.getElem_toArray,List.getElem_cons_zero,List.getElem_cons_succ];refine wpAnyH_take (i:=21) (v:= ?v21) rfl (by kernel_rfl) (by kernel_rfl) (by kernel_rfl) (fun _ _ _ h=>h) (Or.inl ⟨by rfl,?hy21⟩) (by assumption) ?_
   case hy21=>(intro w' hSw;(try dsimp only at hSw);go_simp)<;>with_reducible rfl
   simp only [Act.put,List.setIfInBounds_toArray,List.set_cons_zero,List.set_cons_succ,List.getElem_toArray,List.getElem_cons_zero,List.getElem_cons_succ];refine wpAnyH_take (i:=22) (v:= ?v22) rfl (by kernel_rfl) (by kernel_rfl) (by kernel_rfl) (fun _ _ _ h=>h) (Or.inl ⟨by rfl,?hy22⟩) (by assumption) ?_
   case hy22=>(intro w' hSw;(try dsimp only at hSw);go_simp)<;>with_reducible rfl
   simp only [Act.put,List.setIfInBounds_toArray,List.set_cons_zero,List.set_cons_succ,List.getElem_toArray,List.getElem_cons_zero,List.getElem_cons_succ];refine wpAnyH_done (by kernel_rfl) ?_ _;clear L9;have B1:=ae ((aa B0).trans ((aa BB).mono (aa B0).size));go_wp2;go_ret;exact ⟨rfl,aa B1⟩
  ·rw [h2,Bool.true_and,mG] at hR;subst hR;have h2':((g.reach:Int)==(n:Int))=true:=by rw [beq_iff_eq] at h2 ⊢;omega
   clear h2;go_enter Tryz.func104,Tryz.ntmps104;go_wp2_with fail;generalize ((w.alloc (.cells #[.int .i64 g.tp,.string t.sub,.int .i64 g.reach,.int .i64 g.rp,.string g.rel] 207)).alloc (.cells #[.string t.sub,.string t.who,.string t.of] 102))=W at*;have g1:W.cell? ⟨w.heap.size,1,none⟩=some (.string t.sub):=(aa G0).cell rfl;have g2:W.cell? ⟨w.heap.size,2,none⟩=some (.int .i64 g.reach):=(aa G0).cell rfl;have g4:W.cell? ⟨w.heap.size,4,none⟩=some (.string g.rel):=(aa G0).cell rfl;have s0:W.cell? ⟨w.heap.size+1,0,none⟩=some (.string t.sub):=(aa S0).cell rfl;have s1:W.cell? ⟨w.heap.size+1,1,none⟩=some (.string t.who):=(aa S0).cell rfl;have s2:W.cell? ⟨w.heap.size+1,2,none⟩=some (.string t.of):=(aa S0).cell rfl;have D:=ae (aa C W.drew);clear C G0 S0 e1
   go_region_held3 (fun w'=>w'.cell? ⟨w.heap.size,1,none⟩=some (.string t.sub)∧w'.cell? ⟨w.heap.size,2,none⟩=some (.int .i64 g.reach)∧w'.cell? ⟨w.heap.size,4,none⟩=some (.string g.rel)∧w'.cell? ⟨w.heap.size+1,0,none⟩=some (.string t.sub)∧w'.cell? ⟨w.heap.size+1,1,none⟩=some (.string t.who)∧w'.cell? ⟨w.heap.size+1,2,none⟩=some (.string t.of)) (go_keep)
    ((go_at_call 154;refine (aa D).mono ?_;rintro e w1 ⟨rfl,hb1⟩;have BB:=ae (show Below W.heap.size W w1 from (Below.refl _ W).drew.trans hb1);have d1:=af g1 (aa BB);have d2:=af g2 (aa BB);have d4:=af g4 (aa BB);have s0':=af s0 (aa BB);have s1':=af s1 (aa BB);have s2':=af s2 (aa BB);clear hb1))
   have B1:=ae ((aa B0).trans ((aa BB).mono (aa B0).size));go_wp2;go_ret;exact ⟨rfl,aa B1⟩
theorem Ma (g:Gr) (t:Tu) (q:Nat) (w:World) (hx:ag w q #[.string t.kind,.string t.id,.string t.rel,.string t.sub,.string t.who,.string t.of] 123):
  Calls Tryz.prog 103 #[sQ g,.pointer (some ⟨q,0,none⟩)] w fun e w'=>e=.returned (.bool (fM g t))∧Below w.heap.size w w':=by
 have C:=ae (fun w=>Dt g t w);have hl:=hx.lt;unfold sQ aL at C ⊢;have b0:Below w.heap.size w (w.alloc (.cells #[.int .i64 g.tp,.string g.ty,.int .i64 g.reach,.int .i64 g.rp,.string g.rel] 207)):=(Below.refl _ w).alloc RH _;have B0:=ae b0;have X0:=ae (hx.below b0);have G0:=ae (ag.new w #[.int .i64 g.tp,.string g.ty,.int .i64 g.reach,.int .i64 g.rp,.string g.rel] 207);have hne:¬(q=w.heap.size):=by omega
 have lX:¬(w.heap.size=q):=by omega
 obtain ⟨x0,x1,x2,x3,x4,x5⟩:=hx.six;clear hx b0;go_enter Tryz.func103,Tryz.ntmps103;go_wp2_with fail;refine (aa C _).mono ?_;rintro e w1 ⟨rfl,hb1⟩;have B1:=ae ((aa B0).trans (hb1.mono (aa B0).size));clear hb1 C;go_wp2;go_ret;exact ⟨rfl,aa B1⟩
theorem Mc {l:List Gr} {t:Tu} {k:Nat} (hk:k<l.length) (he:fM l[k] t=true):l.any (fun g=>fM g t)=true:=List.any_eq_true.2 ⟨l[k],List.getElem_mem hk,he⟩
theorem Md {l:List Gr} {t:Tu} (hn:∀j,(h:j<l.length)→fM l[j] t=false):l.any (fun g=>fM g t)=false:=by
 rw [List.any_eq_false];intro y hy;obtain ⟨j,hj,rfl⟩:=List.getElem_of_mem hy;rw [hn j hj];simp
theorem Ai (base:Nat) (v:Value) (l:List Gr) (t:Tu) (q:Nat) (w:World) (hn:l.length≤1000) (h:w.ownsRow base 207 5 v l.length (aO l)) (hx:ag w q #[.string t.kind,.string t.id,.string t.rel,.string t.sub,.string t.who,.string t.of] 123):
  Calls Tryz.prog 155 #[v,.func (.func 103) #[] #[.pointer (some ⟨q,0,none⟩)]] w fun e w'=>∃n:Int,e=.returned (.int .i64 n)∧decide (0≤n)=l.any (fun g=>fM g t)∧Below w.heap.size w w':=by
 obtain ⟨sa,sc,rfl⟩:=ak h;have H:=ae h;have HX:=ae hx;clear h hx;go_enter Tryz.func155,Tryz.ntmps155;go_wp2
 go_loopw [5,8] (fun u i wr=>∃k:Nat,k≤l.length∧i=.int .i64 k∧Below w.heap.size w wr∧Hid (∀j,(h:j<l.length)→j<k→fM l[j] t=false)) (fun _ i _=>l.length-(intOf i).toNat)
 case atStart=>exact ⟨0,by omega,rfl,Below.refl _ _,ae (fun j e h=>by omega)⟩
 case round=>
  obtain ⟨k,hk,rfl,hb,eH⟩:=hrel;have HB:=ae hb
  by_cases hlt:k<l.length
  ·obtain ⟨g,c,e1,hc⟩:=aU (fun g=>(aL g).toList) 5 (fun _=>rfl) (aF (aa H) hb) k l[k] (RI hlt);simp only [Value.slice.injEq] at e1;obtain ⟨rfl,_,rfl⟩:=e1;have IQ:=ae ((aa HX).below hb);have Aj:=ae (fun (he:fM l[k] t=true)=>Mc hlt he);have Me:=ae (fun (he:fM l[k] t=false)=>(show ∀j,(h:j<l.length)→j<k+1→fM l[j] t=false from fun j h h'=>by
     by_cases e:j=k
     ·subst e;exact he
     ·exact aa eH j h (by omega)))
   have C:=ae (Ma l[k] t q wr (aa IQ));unfold sQ aL at C;generalize l[k]=y at*;have k0:wr.cell? ⟨g,k*5,none⟩=some (.int .i64 y.tp):=hc 0 _ (by omega) rfl;have k1:wr.cell? ⟨g,k*5+1,none⟩=some (.string y.ty):=hc 1 _ (by omega) rfl;have k2:wr.cell? ⟨g,k*5+2,none⟩=some (.int .i64 y.reach):=hc 2 _ (by omega) rfl;have k3:wr.cell? ⟨g,k*5+3,none⟩=some (.int .i64 y.rp):=hc 3 _ (by omega) rfl;have k4:wr.cell? ⟨g,k*5+4,none⟩=some (.string y.rel):=hc 4 _ (by omega) rfl;have hkn:(k:Int)<(l.length:Int):=by omega
   clear hb hc
   cases he:fM y t
   ·rw [he] at C;have Hn:=ae (aa Me he);clear he Aj Me;go_wp2_with fail;refine (aa C).mono ?_;rintro e w2 ⟨rfl,hb2⟩;have iK:=ae ((aa HB).trans (hb2.mono (aa HB).size));clear hb2;go_wp2;go_roundw
    case rel=>exact ⟨k+1,by omega,by go_num,aa iK,Hn⟩
    case measure=>simp [intOf];omega
   ·rw [he] at C;have dN:=ae (aa Aj he);clear he Aj Me;go_wp2_with fail;refine (aa C).mono ?_;rintro e w2 ⟨rfl,hb2⟩;have iK:=ae ((aa HB).trans (hb2.mono (aa HB).size));clear hb2;go_wp2;go_ret;exact ⟨k,rfl,by rw [aa dN];simp,aa iK⟩
  ·have dN:=ae (Md (t:=t) (fun j hj=>aa eH j hj (by omega)));have hkn:¬((k:Int)<(l.length:Int)):=by omega
   clear hb;go_wp2;go_ret;exact ⟨-1,rfl,by rw [aa dN];decide,aa HB⟩
theorem sI (base:Nat) (v:Value) (l:List Gr) (t:Tu) (q:Nat) (w:World) (hn:l.length≤1000) (h:w.ownsRow base 207 5 v l.length (aO l)) (hx:ag w q #[.string t.kind,.string t.id,.string t.rel,.string t.sub,.string t.who,.string t.of] 123):
  Calls Tryz.prog 105 #[v,.func (.func 103) #[] #[.pointer (some ⟨q,0,none⟩)]] w fun e w'=>e=.returned (.bool (l.any (fun g=>fM g t)))∧Below w.heap.size w w':=by
 have C:=ae (Ai base v l t q w hn h hx);obtain ⟨sa,sc,rfl⟩:=ak h;clear h hx;go_enter Tryz.func105,Tryz.ntmps105;go_wp2_with fail;refine (aa C).mono ?_;rintro e w1 ⟨n,rfl,sF,hb1⟩;have B1:=ae hb1;have HN:=ae sF;clear sF hb1;go_wp2;go_ret;exact ⟨by rw [←aa HN];rfl,aa B1⟩
def rA (ts:List Ty) (t:Tu):Nat:=match cu ts t.kind with
 |none=>5
 |some y=>match aW y t.rel with
  |none=>5
  |some r=>if (aY r.body).any (fun g=>fM g t) then 0 else 7
def Jt (n:Nat):Value:=if n=0 then .nilIface else aM n
theorem xN (sa:Option Addr) (sn sc:Nat) (t:Tu) (w:World) (yp:Nat) (yn:RJ) (va:Option Addr) (vn vc:Nat)
  (C0:Calls Tryz.prog 94 #[.agg #[.slice sa sn sc],.string t.kind,.string t.rel] ((w.alloc (.cells #[.slice sa sn sc] 75)).alloc (.cells #[.string t.kind,.string t.id,.string t.rel,.string t.sub,.string t.who,.string t.of] 123)) fun e w''=>e=.returned (.tuple #[.agg #[.int .i64 yp,.string yn,.slice va vn vc],.agg #[.int .i64 0,.string ⟨#[]⟩,.nilIface],aM 5])∧Below ((w.alloc (.cells #[.slice sa sn sc] 75)).alloc (.cells #[.string t.kind,.string t.id,.string t.rel,.string t.sub,.string t.who,.string t.of] 123)).heap.size ((w.alloc (.cells #[.slice sa sn sc] 75)).alloc (.cells #[.string t.kind,.string t.id,.string t.rel,.string t.sub,.string t.who,.string t.of] 123)) w''):
  Calls Tryz.prog 61 #[.agg #[.slice sa sn sc],.agg #[.string t.kind,.string t.id,.string t.rel,.string t.sub,.string t.who,.string t.of]] w fun e w'=>e=.returned (aM 5)∧Below w.heap.size w w':=by
 have B0:=ae (((Below.refl w.heap.size w).alloc RH (.cells #[.slice sa sn sc] 75)).alloc (by simp) (.cells #[.string t.kind,.string t.id,.string t.rel,.string t.sub,.string t.who,.string t.of] 123));have C:=ae C0;clear C0;unfold aM at C ⊢;go_enter Tryz.func61,Tryz.ntmps61;go_wp2_with fail;refine (aa C).mono ?_;rintro e w1 ⟨rfl,hb1⟩;have b1:=(aa B0).trans (hb1.mono (aa B0).size);have B2:=ae ((b1.alloc b1.size (.cells #[.int .i64 yp,.string yn,.slice va vn vc] 110)).alloc (by have:=b1.size;simp;omega) (.cells #[.int .i64 0,.string ⟨#[]⟩,.nilIface] 159));clear hb1 C b1;go_wp2;go_ret;exact ⟨rfl,aa B2⟩
theorem FP (b:Nat) (sa:Option Addr) (sn sc:Nat) (t:Tu) (w:World) (yp:Nat) (yn:RJ) (va:Option Addr) (vn vc rp:Nat) (rn:RJ) (ra:TypeId) (rv:Value) (e:Ex) (hb:b<w.heap.size) (h:ay b ((w.alloc (.cells #[.slice sa sn sc] 75)).alloc (.cells #[.string t.kind,.string t.id,.string t.rel,.string t.sub,.string t.who,.string t.of] 123)) e (.iface ra rv)) (hp:(aj e).length≤1000) (hg:(aY e).length≤1000) (hwf:WF e)
  (C0:Calls Tryz.prog 94 #[.agg #[.slice sa sn sc],.string t.kind,.string t.rel] ((w.alloc (.cells #[.slice sa sn sc] 75)).alloc (.cells #[.string t.kind,.string t.id,.string t.rel,.string t.sub,.string t.who,.string t.of] 123)) fun e w''=>e=.returned (.tuple #[.agg #[.int .i64 yp,.string yn,.slice va vn vc],.agg #[.int .i64 rp,.string rn,.iface ra rv],.nilIface])∧Below ((w.alloc (.cells #[.slice sa sn sc] 75)).alloc (.cells #[.string t.kind,.string t.id,.string t.rel,.string t.sub,.string t.who,.string t.of] 123)).heap.size ((w.alloc (.cells #[.slice sa sn sc] 75)).alloc (.cells #[.string t.kind,.string t.id,.string t.rel,.string t.sub,.string t.who,.string t.of] 123)) w''):
  Calls Tryz.prog 61 #[.agg #[.slice sa sn sc],.agg #[.string t.kind,.string t.id,.string t.rel,.string t.sub,.string t.who,.string t.of]] w fun e' w'=>e'=.returned (Jt (if (aY e).any (fun g=>fM g t) then 0 else 7))∧Below w.heap.size w w':=by
 have B0:=ae (((Below.refl w.heap.size w).alloc RH (.cells #[.slice sa sn sc] 75)).alloc (by simp) (.cells #[.string t.kind,.string t.id,.string t.rel,.string t.sub,.string t.who,.string t.of] 123));have X0:=ae (ag.new' (w.alloc (.cells #[.slice sa sn sc] 75)) #[.string t.kind,.string t.id,.string t.rel,.string t.sub,.string t.who,.string t.of] 123 (w.heap.size+1) (by simp));have C:=ae C0;have CG:=ae (fun w' (k:Below ((w.alloc (.cells #[.slice sa sn sc] 75)).alloc (.cells #[.string t.kind,.string t.id,.string t.rel,.string t.sub,.string t.who,.string t.of] 123)).heap.size ((w.alloc (.cells #[.slice sa sn sc] 75)).alloc (.cells #[.string t.kind,.string t.id,.string t.rel,.string t.sub,.string t.who,.string t.of] 123)) w')=>mo rp rn b e (.iface ra rv) w' (by have:=k.size;simp at this;omega) (h.but (But.of_below k)) hp hg hwf);have CF:=ae (fun (base:Nat) (v:Value) (w':World) (hr:w'.ownsRow base 207 5 v (aY e).length (aO (aY e))) (hx:ag w' (w.heap.size+1) #[.string t.kind,.string t.id,.string t.rel,.string t.sub,.string t.who,.string t.of] 123)=>sI base v (aY e) t (w.heap.size+1) w' hg hr hx);obtain ⟨R,hR⟩:∃R,R=(aY e).any (fun g=>fM g t):=⟨_,rfl⟩;rw [←hR] at CF ⊢;have hlw:w.heap.size<(w.alloc (.cells #[.slice sa sn sc] 75)).heap.size:=by simp
 clear C0 h hb hp hg hwf hR;go_enter Tryz.func61,Tryz.ntmps61;go_wp2_with fail;refine (aa C).mono ?_;rintro e w1 ⟨rfl,hb1⟩;have b1:=(aa B0).trans (hb1.mono (aa B0).size);have b2:=(b1.alloc b1.size (.cells #[.int .i64 yp,.string yn,.slice va vn vc] 110)).alloc (by have:=b1.size;simp;omega) (.cells #[.int .i64 rp,.string rn,.iface ra rv] 159);have B2:=ae b2;have X2:=ae ((((aa X0).below hb1).alloc (.cells #[.int .i64 yp,.string yn,.slice va vn vc] 110)).alloc (.cells #[.int .i64 rp,.string rn,.iface ra rv] 159));have D:=ae (aa CG _ ((hb1.alloc hb1.size (.cells #[.int .i64 yp,.string yn,.slice va vn vc] 110)).alloc (by have:=hb1.size;simp at this ⊢;omega) (.cells #[.int .i64 rp,.string rn,.iface ra rv] 159)));clear hb1 C B0 X0 b1 b2 CG;go_wp2_with fail;refine (aa D).mono ?_;rintro e w3 ⟨gv,rfl,hb3,hr3⟩;obtain ⟨ga,gc,rfl⟩:=ak hr3;have B3:=ae ((aa B2).trans (hb3.mono (aa B2).size));have E:=ae (aa CF _ _ w3 hr3 ((aa X2).below hb3));clear hb3 hr3 D B2 X2 CF;go_wp2_with fail;refine (aa E).mono ?_;rintro e w4 ⟨rfl,hb4⟩;have B4:=ae ((aa B3).trans (hb4.mono (aa B3).size));clear hb4 E B3
 cases R
 ·go_wp2;go_ret;exact ⟨rfl,aa B4⟩
 ·go_wp2;go_ret;exact ⟨rfl,aa B4⟩
theorem FQ (b:Nat) (sv:Value) (ts:List Ty) (tl:List (Ty×Value)) (t:Tu) (w:World) (h:MC b w sv ts tl):
  Calls Tryz.prog 61 #[.agg #[sv],.agg #[.string t.kind,.string t.id,.string t.rel,.string t.sub,.string t.who,.string t.of]] w fun e w'=>e=.returned (Jt (rA ts t))∧Below w.heap.size w w':=by
 obtain ⟨sa,sn,sc,rfl⟩:=h.form;have k:Below w.heap.size w ((w.alloc (.cells #[.slice sa sn sc] 75)).alloc (.cells #[.string t.kind,.string t.id,.string t.rel,.string t.sub,.string t.who,.string t.of] 123)):=((Below.refl w.heap.size w).alloc RH (.cells #[.slice sa sn sc] 75)).alloc (by simp) (.cells #[.string t.kind,.string t.id,.string t.rel,.string t.sub,.string t.who,.string t.of] 123);unfold rA
 cases h1:cu ts t.kind with
 |none=>exact xN sa sn sc t w 0 ⟨#[]⟩ none 0 0 (qU b _ ts tl t.kind t.rel _ (h.below k) h1)
 |some y=>
  cases h2:aW y t.rel with
  |none=>
   simp only [h2];obtain ⟨va,vn,vc,hc⟩:=qV b _ ts tl t.kind t.rel _ (h.below k) y h1 h2;exact xN sa sn sc t w _ _ va vn vc hc
  |some r=>
   simp only [h2];obtain ⟨va,vn,vc,rl,ra,rv,hmem,hrc,bi,hc⟩:=oq b _ ts tl t.kind t.rel _ (h.below k) y h1 r h2;exact FP b sa sn sc t w _ _ va vn vc _ _ ra rv r.body h.blt bi (hrc.okp r hmem) (hrc.okg r hmem) (hrc.wf r hmem) hc
def Nv (ts:List Ty) (gs:List Tu) (s:RJ):Nat×List Tu:=if jE s=false then (2,gs) else if rA ts (dw s).1≠0 then (rA ts (dw s).1,gs) else if 0≤ou gs (dw s).1 then (4,gs) else if gs.length=24 then (8,gs) else (0,gs++[(dw s).1])
theorem Du (n:Nat) (w:World) (hg:Laid w):Calls Tryz.prog 41 #[Jt n] w fun e w'=>e=.returned (.tuple #[.int .i64 n,.int .i64 0])∧Below w.heap.size w w':=by
 unfold Jt
 by_cases h:n=0
 ·subst h;rw [if_pos rfl];exact ru w
 ·rw [if_neg h];exact Ah n w hg
theorem Tryz.infoTu:(Tryz.prog.info? 123).map (fun i=>(i.zero,i.size,i.bytes))=some (some (.agg #[.string ⟨#[]⟩,.string ⟨#[]⟩,.string ⟨#[]⟩,.string ⟨#[]⟩,.string ⟨#[]⟩,.string ⟨#[]⟩]),6,96):=by kernel_rfl
theorem fV {S:Nat→Prop} {x y:World} {row:Option Nat} (h:x.grownBy y row) (hS:∀k,row=some k→S k):aS S x y:=⟨h.os,h.tape,h.output,h.size,fun k hk hs=>h.block k hk (fun e=>hs (hS k e.symm))⟩
theorem FR {b:Nat} {mv lv:Value} {ga:Option Addr} {gc:Nat} {gs:List Tu} {t:Tu} {w W w5:World} {o:Obj} {g5 bu:Nat} (H:PU w b mv lv (.slice ga gs.length gc) gs) (hB:Below w.heap.size w W) (Nw:gs.length<1000)
  (G5:(W.alloc o).drew.grownBy w5 (Value.slice ga gs.length gc).ownBlock) (O5:w5.ownsRow 0 123 6 (.slice (some ⟨g5,0,none⟩) (gs.length+1) bu) (gs.length+1) (gs.flatMap mH++mH t)) (A5:(Value.slice ga gs.length gc).ownBlock=some g5∨g5=W.heap.size+1)
  (K5:ag w5 b #[mv,lv,.slice ga gs.length gc] 117):
  jS b mv lv (.slice ga gs.length gc) w (0,gs++[t]) (.returned (.int .i64 0)) (w5.setCell ⟨b,2,none⟩ (.slice (some ⟨g5,0,none⟩) (gs.length+1) bu)):=by
 have mO:∀k,(Value.slice ga gs.length gc).ownBlock=some k→FM b (.slice ga gs.length gc) k:=fun k hk=>by
  rcases H.row.2 with ⟨e,_⟩|⟨g',cap,cur,e,_,_,_⟩
  ·rw [e] at hk;simp [Value.ownBlock] at hk
  ·rw [e] at hk ⊢;simp only [Value.ownBlock,Option.some.injEq] at hk;exact .inr ⟨_,_,by rw [hk]⟩
 have b2:=(hB.alloc hB.size o).drew;have hbl:=H.blk.lt;refine ⟨_,rfl,⟨K5.set 2 _,?_,?_,by show (gs++[t]).length≤1000;simp;omega⟩,((aS.of_below b2).trans (fV G5 mO)).set (.inl rfl) _,?_⟩
 ·show World.ownsRow _ 0 123 6 _ (gs++[t]).length ((gs++[t]).flatMap mH)
  have:=bD O5 K5 (by decide) 2 (.slice (some ⟨g5,0,none⟩) (gs.length+1) bu);rw [List.flatMap_append,List.flatMap_singleton,List.length_append];exact this
 ·intro g n c e e';simp only [Value.slice.injEq,Option.some.injEq,Addr.mk.injEq,and_true] at e;obtain ⟨rfl,_,_⟩:=e;obtain ⟨cur,hc,_⟩:=dS O5;subst e';unfold ag at hc K5;rw [K5] at hc;simp at hc
 ·rintro k (rfl|⟨n,c,e⟩)
  ·exact .inl (.inl rfl)
  ·simp only [Value.slice.injEq,Option.some.injEq,Addr.mk.injEq,and_true] at e;obtain ⟨rfl,_,_⟩:=e
   rcases A5 with h|h
   ·exact .inl (mO _ h)
   ·exact .inr (by have:=hB.size;omega)
theorem Ak (PC:CY) (b bm:Nat) (s:RJ) (w:World) (mv lv gv:Value) (gs:List Tu) (ts:List Ty) (tl:List (Ty×Value)) (h:PU w b mv lv gv gs) (hM:MC bm w mv ts tl) (hm:ow w) (hw:1<w.heap.size) (hg:Laid w) (OT:gs.length<1000):
  Calls Tryz.prog 28 #[.pointer (some ⟨b,0,none⟩),.string s] w (jS b mv lv gv w (Nv ts gs s)):=by
 have C1:=ae (Dp PC s w hm hw);have H:=ae h;rw [Js s] at C1;obtain ⟨t,ht,hk⟩:=Dq s;rw [ht] at C1;unfold Nv;clear ht
 cases ho:jE s
 ·rw [ho] at C1;rw [if_pos rfl];clear h hm hw PC ho hk hM hg;go_enter Tryz.func28,Tryz.ntmps28;go_wp2_with fail;refine (aa C1).mono ?_;rintro e w1 ⟨rfl,hb1⟩;have B1:=ae (hb1.alloc hb1.size (.cells #[.string t.kind,.string t.id,.string t.rel,.string t.sub,.string t.who,.string t.of] 123));clear hb1 C1;go_wp2;go_ret;exact jS.same (aa H) (aa B1) 2
 ·rw [if_neg (by simp),←hk ho];rw [ho] at C1;clear ho hk;obtain ⟨ga,gc,rfl⟩:=ak h.row;obtain ⟨sa,sn,sc,rfl⟩:=hM.form;have Bi:=h.most;have CL:=ae (fun w' (k:Below w.heap.size w w')=>FQ bm _ ts tl t w' (hM.below k));have hbl:=h.blk.lt;have HG:=ae hg;have CI:=ae (fun w' (k:Below w.heap.size w w')=>zO 0 _ gs t w' (by omega) (aF h.row k));clear h hm hw PC hM hg;generalize rA ts t=n at*;obtain ⟨r,hr⟩:∃r,r=(if n≠0 then (n,gs) else if 0≤ou gs t then (4,gs) else if gs.length=24 then (8,gs) else (0,gs++[t])):=⟨_,rfl⟩;rw [←hr];have P9:=ae hr;clear hr;generalize ou gs t=m at*;go_enter Tryz.func28,Tryz.ntmps28;go_wp2_with fail;refine (aa C1).mono ?_;rintro e w1 ⟨rfl,hb1⟩;have B1:=ae (hb1.alloc hb1.size (.cells #[.string t.kind,.string t.id,.string t.rel,.string t.sub,.string t.who,.string t.of] 123));have U1:=ae ((aa H).below (aa B1));have T1:=ae (ag.new w1 #[.string t.kind,.string t.id,.string t.rel,.string t.sub,.string t.who,.string t.of] 123);have hne:¬(w1.heap.size=b):=by have:=hb1.size;omega
  have lX:¬(b=w1.heap.size):=by have:=hb1.size;omega
  clear hb1 C1;go_wp2_with fail;have l1:=(aa B1).size;generalize (w1.alloc (.cells #[.string t.kind,.string t.id,.string t.rel,.string t.sub,.string t.who,.string t.of] 123))=W at*;obtain ⟨c0,c1,c2⟩:=three (aa U1).blk;obtain ⟨t0,t1,t2,t3,t4,t5⟩:=(aa T1).six;have D:=ae (aa CL W.drew (aa B1).drew);have hl0:=(aa HG).lt;have HTD:=ae (fun w' (k:Below w.heap.size w w')=>Du n w' ((aa HG).below k hl0));clear CL
  go_region_held3 (fun w'=>w'.cell? ⟨b,0,none⟩=some (.slice sa sn sc)∧w'.cell? ⟨w1.heap.size,0,none⟩=some (.string t.kind)∧w'.cell? ⟨w1.heap.size,1,none⟩=some (.string t.id)∧w'.cell? ⟨w1.heap.size,2,none⟩=some (.string t.rel)∧w'.cell? ⟨w1.heap.size,3,none⟩=some (.string t.sub)∧w'.cell? ⟨w1.heap.size,4,none⟩=some (.string t.who)∧w'.cell? ⟨w1.heap.size,5,none⟩=some (.string t.of)) (go_keep)
   (first
   |(have xx:=BB;go_at_call 41;refine (aa HTD _ ((aa B1).trans ((aa BB).mono l1))).mono ?_;rintro e w3 ⟨rfl,hb3⟩;have BC:=ae ((aa BB).trans (hb3.mono (aa BB).size));have f0:=af c0 (aa BC);have f1:=af t0 (aa BC);have f2:=af t1 (aa BC);have f3:=af t2 (aa BC);have f4:=af t3 (aa BC);have f5:=af t4 (aa BC);have f6:=af t5 (aa BC);clear hb3 xx)
   |(go_at_call 61;refine (aa D).mono ?_;rintro e w2 ⟨rfl,hb2⟩;have BB:=ae (show Below W.heap.size W w2 from (Below.refl _ W).drew.trans hb2);have d0:=af c0 (aa BB);have d1:=af t0 (aa BB);have d2:=af t1 (aa BB);have d3:=af t2 (aa BB);have d4:=af t3 (aa BB);have d5:=af t4 (aa BB);have d6:=af t5 (aa BB);clear hb2))
  have B3:=ae ((aa B1).trans ((aa BC).mono l1));have U3:=ae ((aa H).below (aa B3));have T3:=ae ((aa T1).below (aa BC));have l3:=(aa B3).size;clear d0 d1 d2 d3 d4 d5 d6 f0 f1 f2 f3 f4 f5 f6 c0 c1 c2 t0 t1 t2 t3 t4 t5 BB BC D HTD U1 T1 B1
  by_cases hn:n=0
  ·have hn0:((n:Int) != 0)=false:=by rw [hn];rfl
   have sF:((n:Int)==0)=true:=by rw [hn];rfl
   have hr:=aa P9;rw [if_neg (by simpa using hn)] at hr;have bP:=ae hr;obtain ⟨c0,c1,c2⟩:=three (aa U3).blk;obtain ⟨t0,t1,t2,t3,t4,t5⟩:=(aa T3).six;have E:=ae (aa CI w3.drew (aa B3).drew);clear hr P9 hn CI;go_wp2_with fail
   go_region_held3 (fun w'=>w'.cell? ⟨b,2,none⟩=some (.slice ga gs.length gc)∧w'.cell? ⟨w1.heap.size,0,none⟩=some (.string t.kind)∧w'.cell? ⟨w1.heap.size,1,none⟩=some (.string t.id)∧w'.cell? ⟨w1.heap.size,2,none⟩=some (.string t.rel)∧w'.cell? ⟨w1.heap.size,3,none⟩=some (.string t.sub)∧w'.cell? ⟨w1.heap.size,4,none⟩=some (.string t.who)∧w'.cell? ⟨w1.heap.size,5,none⟩=some (.string t.of)) (go_keep)
    ((go_at_call 62;refine (aa E).mono ?_;rintro e w4 ⟨rfl,hb4⟩;have BB:=ae (show Below w3.heap.size w3 w4 from (Below.refl _ w3).drew.trans hb4);have d0:=af c2 (aa BB);have d1:=af t0 (aa BB);have d2:=af t1 (aa BB);have d3:=af t2 (aa BB);have d4:=af t3 (aa BB);have d5:=af t4 (aa BB);have d6:=af t5 (aa BB);clear hb4))
   have B4:=ae ((aa B3).trans ((aa BB).mono l3));have U4:=ae ((aa H).below (aa B4));have T4:=ae ((aa T3).below (aa BB));have l4:=(aa B4).size;clear d0 d1 d2 d3 d4 d5 d6 c0 c1 c2 t0 t1 t2 t3 t4 t5 BB E U3 T3 B3
   by_cases hm:0≤m
   ·have hr:=aa bP;rw [if_pos hm] at hr;subst hr;rw [decide_eq_true hm];clear bP;go_wp2;go_ret;exact jS.same (aa H) (aa B4) 4
   ·have hr:=aa bP;rw [if_neg hm] at hr;rw [decide_eq_false hm];have gD:=ae hr;obtain ⟨c0,c1,c2⟩:=three (aa U4).blk;obtain ⟨t0,t1,t2,t3,t4,t5⟩:=(aa T4).six;clear hr bP hm
    by_cases Nw:gs.length=24
    ·have hr:=aa gD;rw [if_pos Nw] at hr;subst hr;have h24':((gs.length:Int)==24)=true:=by rw [Nw];rfl
     clear gD Nw;go_wp2;go_ret;exact jS.same (aa H) (aa B4) 8
    ·have hr:=aa gD;rw [if_neg Nw] at hr;subst hr;have h24':((gs.length:Int)==24)=false:=by rw [beq_eq_false_iff_ne];omega
     clear gD Nw;go_wp2_with fail;obtain ⟨i0,hi0,hz0,hz1,hz2⟩:=info_parts Tryz.infoTu;have HI:=ae hi0;have jg:=ae hz0;have jh:=ae hz1;have ji:=ae hz2;clear hi0 hz0 hz1 hz2;have hbk:=(aa U4).blk;have hz:=hbk.fz;have HO:=ae (aa U4).row;have m7:=World.new_ne w4 _ c2;have m8:=World.new_ne w4 _ t0;have c7:(w4.alloc (.cells #[.string t.kind,.string t.id,.string t.rel,.string t.sub,.string t.who,.string t.of] 123)).cell? ⟨b,2,none⟩=some (.slice ga gs.length gc):=(hbk.alloc _).cell rfl;have Ju:¬(b=w4.heap.size):=by have:=hbk.lt;omega
     have Dv:=ae hbk;clear hbk;have vE:=ae (show ∀u∈mH t,u.oneCell'=true from by
      intro u hu;simp only [mH,List.mem_cons,List.not_mem_nil,or_false] at hu
      rcases hu with rfl|rfl|rfl|rfl|rfl|rfl<;>rfl)
     have Ii:=ae (show gs.length+1≤maxLen from by unfold maxLen;omega);have Ij:=ae (show (gs.length+1)*96≤140737488355328 from by omega);have HS:=ae (show 0≤(w4.alloc (.cells #[.string t.kind,.string t.id,.string t.rel,.string t.sub,.string t.who,.string t.of] 123)).drew.heap.size from Nat.zero_le _);have HH:=ae (show (w4.alloc (.cells #[.string t.kind,.string t.id,.string t.rel,.string t.sub,.string t.who,.string t.of] 123)).drew.heap.size=w4.heap.size+1 from by simp)
     go_region_law (refine step_append_lies _ rfl (.tmp 45) (.tmp 47) 115 rfl 0 123 i0 _ 6 96 Tryz.underlying115 (aa HI) (aa jg) (aa jh) (aa ji) rfl (by decide) (.slice ga gs.length gc) gs.length (gs.flatMap mH) (by simp [Act.eval,Act.put]) (fG ((aa HO).alloc _)) ⟨w4.heap.size,0,none⟩ 1 1 (mH t) (by simp [Act.eval,Act.put]) rfl (World.news_of_block (B:=w4.heap.size) (cs:=#[.string t.kind,.string t.id,.string t.rel,.string t.sub,.string t.who,.string t.of]) (t:=123) (fr:=(0,0)) (ag.new w4 _ _).drew) (aa vE) (by decide) (aa Ii) (aa Ij) (aa HS) (w4.heap.size+1) (aa HH) ?_;intro g5 bu w5 aJ au bI jk;have fA:=fG ((aa HO).alloc (.cells #[.string t.kind,.string t.id,.string t.rel,.string t.sub,.string t.who,.string t.of] 123));have pF:=((aa Dv).alloc (.cells #[.string t.kind,.string t.id,.string t.rel,.string t.sub,.string t.who,.string t.of] 123)).drew;have K5:ag w5 b _ 117:=(au.block b pF.lt (own_ne fA pF (by decide))).trans pF;obtain ⟨q0,q1,q2⟩:=three K5;have zq:=K5.fz;have Ny:=ae K5;have G5:=ae au;have O5:=ae aJ;have A5:=ae bI;have lq:=K5.lt;clear fA pF K5 au aJ bI)
     all_goals
      go_wp2;go_ret;exact FR (aa H) (aa B4) (by omega) (aa G5) (aa O5) (aa A5) (aa Ny)
  ·have hn0:((n:Int) != 0)=true:=by rw [bne_iff_ne];omega
   have sF:((n:Int)==0)=false:=by rw [beq_eq_false_iff_ne];omega
   have hr:=aa P9;rw [if_pos hn] at hr;subst hr;clear hn P9;go_wp2;go_ret;exact jS.same (aa H) (aa B3) n
theorem Al {w:World} {g:Nat} {a b:Value} {T:TypeId} (h:ag w g #[a,b] T):w.cell? ⟨g,0,none⟩=some a∧w.cell? ⟨g,1,none⟩=some b:=⟨h.cell rfl,h.cell rfl⟩
