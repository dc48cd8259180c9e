import Derived.Test.YtlbpnlngckgcbaaGreatDoorM12
import Derived.Test.YtlbpnlngckgcbaaGreatDoorM16
import Derived.Test.YtlbpnlngckgcbaaGreatDoorM11
import Derived.Test.YtlbpnlngckgcbaaGreatDoorM06
set_option linter.all false
set_option maxHeartbeats 4000000
set_option maxRecDepth 100000
namespace Go.Proofs.YtlbpnlngckgcbaaGreatDoor
open Go.RowKit Go.PlainAid Go.Proofs.Tryz
variable {aD br:Prop}
abbrev jI:=@List.setIfInBounds_toArray
abbrev rZ:=@wpAnyH_ready
abbrev pL:=@AllReadyH.cons
abbrev r7:=@AllReadyH.nil
def GV (h:aD:=by
 go_enter func154,ntmps154;go_wp2;go_ret;exact ⟨rfl,B0⟩):aD:=h
def im(i r:ae):Nat:=if r.size=0 then (if eqs i dJ then 1 else 0) else 2
def Lv(k i r w):
  Calls prog 154 #[.agg #[aj k,aj i,aj r]] w fun e w'=>e=bj (ar (im i r))/\an w w':=by
 have B0:=(aA w.heap.size w).alloc aH (bT aj k aj i aj r);unfold im
 by_cases h0:r.size=0
 ·rw [if_pos h0];have D:(r.toList== [])=true:=by rw [aT,dQ];exact iF (by rw [bk];exact h0)
  have A:r.toList.isEmpty=true:=by rw [aT,List.isEmpty_iff];exact iF (by rw [bk];exact h0)
  have C:eqs i dJ=(i.toList== [42]):=by unfold eqs dJ;rw [aT];rfl
  rw [C]
  cases I:(i.toList== [42])
  ·rw [if_neg au];exact GV
  rw [if_pos rfl];exact GV
 ·rw [if_neg h0];have A:r.toList.isEmpty=false:=by
   rw [aT,Av];intro h;rw [List.isEmpty_iff] at h;exact h0 (by rw [<-bk,h];rfl)
  have D:(r.toList== [])=false:=by rw [aT] at A ⊢;revert A;cases bB r<;>simp
  exact GV
def gD(g:Gr)(t:Tu):Bool:=eqs g.ty t.sub&&((g.reach==im t.who t.of)&&eqs g.rel t.of)
def Lw(g t w):
  Calls prog 104 #[FX g,.agg #[aj t.sub,aj t.who,aj t.of]] w fun e w'=>e=bj (.bool (gD g t))/\an w w':=by
 obtain ⟨R,D⟩:∃R,R=gD g t:=⟨_,rfl⟩;rw [<-D];unfold gD at D;unfold FX dk;have C:=fun w=>Lv t.sub t.who t.of w
 generalize im t.who t.of=n at*;have I:=((aA w.heap.size w).alloc aH (gJ ar g.tp aj g.ty ar g.reach ar g.rp aj g.rel)).alloc au (bT aj t.sub aj t.who aj t.of);have J:=(aL.new w #[ar g.tp,aj g.ty,ar g.reach,ar g.rp,aj g.rel] 207).alloc (bT aj t.sub aj t.who aj t.of);have Q:=aL.new' (w.alloc (gJ ar g.tp aj g.ty ar g.reach ar g.rp aj g.rel)) #[aj t.sub,aj t.who,aj t.of] 102 (w.heap.size+1) au
 cases h1:eqs g.ty t.sub
 ·rw [h1,eK] at D;subst D;have ai:(g.ty.toList==t.sub.toList)=false:=by rw [<-aQ];exact h1
  go_enter func104,ntmps104;go_wp2_with fail;generalize ((w.alloc (gJ ar g.tp aj g.ty ar g.reach ar g.rp aj g.rel)).alloc (bT aj t.sub aj t.who aj t.of))=W at*;obtain ⟨_,U,_⟩:=J.five;obtain ⟨Z,_⟩:=Q.three
  go_quiet (fail)
  go_wp2;go_ret;exact ⟨rfl,cJ I _⟩
 ·have e1:g.ty=t.sub:=(bz _ _).1 h1;rw [h1,fS] at D;rw [e1] at J Q I ⊢;go_enter func104,ntmps104;go_wp2_with fail;generalize ((w.alloc (gJ ar g.tp aj t.sub ar g.reach ar g.rp aj g.rel)).alloc (bT aj t.sub aj t.who aj t.of))=W at*;obtain ⟨_,U,ac,_,ad⟩:=J.five;obtain ⟨Z,ae,af⟩:=Q.three;have ab:=C W.drew
  cases h2:(g.reach==n)
  ·rw [h2,eK] at D;subst D;have ag:((g.reach:Int)==(n:Int))=false:=by rw [bW] at h2 ⊢;omega
   refine wp_region_held_drew (S:=fun w'=>w'.cell? (aC w.heap.size 1)=some (aj t.sub)/\w'.cell? (aC w.heap.size 2)=some (ar g.reach)/\w'.cell? (aC w.heap.size 4)=some (aj g.rel)/\w'.cell? (aN (w.heap.size+1))=some (aj t.sub)/\w'.cell? (aC (w.heap.size+1) 1)=some (aj t.who)/\w'.cell? (aC (w.heap.size+1) 2)=some (aj t.of)) aM (by go_keep) (fun ak=>vJ 0 ?_)
   iterate 11
    refine o0 (v:= ?_) rfl aM (fun _ _ _ h=>h) (by assumption) (Or.inl ⟨bL,?_⟩) ?_
    rotate_left
    ·(intro w' V;(try dsimp only at V);go_simp)<;>with_reducible rfl
    simp only [Act.put,jI,List.set_cons_zero,List.set_cons_succ,List.getElem_toArray,List.getElem_cons_zero,List.getElem_cons_succ,Nat.reduceAdd]
   refine rZ (rs:=[11]) aM au ?_;refine pL rfl (fun K ah=> ?_) r7
   go_simp
   refine ab.mono ?_;rintro e w1 ⟨rfl,Y⟩;have A:=((aA _ W).drew.trans Y:an W w1);refine ah.out _ _ ⟨(am U A),(am ac A),(am ad A),(am Z A),(am ae A),(am af A)⟩ (fun al=>vJ 12 ?_)
   try simp only [Act.put,jI,List.set_cons_zero,List.set_cons_succ,List.getElem_toArray,List.getElem_cons_zero,List.getElem_cons_succ]
   iterate 11
    first
    |refine o0 rfl aM (fun _ _ _ h=>h) (by assumption) (Or.inr ⟨bL,rfl⟩) ?_
    |refine o0 (v:= ?_) rfl aM (fun _ _ _ h=>h) (by assumption) (Or.inl ⟨bL,?_⟩) ?_
     rotate_left
     ·(intro w' V;(try dsimp only at V);go_simp)<;>with_reducible rfl
    simp only [Act.put,jI,List.set_cons_zero,List.set_cons_succ,List.getElem_toArray,List.getElem_cons_zero,List.getElem_cons_succ,Nat.reduceAdd]
   refine wpAnyH_done aM ?_ _;go_wp2;go_ret;exact ⟨rfl,(I.trans (A.mono I.size))⟩
  rw [h2,fS,aQ] at D;subst D;have ag:((g.reach:Int)==(n:Int))=true:=by rw [dQ] at h2 ⊢;omega
  go_region_held3 (fun w'=>w'.cell? (aC w.heap.size 1)=some (aj t.sub)/\w'.cell? (aC w.heap.size 2)=some (ar g.reach)/\w'.cell? (aC w.heap.size 4)=some (aj g.rel)/\w'.cell? (aN (w.heap.size+1))=some (aj t.sub)/\w'.cell? (aC (w.heap.size+1) 1)=some (aj t.who)/\w'.cell? (aC (w.heap.size+1) 2)=some (aj t.of)) (go_keep)
   ((go_at_call 154;refine ab.mono ?_;rintro e w1 ⟨rfl,Y⟩;have A:=((aA _ W).drew.trans Y:an W w1);have d1:=am U A;have d2:=am ac A;have d4:=am ad A;have ap:=am Z A;have av:=am ae A;have aw:=am af A))
  go_wp2;go_ret;exact ⟨rfl,(I.trans (A.mono I.size))⟩
