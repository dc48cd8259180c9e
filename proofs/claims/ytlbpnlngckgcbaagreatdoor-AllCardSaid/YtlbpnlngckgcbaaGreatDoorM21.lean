import Derived.Test.YtlbpnlngckgcbaaGreatDoorM12
import Derived.Test.YtlbpnlngckgcbaaGreatDoorM16
import Derived.Test.YtlbpnlngckgcbaaGreatDoorM11
import Derived.Test.YtlbpnlngckgcbaaGreatDoorM06
set_option linter.all false
set_option maxHeartbeats 4000000
set_option maxRecDepth 100000
namespace Go.Proofs.YtlbpnlngckgcbaaGreatDoor
open Go.RowKit Go.PlainAid Go.Proofs.Tryz
variable {aD bq:Prop}
abbrev jL:=@List.setIfInBounds_toArray
abbrev sF:=@wpAnyH_ready
abbrev qb:=@AllReadyH.cons
abbrev sG:=@AllReadyH.nil
def Hw (h:aD:=by
 go_enter func154,ntmps154;go_wp2;go_ret;exact ⟨rfl,B0⟩):aD:=h
def ir(i r:ae):Nat:=if r.size=0 then (if eqs i dL then 1 else 0) else 2
def L7(k i r w):
  Calls prog 154 #[.agg #[an k,an i,an r]] w fun e w'=>e=bi (au (ir i r))/\am w w':=by
 have B0:=(az w.heap.size w).alloc aH (cf k i r);unfold ir
 by_cases h0:r.size=0
 ·rw [if_pos h0];have D:(r.toList== [])=true:=by rw [aT,dS];exact iL (by rw [bj];exact h0)
  have A:r.toList.isEmpty=true:=by rw [aT,List.isEmpty_iff];exact iL (by rw [bj];exact h0)
  have C:eqs i dL=(i.toList== [42]):=by unfold eqs dL;rw [aT];rfl
  rw [C]
  cases I:(i.toList== [42])
  ·rw [if_neg ar];exact Hw
  rw [if_pos rfl];exact Hw
 ·rw [if_neg h0];have A:r.toList.isEmpty=false:=by
   rw [aT,A3];intro h;rw [List.isEmpty_iff] at h;exact h0 (by rw [<-bj,h];rfl)
  have D:(r.toList== [])=false:=by rw [aT] at A ⊢;revert A;cases bB r<;>simp
  exact Hw
def gE(g:Gr)(t:Tu):Bool:=eqs g.ty t.sub&&((g.reach==ir t.who t.of)&&eqs g.rel t.of)
def L8(g t w):
  Calls prog 104 #[Gu g,.agg #[an t.sub,an t.who,an t.of]] w fun e w'=>e=bi (.bool (gE g t))/\am w w':=by
 obtain ⟨R,D⟩:∃R,R=gE g t:=⟨_,rfl⟩;rw [<-D];unfold gE at D;unfold Gu dj;have C:=fun w=>L7 t.sub t.who t.of w
 generalize ir t.who t.of=n at*;have I:=((az w.heap.size w).alloc aH (gK g.tp g.ty g.reach g.rp g.rel)).alloc ar (cf t.sub t.who t.of);have J:=(aL.new w #[au g.tp,an g.ty,au g.reach,au g.rp,an g.rel] 207).alloc (cf t.sub t.who t.of);have Q:=aL.new' (w.alloc (gK g.tp g.ty g.reach g.rp g.rel)) #[an t.sub,an t.who,an t.of] 102 (w.heap.size+1) ar
 cases h1:eqs g.ty t.sub
 ·rw [h1,eM] at D;subst D;have ai:(g.ty.toList==t.sub.toList)=false:=by rw [<-aQ];exact h1
  go_enter func104,ntmps104;go_wp2_with fail;generalize ((w.alloc (gK g.tp g.ty g.reach g.rp g.rel)).alloc (cf t.sub t.who t.of))=W at*;obtain ⟨_,U,_⟩:=J.five;obtain ⟨Z,_⟩:=Q.three
  go_quiet (fail)
  go_wp2;go_ret;exact ⟨rfl,cJ I _⟩
 ·have e1:g.ty=t.sub:=(bz _ _).1 h1;rw [h1,fT] at D;rw [e1] at J Q I ⊢;go_enter func104,ntmps104;go_wp2_with fail;generalize ((w.alloc (gK g.tp t.sub g.reach g.rp g.rel)).alloc (cf t.sub t.who t.of))=W at*;obtain ⟨_,U,ac,_,ad⟩:=J.five;obtain ⟨Z,ae,af⟩:=Q.three;have ab:=C W.drew
  cases h2:(g.reach==n)
  ·rw [h2,eM] at D;subst D;have ag:((g.reach:Int)==(n:Int))=false:=by rw [bR] at h2 ⊢;omega
   refine wp_region_held_drew (S:=fun w'=>w'.cell? (aC w.heap.size 1)=some (an t.sub)/\w'.cell? (aC w.heap.size 2)=some (au g.reach)/\w'.cell? (aC w.heap.size 4)=some (an g.rel)/\w'.cell? (aP (w.heap.size+1))=some (an t.sub)/\w'.cell? (aC (w.heap.size+1) 1)=some (an t.who)/\w'.cell? (aC (w.heap.size+1) 2)=some (an t.of)) aM (by go_keep) (fun aj=>wl 0 ?_)
   iterate 11
    refine pk (v:= ?_) rfl aM (fun _ _ _ h=>h) (by assumption) (Or.inl ⟨bQ,?_⟩) ?_
    rotate_left
    ·(intro w' V;(try dsimp only at V);go_simp)<;>with_reducible rfl
    simp only [Act.put,jL,List.set_cons_zero,List.set_cons_succ,List.getElem_toArray,List.getElem_cons_zero,List.getElem_cons_succ,Nat.reduceAdd]
   refine sF (rs:=[11]) aM ar ?_;refine qb rfl (fun K ah=> ?_) sG
   go_simp
   refine ab.mono ?_;rintro e w1 ⟨rfl,Y⟩;have A:=((az _ W).drew.trans Y:am W w1);refine ah.out _ _ ⟨(ak U A),(ak ac A),(ak ad A),(ak Z A),(ak ae A),(ak af A)⟩ (fun al=>wl 12 ?_)
   try simp only [Act.put,jL,List.set_cons_zero,List.set_cons_succ,List.getElem_toArray,List.getElem_cons_zero,List.getElem_cons_succ]
   iterate 11
    first
    |refine pk rfl aM (fun _ _ _ h=>h) (by assumption) (Or.inr ⟨bQ,rfl⟩) ?_
    |refine pk (v:= ?_) rfl aM (fun _ _ _ h=>h) (by assumption) (Or.inl ⟨bQ,?_⟩) ?_
     rotate_left
     ·(intro w' V;(try dsimp only at V);go_simp)<;>with_reducible rfl
    simp only [Act.put,jL,List.set_cons_zero,List.set_cons_succ,List.getElem_toArray,List.getElem_cons_zero,List.getElem_cons_succ,Nat.reduceAdd]
   refine wpAnyH_done aM ?_ _;go_wp2;go_ret;exact ⟨rfl,(I.trans (A.mono I.size))⟩
  rw [h2,fT,aQ] at D;subst D;have ag:((g.reach:Int)==(n:Int))=true:=by rw [dS] at h2 ⊢;omega
  go_region_held3 (fun w'=>w'.cell? (aC w.heap.size 1)=some (an t.sub)/\w'.cell? (aC w.heap.size 2)=some (au g.reach)/\w'.cell? (aC w.heap.size 4)=some (an g.rel)/\w'.cell? (aP (w.heap.size+1))=some (an t.sub)/\w'.cell? (aC (w.heap.size+1) 1)=some (an t.who)/\w'.cell? (aC (w.heap.size+1) 2)=some (an t.of)) (go_keep)
   ((go_at_call 154;refine ab.mono ?_;rintro e w1 ⟨rfl,Y⟩;have A:=((az _ W).drew.trans Y:am W w1);have d1:=ak U A;have d2:=ak ac A;have d4:=ak ad A;have ap:=ak Z A;have av:=ak ae A;have aw:=ak af A))
  go_wp2;go_ret;exact ⟨rfl,(I.trans (A.mono I.size))⟩
