import Derived.Test.YtlbpnlngckgcbaaGreatDoorM24
set_option linter.all false
set_option maxHeartbeats 4000000
set_option maxRecDepth 100000
namespace Go.Proofs.YtlbpnlngckgcbaaGreatDoor
open Go.RowKit Go.PlainAid Go.Proofs.Tryz
variable {aD br:Prop}
section
open Go.Shelf
abbrev eO(a0:ag):Obj:=.cells #[a0] 119
attribute [local go_sem] Oper.semAt_some
def Um(h Bn:Nat)(W W':af):Prop:=W.heap.size<=W'.heap.size/\W'.heap[h]? =W.heap[h]? /\W'.heap[Bn]? =W.heap[Bn]?
def Um.trans{A Bn:Nat}{X C D:af}(h:Um A Bn X C)(k:Um A Bn C D):Um A Bn X D:=⟨aV h.1 k.1,k.2.1.trans h.2.1,k.2.2.trans h.2.2⟩
def MN(sa sn sc w):Calls prog 97 #[aw sa sn sc,ar 64] w fun e w'=>e=bj (.func (.func 146) #[] #[bc w.heap.size,bc (w.heap.size+1)])/\w'=(w.alloc (eO aw sa sn sc)).alloc (iO ar 64):=by
 go_enter func97,ntmps97;go_wp2;go_ret;exact ⟨rfl,rfl⟩
def MO(n:Nat)(aG:1<=n)(l C Bn g A J:Nat)(D Y:List Unit->af->Prop)(I:af)(aj:AbidesFrom I.heap.size D)
  (am:∀pre x U,D pre U->pre.length<1->YieldAt Fence.wide (n-1) prog l #[aw (some (aN g)) A A] U fun e W'=>(e=bj (.bool true)/\D (pre++[x]) W'/\Um C Bn U W')\/(e=bj (.bool false)/\Y (pre++[x]) W'))
  (ah:aL I C #[aw (some (aN g)) A J] 119) (Z:aL I Bn #[ar 64] 3) (az:0<A) (ay:A<=64) (aA:A<=J) (aB:J<=maxLen) (h0:D [] I):
  CallsIn Fence.wide n prog 146 #[.func (.yield l) #[] #[],bc C,bc Bn] I fun e W'=>(∃v,e=bj v)/\((∃ae,ae=[()]/\D ae W')\/(∃pre,pre<+: [()]/\Y pre W')):=by
 refine callsIn_of_wp func146 rfl trivial ?_ rfl;simp only [ntmps146,rT,List.length_cons,List.length_nil,Nat.reduceAdd,Nat.reduceSub,vz,Array.replicate_zero,vA,vB,List.nil_append,List.cons_append];gi_wp2
 gi_loopw [4] (fun u wr=>Um C Bn I wr/\((u=ar 0/\D [] wr)\/(u=ar 64/\D [()] wr))) (fun u _=>64-(intOf u).toNat)
 ·exact ⟨⟨bV _,rfl,rfl⟩,.inl ⟨rfl,h0⟩⟩
 ·obtain ⟨R,an⟩:=hrel;have av:wr.cell? (aN C)=some (aw (some (aN g)) A J):=(show aL wr C _ _ from R.2.1.trans ah).cell rfl;have ap:wr.cell? (aN Bn)=some (ar 64):=(show aL wr Bn _ _ from R.2.2.trans Z).cell rfl
  rcases an with ⟨rfl,Q⟩|⟨rfl,Q⟩
  ·have ac:=aj [] wr wr.drew none Q ⟨rfl,rfl,rfl,bV _,fun _ _ _=>rfl⟩ (fun r e=>by cases e);obtain ⟨fn,aJ,ax,body,aH,al⟩:=am [] () _ ac au;have aE:min (64:Int) (A:Int)=(A:Int):=ai;have aF:min (64:Nat) A=A:=ai;have d0:wr.drew.cell? (aN C)=some (aw (some (aN g)) A J):=av;have e0:wr.drew.cell? (aN Bn)=some (ar 64):=ap;clear ac Q;gi_wp2
   gi_region
   all_goals gi_wp2
   all_goals (
    refine al.mono ?_;rintro e V (⟨rfl,ab,ad⟩|⟨rfl,ak⟩)
    ·have ag:=ab;have k3:=R.trans (show Um C Bn wr V from ad);have aI:V.cell? (aN Bn)=some (ar 64):=(show aL V Bn _ _ from k3.2.2.trans Z).cell rfl;clear ab ad;gi_wp2;go_roundw
     ·exact ⟨k3,.inr ⟨rfl,ag⟩⟩
     simp [intOf]
    ·gi_wp2;refine bF (results_none rfl _ _ _) rfl ?_;exact ⟨⟨_,rfl⟩,.inr ⟨[()],List.prefix_refl _,ak⟩⟩)
  have aC:¬((64:Int)<(A:Int)):=ai;clear R;gi_wp2;go_end0;exact ⟨⟨_,rfl⟩,.inl Q⟩
end
