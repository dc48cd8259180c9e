import Derived.Test.YtlbpnlngckgcbaaGreatDoorM24
set_option linter.all false
set_option maxHeartbeats 4000000
set_option maxRecDepth 100000
namespace Go.Proofs.YtlbpnlngckgcbaaGreatDoor
open Go.RowKit Go.PlainAid Go.Proofs.Tryz
variable {aD bq:Prop}
section
open Go.Shelf
abbrev ly(a0:Option Addr)(a1:Nat)(a2:Nat):Obj:=.cells #[aA a0 a1 a2] 119
abbrev lz:Obj:=.cells #[au 64] 3
attribute [local go_sem] Oper.semAt_some
def UO(h Bn:Nat)(W W':af):Prop:=W.heap.size<=W'.heap.size/\W'.heap[h]? =W.heap[h]? /\W'.heap[Bn]? =W.heap[Bn]?
def UO.trans{A Bn:Nat}{X C D:af}(h:UO A Bn X C)(k:UO A Bn C D):UO A Bn X D:=⟨aV h.1 k.1,k.2.1.trans h.2.1,k.2.2.trans h.2.2⟩
def Nn(sa sn sc w):Calls prog 97 #[aA sa sn sc,au 64] w fun e w'=>e=bi (.func (.func 146) #[] #[bu w.heap.size,bu (w.heap.size+1)])/\w'=(w.alloc (ly sa sn sc)).alloc lz:=by
 go_enter func97,ntmps97;go_wp2;go_ret;exact ⟨rfl,rfl⟩
def Np(n:Nat)(aG:1<=n)(l C Bn g A J:Nat)(D Y:List Unit->af->Prop)(I:af)(aj:AbidesFrom I.heap.size D)
  (am:∀pre x U,D pre U->pre.length<1->YieldAt Fence.wide (n-1) prog l #[aA (some (aP g)) A A] U fun e W'=>(e=bi (.bool true)/\D (pre++[x]) W'/\UO C Bn U W')\/(e=bi (.bool false)/\Y (pre++[x]) W'))
  (ah:aL I C #[aA (some (aP g)) A J] 119) (Z:aL I Bn #[au 64] 3) (ay:0<A) (ax:A<=64) (az:A<=J) (aB:J<=maxLen) (h0:D [] I):
  CallsIn Fence.wide n prog 146 #[.func (.yield l) #[] #[],bu C,bu Bn] I fun e W'=>(∃v,e=bi v)/\((∃ae,ae=[()]/\D ae W')\/(∃pre,pre<+: [()]/\Y pre W')):=by
 refine callsIn_of_wp func146 rfl trivial ?_ rfl;simp only [ntmps146,sA,List.length_cons,List.length_nil,Nat.reduceAdd,Nat.reduceSub,vZ,Array.replicate_zero,v6,v7,List.nil_append,List.cons_append];gi_wp2
 gi_loopw [4] (fun u wr=>UO C Bn I wr/\((u=au 0/\D [] wr)\/(u=au 64/\D [()] wr))) (fun u _=>64-(intOf u).toNat)
 ·exact ⟨⟨bV _,rfl,rfl⟩,.inl ⟨rfl,h0⟩⟩
 ·obtain ⟨R,an⟩:=hrel;have av:wr.cell? (aP C)=some (aA (some (aP g)) A J):=(show aL wr C _ _ from R.2.1.trans ah).cell rfl;have ap:wr.cell? (aP Bn)=some (au 64):=(show aL wr Bn _ _ from R.2.2.trans Z).cell rfl
  rcases an with ⟨rfl,Q⟩|⟨rfl,Q⟩
  ·have ac:=aj [] wr wr.drew none Q ⟨rfl,rfl,rfl,bV _,fun _ _ _=>rfl⟩ (fun r e=>by cases e);obtain ⟨fn,aJ,aw,body,aH,al⟩:=am [] () _ ac ar;have aE:min (64:Int) (A:Int)=(A:Int):=ai;have aF:min (64:Nat) A=A:=ai;have d0:wr.drew.cell? (aP C)=some (aA (some (aP g)) A J):=av;have e0:wr.drew.cell? (aP Bn)=some (au 64):=ap;clear ac Q;gi_wp2
   gi_region
   all_goals gi_wp2
   all_goals (
    refine al.mono ?_;rintro e V (⟨rfl,ab,ad⟩|⟨rfl,ak⟩)
    ·have ag:=ab;have k3:=R.trans (show UO C Bn wr V from ad);have aI:V.cell? (aP Bn)=some (au 64):=(show aL V Bn _ _ from k3.2.2.trans Z).cell rfl;clear ab ad;gi_wp2;go_roundw
     ·exact ⟨k3,.inr ⟨rfl,ag⟩⟩
     simp [intOf]
    ·gi_wp2;refine bE (results_none rfl _ _ _) rfl ?_;exact ⟨⟨_,rfl⟩,.inr ⟨[()],List.prefix_refl _,ak⟩⟩)
  have aC:¬((64:Int)<(A:Int)):=ai;clear R;gi_wp2;go_end0;exact ⟨⟨_,rfl⟩,.inl Q⟩
end
