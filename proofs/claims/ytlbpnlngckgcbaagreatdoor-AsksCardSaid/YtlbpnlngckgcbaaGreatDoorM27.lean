import Derived.Test.YtlbpnlngckgcbaaGreatDoorM19
set_option linter.all false
set_option maxHeartbeats 4000000
set_option maxRecDepth 100000
namespace Go.Proofs.YtlbpnlngckgcbaaGreatDoor
open Go.RowKit Go.PlainAid Go.Proofs.Tryz
variable {aA aU:Prop}
section
open Go.Shelf
abbrev ll(a0:Option Addr)(a1:Nat)(a2:Nat):Obj:=.cells #[.slice a0 a1 a2] 119
abbrev lm:Obj:=.cells #[.int .i64 64] 3
attribute [local go_sem] Oper.semAt_some
def Ul(h Bn:Nat)(W W':af):Prop:=W.heap.size<=W'.heap.size/\W'.heap[h]? =W.heap[h]? /\W'.heap[Bn]? =W.heap[Bn]?
def Ul.trans{A Bn:Nat}{X C D:af}(h:Ul A Bn X C)(k:Ul A Bn C D):Ul A Bn X D:=⟨aP h.1 k.1,k.2.1.trans h.2.1,k.2.2.trans h.2.2⟩
def Mh(sa sn sc w):Calls prog 97 #[.slice sa sn sc,.int .i64 64] w fun e w'=>e=.returned (.func (.func 146) #[] #[.pointer (some ⟨w.heap.size,0,none⟩),.pointer (some ⟨w.heap.size+1,0,none⟩)])/\w'=(w.alloc (ll sa sn sc)).alloc lm:=by
 go_enter func97,ntmps97;go_wp2;go_ret;exact ⟨rfl,rfl⟩
def Mi(n:Nat)(aM:1<=n)(l C Bn g A J:Nat)(D Z:List Unit->af->Prop)(I:af)(ad:AbidesFrom I.heap.size D)
  (ah:∀pre x U,D pre U->pre.length<1->YieldAt Fence.wide (n-1) prog l #[.slice (some ⟨g,0,none⟩) A A] U fun e W'=>(e=.returned (.bool true)/\D (pre++[x]) W'/\Ul C Bn U W')\/(e=.returned (.bool false)/\Z (pre++[x]) W'))
  (ac:aE I C #[.slice (some ⟨g,0,none⟩) A J] 119) (ab:aE I Bn #[.int .i64 64] 3) (aG:0<A) (aF:A<=64) (aH:A<=J) (aI:J<=maxLen) (h0:D [] I):
  CallsIn Fence.wide n prog 146 #[.func (.yield l) #[] #[],.pointer (some ⟨C,0,none⟩),.pointer (some ⟨Bn,0,none⟩)] I fun e W'=>(∃v,e=.returned v)/\((∃al,al=[()]/\D al W')\/(∃pre,pre<+: [()]/\Z pre W')):=by
 have av:=ai ah;have am:=ai ad;have au:=ai ac;have Y:=ai ab;clear ah ad ac ab;refine callsIn_of_wp func146 rfl trivial ?_ rfl;simp only [ntmps146,rO,List.length_cons,List.length_nil,Nat.reduceAdd,Nat.reduceSub,vj,Array.replicate_zero,vk,vm,List.nil_append,List.cons_append];gi_wp2
 gi_loopw [4] (fun u wr=>Ul C Bn I wr/\((u=.int .i64 0/\D [] wr)\/(u=.int .i64 64/\D [()] wr))) (fun u _=>64-(intOf u).toNat)
 case atStart=>exact ⟨⟨bY _,rfl,rfl⟩,.inl ⟨rfl,h0⟩⟩
 case round=>
  obtain ⟨Q,az⟩:=hrel;have aC:wr.cell? ⟨C,0,none⟩=some (.slice (some ⟨g,0,none⟩) A J):=(show aE wr C _ _ from Q.2.1.trans au.u).cell rfl;have aB:wr.cell? ⟨Bn,0,none⟩=some (.int .i64 64):=(show aE wr Bn _ _ from Q.2.2.trans Y.u).cell rfl
  rcases az with ⟨rfl,R⟩|⟨rfl,R⟩
  ·have ag:=am.u [] wr wr.drew none R ⟨rfl,rfl,rfl,bY _,fun _ _ _=>rfl⟩ (fun r e=>by cases e);obtain ⟨fn,aP,aD,body,aN,ay⟩:=av.u [] () _ ag ar;have aK:min (64:Int) (A:Int)=(A:Int):=aj;have aL:min (64:Nat) A=A:=aj;have d0:wr.drew.cell? ⟨C,0,none⟩=some (.slice (some ⟨g,0,none⟩) A J):=aC;have e0:wr.drew.cell? ⟨Bn,0,none⟩=some (.int .i64 64):=aB;have ap:=ai Q;clear ag R Q;gi_wp2
   gi_region
   all_goals gi_wp2
   all_goals (
    refine ay.mono ?_;rintro e V (⟨rfl,ae,ak⟩|⟨rfl,ax⟩)
    ·have an:=ai ae;have k3:=ap.u.trans (show Ul C Bn wr V from ak);have aO:V.cell? ⟨Bn,0,none⟩=some (.int .i64 64):=(show aE V Bn _ _ from k3.2.2.trans Y.u).cell rfl;have aw:=ai k3;clear ae ak k3;gi_wp2;go_roundw
     case rel=>exact ⟨aw.u,.inr ⟨rfl,an.u⟩⟩
     case measure=>simp [intOf]
    ·gi_wp2;refine bq (results_none rfl _ _ _) rfl ?_;exact ⟨⟨_,rfl⟩,.inr ⟨[()],List.prefix_refl _,ax⟩⟩)
  have aJ:¬((64:Int)<(A:Int)):=aj;clear Q;gi_wp2;go_end0;exact ⟨⟨_,rfl⟩,.inl R⟩
end
