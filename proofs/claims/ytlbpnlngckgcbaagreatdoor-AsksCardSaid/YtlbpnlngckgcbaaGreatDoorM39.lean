import Derived.Test.YtlbpnlngckgcbaaGreatDoorM37
set_option linter.all false
set_option maxHeartbeats 4000000
set_option maxRecDepth 100000
namespace Go.Proofs.YtlbpnlngckgcbaaGreatDoor
section
def T6:(Rows.asksRow.inPlace==Tryz.prog.inPlace 6)=true:=by kernel_rfl
def T7:(Rows.asksRow.unfollowed==Tryz.prog.unfollowed 6)=true:=by kernel_rfl
def T8:(Rows.asksRow.recurses==Tryz.prog.recurses 6)=true:=by kernel_rfl
def T9:(Rows.asksRow.named==Tryz.prog.varsNamed 6)=true:=by kernel_rfl
end
open Go.ChangeShapes Go.WideShapes Go.RowKit Go.Proofs.Tryz
def WP:joinedFacts Tryz.prog 6 Tryz.f6 Rows.asksSpec Rows.asksRow=true:=by
 unfold joinedFacts;rw [T6,T7,T8,T9]
 kernel_rfl
def Ua:Rows.AsksSaid:=
 OpenClaim.holds_of_wide 6 Tryz.f6 rfl rfl rfl rfl rfl rfl rfl ⟨rfl,rfl,rfl,rfl,rfl⟩ rfl rfl rfl rfl rfl aw Tryz.func6 WP
  (AQ aw) (by unfold Func.isWrapper;rw [if_neg (of_decide_eq_false aw)];exact ⟨rfl,rfl⟩)
  (fun os A H enc _=>ET os A H enc)
theorem asks_card:Rows.AsksCardSaid:=
 Claim7.holds_tied_plain_at .later [] [.data,.data,.data,.handle] true (true,"fd20d6c549d17d85a810cd82a604e0c889f018ff3c871702bc764961d7eacfa8") true
  Ua (fun _ h=>by cases h) aw (fun _ h=>by cases h) asks_row_tie rfl ⟨rfl,rfl⟩ aw rfl
  (fun f fn D I=>by
   obtain rfl:f=6:=gu ((show Tryz.prog.funcNamed Tryz.f6.name=some 6 by kernel_rfl).symm.trans D) |>.symm;obtain rfl:fn=Tryz.f6:=(gu (Tryz.func6.symm.trans I)).symm;exact ⟨aw,fun j t A=>by
    rw [Tryz.params6] at A;have C:t=36:=by
     rcases j with _|j
     ·simpa using A.symm
     simp at A
    rw [C];exact (show Tryz.prog.wantsStandIn 36=false by kernel_rfl)⟩)
  aw
#print axioms asks_card
