import Derived.Test.YtlbpnlngckgcbaaGreatDoorM40
import Derived.Test.YtlbpnlngckgcbaaGreatDoorTie
import Derived.Test.YtlbpnlngckgcbaaGreatDoorCards
import Derived.SevenTiedAt
set_option linter.all false
set_option maxHeartbeats 4000000
set_option maxRecDepth 100000
namespace Go.Proofs.YtlbpnlngckgcbaaGreatDoor
open Go.ChangeShapes Go.WideShapes Go.RowKit Go.Proofs.Tryz
theorem Em:(Rows.checksRow.inPlace==Tryz.prog.inPlace 5)=true:=by kernel_rfl
theorem En:(Rows.checksRow.unfollowed==Tryz.prog.unfollowed 5)=true:=by kernel_rfl
theorem Eo:(Rows.checksRow.recurses==Tryz.prog.recurses 5)=true:=by kernel_rfl
theorem Ep:(Rows.checksRow.named==Tryz.prog.varsNamed 5)=true:=by kernel_rfl
theorem IA:joinedFacts Tryz.prog 5 Tryz.f5 Rows.checksSpec Rows.checksRow=true:=by
 unfold joinedFacts;rw [Em,En,Eo,Ep]
 kernel_rfl
theorem Er:Rows.ChecksSaid:=
 OpenClaim.holds_of_wide 5 Tryz.f5 rfl rfl rfl rfl rfl rfl rfl ⟨rfl,rfl,rfl,rfl,rfl⟩ rfl rfl rfl rfl rfl au Tryz.func5 IA
  (of_decide_eq_true au) (by unfold Func.isWrapper;rw [if_neg (of_decide_eq_false au)];exact ⟨rfl,rfl⟩)
  (fun os C H enc _=>vm os C H enc)
theorem checks_card:Rows.ChecksCardSaid:=
 Claim7.holds_tied_plain_at .later [] [.data,.data,.data,.handle] true (true,"fd20d6c549d17d85a810cd82a604e0c889f018ff3c871702bc764961d7eacfa8") true
  Er (fun _ C=>by cases C) au (fun _ C=>by cases C) checks_row_tie rfl ⟨rfl,rfl⟩ au rfl
  (fun f fn J O=>by
   obtain rfl:f=5:=gu ((show Tryz.prog.funcNamed Tryz.f5.name=some 5 by kernel_rfl).symm.trans J) |>.symm;obtain rfl:fn=Tryz.f5:=(gu (Tryz.func5.symm.trans O)).symm;exact ⟨au,fun j t D=>by
    rw [Tryz.params5] at D;have I:t=36:=by
     rcases j with _|j
     ·simpa using D.symm
     simp at D
    rw [I];exact (show Tryz.prog.wantsStandIn 36=false by kernel_rfl)⟩)
  au
#print axioms checks_card
end Go.Proofs.YtlbpnlngckgcbaaGreatDoor
