import Derived.Test.YtlbpnlngckgcbaaGreatDoorM41
import Derived.Test.YtlbpnlngckgcbaaGreatDoorM43
import Derived.Test.YtlbpnlngckgcbaaGreatDoorTie
import Derived.Test.YtlbpnlngckgcbaaGreatDoorCards
set_option linter.all false
set_option maxHeartbeats 4000000
set_option maxRecDepth 100000
namespace Go.Proofs.YtlbpnlngckgcbaaGreatDoor
open Go.ChangeShapes Go.WideShapes Go.RowKit Go.Proofs.Tryz
def aak:joinedFacts Tryz.prog 7 Tryz.f7 Rows.allSpec Rows.allRow=true:=by
 unfold joinedFacts;rw [Xd,Xe,Xf,Xg]
 kernel_rfl
def Xh:Rows.AllSaid:=
 OpenClaim.holds_of_wide 7 Tryz.f7 rfl rfl rfl rfl rfl rfl rfl ⟨rfl,rfl,rfl,rfl,rfl⟩ rfl rfl rfl rfl rfl aM Tryz.func7 aak
  (BW aM) (by unfold Func.isWrapper;rw [if_neg (of_decide_eq_false aM)];exact ⟨rfl,rfl⟩)
  (fun os A H enc _=>JE os A H enc)
theorem all_card:Rows.AllCardSaid:=
 Claim7.holds_tied_plain_at .later [] [.data,.data,.data,.handle] true (true,"fd20d6c549d17d85a810cd82a604e0c889f018ff3c871702bc764961d7eacfa8") true
  Xh (fun _ h=>by cases h) aM (fun _ h=>by cases h) all_row_tie rfl ⟨rfl,rfl⟩ aM rfl
  (fun f fn D I=>by
   obtain rfl:f=7:=gM ((show Tryz.prog.funcNamed Tryz.f7.name=some 7 by kernel_rfl).symm.trans D) |>.symm;obtain rfl:fn=Tryz.f7:=(gM (Tryz.func7.symm.trans I)).symm;exact ⟨aM,fun j t A=>by
    rw [Tryz.params7] at A;have C:t=36:=by
     rcases j with _|j
     ·simpa using A.symm
     simp at A
    rw [C];exact (show Tryz.prog.wantsStandIn 36=false by kernel_rfl)⟩)
  aM
#print axioms all_card
end Go.Proofs.YtlbpnlngckgcbaaGreatDoor
