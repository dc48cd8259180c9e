import Derived.Test.YtmbhconlnpklgaaGreatDoorSpeltP
import Derived.Test.YtmbhconlnpklgaaGreatDoorTie
import Derived.Test.YtmbhconlnpklgaaGreatDoorCards
import Derived.SevenTiedAt
namespace Go.Proofs.YtmbhconlnpklgaaGreatDoor
open Go

/-- The tied card. -/
theorem spelt_card : Rows.SpeltCardSaid :=
  Claim7.holds_tied_plain_at .later [] [.handle] true (true, "efd58dd8acff8a7700d15617c000b845b9198bad9e1eca48ebc0875e9cea9239") true
    spelt_row (fun _ h => by cases h) (by kernel_rfl) (fun _ h => by cases h) spelt_row_tie rfl ⟨rfl, rfl⟩ (by kernel_rfl) rfl
    (fun f fn hf hfn => by
      obtain rfl : f = 5 := Option.some.inj ((show Tryz.prog.funcNamed Tryz.f5.name = some 5 by kernel_rfl).symm.trans hf) |>.symm
      obtain rfl : fn = Tryz.f5 := (Option.some.inj (Tryz.func5.symm.trans hfn)).symm
      exact ⟨by kernel_rfl, fun j t ht => by
        rw [Tryz.params5] at ht
        have h3 : t = 29 ∨ t = 4 ∨ t = 3 := by
          rcases j with _ | _ | _ | j
          · exact .inl (by simpa using ht.symm)
          · exact .inr (.inl (by simpa using ht.symm))
          · exact .inr (.inr (by simpa using ht.symm))
          · simp at ht
        rcases h3 with rfl | rfl | rfl
        · exact (show Tryz.prog.wantsStandIn 29 = false by kernel_rfl)
        · exact (show Tryz.prog.wantsStandIn 4 = false by kernel_rfl)
        · exact (show Tryz.prog.wantsStandIn 3 = false by kernel_rfl)⟩)
    (by kernel_rfl)
#print axioms spelt_card
end Go.Proofs.YtmbhconlnpklgaaGreatDoor
