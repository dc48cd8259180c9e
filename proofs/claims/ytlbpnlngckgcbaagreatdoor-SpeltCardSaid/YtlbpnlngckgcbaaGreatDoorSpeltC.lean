import Derived.Test.YtlbpnlngckgcbaaGreatDoorSpeltP
import Derived.Test.YtlbpnlngckgcbaaGreatDoorTie
import Derived.Test.YtlbpnlngckgcbaaGreatDoorCards
import Derived.SevenTiedAt
namespace Go.Proofs.YtlbpnlngckgcbaaGreatDoor
open Go

/-- The tied card. -/
theorem spelt_card : Rows.SpeltCardSaid :=
  Claim7.holds_tied_plain_at .later [] [.handle] true (true, "fd20d6c549d17d85a810cd82a604e0c889f018ff3c871702bc764961d7eacfa8") true
    spelt_row (fun _ h => by cases h) (by kernel_rfl) (fun _ h => by cases h) spelt_row_tie rfl ⟨rfl, rfl⟩ (by kernel_rfl) rfl
    (fun f fn hf hfn => by
      obtain rfl : f = 8 := Option.some.inj ((show Tryz.prog.funcNamed Tryz.f8.name = some 8 by kernel_rfl).symm.trans hf) |>.symm
      obtain rfl : fn = Tryz.f8 := (Option.some.inj (Tryz.func8.symm.trans hfn)).symm
      exact ⟨by kernel_rfl, fun j t ht => by
        rw [Tryz.params8] at ht
        have h3 : t = 29 ∨ t = 4 ∨ t = 3 := by
          rcases j with _ | _ | _ | j
          · exact .inl (by simpa using ht.symm)
          · exact .inr (.inl (by simpa using ht.symm))
          · exact .inr (.inr (by simpa using ht.symm))
          · simp at ht
        rcases h3 with rfl | rfl | rfl
        · exact (show Tryz.prog.wantsStandIn 29 = false by kernel_rfl)
        · exact (show Tryz.prog.wantsStandIn 4 = false by kernel_rfl)
        · exact (show Tryz.prog.wantsStandIn 3 = false by kernel_rfl)⟩)
    (by kernel_rfl)
#print axioms spelt_card
end Go.Proofs.YtlbpnlngckgcbaaGreatDoor
