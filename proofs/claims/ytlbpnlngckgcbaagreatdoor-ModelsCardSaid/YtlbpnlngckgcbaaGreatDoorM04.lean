import Derived.Test.YtlbpnlngckgcbaaGreatDoorM02
namespace Go.Proofs.YtlbpnlngckgcbaaGreatDoor
set_option linter.unusedSimpArgs false
set_option linter.unusedVariables false

/-- What reads something goes on by a token at least. -/
def Mono {α : Type} (r : Nat → Res α) : Prop := ∀ i x j, r i = .ok (x, j) → i < j

theorem nameR_mono (T : Nat → ByteArray) : Mono (nameR T) := by
 intro i x j h
 unfold nameR at h
 repeat' split at h
 all_goals simp at h
 omega
theorem nameThenR_mono (T : Nat → ByteArray) (y : ByteArray) : Mono (nameThenR T y) := by
 intro i x j h
 unfold nameThenR at h
 split at h
 ·simp at h
 ·rename_i hm
  have := nameR_mono T _ _ _ hm
  split at h <;> simp at h
  omega
theorem grantR_mono (T : Nat → ByteArray) (P : Nat → Nat) : Mono (grantR T P) := by
 intro i x j h
 unfold grantR at h
 split at h
 ·simp at h
 ·rename_i hm
  have := nameR_mono T _ _ _ hm
  split at h
  ·simp at h; omega
  ·split at h
   ·split at h
    ·simp at h
    ·rename_i hk
     have := nameR_mono T _ _ _ hk
     simp at h; omega
   ·simp at h; omega
theorem listL_mono (T : Nat → ByteArray) (P : Nat → Nat) : ∀ f acc, Mono (listL T P f acc)
 | 0, _ => fun i x j h => by simp [listL] at h
 | f + 1, acc => fun i x j h => by
  unfold listL at h
  split at h
  ·simp at h
  ·rename_i hm
   have := grantR_mono T P _ _ _ hm
   split at h
   ·have := listL_mono T P f _ _ _ _ h
    omega
   ·split at h <;> simp at h
    omega
theorem listR_mono (T : Nat → ByteArray) (P : Nat → Nat) : Mono (listR T P) := by
 intro i x j h
 unfold listR at h
 split at h
 ·simp at h
 ·rename_i hm
  have := listL_mono T P _ _ _ _ _ hm
  simp at h; omega
theorem ownTie_mono (T : Nat → ByteArray) (P : Nat → Nat) : Mono (ownTie T P) := by
 intro i x j h
 unfold ownTie at h
 split at h
 ·simp at h
 ·rename_i hm
  have := nameR_mono T _ _ _ hm
  split at h
  ·split at h
   ·simp at h
   ·rename_i hk
    have := nameR_mono T _ _ _ hk
    simp at h; omega
  ·simp at h; omega
theorem unitR_mono (T : Nat → ByteArray) (P : Nat → Nat) (room : Bool) (inner : Nat → Res Ex) (hi : Mono inner) : Mono (unitR T P room inner) := by
 intro i x j h
 unfold unitR at h
 split at h
 ·exact listR_mono T P _ _ _ h
 ·split at h
  ·split at h
   ·split at h
    ·simp at h
    ·rename_i hm
     have := hi _ _ _ hm
     split at h <;> simp at h
     omega
   ·simp at h
  ·exact ownTie_mono T P _ _ _ h
theorem joinL_mono (T : Nat → ByteArray) (P : Nat → Nat) (l : List ByteArray) (part : Nat → Res Ex) (hp : Mono part) : ∀ f y i x j, joinL T P l part f y i = .ok (x, j) → i ≤ j
 | 0, _, i, x, j => fun h => by simp [joinL] at h
 | f + 1, y, i, x, j => fun h => by
  unfold joinL at h
  split at h
  ·split at h
   ·simp at h
   ·rename_i hm
    have := hp _ _ _ hm
    have := joinL_mono T P l part hp f _ _ _ _ h
    omega
  ·simp at h; omega
theorem joinR_mono (T : Nat → ByteArray) (P : Nat → Nat) (l : List ByteArray) (part : Nat → Res Ex) (hp : Mono part) : Mono (joinR T P l part) := by
 intro i x j h
 unfold joinR at h
 split at h
 ·simp at h
 ·rename_i hm
  have := hp _ _ _ hm
  have := joinL_mono T P l part hp _ _ _ _ _ h
  omega
theorem chainR_mono (T : Nat → ByteArray) (P : Nat → Nat) (room : Bool) (inner : Nat → Res Ex) (hi : Mono inner) : Mono (chainR T P room inner) :=
 joinR_mono T P _ _ (unitR_mono T P room inner hi)
theorem exprR_mono (T : Nat → ByteArray) (P : Nat → Nat) : ∀ n, Mono (exprR T P n)
 | 0 => joinR_mono T P _ _ (chainR_mono T P false _ (fun i x j h => by simp at h))
 | n + 1 => joinR_mono T P _ _ (chainR_mono T P true _ (exprR_mono T P n))
theorem relR_mono (T : Nat → ByteArray) (P : Nat → Nat) : Mono (relR T P) := by
 intro i x j h
 unfold relR at h
 split at h
 ·simp at h
 ·rename_i hm
  have := nameThenR_mono T _ _ _ _ hm
  split at h
  ·simp at h
  ·rename_i hk
   have := exprR_mono T P _ _ _ _ hk
   split at h <;> simp at h
   omega
theorem relsL_mono (T : Nat → ByteArray) (P : Nat → Nat) : ∀ f acc, Mono (relsL T P f acc)
 | 0, _ => fun i x j h => by simp [relsL] at h
 | f + 1, acc => fun i x j h => by
  unfold relsL at h
  split at h
  ·simp at h; omega
  ·split at h
   ·simp at h
   ·split at h
    ·simp at h
    ·rename_i hm
     have := relR_mono T P _ _ _ hm
     have := relsL_mono T P f _ _ _ _ h
     omega
theorem typeR_mono (T : Nat → ByteArray) (P : Nat → Nat) : Mono (typeR T P) := by
 intro i x j h
 unfold typeR at h
 split at h
 ·split at h
  ·simp at h
  ·rename_i hm
   have := nameThenR_mono T _ _ _ _ hm
   split at h
   ·simp at h
   ·rename_i hk
    have := relsL_mono T P _ _ _ _ _ hk
    simp at h; omega
 ·simp at h
end Go.Proofs.YtlbpnlngckgcbaaGreatDoor
