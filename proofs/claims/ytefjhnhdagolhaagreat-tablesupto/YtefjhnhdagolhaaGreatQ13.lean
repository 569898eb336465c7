import Derived.Test.YtefjhnhdagolhaaGreatQ09
import Derived.Test.YtefjhnhdagolhaaGreatQ11
import Derived.Test.YtefjhnhdagolhaaGreatQ12
namespace Go.Proofs.YtefjhnhdagolhaaGreat.int
open Go.RowKit
attribute [local go_sem ↓] Go.wp_at_zero Go.wp_at_succ
theorem thAll_get (bS n : Nat) (most : Int) (gD gG : Nat → Nat) : ∀ (k t j : Nat), t < k → j < 28 → (thAll bS n most gD gG k)[t * 28 + j]? = (thNew bS (t : Int) most (gD t) (rwn n) (gG t) (tw n))[j]?
  | 0, t, j, h, _ => absurd h (by omega)
  | k + 1, t, j, h, hj => by
    have hl : ∀ k, (thAll bS n most gD gG k).length = k * 28 := fun k => by
      unfold thAll
      induction k with
      | zero => rfl
      | succ k ih => rw [List.range_succ, List.flatMap_append, List.length_append, ih]; simp [length_thNew]; omega
    have hs : thAll bS n most gD gG (k + 1) = thAll bS n most gD gG k ++ thNew bS (k : Int) most (gD k) (rwn n) (gG k) (tw n) := by
      unfold thAll; rw [List.range_succ, List.flatMap_append]; simp
    rw [hs]
    by_cases e : t = k
    · subst e
      rw [List.getElem?_append_right (by rw [hl]; omega), hl]
      congr 1; omega
    · rw [List.getElem?_append_left (by rw [hl]; have : t + 1 ≤ k := by omega
                                        have := Nat.mul_le_mul_right 28 this; omega)]
      exact thAll_get bS n most gD gG k t j (by omega) hj
end Go.Proofs.YtefjhnhdagolhaaGreat.int
namespace Go.Proofs.YtefjhnhdagolhaaGreat.int
open Go.RowKit
attribute [local go_sem ↓] Go.wp_at_zero Go.wp_at_succ
theorem info_pbatch : (Tryz.prog.info? 223).map (fun i => (i.zero, i.size, i.bytes)) = some (some (.pointer none), 1, 8) := by kernel_rfl
end Go.Proofs.YtefjhnhdagolhaaGreat.int
