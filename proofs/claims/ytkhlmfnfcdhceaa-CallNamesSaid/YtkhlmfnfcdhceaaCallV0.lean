/- The document's Write, where it refuses. -/
import Derived.Test.YtkhlmfnfcdhceaaCallT
import Derived.Test.YtkhlmfnfcdhceaaRef
namespace Go.Proofs.Ytkhlmfnfcdhceaa
open Go.RowKit

set_option maxHeartbeats 400000 in
theorem rword_any (n : Int) (w : World) : Calls Try.prog 31 #[.int .i64 n] w (Says w (.bool (decide (isW n)))) := by
  by_cases h1 : 0 ≤ n
  · by_cases h2 : n < 4294967296
    all_goals
      go_enter Try.func31, Try.ntmps31
      go_wp2
      go_ret
      exact ⟨retB (by rw [Bool.eq_iff_iff]; simp; unfold isW; omega), rfl⟩
  · go_enter Try.func31, Try.ntmps31
    go_wp2
    go_ret
    exact ⟨retB (by rw [Bool.eq_iff_iff]; simp; unfold isW; omega), rfl⟩

set_option maxHeartbeats 4000000 in
theorem rwrite_bad (c x p : Int) (b : List UInt8) (w : World) (hb : b.length ≤ maxLen) (h : ¬ ((1 ≤ c ∧ c ≤ 16) ∧ isW x ∧ isW p ∧ b.length % 4 = 0)) :
    Calls Try.prog 16 #[hdV ⟨c, x, p, b⟩] w (TE w ([], 1)) := by
  have HX := Lib.hid (fun w => rword_any x w)
  have HP := Lib.hid (fun w => rword_any p w)
  have key : decide (c < 1) = true ∨ decide (c < 1) = false ∧ decide (16 < c) = true ∨ decide (c < 1) = false ∧ decide (16 < c) = false ∧ decide (isW x) = false ∨ decide (c < 1) = false ∧ decide (16 < c) = false ∧ decide (isW x) = true ∧ decide (isW p) = false ∨
      decide (c < 1) = false ∧ decide (16 < c) = false ∧ decide (isW x) = true ∧ decide (isW p) = true ∧ ((b.length : Int) % 4 != 0) = true := by
    by_cases h0 : c < 1
    · exact .inl (by simpa using h0)
    by_cases h1 : 16 < c
    · exact .inr (.inl ⟨by simpa using h0, by simpa using h1⟩)
    have h1 : 1 ≤ c ∧ c ≤ 16 := by omega
    by_cases h2 : isW x <;> by_cases h3 : isW p <;> by_cases h4 : b.length % 4 = 0 <;> simp [h1, h2, h3, h4] at h ⊢
    all_goals omega
  have hl2 : (b.length : Int) ≤ 9223372036854775807 := by unfold maxLen at hb; omega
  generalize decide (isW x) = b2 at *
  generalize decide (isW p) = b3 at *
  clear h hb
  unfold hdV txt
  rcases key with k | ⟨k, k2⟩ | ⟨k, k2, rfl⟩ | ⟨k, k2, rfl, rfl⟩ | ⟨k, k2, rfl, rfl, k3⟩
  all_goals
    go_enter Try.func16, Try.ntmps16
    go_wp2_with (first
      | (go_at_call 31; refine (HX.out _).mono ?_; rintro e w' ⟨rfl, rfl⟩)
      | (go_at_call 31; refine (HP.out _).mono ?_; rintro e w' ⟨rfl, rfl⟩))
    go_ret2
    exact ⟨rfl, World.grownBy_alloc _ _ _⟩

end Go.Proofs.Ytkhlmfnfcdhceaa
