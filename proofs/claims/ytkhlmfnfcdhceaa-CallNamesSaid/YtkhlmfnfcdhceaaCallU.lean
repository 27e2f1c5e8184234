/- The document's Tell. -/
import Derived.Test.YtkhlmfnfcdhceaaCallV
namespace Go.Proofs.Ytkhlmfnfcdhceaa
open Go.RowKit

theorem retT {p q : List UInt8 × Int} (h : p = q) : Ending.returned (.tuple #[txt p.1, .int .i64 p.2]) = Ending.returned (.tuple #[txt q.1, .int .i64 q.2]) := by rw [h]

set_option maxHeartbeats 2000000 in
theorem may_any (x f : Int) (b : List UInt8) (w : World) (hb : b.length ≤ maxLen) :
    Calls Try.prog 33 #[anV ⟨x, f, b⟩] w fun e w' => e = .returned (.bool (decide (anMay ⟨x, f, b⟩))) ∧ w.grownBy w' none := by
  have HX := Lib.hid (fun w => rword_any x w)
  have hl2 : (b.length : Int) ≤ 9223372036854775807 := by unfold maxLen at hb; omega
  by_cases hok : (f = 0 ∨ (f = 4 ∨ f = 62 ∨ f = 63) ∧ b = [])
  · have HM : Hid (decide (anMay ⟨x, f, b⟩) = (decide (isW x) && ((b.length : Int) % 4 == 0))) := Lib.hid (by
      rw [Bool.eq_iff_iff]
      simp only [decide_eq_true_eq, Bool.and_eq_true, beq_iff_eq]
      constructor
      · rintro ⟨_, h2, h3⟩; exact ⟨h2, by dsimp at h3; omega⟩
      · rintro ⟨h2, h3⟩; exact ⟨hok, h2, by dsimp; omega⟩)
    rw [HM.out]
    clear HM hb
    generalize decide (isW x) = q at *
    unfold anV txt
    rcases hok with rfl | ⟨hf, rfl⟩
    · cases q
      all_goals
        go_enter Try.func33, Try.ntmps33
        go_wp2_with (first
          | (go_at_call 31; refine (HX.out _).mono ?_; rintro e w' ⟨rfl, rfl⟩))
        go_ret
        exact ⟨retB (by simp), World.grownBy_alloc _ _ _⟩
    · rcases hf with rfl | rfl | rfl
      all_goals
        cases q
        all_goals
          go_enter Try.func33, Try.ntmps33
          go_wp2_with (first
            | (go_at_call 31; refine (HX.out _).mono ?_; rintro e w' ⟨rfl, rfl⟩))
          go_ret
          exact ⟨retB (by simp), World.grownBy_alloc _ _ _⟩
  · have HM : Hid (decide (anMay ⟨x, f, b⟩) = false) := Lib.hid (decide_eq_false fun h => hok h.1)
    have key : ((f == 0) = false) ∧ (((f == 4) = false ∧ (f == 62) = false ∧ (f == 63) = false) ∨ (f = 4 ∨ f = 62 ∨ f = 63) ∧ b.isEmpty = false) := by
      constructor
      · simp; intro h; exact hok (.inl h)
      · by_cases hf : f = 4 ∨ f = 62 ∨ f = 63
        · exact .inr ⟨hf, by simp; intro h; exact hok (.inr ⟨hf, h⟩)⟩
        · exact .inl ⟨by simp; omega, by simp; omega, by simp; omega⟩
    clear hok hb
    unfold anV txt
    obtain ⟨k0, ⟨k4, k62, k63⟩ | ⟨rfl | rfl | rfl, kb⟩⟩ := key
    all_goals
      go_enter Try.func33, Try.ntmps33
      go_wp2_with (first
        | (go_at_call 31; refine (HX.out _).mono ?_; rintro e w' ⟨rfl, rfl⟩))
      go_ret
      exact ⟨retB HM.out.symm, World.grownBy_alloc _ _ _⟩
end Go.Proofs.Ytkhlmfnfcdhceaa
