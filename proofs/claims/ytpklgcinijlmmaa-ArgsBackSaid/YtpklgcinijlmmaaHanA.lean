/- What stands ahead of bytes: which handle may be, those that have names. -/
import Derived.Test.YtpklgcinijlmmaaHanS
namespace Go.Proofs.Ytpklgcinijlmmaa
open Go.RowKit

def isF (k n : Int) : Prop := k ≤ n ∧ n ≤ 2147483647
instance (k n : Int) : Decidable (isF k n) := by unfold isF; infer_instance

set_option maxRecDepth 20000 in
set_option maxHeartbeats 400000 in
theorem from_any (k n : Int) (w : World) : Calls Try.prog 102 #[.int .i64 k, .int .i64 n] w (Says w (.bool (decide (isF k n)))) := by
  by_cases h1 : k ≤ n
  · by_cases h2 : n ≤ 2147483647
    all_goals
      go_enter Try.func102, Try.ntmps102
      go_wp2
      go_ret
      exact ⟨retB (by rw [Bool.eq_iff_iff]; simp; unfold isF; omega), rfl⟩
  · go_enter Try.func102, Try.ntmps102
    go_wp2
    go_ret
    exact ⟨retB (by rw [Bool.eq_iff_iff]; simp; unfold isF; omega), rfl⟩

set_option maxRecDepth 20000 in
set_option maxHeartbeats 1000000 in
theorem may_any (h : Hn) (w : World) : Calls Try.prog 85 #[hnV h] w fun e w' => e = .returned (.bool (decide (hMay h))) ∧ w.grownBy w' none := by
  obtain ⟨s, i, g⟩ := h
  have HS := Lib.hid (fun w => from_any 0 s w)
  have HI := Lib.hid (fun w => from_any 1 i w)
  have HG := Lib.hid (fun w => from_any 0 g w)
  have HM : Hid (decide (hMay ⟨s, i, g⟩) = (decide (isF 0 s) && (decide (isF 1 i) && decide (isF 0 g)))) := Lib.hid (by
    rw [Bool.eq_iff_iff]
    simp only [decide_eq_true_eq, Bool.and_eq_true]
    unfold hMay isC isF
    dsimp only
    omega)
  rw [HM.out]
  clear HM
  unfold hnV
  generalize decide (isF 0 s) = b1 at *
  generalize decide (isF 1 i) = b2 at *
  generalize decide (isF 0 g) = b3 at *
  cases b1
  · go_enter Try.func85, Try.ntmps85
    go_wp2_with fail
    refine (HS.out _).mono ?_; rintro e w' ⟨rfl, rfl⟩
    go_wp2_with fail
    go_ret
    exact ⟨rfl, World.grownBy_alloc _ _ _⟩
  · cases b2
    · go_enter Try.func85, Try.ntmps85
      go_wp2_with fail
      refine (HS.out _).mono ?_; rintro e w' ⟨rfl, rfl⟩
      go_wp2_with fail
      refine (HI.out _).mono ?_; rintro e w' ⟨rfl, rfl⟩
      go_wp2_with fail
      go_ret
      exact ⟨rfl, World.grownBy_alloc _ _ _⟩
    · go_enter Try.func85, Try.ntmps85
      go_wp2_with fail
      refine (HS.out _).mono ?_; rintro e w' ⟨rfl, rfl⟩
      go_wp2_with fail
      refine (HI.out _).mono ?_; rintro e w' ⟨rfl, rfl⟩
      go_wp2_with fail
      refine (HG.out _).mono ?_; rintro e w' ⟨rfl, rfl⟩
      go_wp2_with fail
      go_ret
      exact ⟨rfl, World.grownBy_alloc _ _ _⟩

end Go.Proofs.Ytpklgcinijlmmaa
