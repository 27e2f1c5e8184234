/- What stands ahead of bytes: which handle may be, those that have names. -/
import Derived.Test.YtcifhjocmlalmaaHanS
namespace Go.Proofs.Ytcifhjocmlalmaa
open Go.RowKit

def isF (k n : Int) : Prop := k ≤ n ∧ n ≤ 2147483647
instance (k n : Int) : Decidable (isF k n) := by unfold isF; infer_instance

set_option maxHeartbeats 400000 in
theorem from_any (k n : Int) (w : World) : Calls Try.prog 25 #[.int .i64 k, .int .i64 n] w (Says w (.bool (decide (isF k n)))) := by
  by_cases h1 : k ≤ n
  · by_cases h2 : n ≤ 2147483647
    all_goals
      go_enter Try.func25, Try.ntmps25
      go_wp2
      go_ret
      exact ⟨retB (by rw [Bool.eq_iff_iff]; simp; unfold isF; omega), rfl⟩
  · go_enter Try.func25, Try.ntmps25
    go_wp2
    go_ret
    exact ⟨retB (by rw [Bool.eq_iff_iff]; simp; unfold isF; omega), rfl⟩

set_option maxHeartbeats 1000000 in
theorem may_any (h : Hn) (w : World) : Calls Try.prog 14 #[hnV h] w fun e w' => e = .returned (.bool (decide (hMay h))) ∧ w.grownBy w' none := by
  obtain ⟨s, i, g⟩ := h
  have HS := Lib.hid (fun w => from_any 0 s w)
  have HI := Lib.hid (fun w => from_any 1 i w)
  have HG := Lib.hid (fun w => from_any 0 g w)
  have HM : Hid (decide (hMay ⟨s, i, g⟩) = (decide (isF 0 s) && (decide (isF 1 i) && decide (isF 0 g)))) := Lib.hid (by
    rw [Bool.eq_iff_iff]
    simp only [decide_eq_true_eq, Bool.and_eq_true]
    unfold hMay isC isF
    dsimp only
    omega)
  rw [HM.out]
  clear HM
  unfold hnV
  generalize decide (isF 0 s) = b1 at *
  generalize decide (isF 1 i) = b2 at *
  generalize decide (isF 0 g) = b3 at *
  cases b1
  · go_enter Try.func14, Try.ntmps14
    go_wp2_with fail
    refine (HS.out _).mono ?_; rintro e w' ⟨rfl, rfl⟩
    go_wp2_with fail
    go_ret
    exact ⟨rfl, World.grownBy_alloc _ _ _⟩
  · cases b2
    · go_enter Try.func14, Try.ntmps14
      go_wp2_with fail
      refine (HS.out _).mono ?_; rintro e w' ⟨rfl, rfl⟩
      go_wp2_with fail
      refine (HI.out _).mono ?_; rintro e w' ⟨rfl, rfl⟩
      go_wp2_with fail
      go_ret
      exact ⟨rfl, World.grownBy_alloc _ _ _⟩
    · go_enter Try.func14, Try.ntmps14
      go_wp2_with fail
      refine (HS.out _).mono ?_; rintro e w' ⟨rfl, rfl⟩
      go_wp2_with fail
      refine (HI.out _).mono ?_; rintro e w' ⟨rfl, rfl⟩
      go_wp2_with fail
      refine (HG.out _).mono ?_; rintro e w' ⟨rfl, rfl⟩
      go_wp2_with fail
      go_ret
      exact ⟨rfl, World.grownBy_alloc _ _ _⟩

set_option maxHeartbeats 400000 in
theorem root_any (n : Int) (w : World) : Calls Try.prog 18 #[.int .i64 n] w fun e w' => e = .returned (hnV ⟨n, 1, 0⟩) ∧ w.grownBy w' none := by
  go_enter Try.func18, Try.ntmps18
  go_wp2_with fail
  exact bodyPost_ret (v := hnV ⟨n, 1, 0⟩) (by simp [results, Try.results18, go_sem, hnV]) rfl ⟨rfl, World.grownBy_alloc _ _ _⟩

set_option maxHeartbeats 400000 in
theorem snapDir_any (w : World) : Calls Try.prog 19 #[] w fun e w' => e = .returned (hnV ⟨0, 2147483647, 0⟩) ∧ w.grownBy w' none := by
  go_enter Try.func19, Try.ntmps19
  go_wp2_with fail
  exact bodyPost_ret (v := hnV ⟨0, 2147483647, 0⟩) (by simp [results, Try.results19, go_sem, hnV]) rfl ⟨rfl, World.grownBy_alloc _ _ _⟩

set_option maxHeartbeats 1000000 in
theorem less_any (a b : Hn) (w : World) : Calls Try.prog 16 #[hnV a, hnV b] w fun e w' => e = .returned (.bool (hLess a b)) ∧ w.grownBy w' none := by
  obtain ⟨a1, a2, a3⟩ := a
  obtain ⟨b1, b2, b3⟩ := b
  unfold hnV hLess
  dsimp only
  by_cases h1 : a1 = b1
  · subst h1
    by_cases h2 : a2 = b2
    · subst h2
      rw [if_neg (by simp), if_neg (by simp)]
      go_enter Try.func16, Try.ntmps16
      go_wp2_with fail
      go_ret
      exact ⟨rfl, World.grownBy.trans (World.grownBy_alloc _ _ _) (World.grownBy.trans (World.grownBy_alloc _ _ _) (World.grownBy_alloc _ _ _))⟩
    · rw [if_neg (by simp), if_pos h2]
      have h3 : ¬ b2 = a2 := fun h => h2 h.symm
      clear h2
      go_enter Try.func16, Try.ntmps16
      go_wp2_with fail
      go_ret
      exact ⟨rfl, World.grownBy.trans (World.grownBy_alloc _ _ _) (World.grownBy.trans (World.grownBy_alloc _ _ _) (World.grownBy_alloc _ _ _))⟩
  · rw [if_pos h1]
    have h3 : ¬ b1 = a1 := fun h => h1 h.symm
    clear h1
    go_enter Try.func16, Try.ntmps16
    go_wp2_with fail
    go_ret
    exact ⟨rfl, World.grownBy.trans (World.grownBy_alloc _ _ _) (World.grownBy.trans (World.grownBy_alloc _ _ _) (World.grownBy_alloc _ _ _))⟩
end Go.Proofs.Ytcifhjocmlalmaa
