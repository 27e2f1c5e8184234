/- call.Tell. -/
import Derived.Test.YtkhlmfnfcdhceaaCallW
namespace Go.Proofs.Ytkhlmfnfcdhceaa
open Go.RowKit

theorem anMay_iff (a : An) : anMay a ↔ isW a.x ∧ ansMay a.e a.b := by
  unfold anMay ansMay
  constructor
  · rintro ⟨h1, h2, h3⟩; exact ⟨h2, h1, h3⟩
  · rintro ⟨h1, h2, h3⟩; exact ⟨h2, h1, h3⟩

set_option maxHeartbeats 1000000 in
theorem tell_bad (x f : Int) (b : List UInt8) (w : World) (hx : isI x) (hb : b.length ≤ maxLen) (h : ¬ (isW x ∧ ansMay f b)) :
    Calls Try.prog 15 #[anV ⟨x, f, b⟩] w (TE w ([], 1)) := by
  have HX := Lib.hid (fun w => cword_any x w hx)
  have HB := Lib.hid (fun w => answer_any f b w hb)
  have key : decide (isW x) = false ∨ decide (isW x) = true ∧ decide (ansMay f b) = false := by
    by_cases h1 : isW x <;> by_cases h2 : ansMay f b <;> simp [h1, h2] at h ⊢
  generalize decide (isW x) = b1 at *
  generalize decide (ansMay f b) = b2 at *
  clear h hx hb
  unfold anV txt
  rcases key with rfl | ⟨rfl, rfl⟩
  all_goals
    go_enter Try.func15, Try.ntmps15
    go_wp2_with (first
      | (go_at_call 21; refine (HX.out _).mono ?_; rintro e w' ⟨rfl, rfl⟩)
      | (go_at_call 30; refine (HB.out _).mono ?_; rintro e w' ⟨rfl, rfl⟩))
    go_ret2
    exact ⟨rfl, World.grownBy_alloc _ _ _⟩

set_option maxHeartbeats 1000000 in
theorem tell_ok (x f : Nat) (b : List UInt8) (w : World) (hx : x < 4294967296) (hf : f < 4294967296) (hm : ansMay f b) (h : b.length ≤ 1000000000) :
    Calls Try.prog 15 #[anV ⟨x, f, b⟩] w (TE w (anB ⟨x, f, b⟩, 0)) := by
  have HX := Lib.hid (fun w => cword_any x w (by unfold isI; omega))
  have HB := Lib.hid (fun w => answer_any f b w (by unfold maxLen; omega))
  rw [decide_eq_true hm] at HB
  rw [decide_eq_true (by unfold isW; omega)] at HX
  have HE := Lib.hid (anB_cat x f b hm.2)
  have HW := Lib.hid (show ∀ n ∈ [x, 1, f], n < 4294967296 by intro n hn; simp at hn; omega)
  have HL := Lib.hid h
  clear h hx hm
  unfold anV txt
  go_enter Try.func15, Try.ntmps15
  go_wp2_with (first
      | (go_at_call 21; refine (HX.out _).mono ?_; rintro e w' ⟨rfl, rfl⟩)
      | (go_at_call 30; refine (HB.out _).mono ?_; rintro e w' ⟨rfl, rfl⟩))
  refine (put_any ⟨b.toArray⟩ _ _ [x, 1, f] _ (by show b.length ≤ _; have := HL.out; omega) (by simp) (nums_at _ (by simp) rfl HW.out)).mono ?_
  rintro e w2 ⟨rfl, h2⟩
  have H2 := Lib.hid h2
  clear h2
  go_wp2_with fail
  go_ret2
  refine ⟨?_, World.grownBy.trans (World.grownBy.trans (World.grownBy_alloc _ _ _) (World.grownBy_alloc _ _ _)) H2.out⟩
  rw [← HE.out]
  rfl

theorem Tell_any (a : An) (w : World) (hx : isI a.x) (hb : a.b.length ≤ 1000000000) : Calls Try.prog 15 #[anV a] w (TE w (cTell a)) := by
  obtain ⟨x, f, b⟩ := a
  by_cases h1 : isW x ∧ ansMay f b
  · have e : cTell ⟨x, f, b⟩ = (anB ⟨x, f, b⟩, 0) := if_pos ((anMay_iff _).2 h1)
    rw [e]
    obtain ⟨h1, h2⟩ := h1
    have h3 := h2.1
    obtain ⟨x, rfl⟩ := Int.eq_ofNat_of_zero_le h1.1
    obtain ⟨f, rfl⟩ := Int.eq_ofNat_of_zero_le (show 0 ≤ f by omega)
    unfold isW at h1
    exact tell_ok x f b w (by omega) (by omega) h2 hb
  · have e : cTell ⟨x, f, b⟩ = ([], 1) := if_neg (fun q => h1 ((anMay_iff _).1 q))
    rw [e]
    exact tell_bad x f b w hx (by show b.length ≤ _; unfold maxLen; dsimp at hb; omega) h1
end Go.Proofs.Ytkhlmfnfcdhceaa
