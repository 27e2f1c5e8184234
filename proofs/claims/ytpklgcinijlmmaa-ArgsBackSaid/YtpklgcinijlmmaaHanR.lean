/- The document's answers of layer 4: its small functions. -/
import Derived.Test.YtpklgcinijlmmaaHanP
import Derived.Test.YtpklgcinijlmmaaFnv
import Derived.Test.YtpklgcinijlmmaaOwn
import Derived.Lib.ConvBytes
namespace Go.Proofs.Ytpklgcinijlmmaa
open Go.RowKit

theorem retB {b c : Bool} (h : b = c) : Ending.returned (Value.bool b) = Ending.returned (Value.bool c) := by rw [h]
theorem retI {b c : Int} (h : b = c) : Ending.returned (Value.int .i64 b) = Ending.returned (Value.int .i64 c) := by rw [h]
def Says (w : World) (v : Value) (e : Ending) (w' : World) : Prop := e = .returned v ∧ w = w'
def txt (b : List UInt8) : Value := .string ⟨b.toArray⟩
def hnV (h : Hn) : Value := .agg #[.int .i64 h.s, .int .i64 h.i, .int .i64 h.g]
/-- A text told. -/
def TX (w : World) (bs : List UInt8) (e : Ending) (w' : World) : Prop := e = .returned (.string ⟨bs.toArray⟩) ∧ w.grownBy w' none
/-- A text and an error; a handle and an error. -/
def TE (w : World) (p : List UInt8 × Int) (e : Ending) (w' : World) : Prop := e = .returned (.tuple #[txt p.1, .int .i64 p.2]) ∧ w.grownBy w' none
def HT (w : World) (p : Hn × Int) (e : Ending) (w' : World) : Prop := e = .returned (.tuple #[hnV p.1, .int .i64 p.2]) ∧ w.grownBy w' none

set_option maxRecDepth 20000 in
set_option maxHeartbeats 400000 in
theorem rcount_any (n : Int) (w : World) : Calls Try.prog 103 #[.int .i64 n] w (Says w (.bool (decide (isC n)))) := by
  by_cases h1 : 0 ≤ n
  · by_cases h2 : n ≤ 2147483647
    all_goals
      go_enter Try.func103, Try.ntmps103
      go_wp2
      go_ret
      exact ⟨retB (by rw [Bool.eq_iff_iff]; simp; unfold isC; omega), rfl⟩
  · go_enter Try.func103, Try.ntmps103
    go_wp2
    go_ret
    exact ⟨retB (by rw [Bool.eq_iff_iff]; simp; unfold isC; omega), rfl⟩

set_option maxRecDepth 20000 in
set_option maxHeartbeats 4000000 in
theorem rmay_any (h : Hn) (w : World) : Calls Try.prog 90 #[hnV h] w fun e w' => e = .returned (.bool (decide (hMay h))) ∧ w.grownBy w' none := by
  obtain ⟨s, i, g⟩ := h
  have HS := Lib.hid (fun w => rcount_any s w)
  have HI := Lib.hid (fun w => rcount_any i w)
  have HG := Lib.hid (fun w => rcount_any g w)
  have HM : Hid (decide (hMay ⟨s, i, g⟩) = (decide (isC s) && (decide (isC i) && (decide (1 ≤ i) && decide (isC g))))) := Lib.hid (by
    rw [Bool.eq_iff_iff]
    simp only [decide_eq_true_eq, Bool.and_eq_true]
    exact Iff.rfl)
  rw [HM.out]
  clear HM
  unfold hnV
  generalize decide (isC s) = b1 at *
  generalize decide (isC i) = b2 at *
  generalize decide (isC g) = b4 at *
  obtain ⟨b3, hb3⟩ : ∃ b, decide (1 ≤ i) = b := ⟨_, rfl⟩
  rw [hb3]
  cases b1
  · go_enter Try.func90, Try.ntmps90
    go_wp2_with fail
    refine (HS.out _).mono ?_; rintro e w' ⟨rfl, rfl⟩
    go_wp2_with fail
    go_ret
    exact ⟨rfl, World.grownBy_alloc _ _ _⟩
  · cases b2
    · go_enter Try.func90, Try.ntmps90
      go_wp2_with fail
      refine (HS.out _).mono ?_; rintro e w' ⟨rfl, rfl⟩
      go_wp2_with fail
      refine (HI.out _).mono ?_; rintro e w' ⟨rfl, rfl⟩
      go_wp2_with fail
      go_ret
      exact ⟨rfl, World.grownBy_alloc _ _ _⟩
    · cases b3
      · go_enter Try.func90, Try.ntmps90
        go_wp2_with fail
        refine (HS.out _).mono ?_; rintro e w' ⟨rfl, rfl⟩
        go_wp2_with fail
        refine (HI.out _).mono ?_; rintro e w' ⟨rfl, rfl⟩
        go_wp2_with fail
        go_ret
        exact ⟨rfl, World.grownBy_alloc _ _ _⟩
      · go_enter Try.func90, Try.ntmps90
        go_wp2_with fail
        refine (HS.out _).mono ?_; rintro e w' ⟨rfl, rfl⟩
        go_wp2_with fail
        refine (HI.out _).mono ?_; rintro e w' ⟨rfl, rfl⟩
        go_wp2_with fail
        refine (HG.out _).mono ?_; rintro e w' ⟨rfl, rfl⟩
        go_wp2_with fail
        go_ret
        exact ⟨rfl, World.grownBy_alloc _ _ _⟩
end Go.Proofs.Ytpklgcinijlmmaa
