/- xdr.NewReader; a reader that is nil; what is kept of a reader. -/
import Derived.Test.YtpklgcinijlmmaaRdr5
import Derived.Test.YtpklgcinijlmmaaWr
namespace Go.Proofs.Ytpklgcinijlmmaa
open Go.RowKit

theorem RdrS.kept {w w' : World} {r : Nat} {g : Option Nat} {s : St} {row : Option Nat} (h : RdrS w r g s) (hg : w.grownBy w' row) (h1 : row ≠ some r) (h2 : g = none ∨ g ≠ row) : RdrS w' r g s := by
  obtain ⟨v, k1, k2, k3, k4, k5⟩ := h
  refine ⟨v, k1.kept hg (fun e => h1 e.symm), k2.kept hg ?_, k3, k4, k5⟩
  rcases k3 with k3 | k3
  · exact .inl k3
  · rw [k3]; exact h2

theorem RdrS.new {w w' : World} {r : Nat} {g : Option Nat} {s : St} (h : RdrS w r g s) (hg : w.grownBy w' none) : RdrS w' r g s := Rdr.new h hg

/-- A reader of bytes, made: it and its bytes lie in new blocks. -/
def Made (w : World) (bs : List UInt8) (e : Ending) (w' : World) : Prop :=
  ∃ r g, e = .returned (.pointer (some ⟨r, 0, none⟩)) ∧ RdrS w' r g (some bs) ∧ w.grownBy w' none ∧ w.heap.size ≤ r ∧ r < w'.heap.size ∧ (∀ k, g = some k → w.heap.size ≤ k ∧ k < w'.heap.size)

set_option maxRecDepth 20000 in
set_option maxHeartbeats 400000 in
theorem newReader_any (v : Value) (bs : List UInt8) (w : World) (hv : Bts w v bs) (hl : bs.length ≤ 100000000000) :
    Calls Try.prog 30 #[v] w (Made w bs) := by
  have HC := Lib.hid (clone_any v bs w hv (by omega))
  obtain ⟨a, m, c, rfl⟩ := hv.shape
  clear hv hl
  go_enter Try.func30, Try.ntmps30
  go_wp2_with fail
  refine HC.out.mono ?_; rintro e w2 ⟨v2, rfl, h1, h2⟩
  obtain ⟨a2, n2, c2, rfl⟩ := h1.bts.shape
  have H1 := Lib.hid h1; have H2 := Lib.hid h2
  clear h1 h2
  go_wp2_with fail
  go_ret
  have hg := World.grownBy_alloc w2 (.cells #[.slice a2 n2 c2, .bool false] 115) none
  refine ⟨w2.heap.size, (Value.slice a2 n2 c2).ownBlock, rfl, ⟨.slice a2 n2 c2, Two.made w2 _ _ _, H1.out.bts.new hg, .inr rfl, ?_, fun h => by cases h⟩, World.grownBy.trans H2.out hg, H2.out.size, by simp, ?_⟩
  · intro h
    have := (H1.out.lt _ h).2
    omega
  · intro k hk
    have := H1.out.lt _ hk
    exact ⟨this.1, by simp; omega⟩

set_option maxRecDepth 20000 in
set_option maxHeartbeats 400000 in
theorem fail_nil (w : World) : Calls Try.prog 100 #[.pointer none] w fun e w' => e = .returned (.tuple #[]) ∧ w = w' := by
  go_enter Try.func100, Try.ntmps100
  go_wp2
  go_end0
  exact ⟨rfl, rfl⟩
set_option maxRecDepth 20000 in
set_option maxHeartbeats 400000 in
theorem ok_nil (w : World) : Calls Try.prog 81 #[.pointer none] w fun e w' => e = .returned (.bool false) ∧ w = w' := by
  go_enter Try.func81, Try.ntmps81
  go_wp2
  go_ret
  exact ⟨rfl, rfl⟩
set_option maxRecDepth 20000 in
set_option maxHeartbeats 400000 in
theorem left_nil (w : World) : Calls Try.prog 82 #[.pointer none] w fun e w' => e = .returned (.int .i64 0) ∧ w = w' := by
  go_enter Try.func82, Try.ntmps82
  go_wp2
  go_ret
  exact ⟨rfl, rfl⟩
set_option maxRecDepth 20000 in
set_option maxHeartbeats 400000 in
theorem done_nil (w : World) : Calls Try.prog 33 #[.pointer none] w fun e w' => e = .returned (.bool false) ∧ w = w' := by
  go_enter Try.func33, Try.ntmps33
  go_wp2_with (go_at_call 81; refine (ok_nil _).mono ?_; rintro e w2 ⟨rfl, rfl⟩)
  go_ret
  exact ⟨rfl, rfl⟩
set_option maxRecDepth 20000 in
set_option maxHeartbeats 400000 in
theorem take_nil (n : Int) (w : World) (h0 : 0 ≤ n) : Calls Try.prog 97 #[.pointer none, .int .i64 n] w fun e w' => e = .returned (.tuple #[.slice none 0 0, .bool false]) ∧ w = w' := by
  have h1 : decide (n < 0) = false := by simpa using h0
  by_cases h2 : 0 < n
  all_goals
    go_enter Try.func97, Try.ntmps97
    go_wp2_with (first | (go_at_call 82; refine (left_nil _).mono ?_; rintro e w2 ⟨rfl, rfl⟩) | (go_at_call 81; refine (ok_nil _).mono ?_; rintro e w2 ⟨rfl, rfl⟩) | (go_at_call 100; refine (fail_nil _).mono ?_; rintro e w2 ⟨rfl, rfl⟩))
    go_ret2
    exact ⟨rfl, rfl⟩
set_option maxRecDepth 20000 in
set_option maxHeartbeats 400000 in
theorem word_nil (w : World) : Calls Try.prog 99 #[.pointer none] w fun e w' => e = .returned (.int .u32 0) ∧ w = w' := by
  go_enter Try.func99, Try.ntmps99
  go_wp2_with (go_at_call 97; refine (take_nil _ _ (by omega)).mono ?_; rintro e w2 ⟨rfl, rfl⟩)
  go_ret
  exact ⟨rfl, rfl⟩
set_option maxRecDepth 20000 in
set_option maxHeartbeats 400000 in
theorem long_nil (w : World) : Calls Try.prog 74 #[.pointer none] w fun e w' => e = .returned (.int .u64 0) ∧ w = w' := by
  go_enter Try.func74, Try.ntmps74
  go_wp2_with (go_at_call 97; refine (take_nil _ _ (by omega)).mono ?_; rintro e w2 ⟨rfl, rfl⟩)
  go_ret
  exact ⟨rfl, rfl⟩
set_option maxRecDepth 20000 in
set_option maxHeartbeats 400000 in
theorem int_nil (w : World) : Calls Try.prog 73 #[.pointer none] w fun e w' => e = .returned (.int .i64 0) ∧ w = w' := by
  go_enter Try.func73, Try.ntmps73
  go_wp2_with (go_at_call 74; refine (long_nil _).mono ?_; rintro e w2 ⟨rfl, rfl⟩)
  go_ret
  exact ⟨rfl, rfl⟩
set_option maxRecDepth 20000 in
set_option maxHeartbeats 400000 in
theorem count_nil (m : Int) (w : World) (h : 0 ≤ m) : Calls Try.prog 77 #[.pointer none, .int .i64 m] w fun e w' => e = .returned (.int .i64 0) ∧ w = w' := by
  go_enter Try.func77, Try.ntmps77
  go_wp2_with (go_at_call 99; refine (word_nil _).mono ?_; rintro e w2 ⟨rfl, rfl⟩)
  go_ret
  exact ⟨rfl, rfl⟩
set_option maxRecDepth 20000 in
set_option maxHeartbeats 400000 in
theorem flag_nil (w : World) : Calls Try.prog 75 #[.pointer none] w fun e w' => e = .returned (.bool false) ∧ w = w' := by
  go_enter Try.func75, Try.ntmps75
  go_wp2_with (go_at_call 77; refine (count_nil _ _ (by omega)).mono ?_; rintro e w2 ⟨rfl, rfl⟩)
  go_ret
  exact ⟨rfl, rfl⟩
set_option maxRecDepth 20000 in
set_option maxHeartbeats 400000 in
theorem fixed_nil (n : Int) (w : World) (h : 0 ≤ n) : Calls Try.prog 79 #[.pointer none, .int .i64 n] w fun e w' => e = .returned (.string ⟨#[]⟩) ∧ w = w' := by
  go_enter Try.func79, Try.ntmps79
  go_wp2_with (go_at_call 97; refine (take_nil _ _ (by omega)).mono ?_; rintro e w2 ⟨rfl, rfl⟩)
  go_ret
  exact ⟨rfl, rfl⟩
set_option maxRecDepth 20000 in
set_option maxHeartbeats 400000 in
theorem text_nil (m : Int) (w : World) (h : 0 ≤ m) : Calls Try.prog 76 #[.pointer none, .int .i64 m] w fun e w' => e = .returned (.string ⟨#[]⟩) ∧ w = w' := by
  go_enter Try.func76, Try.ntmps76
  go_wp2_with (first | (go_at_call 77; refine (count_nil _ _ (by omega)).mono ?_; rintro e w2 ⟨rfl, rfl⟩) | (go_at_call 79; refine (fixed_nil _ _ (by omega)).mono ?_; rintro e w2 ⟨rfl, rfl⟩))
  go_ret
  exact ⟨rfl, rfl⟩
end Go.Proofs.Ytpklgcinijlmmaa
