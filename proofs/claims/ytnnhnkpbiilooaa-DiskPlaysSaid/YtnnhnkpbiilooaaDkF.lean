/- disk: the small calls. -/
import Derived.Test.YtnnhnkpbiilooaaDkE
import Derived.Deep.QuietTactic
import Derived.BigQuiet
import Derived.LoopTactic
namespace Go.Proofs.Ytnnhnkpbiilooaa
open Go.RowKit Go.Maps

/-- The disk that lies at p. -/
def dptr (p : Nat) : Value := .pointer (some ⟨p, 0, none⟩)
/-- A number is told, and nothing done. -/
def Tells (w : World) (z : Int) (e : Ending) (w' : World) : Prop := e = .returned (.int .i64 z) ∧ w = w'

set_option maxRecDepth 20000 in
theorem live_any {w : World} {base : Nat} {F : Foot} {s : DS} (h : Dk w base F s) : Calls Try.prog 35 #[dptr F.p] w (Tells w s.live) := by
  obtain ⟨kv, -, h1, -⟩ := h.kvx
  have c6 := h1.cell (i := 6) (x := .bool s.dd) rfl
  unfold DS.live
  obtain ⟨p, m1, m2, wv, kw⟩ := F
  obtain ⟨n, fl, wt, lf, kp, dd, m⟩ := s
  dsimp only at *
  unfold dptr
  clear h h1
  cases dd
  · go_enter Try.func35, Try.ntmps35
    go_wp2_with fail
    go_ret
    exact ⟨rfl, rfl⟩
  · go_enter Try.func35, Try.ntmps35
    go_wp2_with fail
    go_ret
    exact ⟨rfl, rfl⟩

set_option maxRecDepth 20000 in
theorem live_nil (w : World) : Calls Try.prog 35 #[.pointer none] w (Tells w 2) := by
  go_enter Try.func35, Try.ntmps35
  go_wp2_with fail
  go_ret
  exact ⟨rfl, rfl⟩

set_option maxRecDepth 20000 in
theorem has_any {w : World} {base : Nat} {F : Foot} {s : DS} (h : Dk w base F s) (k : Int) (hk : -9223372036854775808 ≤ k ∧ k ≤ 9223372036854775807) : Calls Try.prog 33 #[dptr F.p, .int .i64 k] w (Tells w (s.has k)) := by
  obtain ⟨kv, -, h1, -⟩ := h.kvx
  have c0 := h1.cell (i := 0) (x := .int .i64 (s.n : Int)) rfl
  have HL := Lib.hid (live_any h)
  have hn := h.hn
  obtain ⟨p, m1, m2, wv, kw⟩ := F
  obtain ⟨n, fl, wt, lf, kp, dd, m⟩ := s
  dsimp only at *
  unfold dptr at *
  clear h h1
  obtain ⟨hk1, hk2⟩ := hk
  cases dd
  · by_cases hh : k < 0 ∨ (n : Int) ≤ k
    · rw [DS.has_off rfl hh]
      unfold DS.live at HL
      dsimp only at HL
      rcases hh with hh | hh
      · go_enter Try.func33, Try.ntmps33
        go_wp2_with (refine HL.out.mono ?_; rintro e w' ⟨rfl, rfl⟩; (try simp only [Bool.false_eq_true, if_false]))
        go_ret
        exact ⟨rfl, rfl⟩
      · have hk0 : ¬ k < 0 := by omega
        go_enter Try.func33, Try.ntmps33
        go_wp2_with (refine HL.out.mono ?_; rintro e w' ⟨rfl, rfl⟩; (try simp only [Bool.false_eq_true, if_false]))
        go_ret
        exact ⟨rfl, rfl⟩
    · rw [DS.has_on rfl (by omega) (by show k < (n : Int); omega)]
      unfold DS.live at HL
      dsimp only at HL
      have hk0 : ¬ k < 0 := by omega
      have hk3 : ¬ (n : Int) ≤ k := by omega
      clear hh
      go_enter Try.func33, Try.ntmps33
      go_wp2_with (refine HL.out.mono ?_; rintro e w' ⟨rfl, rfl⟩; (try simp only [Bool.false_eq_true, if_false]))
      go_ret
      exact ⟨rfl, rfl⟩
  · rw [DS.has_dead rfl]
    unfold DS.live at HL
    dsimp only at HL
    go_enter Try.func33, Try.ntmps33
    go_wp2_with (refine HL.out.mono ?_; rintro e w' ⟨rfl, rfl⟩; (try simp only [if_true]))
    go_ret
    exact ⟨rfl, rfl⟩

set_option maxRecDepth 20000 in
theorem has_nil (k : Int) (w : World) : Calls Try.prog 33 #[.pointer none, .int .i64 k] w (Tells w 2) := by
  go_enter Try.func33, Try.ntmps33
  go_wp2_with (refine (live_nil _).mono ?_; rintro e w' ⟨rfl, rfl⟩)
  go_ret
  exact ⟨rfl, rfl⟩

set_option maxRecDepth 20000 in
theorem Blocks_any {w : World} {base : Nat} {F : Foot} {s : DS} (h : Dk w base F s) : Calls Try.prog 13 #[dptr F.p] w (Tells w (s.n : Int)) := by
  obtain ⟨kv, -, h1, -⟩ := h.kvx
  have c0 := h1.cell (i := 0) (x := .int .i64 (s.n : Int)) rfl
  unfold dptr
  clear h h1
  go_enter Try.func13, Try.ntmps13
  go_wp2_with fail
  go_ret
  exact ⟨rfl, rfl⟩
set_option maxRecDepth 20000 in
theorem Blocks_nil (w : World) : Calls Try.prog 13 #[.pointer none] w (Tells w 0) := by
  go_enter Try.func13, Try.ntmps13
  go_wp2_with fail
  go_ret
  exact ⟨rfl, rfl⟩
/-- Yes or no is told, and nothing done. -/
def Says (w : World) (z : Bool) (e : Ending) (w' : World) : Prop := e = .returned (.bool z) ∧ w = w'
set_option maxRecDepth 20000 in
theorem Dead_any {w : World} {base : Nat} {F : Foot} {s : DS} (h : Dk w base F s) : Calls Try.prog 19 #[dptr F.p] w (Says w s.dd) := by
  obtain ⟨kv, -, h1, -⟩ := h.kvx
  have c6 := h1.cell (i := 6) (x := .bool s.dd) rfl
  unfold dptr
  generalize s.dd = dd at *
  clear h h1
  go_enter Try.func19, Try.ntmps19
  go_wp2_with fail
  go_ret
  exact ⟨rfl, rfl⟩
set_option maxRecDepth 20000 in
theorem Dead_nil (w : World) : Calls Try.prog 19 #[.pointer none] w (Says w false) := by
  go_enter Try.func19, Try.ntmps19
  go_wp2_with fail
  go_ret
  exact ⟨rfl, rfl⟩
set_option maxRecDepth 20000 in
theorem Waiting_any {w : World} {base : Nat} {F : Foot} {s : DS} (h : Dk w base F s) : Calls Try.prog 20 #[dptr F.p] w (Tells w (s.wt.length : Int)) := by
  obtain ⟨kv, -, h1, -⟩ := h.kvx
  have c2 := h1.cell (i := 2) (x := F.wv) rfl
  obtain ⟨a, c, hv, hm, _⟩ := h.wr.form
  rw [hv] at c2
  generalize s.wt.length = n at *
  unfold maxLen at hm
  unfold dptr
  clear h h1 hv
  go_enter Try.func20, Try.ntmps20
  go_wp2_with fail
  go_ret
  exact ⟨rfl, rfl⟩
set_option maxRecDepth 20000 in
theorem Waiting_nil (w : World) : Calls Try.prog 20 #[.pointer none] w (Tells w 0) := by
  go_enter Try.func20, Try.ntmps20
  go_wp2_with fail
  go_ret
  exact ⟨rfl, rfl⟩

/-- What a call leaves that works on one disk. -/
def Does (w : World) (base : Nat) (F : Foot) (s : DS) (z : Int) (e : Ending) (w' : World) : Prop :=
  ∃ F', e = .returned (.int .i64 z) ∧ F'.p = F.p ∧ Dk w' base F' s ∧ Kept F.has w w' ∧ ∀ k, (F'.has k → F.has k ∨ w.heap.size ≤ k) ∧ (F'.kv.ownBlock = some k → F.kv.ownBlock = some k ∨ w.heap.size ≤ k)
end Go.Proofs.Ytnnhnkpbiilooaa
