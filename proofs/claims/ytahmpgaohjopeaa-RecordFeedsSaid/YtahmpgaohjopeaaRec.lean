/- record.New, record, Held, Shut, Copy. -/
import Derived.Test.YtahmpgaohjopeaaOpen
import Derived.Test.YtahmpgaohjopeaaNr
namespace Go.Proofs.Ytahmpgaohjopeaa
open Go.RowKit

set_option maxHeartbeats 400000 in
theorem new_any (w : World) : Calls Try.prog 10 #[] w fun e w' => ∃ r, e = .returned (.pointer (some ⟨r, 0, none⟩)) ∧ RS w' r (.slice none 0 0) .new ∧ w.grownBy w' none ∧ w.heap.size ≤ r := by
  go_enter Try.func10, Try.ntmps10
  go_wp2_with fail
  go_ret
  exact ⟨w.heap.size, rfl, ⟨0, 0, 0, 0, Blk.made _ _ _, rfl, Body.nil _⟩, World.grownBy_alloc _ _ _, Nat.le_refl _⟩

set_option maxHeartbeats 400000 in
theorem held_any (r : Nat) (v : Value) (s : Ms) (w : World) (hr : RS w r v s) (hc : s.came ≤ 9223372036854775807) :
    Calls Try.prog 15 #[.pointer (some ⟨r, 0, none⟩)] w fun e w' => e = .returned (.int .i64 s.came) ∧ w = w' := by
  obtain ⟨h0, h1, h2, h3, hblk, ht, hv⟩ := hr
  have c8 := hblk.cell (i := 8) (x := .int .i64 s.came) rfl
  have h : (s.came : Int) ≤ 9223372036854775807 := by omega
  clear hblk ht hv hc
  generalize s.came = n at *
  go_enter Try.func15, Try.ntmps15
  go_wp2_with fail
  go_ret
  exact ⟨rfl, rfl⟩

set_option maxHeartbeats 400000 in
theorem shut_any (r : Nat) (v : Value) (s : Ms) (w : World) (hr : RS w r v s) :
    Calls Try.prog 17 #[.pointer (some ⟨r, 0, none⟩)] w fun e w' => e = .returned (.bool s.shut) ∧ w = w' := by
  obtain ⟨h0, h1, h2, h3, hblk, ht, hv⟩ := hr
  have c9 := hblk.cell (i := 9) (x := .bool s.shut) rfl
  clear hblk ht hv
  generalize s.shut = b at *
  go_enter Try.func17, Try.ntmps17
  go_wp2_with fail
  go_ret
  exact ⟨rfl, rfl⟩

set_option maxHeartbeats 400000 in
theorem record_any (r : Nat) (v : Value) (s : Ms) (w : World) (hr : RS w r v s) :
    Calls Try.prog 28 #[.pointer (some ⟨r, 0, none⟩)] w fun e w' => e = .returned (.string ⟨s.body.toArray⟩) ∧ RS w' r (.slice none 0 0) .new ∧ w.grownBy w' (some r) := by
  have HR := Lib.hid hr
  obtain ⟨h0, h1, h2, h3, hblk, ht, hv⟩ := hr
  have hs := hv.bts.str und22 und5 und9
  obtain ⟨a, c, rfl⟩ := hv.len
  obtain ⟨c0, f0⟩ := hblk.ten 0 (by simp)
  obtain ⟨c1, f1⟩ := hblk.ten 1 (by simp)
  obtain ⟨c2, f2⟩ := hblk.ten 2 (by simp)
  obtain ⟨c3, f3⟩ := hblk.ten 3 (by simp)
  obtain ⟨c4, f4⟩ := hblk.ten 4 (by simp)
  obtain ⟨c5, f5⟩ := hblk.ten 5 (by simp)
  obtain ⟨c6, f6⟩ := hblk.ten 6 (by simp)
  obtain ⟨c7, f7⟩ := hblk.ten 7 (by simp)
  obtain ⟨c8, f8⟩ := hblk.ten 8 (by simp)
  obtain ⟨c9, f9⟩ := hblk.ten 9 (by simp)
  simp only [List.getElem_toArray, List.getElem_cons_zero, List.getElem_cons_succ] at c0 c1 c2 c3 c4 c5 c6 c7 c8 c9
  clear hblk ht hv
  go_enter Try.func28, Try.ntmps28
  go_wp2_with fail
  go_ret
  exact ⟨rfl, (HR.out.stored false).1, (HR.out.stored false).2⟩
end Go.Proofs.Ytahmpgaohjopeaa
