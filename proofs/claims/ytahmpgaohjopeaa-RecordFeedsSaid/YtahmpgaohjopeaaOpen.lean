/- open: a fragment's number. -/
import Derived.Test.YtahmpgaohjopeaaRs
namespace Go.Proofs.Ytahmpgaohjopeaa
open Go.RowKit

def Opened (w : World) (r : Nat) (v : Value) (s : Ms) (e : Ending) (w' : World) : Prop :=
  e = .returned (.tuple #[]) ∧ ∃ v', RS w' r v' s ∧ w.grownBy w' (some r) ∧ (v' = v ∨ v' = .slice none 0 0)

set_option maxHeartbeats 400000 in
theorem open_ok (r : Nat) (v : Value) (s : Ms) (n : Nat) (w : World) (hr : RS w r v s) (hb : s.body.length ≤ 4096) (hn : n < 4294967296) (hk : n % 2147483648 ≤ 4096 - s.body.length) :
    Calls Try.prog 33 #[.pointer (some ⟨r, 0, none⟩), .int .u32 n] w (Opened w r v { s with left := n % 2147483648, last := decide (2147483648 ≤ n) }) := by
  have hA : bits BinOp.andNot IntKind.u32 (n : Int) 2147483648 = ((n % 2147483648 : Nat) : Int) := by
    rw [show (2147483648 : Int) = ((2147483648 : Nat) : Int) from rfl, u32_andNot_nat n 2147483648 hn (by decide), ← and_low]
  have hB : bits BinOp.and IntKind.u32 (n : Int) 2147483648 = ((n &&& 2147483648 : Nat) : Int) := u32_and_nat n 2147483648 hn (by simp)
  have hC : (!((n &&& 2147483648 : Nat) : Int) == 0) = decide (2147483648 ≤ n) := by
    have := and_high n hn
    by_cases h : n < 2147483648
    · simp [this.2 h]; exact h
    · have h2 : n &&& 2147483648 ≠ 0 := fun e => h (this.1 e)
      have h3 : 2147483648 ≤ n := by omega
      simp [h2, h3]
  have HR := Lib.hid hr
  obtain ⟨h0, h1, h2, h3, hblk, ht, hv⟩ := hr
  obtain ⟨a, c, rfl⟩ := hv.len
  have c7 := hblk.cell (i := 7) (x := .slice a s.body.length c) rfl
  have c6 := hblk.cell (i := 6) (x := .bool s.last) rfl
  have c5 := hblk.cell (i := 5) (x := .int .i64 s.left) rfl
  have f5 := hblk.frozen 5
  have f6 := hblk.frozen 6
  have HB := Lib.hid hblk; have HT := Lib.hid ht; have HV := Lib.hid hv; have HC := Lib.hid hC; have HM := Lib.hid hB
  have hl : n % 2147483648 < 2147483648 := Nat.mod_lt _ (by simp)
  clear hblk ht hv hC hB
  generalize (n &&& 2147483648 : Nat) = m at *
  generalize n % 2147483648 = q at *
  go_enter Try.func33, Try.ntmps33
  go_wp2
  go_end0
  refine ⟨rfl, _, ⟨h0, h1, h2, h3, ?_, HT.out, ?_⟩, ?_, .inl rfl⟩
  · have h := (HB.out.set 5 (.int .i64 q)).set 6 (.bool (bits BinOp.and IntKind.u32 (n : Int) 2147483648 != 0))
    have e : (bits BinOp.and IntKind.u32 (n : Int) 2147483648 != 0) = decide (2147483648 ≤ n) := by rw [HM.out]; exact HC.out
    rw [e] at h ⊢
    simpa using h
  · refine HV.out.kept (Lib.grownBy_setB (Lib.grownBy_setB (World.grownBy.refl w (some r)) 5 _) 6 _) ?_
    rcases hob : (Value.slice a s.body.length c).ownBlock with _ | g
    · exact .inl rfl
    · exact .inr (by simpa using (HR.out.lt g hob).2)
  · exact Lib.grownBy_setB (Lib.grownBy_setB (World.grownBy.refl _ _) _ _) _ _
set_option maxHeartbeats 400000 in
theorem open_dead (r : Nat) (v : Value) (s : Ms) (n : Nat) (w : World) (hr : RS w r v s) (hb : s.body.length ≤ 4096) (hn : n < 4294967296) (hk : 4096 - s.body.length < n % 2147483648) :
    Calls Try.prog 33 #[.pointer (some ⟨r, 0, none⟩), .int .u32 n] w (Opened w r v .dead) := by
  have hA : bits BinOp.andNot IntKind.u32 (n : Int) 2147483648 = ((n % 2147483648 : Nat) : Int) := by
    rw [show (2147483648 : Int) = ((2147483648 : Nat) : Int) from rfl, u32_andNot_nat n 2147483648 hn (by decide), ← and_low]
  have HR := Lib.hid hr
  obtain ⟨h0, h1, h2, h3, hblk, ht, hv⟩ := hr
  obtain ⟨a, c, rfl⟩ := hv.len
  obtain ⟨c0, f0⟩ := hblk.ten 0 (by simp)
  obtain ⟨c1, f1⟩ := hblk.ten 1 (by simp)
  obtain ⟨c2, f2⟩ := hblk.ten 2 (by simp)
  obtain ⟨c3, f3⟩ := hblk.ten 3 (by simp)
  obtain ⟨c4, f4⟩ := hblk.ten 4 (by simp)
  obtain ⟨c5, f5⟩ := hblk.ten 5 (by simp)
  obtain ⟨c6, f6⟩ := hblk.ten 6 (by simp)
  obtain ⟨c7, f7⟩ := hblk.ten 7 (by simp)
  obtain ⟨c8, f8⟩ := hblk.ten 8 (by simp)
  obtain ⟨c9, f9⟩ := hblk.ten 9 (by simp)
  simp only [List.getElem_toArray, List.getElem_cons_zero, List.getElem_cons_succ] at c0 c1 c2 c3 c4 c5 c6 c7 c8 c9
  have hl : n % 2147483648 < 2147483648 := Nat.mod_lt _ (by simp)
  clear hblk ht hv
  generalize n % 2147483648 = q at *
  go_enter Try.func33, Try.ntmps33
  go_wp2_with fail
  refine bodyPost_ret (results_none rfl _ _ _) rfl ?_
  exact ⟨rfl, _, (HR.out.stored true).1, (HR.out.stored true).2, .inr rfl⟩

theorem open_any (r : Nat) (v : Value) (s : Ms) (n : Nat) (w : World) (hr : RS w r v s) (hb : s.body.length ≤ 4096) (hn : n < 4294967296) :
    Calls Try.prog 33 #[.pointer (some ⟨r, 0, none⟩), .int .u32 n] w (Opened w r v (s.opened n)) := by
  unfold Ms.opened
  by_cases h : 4096 - s.body.length < n % 2147483648
  · rw [if_pos h]; exact open_dead r v s n w hr hb hn h
  · rw [if_neg h]; exact open_ok r v s n w hr hb hn (by omega)
end Go.Proofs.Ytahmpgaohjopeaa
