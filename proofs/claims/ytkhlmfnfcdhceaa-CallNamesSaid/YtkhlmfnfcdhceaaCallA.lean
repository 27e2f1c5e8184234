/- Package call: its small functions. -/
import Derived.Test.YtkhlmfnfcdhceaaCallP
import Derived.Test.YtkhlmfnfcdhceaaRefS
namespace Go.Proofs.Ytkhlmfnfcdhceaa
open Go.RowKit

/-- Is a number of 64 bits? -/
def isI (n : Int) : Prop := -9223372036854775808 ≤ n ∧ n ≤ 9223372036854775807

theorem wrap_u64_of {n : Int} (h : isW n) : IntKind.u64.wrap n = n := by rw [IntKind.wrap_u64]; unfold isW at h; omega
theorem wrap_u64_not {n : Int} (hi : isI n) (h : ¬ isW n) : 4294967295 < IntKind.u64.wrap n := by rw [IntKind.wrap_u64]; unfold isW at h; unfold isI at hi; omega

theorem retB {b c : Bool} (h : b = c) : Ending.returned (Value.bool b) = Ending.returned (Value.bool c) := by rw [h]

def Says (w : World) (v : Value) (e : Ending) (w' : World) : Prop := e = .returned v ∧ w = w'

set_option maxHeartbeats 400000 in
theorem client_any (n : Int) (w : World) : Calls Try.prog 20 #[.int .i64 n] w (Says w (.bool (decide (1 ≤ n ∧ n ≤ 16)))) := by
  by_cases h1 : 1 ≤ n
  · by_cases h2 : n ≤ 16
    all_goals
      go_enter Try.func20, Try.ntmps20
      go_wp2
      go_ret
      exact ⟨retB (by simp; omega), rfl⟩
  · go_enter Try.func20, Try.ntmps20
    go_wp2
    go_ret
    exact ⟨retB (by simp; omega), rfl⟩

set_option maxHeartbeats 400000 in
theorem cword_any (n : Int) (w : World) (hi : isI n) : Calls Try.prog 21 #[.int .i64 n] w (Says w (.bool (decide (isW n)))) := by
  by_cases h : isW n
  · have hq := wrap_u64_of h
    have hn : n ≤ 4294967295 := by unfold isW at h; omega
    have hd : decide (isW n) = true := by simpa using h
    rw [hd]
    clear hd h hi
    go_enter Try.func21, Try.ntmps21
    go_wp2
    go_ret
    exact ⟨rfl, rfl⟩
  · have hq := wrap_u64_not hi h
    have hd : decide (isW n) = false := by simpa using h
    rw [hd]
    generalize hz : IntKind.u64.wrap n = z at *
    clear hd h hi
    go_enter Try.func21, Try.ntmps21
    go_wp2
    go_ret
    exact ⟨retB (by simp; omega), rfl⟩

set_option maxHeartbeats 400000 in
theorem whole_any (s : ByteArray) (w : World) (hs : s.size ≤ maxLen) : Calls Try.prog 22 #[.string s] w (Says w (.bool (decide (s.size % 4 = 0)))) := by
  unfold maxLen at hs
  have h0 : (s.size : Int) ≤ 9223372036854775807 := by omega
  have HE : Hid (((s.size : Int) % 4 == 0) = decide (s.size % 4 = 0)) := Lib.hid (by
    by_cases h : s.size % 4 = 0
    · simp [h]; omega
    · simp [h]; omega)
  clear hs
  go_enter Try.func22, Try.ntmps22
  go_wp2
  go_ret
  exact ⟨retB HE.out, rfl⟩

set_option maxHeartbeats 400000 in
theorem next_s (r : Nat) (g : Option Nat) (s : St) (w : World) (hr : RdrS w r g s) :
    Calls Try.prog 26 #[.pointer (some ⟨r, 0, none⟩)] w (Rd w r g (.int .i64 (rWord s).1) (rWord s).2) := by
  have HW := Lib.hid (word_s r g s w hr)
  obtain ⟨h0, h1⟩ := rWord_range s
  clear hr
  generalize rWord s = p at *
  obtain ⟨n, q⟩ := p
  go_enter Try.func26, Try.ntmps26
  go_wp2_with (first | (go_at_call 40; refine HW.out.mono ?_; rintro e w' ⟨rfl, h2, h3⟩; have H2 := Lib.hid h2; have H3 := Lib.hid h3; clear h2 h3))
  go_ret
  exact ⟨rfl, H2.out, H3.out⟩

/-- Which answers may be, but for the Xid. -/
def ansMay (e : Int) (b : List UInt8) : Prop := (e = 0 ∨ ((e = 4 ∨ e = 62 ∨ e = 63) ∧ b = [])) ∧ b.length % 4 = 0
instance (e : Int) (b : List UInt8) : Decidable (ansMay e b) := by unfold ansMay; infer_instance

set_option maxHeartbeats 800000 in
theorem answer_any (e : Int) (b : List UInt8) (w : World) (hs : b.length ≤ maxLen) : Calls Try.prog 30 #[.int .i64 e, .string ⟨b.toArray⟩] w (Says w (.bool (decide (ansMay e b)))) := by
  have HW := Lib.hid (fun w => whole_any ⟨b.toArray⟩ w hs)
  have hz : (⟨b.toArray⟩ : ByteArray).size = b.length := rfl
  rw [hz] at HW
  clear hs hz
  by_cases hb : b = []
  · subst hb
    by_cases h : e = 0 ∨ e = 4 ∨ e = 62 ∨ e = 63
    · rcases h with rfl | rfl | rfl | rfl
      all_goals
        go_enter Try.func30, Try.ntmps30
        go_wp2_with (first | (go_at_call 22; refine (HW.out _).mono ?_; rintro e w' ⟨rfl, rfl⟩))
        go_ret
        exact ⟨rfl, rfl⟩
    · have h0 : (e == 0) = false := by simp; omega
      have h4 : (e == 4) = false := by simp; omega
      have h62 : (e == 62) = false := by simp; omega
      have h63 : (e == 63) = false := by simp; omega
      have HD : Hid (decide (ansMay e []) = false) := Lib.hid (by simp [ansMay]; omega)
      clear h
      go_enter Try.func30, Try.ntmps30
      go_wp2
      go_ret
      exact ⟨retB HD.out.symm, rfl⟩
  · have hne : b.isEmpty = false := by simpa using hb
    by_cases h : e = 0
    · subst h
      have HD : Hid (decide (ansMay 0 b) = decide (b.length % 4 = 0)) := Lib.hid (by simp [ansMay])
      clear hb
      go_enter Try.func30, Try.ntmps30
      go_wp2_with (first | (go_at_call 22; refine (HW.out _).mono ?_; rintro e w' ⟨rfl, rfl⟩))
      go_ret
      exact ⟨retB HD.out.symm, rfl⟩
    · have HD : Hid (decide (ansMay e b) = false) := Lib.hid (by simp [ansMay, h, hb])
      by_cases h : e = 4 ∨ e = 62 ∨ e = 63
      · rcases h with rfl | rfl | rfl
        all_goals
          go_enter Try.func30, Try.ntmps30
          go_wp2
          go_ret
          exact ⟨retB HD.out.symm, rfl⟩
      · have h0 : (e == 0) = false := by simp; omega
        have h4 : (e == 4) = false := by simp; omega
        have h62 : (e == 62) = false := by simp; omega
        have h63 : (e == 63) = false := by simp; omega
        go_enter Try.func30, Try.ntmps30
        go_wp2
        go_ret
        exact ⟨retB HD.out.symm, rfl⟩
end Go.Proofs.Ytkhlmfnfcdhceaa
