/- What is written is told: the machine on fragments. -/
import Derived.Test.YtahmpgaohjopeaaTool
namespace Go.Proofs.Ytahmpgaohjopeaa
open Go.RowKit

theorem headN_word4 (n : Nat) (h : n < 4294967296) : headN (word4 n) = n := by
  unfold word4
  rw [headN_eq, num4_word4 n h]
  exact Int.toNat_natCast n

theorem run_frag (body s : List UInt8) (came : Nat) (last : Bool) (h : body.length + s.length ≤ 4096) :
    (⟨[], 0, false, body, came, false⟩ : Ms).run (fragB s last) = if last = true then (.new, [body ++ s]) else (⟨[], 0, false, body ++ s, came + (4 + s.length), false⟩, []) := by
  obtain ⟨N, hN⟩ : ∃ N, N = s.length + (if last = true then 2147483648 else 0) := ⟨_, rfl⟩
  have hN1 : N < 4294967296 := by rw [hN]; split <;> omega
  have hN2 : N % 2147483648 = s.length := by rw [hN]; split <;> omega
  have hN3 : decide (2147483648 ≤ N) = last := by
    rw [hN]
    cases last
    · simp; omega
    · simp
  have hw : (word4 N).length = 4 := rfl
  unfold fragB
  rw [← hN, Ms.run_append]
  have ho : (⟨[] ++ word4 N, 0, false, body, came + (word4 N).length, false⟩ : Ms).opened (headN ([] ++ word4 N)) = ⟨word4 N, s.length, last, body, came + 4, false⟩ := by
    rw [List.nil_append, headN_word4 N hN1]
    unfold Ms.opened
    rw [if_neg (by dsimp only; omega), hN2, hN3, hw]
  have hr := Ms.run_open ⟨[], 0, false, body, came, false⟩ (word4 N) rfl (by simp [hw]) (by intro e; rw [e] at hw; cases hw) _ rfl
  rw [ho] at hr
  rw [hr]
  dsimp only
  rw [if_neg (by simp)]
  by_cases h0 : s.length = 0
  · obtain rfl : s = [] := List.eq_nil_of_length_eq_zero h0
    rw [if_pos h0]
    unfold Ms.done
    cases last <;> simp [Ms.run]
  · rw [if_neg h0]
    dsimp only
    rw [Ms.run_whole _ s rfl (by simp [hw]) rfl (fun e => h0 (by rw [e]; rfl))]
    unfold Ms.done
    cases last
    · simp [Nat.add_assoc]
    · simp

theorem run_cut (n : Nat) (h0 : 0 < n) : ∀ (m : Nat) (body s : List UInt8) (came : Nat), s.length ≤ m → body.length + s.length ≤ 4096 → (⟨[], 0, false, body, came, false⟩ : Ms).run (cutB n s) = (.new, [body ++ s])
  | 0, body, s, came, hm, h => by
    rw [cutB_end n s (by omega), run_frag body s came true h, if_pos rfl]
  | m + 1, body, s, came, hm, h => by
    by_cases hl : s.length ≤ n
    · rw [cutB_end n s hl, run_frag body s came true h, if_pos rfl]
    · have ht : (s.take n).length = n := by rw [List.length_take]; omega
      have hd : (s.drop n).length = s.length - n := List.length_drop
      rw [cutB_step n s (by omega) (by omega), Ms.run_append, run_frag body (s.take n) came false (by omega), if_neg (by simp)]
      dsimp only
      rw [run_cut n h0 m (body ++ s.take n) (s.drop n) _ (by omega) (by rw [List.length_append]; omega)]
      simp

theorem cut_back (n : Nat) (s : List UInt8) (h0 : 0 < n) (h : s.length ≤ 4096) : Ms.new.run (cutB n s) = (.new, [s]) := run_cut n h0 s.length [] s 0 (Nat.le_refl _) (by simpa using h)

theorem write_back (s : List UInt8) (h : s.length ≤ 4096) : Ms.new.run (fragB s true) = (.new, [s]) := by
  have := run_frag [] s 0 true (by simpa using h)
  rw [if_pos rfl] at this
  exact this

theorem cutB_len (n : Nat) (h0 : 0 < n) : ∀ (m : Nat) (s : List UInt8), s.length ≤ m → (cutB n s).length ≤ 4 + 5 * s.length
  | 0, s, hm => by
    rw [cutB_end n s (by omega), fragB_len]; omega
  | m + 1, s, hm => by
    by_cases hl : s.length ≤ n
    · rw [cutB_end n s hl, fragB_len]; omega
    · have ht : (s.take n).length = n := by rw [List.length_take]; omega
      have hd : (s.drop n).length = s.length - n := List.length_drop
      rw [cutB_step n s (by omega) (by omega), List.length_append, fragB_len, ht]
      have := cutB_len n h0 m (s.drop n) (by omega)
      omega
end Go.Proofs.Ytahmpgaohjopeaa
