/- Which of two handles' bytes stand ahead. -/
import Derived.Test.YtcifhjocmlalmaaHanP
import Derived.Lib.ConvBytes
namespace Go.Proofs.Ytcifhjocmlalmaa
open Go.RowKit

theorem u8_lt (x y : Nat) : decide (UInt8.ofNat x < UInt8.ofNat y) = decide (x % 256 < y % 256) := by
  simp [UInt8.lt_iff_toNat_lt]
theorem u8_eq (x y : Nat) : (UInt8.ofNat x == UInt8.ofNat y) = decide (x % 256 = y % 256) := by
  rw [Bool.eq_iff_iff, beq_iff_eq, decide_eq_true_eq, ← UInt8.toNat_inj]
  simp

theorem digits (n : Nat) (h : n < 4294967296) : ∃ a b c d, (a < 256 ∧ b < 256 ∧ c < 256 ∧ d < 256) ∧ n = a * 16777216 + b * 65536 + c * 256 + d ∧ n / 16777216 % 256 = a ∧ n / 65536 % 256 = b ∧ n / 256 % 256 = c ∧ n % 256 = d :=
  ⟨n / 16777216 % 256, n / 65536 % 256, n / 256 % 256, n % 256, by omega, by omega, rfl, rfl, rfl, rfl⟩

theorem bl_word (n m : Nat) (p q : List UInt8) (hn : n < 4294967296) (hm : m < 4294967296) : Op.bytesLess (word4 n ++ p) (word4 m ++ q) = (decide (n < m) || (decide (n = m) && Op.bytesLess p q)) := by
  simp only [word4, List.cons_append, List.nil_append, Op.bytesLess, u8_lt, u8_eq]
  generalize Op.bytesLess p q = r
  obtain ⟨a, b, c, d, k1, k2, e1, e2, e3, e4⟩ := digits n hn
  obtain ⟨a', b', c', d', k1', k2', e1', e2', e3', e4'⟩ := digits m hm
  rw [e1, e2, e3, e4, e1', e2', e3', e4', k2, k2']
  clear e1 e2 e3 e4 e1' e2' e3' e4' k2 k2' hn hm
  rw [Bool.eq_iff_iff]
  simp only [Bool.or_eq_true, Bool.and_eq_true, decide_eq_true_eq]
  cases r
  · simp only [Bool.false_eq_true, and_false, or_false]; omega
  · simp only [and_true]; omega

theorem bl_h16 (a b : Hn) (ha : hMay a) (hb : hMay b) : Op.bytesLess (h16 a) (h16 b) = hLess a b := by
  obtain ⟨a1, a2, _, a3⟩ := ha
  obtain ⟨b1, b2, _, b3⟩ := hb
  unfold isC at a1 a2 a3 b1 b2 b3
  have e : ∀ n : Nat, word4 n = word4 n ++ [] := fun n => (List.append_nil _).symm
  unfold h16
  rw [e a.g.toNat, e b.g.toNat, bl_word _ _ _ _ (by decide) (by decide), bl_word _ _ _ _ (by omega) (by omega), bl_word _ _ _ _ (by omega) (by omega), bl_word _ _ _ _ (by omega) (by omega)]
  rw [Bool.eq_iff_iff, less_iff]
  simp [Op.bytesLess]
  omega
end Go.Proofs.Ytcifhjocmlalmaa
