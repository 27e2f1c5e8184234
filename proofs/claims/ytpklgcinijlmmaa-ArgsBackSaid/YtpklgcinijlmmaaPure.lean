/- Plain facts on bytes: what is written is read as it was. -/
import Derived.Test.YtpklgcinijlmmaaRdr5
import Derived.Test.YtpklgcinijlmmaaWr
namespace Go.Proofs.Ytpklgcinijlmmaa
open Go.RowKit

theorem rWord_word4 (n : Nat) (h : n < 4294967296) (l : List UInt8) : rWord (some (word4 n ++ l)) = ((n : Int), some l) := by
  show (n4 _ _ _ _, some l) = _
  unfold n4
  rw [num4_word4 n h]

theorem rLong_longB (n : Nat) (h : n < 18446744073709551616) (l : List UInt8) : rLong (some (longB n ++ l)) = ((n : Int), some l) := by
  show (n8 _ _ _ _ _ _ _ _, some l) = _
  unfold n8 num8
  rw [num4_word4 _ (by omega), num4_word4 _ (by omega)]
  have e : ((n / 4294967296 : Nat) : Int) * 4294967296 + ((n % 4294967296 : Nat) : Int) = n := by omega
  rw [e]

theorem asInt_eq (n : Int) : asInt n = (n + 9223372036854775808) % 18446744073709551616 - 9223372036854775808 := by
  unfold asInt wrap64
  omega

theorem rInt_longB (n : Int) (h0 : -9223372036854775808 ≤ n) (h1 : n ≤ 9223372036854775807) (l : List UInt8) : rInt (some (longB (bits64 n) ++ l)) = (n, some l) := by
  unfold rInt
  rw [rLong_longB _ (by unfold bits64; omega)]
  have e : asInt (bits64 n : Int) = n := by
    rw [asInt_eq]
    unfold bits64
    omega
  exact Prod.ext e rfl

theorem rCount_word4 (n : Nat) (m : Int) (h : n < 4294967296) (hm : (n : Int) ≤ m) (l : List UInt8) : rCount m (some (word4 n ++ l)) = ((n : Int), some l) := by
  show (if n4 _ _ _ _ ≤ m then (n4 _ _ _ _, some l) else _) = _
  unfold n4
  rw [num4_word4 n h, if_pos hm]

theorem rFlag_flagB (b : Bool) (l : List UInt8) : rFlag (some (flagB b ++ l)) = (b, some l) := by
  unfold rFlag flagB
  rw [rCount_word4 _ _ (by cases b <;> simp) (by cases b <;> simp)]
  cases b <;> rfl

theorem rFixed_fixedB (s l : List UInt8) : rFixed s.length (some (fixedB s ++ l)) = (s, some l) := by
  have hz : zeros (List.take (pad s.length) (List.drop s.length (fixedB s ++ l))) := by
    unfold fixedB
    rw [List.append_assoc, List.drop_left, List.take_left' (by simp)]
    intro i hi
    simp
  have hc : 0 ≤ (s.length : Int) ∧ (s.length : Int).toNat + pad (s.length : Int).toNat ≤ (fixedB s ++ l).length ∧ zeros (((fixedB s ++ l).drop (s.length : Int).toNat).take (pad (s.length : Int).toNat)) :=
    ⟨by omega, by rw [Int.toNat_natCast]; unfold fixedB; simp, by rw [Int.toNat_natCast]; exact hz⟩
  rw [show rFixed (s.length : Int) (some (fixedB s ++ l)) = (List.take (s.length : Int).toNat (fixedB s ++ l), some (List.drop ((s.length : Int).toNat + pad (s.length : Int).toNat) (fixedB s ++ l))) from if_pos hc]
  rw [Int.toNat_natCast]
  unfold fixedB
  congr 2
  · rw [List.append_assoc, List.take_left]
  · exact List.drop_left' (by simp)

theorem rText_textB (s l : List UInt8) (h : s.length < 4294967296) : rText s.length (some (textB s ++ l)) = (s, some l) := by
  unfold rText textB
  rw [List.append_assoc, rCount_word4 _ _ h (by omega)]
  exact rFixed_fixedB s l

theorem word4_len (n : Nat) : (word4 n).length = 4 := rfl
theorem longB_len (n : Nat) : (longB n).length = 8 := rfl
theorem flagB_len (b : Bool) : (flagB b).length = 4 := rfl
theorem fixedB_len (s : List UInt8) : (fixedB s).length = s.length + pad s.length := by unfold fixedB; simp
theorem textB_len (s : List UInt8) : (textB s).length = 4 + (s.length + pad s.length) := by unfold textB; rw [List.length_append, fixedB_len]; rfl
theorem pad_mod (n : Nat) : (n + pad n) % 4 = 0 := by unfold pad; omega
theorem pad_le (n : Nat) : pad n ≤ 3 := by unfold pad; omega

theorem New.shape {w w' : World} {bs : List UInt8} {e : Ending} (h : New w bs e w') : ∃ a c, e = .returned (.slice a bs.length c) ∧ Own w' w.heap.size (.slice a bs.length c) bs ∧ w.grownBy w' none := by
  obtain ⟨v, rfl, h1, h2⟩ := h
  obtain ⟨a, c, rfl, _, _⟩ := h1.bts.form
  exact ⟨a, c, rfl, h1, h2⟩
/-- Both have room in one slice. -/
def Fit (x y : List UInt8) : Prop := x.length + y.length ≤ 140737488355328
end Go.Proofs.Ytpklgcinijlmmaa
