/- Plain numbers: bytes put together, and taken apart. -/
import Derived.Test.YtnnhnkpbiilooaaRows
import Derived.WalkKit
import Derived.Laws.BitsAllLaws
namespace Go.Proofs.Ytnnhnkpbiilooaa
open Go.RowKit

theorem or_sum (i a b : Nat) (h : b < 2 ^ i) : (a * 2 ^ i) ||| b = a * 2 ^ i + b := by
  rw [Nat.mul_comm]
  exact (Nat.two_pow_add_eq_or_of_lt h a).symm

/-- The number of four bytes, the highest first. -/
def num4 (a b c d : Nat) : Int := a * 16777216 + b * 65536 + c * 256 + d

theorem or4 (a b c d : Nat) (ha : a < 256) (hb : b < 256) (hc : c < 256) (hd : d < 256) :
    bits BinOp.or IntKind.u32 (bits BinOp.or IntKind.u32 (bits BinOp.or IntKind.u32 ((a : Int) * 16777216) ((b : Int) * 65536)) ((c : Int) * 256)) (d : Int) = num4 a b c d := by
  have h1 := or_sum 24 a (b * 65536) (by omega)
  have h2 := or_sum 16 (a * 256 + b) (c * 256) (by omega)
  have h3 := or_sum 8 (a * 65536 + b * 256 + c) d (by omega)
  rw [show ((a : Int) * 16777216) = ((a * 2 ^ 24 : Nat) : Int) by omega, show ((b : Int) * 65536) = ((b * 65536 : Nat) : Int) by omega, show ((c : Int) * 256) = ((c * 256 : Nat) : Int) by omega,
    u32_or_nat _ _ (by omega) (by omega), h1, show a * 2 ^ 24 + b * 65536 = (a * 256 + b) * 2 ^ 16 by omega, u32_or_nat _ _ (by omega) (by omega), h2,
    show (a * 256 + b) * 2 ^ 16 + c * 256 = (a * 65536 + b * 256 + c) * 2 ^ 8 by omega, u32_or_nat _ _ (by omega) (by omega), h3]
  unfold num4
  omega

theorem or32 (a b : Nat) (ha : a < 4294967296) (hb : b < 4294967296) : bits BinOp.or IntKind.u64 ((a : Int) * 4294967296) (b : Int) = (a : Int) * 4294967296 + b := by
  have h1 := or_sum 32 a b (by omega)
  rw [show ((a : Int) * 4294967296) = ((a * 2 ^ 32 : Nat) : Int) by omega, u64_or_nat _ _ (by omega) (by omega), h1]
  omega

theorem or32i (x y : Int) (h0 : 0 ≤ x) (h1 : x < 4294967296) (h2 : 0 ≤ y) (h3 : y < 4294967296) : bits BinOp.or IntKind.u64 (x * 4294967296) y = x * 4294967296 + y := by
  obtain ⟨a, rfl⟩ := Int.eq_ofNat_of_zero_le h0
  obtain ⟨b, rfl⟩ := Int.eq_ofNat_of_zero_le h2
  exact or32 a b (by omega) (by omega)

/-- The four bytes of a number. -/
def word4 (n : Nat) : List UInt8 := [UInt8.ofNat (n / 16777216), UInt8.ofNat (n / 65536), UInt8.ofNat (n / 256), UInt8.ofNat n]

theorem num4_word4 (n : Nat) (h : n < 4294967296) : num4 (UInt8.ofNat (n / 16777216)).toNat (UInt8.ofNat (n / 65536)).toNat (UInt8.ofNat (n / 256)).toNat (UInt8.ofNat n).toNat = n := by
  unfold num4
  simp only [UInt8.toNat_ofNat']
  omega

theorem num4_lt (a b c d : Nat) (ha : a < 256) (hb : b < 256) (hc : c < 256) (hd : d < 256) : 0 ≤ num4 a b c d ∧ num4 a b c d < 4294967296 := by
  unfold num4; omega

end Go.Proofs.Ytnnhnkpbiilooaa
