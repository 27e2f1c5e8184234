/- Numbers put into an array of bytes; the sum of bytes; the numbers of a text. -/
import Derived.Test.YtpklgcinijlmmaaHanA
import Derived.Test.YtpklgcinijlmmaaHanE
import Derived.LoopTactic
import Derived.BigRegion
namespace Go.Proofs.Ytpklgcinijlmmaa
open Go.RowKit

/-- The bytes xs behind k rounds of putting the number n, of so many bytes, at a place. -/
def putK (xs : List UInt8) (at_ size n : Nat) : Nat → List UInt8
  | 0 => xs
  | k + 1 => (putK xs at_ size n k).set (at_ + k) (UInt8.ofNat (n / 2 ^ (8 * (size - 1 - k))))
theorem putK_len (xs : List UInt8) (at_ size n k : Nat) : (putK xs at_ size n k).length = xs.length := by
  induction k with
  | zero => rfl
  | succ k ih => unfold putK; rw [List.length_set, ih]

theorem cells_set (l : List UInt8) (i : Nat) (x : UInt8) : (l.map u8v).toArray.setIfInBounds i (u8v x) = ((l.set i x).map u8v).toArray := by
  simp [List.map_set]

set_option maxRecDepth 20000 in
set_option maxHeartbeats 1000000 in
theorem put_any (r a m n : Nat) (xs : List UInt8) (w : World) (hb : Blk w r 122 (xs.map u8v).toArray) (hx : xs.length = 24) (ha : a + m ≤ 24) (hm8 : m ≤ 8) (hn : n < 18446744073709551616) :
    Calls Try.prog 86 #[.pointer (some ⟨r, 0, none⟩), .int .i64 (a : Int), .int .i64 (m : Int), .int .u64 (n : Int)] w fun e w' => e = .returned (.tuple #[]) ∧ w.grownBy w' (some r) ∧ Blk w' r 122 ((putK xs a m n m).map u8v).toArray := by
  have HB := Lib.hid hb
  have HX := Lib.hid hx
  have HA := Lib.hid ha
  have HN := Lib.hid hn
  have HM8 := Lib.hid hm8
  clear hb hx ha hn hm8
  go_enter Try.func86, Try.ntmps86
  go_wp2_with fail
  go_loopw [10] (fun i w' => ∃ k : Nat, k ≤ m ∧ i = .int .i64 k ∧ w.grownBy w' (some r) ∧ Blk w' r 122 ((putK xs a m n k).map u8v).toArray) (fun i w' => m - (intOf i).toNat)
  case atStart => exact ⟨0, Nat.zero_le _, rfl, World.grownBy.refl _ _, HB.out⟩
  case round =>
    obtain ⟨k, hk1, rfl, hg, hb⟩ := hrel
    by_cases hlt : k < m
    · have h1 := HA.out
      have hp : (((putK xs a m n k).map u8v).toArray)[a + k]? = some (u8v ((putK xs a m n k)[a + k]'(by rw [putK_len, HX.out]; omega))) := by simp [List.getElem?_eq_getElem (show a + k < (putK xs a m n k).length by rw [putK_len, HX.out]; omega)]
      have hc := hb.cell hp
      have hf := hb.frozen (a + k)
      have hm : (m : Int) ≤ 8 := by have := HM8.out; omega
      have hk0 : (0 : Int) ≤ 8 * ((m : Int) - 1 - k) := by omega
      have hk8 : 8 * ((m : Int) - 1 - k) ≤ 64 := by omega
      have HG := Lib.hid hg
      have HB := Lib.hid hb
      clear hg hb hp
      go_wp2_with fail
      go_region
      go_wp2_with fail
      have hv : Value.int IntKind.u8 ((n : Int) / 2 ^ (8 * (m - 1 - k)) % 256) = u8v (UInt8.ofNat (n / 2 ^ (8 * (m - 1 - k)))) := by
        unfold u8v
        rw [UInt8.toNat_ofNat']
        congr 1
      rw [hv]
      have hb2 := HB.out.set (a + k) (u8v (UInt8.ofNat (n / 2 ^ (8 * (m - 1 - k)))))
      rw [cells_set] at hb2
      have hg2 := World.grownBy.trans HG.out (World.grownBy.trans (Lib.grownBy_setB (World.grownBy.refl wr (some r)) (a + k) (u8v (UInt8.ofNat (n / 2 ^ (8 * (m - 1 - k)))))) (drew_grown _ _))
      have HB2 := Lib.hid hb2
      have HG2 := Lib.hid hg2
      clear hb2 hg2 hv hc hf
      go_roundw
      case rel => exact ⟨k + 1, by omega, by go_num, HG2.out, HB2.out⟩
      case measure => simp [intOf]; omega
    · obtain rfl : k = m := by omega
      have HG := Lib.hid hg
      have HB := Lib.hid hb
      clear hlt hg hb
      go_wp2_with fail
      go_end0
      exact ⟨rfl, HG.out, HB.out⟩

set_option maxRecDepth 10000 in
set_option maxHeartbeats 1000000 in
theorem sum_any (b o c : Nat) (l : List UInt8) (w : World) (hc : l.length ≤ 1000) (hb : BCells w b o l) :
    Calls Try.prog 87 #[.slice (some ⟨b, o, none⟩) l.length c] w fun e w' => e = .returned (.int .u64 ((fnv l : Nat) : Int)) ∧ w.grownBy w' none := by
  have HB := Lib.hid hb
  have hm : (l.length : Int) ≤ 1000 := by omega
  obtain ⟨F, hF⟩ : ∃ F, fnv l = F := ⟨_, rfl⟩
  have HF : Hid (sumOn fnvM fnvP fnv0 l = F) := Lib.hid hF
  rw [hF]
  obtain ⟨n, hn⟩ : ∃ n, n = l.length := ⟨_, rfl⟩
  have HN := Lib.hid hn
  rw [← hn] at hm ⊢
  clear hb hc hn hF
  go_enter Try.func87, Try.ntmps87
  go_wp2_with fail
  go_loop [3, 7] (fun u i => ∃ k : Nat, k ≤ n ∧ i = .int .i64 k ∧ u = .int .u64 ((sumOn fnvM fnvP fnv0 (l.take k) : Nat) : Int)) (fun _ i => n - (intOf i).toNat)
  case atStart => exact ⟨0, Nat.zero_le _, rfl, rfl⟩
  case round =>
    obtain ⟨k, hk, rfl, rfl⟩ := hrel
    by_cases hlt : k < n
    · have hkl : k < l.length := by rw [← HN.out]; exact hlt
      have hcell := HB.out k hkl
      have hu := sumOn_lt (m := fnvM) (p := fnvP) fnvM_pos (l.take k) fnv0 fnv0_lt
      have hstep : sumOn fnvM fnvP fnv0 (l.take (k + 1)) = sumStep fnvM fnvP (sumOn fnvM fnvP fnv0 (l.take k)) l[k] := by
        rw [List.take_succ_eq_append_getElem hkl, sumOn_append, sumOn_one]
      generalize sumOn fnvM fnvP fnv0 (l.take k) = u at *
      unfold fnvM at hu
      have HV := Lib.hid (step_value u l[k] hu)
      rw [← hstep] at HV
      have hlt2 : (k : Int) < n := by omega
      clear hu hstep
      go_wp2_with fail
      go_round
      case rel => exact ⟨k + 1, by omega, by go_num, congrArg (Value.int IntKind.u64) HV.out⟩
      case measure => simp [intOf]; omega
    · obtain rfl : k = n := by omega
      have hE : l.take k = l := List.take_of_length_le (by have := HN.out; omega)
      rw [hE, HF.out]
      clear hE hlt hk
      go_wp2_with fail
      go_ret
      exact ⟨rfl, World.grownBy.refl _ _⟩

theorem i64_or_low (a b : Nat) (ha : a < 4294967296) (hb : b < 256) : bits BinOp.or IntKind.i64 ((a : Int) * 256) (b : Int) = ((a * 256 + b : Nat) : Int) := by
  have h1 : (BitVec.ofInt 64 ((a : Int) * 256)).toNat = a * 256 := by rw [BitVec.toNat_ofInt]; omega
  have h2 : (BitVec.ofInt 64 (b : Int)).toNat = b := by rw [BitVec.toNat_ofInt]; omega
  have h3 := or_sum 8 a b (by omega)
  show IntKind.i64.wrap ((BitVec.ofInt 64 ((a : Int) * 256) ||| BitVec.ofInt 64 (b : Int)).toNat : Int) = _
  rw [BitVec.toNat_or, h1, h2, show a * 256 = a * 2 ^ 8 from rfl, h3, IntKind.wrap_i64]
  omega

/-- The number of k bytes from i on. -/
def numK (l : List UInt8) (i : Nat) : Nat → Nat
  | 0 => 0
  | k + 1 => numK l i k * 256 + (l.getD (i + k) 0).toNat
theorem numK_lt (l : List UInt8) (i k : Nat) : numK l i k < 256 ^ k := by
  induction k with
  | zero => exact Nat.zero_lt_one
  | succ k ih =>
    have := (l.getD (i + k) 0).toNat_lt
    unfold numK
    rw [Nat.pow_succ]
    omega
theorem numK_four (l : List UInt8) (i : Nat) : numK l i 4 = numAt l i := by
  unfold numAt num4
  simp only [numK, Nat.add_zero]
  omega

set_option maxRecDepth 10000 in
set_option maxHeartbeats 1000000 in
theorem word_any (l : List UInt8) (j : Nat) (w : World) (hl : l.length = 24) (hj : j < 6) : Calls Try.prog 101 #[.string ⟨l.toArray⟩, .int .i64 (j : Int)] w fun e w' => e = .returned (.int .i64 (numAt l (4 * j))) ∧ w.grownBy w' none := by
  have HL := Lib.hid hl
  have hl2 : ((l.length : Nat) : Int) = 24 := by omega
  have hj2 : (j : Int) ≤ 5 := by omega
  clear hl hj
  go_enter Try.func101, Try.ntmps101
  go_wp2_with fail
  go_loop [5, 7] (fun u i => ∃ k : Nat, k ≤ 4 ∧ i = .int .i64 k ∧ u = .int .i64 ((numK l (4 * j) k : Nat) : Int)) (fun _ i => 4 - (intOf i).toNat)
  case atStart => exact ⟨0, Nat.zero_le _, rfl, rfl⟩
  case round =>
    obtain ⟨k, hk, rfl, rfl⟩ := hrel
    by_cases hlt : k < 4
    · have hlt2 : (k : Int) < 4 := by omega
      have hb1 : 0 ≤ (j : Int) * 4 + k := by omega
      have hb2 : (j : Int) * 4 + k < 24 := by omega
      have hn := numK_lt l (4 * j) k
      have hp : 256 ^ k ≤ 16777216 := Nat.pow_le_pow_right (n := 256) (by omega) (show k ≤ 3 by omega)
      have hS : numK l (4 * j) (k + 1) = numK l (4 * j) k * 256 + (l.getD (4 * j + k) 0).toNat := rfl
      have hx := (l.getD (4 * j + k) 0).toNat_lt
      have hget : l.getD (4 * j + k) 0 = (⟨l.toArray⟩ : ByteArray)[j * 4 + k]'(by show j * 4 + k < l.length; have := HL.out; omega) := by
        show l.getD (4 * j + k) 0 = l[j * 4 + k]'(by have := HL.out; omega)
        rw [List.getD_eq_getElem?_getD, List.getElem?_eq_getElem (by have := HL.out; omega)]
        simp only [Option.getD_some, Nat.mul_comm]
      have HV := Lib.hid (i64_or_low (numK l (4 * j) k) (l.getD (4 * j + k) 0).toNat (by omega) hx)
      rw [← hS, hget] at HV
      have hw1 : wrap64 (((numK l (4 * j) k : Nat) : Int) * 256) = ((numK l (4 * j) k : Nat) : Int) * 256 := w64_id (by omega) (by omega)
      rw [hget] at hx
      have hw2 := w64_id (x := (((⟨l.toArray⟩ : ByteArray)[j * 4 + k]'(by show j * 4 + k < l.length; have := HL.out; omega)).toNat : Int)) (by omega) (by omega)
      have HW := Lib.hid (And.intro hw1 hw2)
      clear hn hp hS hx hget hw1 hw2
      go_wp2_with fail
      go_round
      case rel => exact ⟨k + 1, by omega, by go_num, by rw [HW.out.1, HW.out.2, HV.out]⟩
      case measure => simp [intOf]; omega
    · obtain rfl : k = 4 := by omega
      rw [numK_four]
      clear hlt hk
      go_wp2_with fail
      go_ret
      exact ⟨rfl, World.grownBy.refl _ _⟩
end Go.Proofs.Ytpklgcinijlmmaa
