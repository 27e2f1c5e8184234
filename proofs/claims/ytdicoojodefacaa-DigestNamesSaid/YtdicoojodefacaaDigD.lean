/- The code's texts of sums, and sums of texts. -/
import Derived.Test.YtdicoojodefacaaDigC
namespace Go.Proofs.Ytdicoojodefacaa
open Go.RowKit

/-- The answer is the text, and of what was there nothing has turned. -/
def TX (w : World) (l : List UInt8) (e : Ending) (w' : World) : Prop := e = .returned (.string ⟨l.toArray⟩) ∧ w.grownBy w' none
/-- The answer is a number and an error. -/
def NE (w : World) (p : Nat × Nat) (e : Ending) (w' : World) : Prop := e = .returned (.tuple #[.int .u64 ((p.1 : Nat) : Int), .int .i64 ((p.2 : Nat) : Int)]) ∧ w.grownBy w' none

/-- The digits of a number behind k rounds. -/
def txK (u : Nat) : Nat → List UInt8
  | 0 => List.replicate 16 0
  | k + 1 => (txK u k).set (15 - k) (hexd (u / 16 ^ k % 16))
theorem txK_len (u k : Nat) : (txK u k).length = 16 := by
  induction k with
  | zero => rfl
  | succ k ih => unfold txK; rw [List.length_set, ih]
theorem txK_all (u : Nat) : txK u 16 = dText u := by
  simp [txK, dText, digs, List.replicate, List.set]
theorem dig_at (m : Nat) (h : m < 16) (h2 : m < (ByteArray.mk #[48, 49, 50, 51, 52, 53, 54, 55, 56, 57, 97, 98, 99, 100, 101, 102]).size) : (ByteArray.mk #[48, 49, 50, 51, 52, 53, 54, 55, 56, 57, 97, 98, 99, 100, 101, 102])[m] = hexd m := by
  have key : ∀ n : Fin 16, (ByteArray.mk #[48, 49, 50, 51, 52, 53, 54, 55, 56, 57, 97, 98, 99, 100, 101, 102])[n.1]'(n.2) = hexd n.1 := by decide +kernel
  exact key ⟨m, h⟩

set_option maxRecDepth 20000 in
set_option maxHeartbeats 1000000 in
theorem text_any (n : Nat) (w : World) (hn : n < fnvM) :
    Calls Try.prog 18 #[.int .u64 (n : Int)] w (TX w (dText n)) := by
  have hm : (Instr.makeSlice 35 (.int .i64 16) (.int .i64 16)).run Try.prog w = .ok (.slice (some ⟨w.heap.size, 0, none⟩) 16 16) (w.alloc (.cells ((List.replicate 16 (0 : UInt8)).map u8v).toArray 5)) := make_run 16 (by decide) w
  have hb := Blk.made w 5 ((List.replicate 16 (0 : UInt8)).map u8v).toArray
  generalize hW : w.alloc (.cells ((List.replicate 16 (0 : UInt8)).map u8v).toArray 5) = w1 at *
  have HB := Lib.hid hb
  have HW := Lib.hid hW
  unfold fnvM at hn
  have HN := Lib.hid hn
  have HGR : Hid (∀ w', w1.grownBy w' (some w.heap.size) → w.grownBy w' none) := Lib.hid (fun w' h => by rw [← HW.out] at h; exact blk_grown h rfl)
  generalize w.heap.size = r at *
  clear hW hb hn HW
  go_enter Try.func18, Try.ntmps18
  go_wp2_with fail
  go_loopw [0, 6] (fun x i w' => ∃ k : Nat, k ≤ 16 ∧ i = .int .i64 k ∧ x = .int .u64 ((n / 16 ^ k : Nat) : Int) ∧ w1.grownBy w' (some r) ∧ Blk w' r 5 ((txK n k).map u8v).toArray) (fun _ i w' => 16 - (intOf i).toNat)
  case atStart => exact ⟨0, Nat.zero_le _, rfl, by rw [Nat.pow_zero, Nat.div_one], World.grownBy.refl _ _, HB.out⟩
  case round =>
    obtain ⟨k, hk1, rfl, rfl, hg, hb⟩ := hrel
    by_cases hlt : k < 16
    · have h1 := txK_len n k
      have hp : (((txK n k).map u8v).toArray)[15 - k]? = some (u8v ((txK n k)[15 - k]'(by omega))) := by simp [List.getElem?_eq_getElem (show 15 - k < (txK n k).length by omega)]
      obtain ⟨y, hc⟩ : ∃ y, wr.cell? ⟨r, 15 - k, none⟩ = some y := ⟨_, hb.cell hp⟩
      have hf := hb.frozen (15 - k)
      have ht : (15 : Int) - k = ((15 - k : Nat) : Int) := by omega
      have hle : n / 16 ^ k < 18446744073709551616 := Nat.lt_of_le_of_lt (Nat.div_le_self _ _) HN.out
      have hS : n / 16 ^ (k + 1) = n / 16 ^ k / 16 := by rw [Nat.pow_succ, Nat.div_div_eq_div_mul]
      have hWK : txK n (k + 1) = (txK n k).set (15 - k) (hexd (n / 16 ^ k % 16)) := rfl
      have HG := Lib.hid hg
      have HB := Lib.hid hb
      have HS := Lib.hid hS
      have HWK := Lib.hid hWK
      have hlt2 : (k : Int) < 16 := by omega
      clear hg hb hp h1 hS hWK
      generalize n / 16 ^ k = m at *
      have hr0 : (0 : Int) ≤ (m : Int) % 16 := by omega
      have hr1 : (m : Int) % 16 < 16 := by omega
      have hle2 : (m : Int) < 18446744073709551616 := by omega
      clear hle
      go_wp2_with fail
      go_roundw
      case rel =>
        rw [dig_at (m % 16) (Nat.mod_lt _ (by decide))]
        have hb2 := HB.out.set (15 - k) (u8v (hexd (m % 16)))
        rw [cells_set, ← HWK.out] at hb2
        exact ⟨k + 1, by omega, by go_num, by rw [HS.out]; rfl, Lib.grownBy_setB HG.out (15 - k) _, hb2⟩
      case measure => simp [intOf]; omega
    · obtain rfl : k = 16 := by omega
      have hbt := blk_bts hb (by rw [txK_len]; decide)
      rw [txK_len, txK_all] at hbt
      have hst := hbt.str und22 und5 und9
      have HG := Lib.hid hg
      generalize dText n = z at *
      clear hlt hg hb hbt
      go_wp2_with fail
      go_ret
      exact ⟨rfl, HGR.out _ HG.out⟩

theorem pOf_short {l : List UInt8} {k : Nat} (h : pOf (l.take k) = none) : pOf l = none := by
  have : l = l.take k ++ l.drop k := (List.take_append_drop k l).symm
  rw [this]
  unfold pOf at *
  rw [List.foldl_append, h, foldl_none]
theorem pOf_take (l : List UInt8) (k : Nat) (h : k < l.length) : pOf (l.take (k + 1)) = pOn (pOf (l.take k)) l[k] := by
  rw [List.take_succ_eq_append_getElem h, pOf_snoc]
theorem dParse_none {l : List UInt8} (hl : l.length = 16) (h : pOf l = none) : dParse l = (0, 4) := by unfold dParse; rw [if_pos hl, h]
theorem dParse_some {l : List UInt8} (hl : l.length = 16) {u : Nat} (h : pOf l = some u) : dParse l = (u, 0) := by unfold dParse; rw [if_pos hl, h]
theorem dParse_long {l : List UInt8} (hl : l.length ≠ 16) : dParse l = (0, 4) := by unfold dParse; rw [if_neg hl]
theorem or_dig (x d : Nat) (hx : x < 1152921504606846976) (hd : d < 16) : bits BinOp.or IntKind.u64 (((x : Nat) : Int) * 16) ((d : Nat) : Int) = ((x * 16 + d : Nat) : Int) := by
  have h1 := or_sum 4 x d (by omega)
  rw [show ((x : Nat) : Int) * 16 = ((x * 2 ^ 4 : Nat) : Int) by omega, u64_or_nat _ _ (by omega) (by omega), h1]

set_option maxRecDepth 20000 in
set_option maxHeartbeats 400000 in
theorem parse_long (l : List UInt8) (w : World) (hl : l.length ≤ maxLen) (h : l.length ≠ 16) : Calls Try.prog 12 #[.string ⟨l.toArray⟩] w (NE w (0, 4)) := by
  have hm : (l.length : Int) ≤ 9223372036854775807 := by unfold maxLen at hl; omega
  have h1 : ((l.length : Int) == 16) = false := by simp; omega
  have h2 : ((l.length : Int) != 16) = true := by simp; omega
  clear hl h
  go_enter Try.func12, Try.ntmps12
  go_wp2_with fail
  go_ret2
  exact ⟨rfl, World.grownBy.refl _ _⟩

set_option maxRecDepth 10000 in
set_option maxHeartbeats 1000000 in
theorem parse_16 (l : List UInt8) (w : World) (hl : l.length = 16) : Calls Try.prog 12 #[.string ⟨l.toArray⟩] w (NE w (dParse l)) := by
  have HI := Lib.hid (fun c w => idx_any c w)
  have HL := Lib.hid hl
  have hm : ((l.length : Nat) : Int) = 16 := by omega
  clear hl
  go_enter Try.func12, Try.ntmps12
  go_wp2_with fail
  go_loop [4, 10] (fun u' i => ∃ k x : Nat, k ≤ 16 ∧ i = .int .i64 k ∧ u' = .int .u64 (x : Int) ∧ pOf (l.take k) = some x) (fun _ i => 16 - (intOf i).toNat)
  case atStart => exact ⟨0, 0, Nat.zero_le _, rfl, rfl, rfl⟩
  case round =>
    obtain ⟨k, x, hk, rfl, rfl, hx⟩ := hrel
    by_cases hlt : k < 16
    · have hkl : k < l.length := by rw [HL.out]; exact hlt
      have hstep := pOf_take l k hkl
      rw [hx, pOn_some] at hstep
      have hlt2 : (k : Int) < 16 := by omega
      have hx2 : x < 1152921504606846976 := by
        have h := pOf_lt hx
        rw [List.length_take, Nat.min_eq_left (by omega)] at h
        exact Nat.lt_of_lt_of_le h (Nat.pow_le_pow_right (n := 16) (by omega) (show k ≤ 15 by omega))
      have HC := Lib.hid (HI.out l[k])
      have hget : (⟨l.toArray⟩ : ByteArray)[k]'(by show k < l.length; exact hkl) = l[k] := rfl
      have HGET := Lib.hid hget
      cases hd : dval l[k] with
      | none =>
        have h0 : didx l[k] = -1 := by unfold didx; rw [hd]
        rw [h0] at HC
        have HE : Hid (dParse l = (0, 4)) := Lib.hid (dParse_none HL.out (pOf_short (k := k + 1) (by rw [hstep, hd]; rfl)))
        clear hstep hx hx2 hd h0 hget
        go_wp2_with fail
        refine (HC.out _).mono ?_; rintro e w1 ⟨rfl, rfl⟩
        go_wp2_with fail
        go_ret2
        rw [HE.out]
        exact ⟨rfl, World.grownBy.refl _ _⟩
      | some d =>
        have h0 : didx l[k] = (d : Int) := by unfold didx; rw [hd]
        rw [h0] at HC
        obtain ⟨_, hd16⟩ := hexd_dval _ _ hd
        have hx3 : (x : Int) * 16 < 18446744073709551616 ∧ (x : Int) * 16 ≤ 18446744073709551615 := by omega
        have hd3 : IntKind.u64.wrap (d : Int) = (d : Int) := by rw [IntKind.wrap_u64]; omega
        have HV := Lib.hid (or_dig x d hx2 hd16)
        have hS : pOf (l.take (k + 1)) = some (x * 16 + d) := by rw [hstep, hd]; rfl
        have HS := Lib.hid hS
        clear hstep hx hx2 hd h0 hget hS hd16
        go_wp2_with fail
        refine (HC.out _).mono ?_; rintro e w1 ⟨rfl, rfl⟩
        go_wp2_with fail
        go_round
        case rel => exact ⟨k + 1, x * 16 + d, by omega, by go_num, congrArg (Value.int IntKind.u64) HV.out, HS.out⟩
        case measure => simp [intOf]; omega
    · obtain rfl : k = 16 := by omega
      rw [List.take_of_length_le (by rw [HL.out]; exact Nat.le_refl _)] at hx
      have HE := Lib.hid (dParse_some HL.out hx)
      clear hlt hk hx
      go_wp2_with fail
      go_ret2
      rw [HE.out]
      exact ⟨rfl, World.grownBy.refl _ _⟩

theorem parse_any (l : List UInt8) (w : World) (hl : l.length ≤ maxLen) : Calls Try.prog 12 #[.string ⟨l.toArray⟩] w (NE w (dParse l)) := by
  by_cases h : l.length = 16
  · exact parse_16 l w h
  · rw [dParse_long h]; exact parse_long l w hl h
end Go.Proofs.Ytdicoojodefacaa
