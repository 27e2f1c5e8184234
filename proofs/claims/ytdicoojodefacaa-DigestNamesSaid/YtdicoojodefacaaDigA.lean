/- The code's sums of bytes, of a text and of a slice. -/
import Derived.Test.YtdicoojodefacaaOwn
import Derived.Test.YtdicoojodefacaaDigP
import Derived.LoopTactic
namespace Go.Proofs.Ytdicoojodefacaa
open Go.RowKit

theorem drew_grown (w : World) (row : Option Nat) : w.grownBy w.drew row := ⟨rfl, rfl, rfl, Nat.le_refl _, fun _ _ _ => rfl⟩
theorem dstep (u : Nat) (x : UInt8) (hu : u < 18446744073709551616) : IntKind.u64.wrap (bits BinOp.xor IntKind.u64 (u : Int) (IntKind.u64.wrap (x.toNat : Int)) * 1099511628211) = ((sumStep fnvM fnvP u x : Nat) : Int) := by
  have hx := x.toNat_lt
  rw [show IntKind.u64.wrap (x.toNat : Int) = (x.toNat : Int) by rw [IntKind.wrap_u64]; omega, u64_xor_nat u x.toNat hu (by omega), IntKind.wrap_u64]
  unfold sumStep fnvM fnvP
  generalize u ^^^ x.toNat = m
  omega
theorem sumOn_take (u : Nat) (l : List UInt8) (k : Nat) (h : k < l.length) : sumOn fnvM fnvP u (l.take (k + 1)) = sumStep fnvM fnvP (sumOn fnvM fnvP u (l.take k)) l[k] := by
  rw [List.take_succ_eq_append_getElem h, sumOn_append, sumOn_one]

/-- The answer is the number, and of what was there nothing has turned. -/
def U64 (w : World) (u : Nat) (e : Ending) (w' : World) : Prop := e = .returned (.int .u64 ((u : Nat) : Int)) ∧ w.grownBy w' none

set_option maxRecDepth 20000 in
set_option maxHeartbeats 1000000 in
theorem add_str (u : Nat) (l : List UInt8) (w : World) (hu : u < fnvM) (hl : l.length ≤ 140737488355328) :
    Calls Try.prog 25 #[.int .u64 (u : Int), .string ⟨l.toArray⟩] w (U64 w (sumOn fnvM fnvP u l)) := by
  have hm : (l.length : Int) ≤ 140737488355328 := by omega
  have HU := Lib.hid hu
  obtain ⟨F, hF⟩ : ∃ F, sumOn fnvM fnvP u l = F := ⟨_, rfl⟩
  have HF := Lib.hid hF
  rw [hF]
  clear hl hF hu
  go_enter Try.func25, Try.ntmps25
  go_wp2_with fail
  go_loop [0, 8] (fun u' i => ∃ k : Nat, k ≤ l.length ∧ i = .int .i64 k ∧ u' = .int .u64 ((sumOn fnvM fnvP u (l.take k) : Nat) : Int)) (fun _ i => l.length - (intOf i).toNat)
  case atStart => exact ⟨0, Nat.zero_le _, rfl, rfl⟩
  case round =>
    obtain ⟨k, hk, rfl, rfl⟩ := hrel
    by_cases hlt : k < l.length
    · have hu := sumOn_lt (m := fnvM) (p := fnvP) fnvM_pos (l.take k) u HU.out
      have hstep := sumOn_take u l k hlt
      generalize sumOn fnvM fnvP u (l.take k) = v at *
      unfold fnvM at hu
      have HV := Lib.hid (dstep v l[k] hu)
      rw [← hstep] at HV
      have hlt2 : (k : Int) < l.length := by omega
      clear hu hstep
      go_wp2_with fail
      go_round
      case rel => exact ⟨k + 1, by omega, by go_num, congrArg (Value.int IntKind.u64) HV.out⟩
      case measure => simp [intOf]; omega
    · have hE : l.take k = l := List.take_of_length_le (by omega)
      rw [hE, HF.out]
      have hlt2 : ¬ (k : Int) < l.length := by omega
      clear hE hk
      go_wp2_with fail
      go_ret
      exact ⟨rfl, World.grownBy.refl _ _⟩

set_option maxRecDepth 20000 in
set_option maxHeartbeats 1000000 in
theorem add_cells (u b o c : Nat) (l : List UInt8) (w : World) (hu : u < fnvM) (hl : l.length ≤ 140737488355328) (hb : BCells w b o l) :
    Calls Try.prog 27 #[.int .u64 (u : Int), .slice (some ⟨b, o, none⟩) l.length c] w (U64 w (sumOn fnvM fnvP u l)) := by
  have hm : (l.length : Int) ≤ 140737488355328 := by omega
  have HB := Lib.hid hb
  have HU := Lib.hid hu
  obtain ⟨F, hF⟩ : ∃ F, sumOn fnvM fnvP u l = F := ⟨_, rfl⟩
  have HF := Lib.hid hF
  rw [hF]
  obtain ⟨n, hn⟩ : ∃ n, n = l.length := ⟨_, rfl⟩
  have HN := Lib.hid hn
  rw [← hn] at hm ⊢
  clear hl hn hF hu hb
  go_enter Try.func27, Try.ntmps27
  go_wp2_with fail
  go_loop [0, 8] (fun u' i => ∃ k : Nat, k ≤ n ∧ i = .int .i64 k ∧ u' = .int .u64 ((sumOn fnvM fnvP u (l.take k) : Nat) : Int)) (fun _ i => n - (intOf i).toNat)
  case atStart => exact ⟨0, Nat.zero_le _, rfl, rfl⟩
  case round =>
    obtain ⟨k, hk, rfl, rfl⟩ := hrel
    by_cases hlt : k < n
    · have hkl : k < l.length := by rw [← HN.out]; exact hlt
      have hu := sumOn_lt (m := fnvM) (p := fnvP) fnvM_pos (l.take k) u HU.out
      have hstep := sumOn_take u l k hkl
      have hcell := HB.out k hkl
      generalize sumOn fnvM fnvP u (l.take k) = v at *
      unfold fnvM at hu
      have HV := Lib.hid (dstep v l[k] hu)
      rw [← hstep] at HV
      have hlt2 : (k : Int) < n := by omega
      clear hu hstep
      go_wp2_with fail
      go_round
      case rel => exact ⟨k + 1, by omega, by go_num, congrArg (Value.int IntKind.u64) HV.out⟩
      case measure => simp [intOf]; omega
    · obtain rfl : k = n := by omega
      have hE : l.take k = l := List.take_of_length_le (by have := HN.out; omega)
      rw [hE, HF.out]
      clear hE hlt hk
      go_wp2_with fail
      go_ret
      exact ⟨rfl, World.grownBy.refl _ _⟩

set_option maxRecDepth 20000 in
set_option maxHeartbeats 1000000 in
theorem add_none (u : Nat) (a : Option Addr) (w : World) :
    Calls Try.prog 27 #[.int .u64 (u : Int), .slice a 0 0] w (U64 w u) := by
  go_enter Try.func27, Try.ntmps27
  go_wp2_with fail
  go_loop [0, 8] (fun u' i => i = .int .i64 0 ∧ u' = .int .u64 (u : Int)) (fun _ _ => 0)
  case atStart => exact ⟨rfl, rfl⟩
  case round =>
    obtain ⟨rfl, rfl⟩ := hrel
    go_wp2_with fail
    go_ret
    exact ⟨rfl, World.grownBy.refl _ _⟩

theorem add_bts (u : Nat) (l : List UInt8) (v : Value) (w : World) (hu : u < fnvM) (hl : l.length ≤ 140737488355328) (hb : Bts w v l) :
    Calls Try.prog 27 #[.int .u64 (u : Int), v] w (U64 w (sumOn fnvM fnvP u l)) := by
  rcases hb with ⟨rfl, rfl⟩ | ⟨b, o, c, rfl, h1, h2, h3⟩ | ⟨a, rfl, rfl⟩
  · exact add_none u none w
  · exact add_cells u b o c l w hu hl h3
  · exact add_none u (some a) w

set_option maxRecDepth 20000 in
set_option maxHeartbeats 400000 in
theorem sum_any (l : List UInt8) (w : World) (hl : l.length ≤ 140737488355328) :
    Calls Try.prog 14 #[.string ⟨l.toArray⟩] w (U64 w (fnv l)) := by
  have HA := Lib.hid (fun w => add_str fnv0 l w fnv0_lt hl)
  have e : ((fnv0 : Nat) : Int) = 14695981039346656037 := rfl
  rw [e] at HA
  obtain ⟨F, hF⟩ : ∃ F, fnv l = F := ⟨_, rfl⟩
  have hF2 : sumOn fnvM fnvP fnv0 l = F := hF
  rw [hF2] at HA
  rw [hF]
  clear hF hF2 e hl
  go_enter Try.func14, Try.ntmps14
  go_wp2_with fail
  refine (HA.out _).mono ?_; rintro e w1 ⟨rfl, h1⟩; have H1 := Lib.hid h1; clear h1
  go_wp2_with fail
  go_ret
  exact ⟨rfl, H1.out⟩

/-- Noughts, made. -/
theorem make_run (n : Nat) (hn : n ≤ 1000000) (w : World) : (Instr.makeSlice 35 (.int .i64 n) (.int .i64 n)).run Try.prog w = .ok (.slice (some ⟨w.heap.size, 0, none⟩) n n) (w.alloc (.cells ((List.replicate n (0 : UInt8)).map u8v).toArray 5)) := by
  obtain ⟨i, hi, hz0, hz1, hz2⟩ := info_parts inf5
  have h := run_makeSlice (P := Try.prog) w 35 5 i _ und22 hi hz0 .i64 .i64 n n (by omega) (Int.le_refl _) (by rw [hz1]; simp; omega) (by rw [hz2]; omega) (by omega)
  rw [hz1, Int.toNat_natCast, Nat.mul_one] at h
  have e : madeCells (Value.int .u8 0).cells n = ((List.replicate n (0 : UInt8)).map u8v).toArray := by
    apply Array.ext'
    rw [show (Value.int .u8 0).cells = #[Value.int .u8 0] from rfl, toList_madeCells_one, List.map_replicate]
    rfl
  rw [e] at h
  exact h

theorem blk_bts {w : World} {r : Nat} {t : TypeId} {bs : List UInt8} (hb : Blk w r t (bs.map u8v).toArray) (h : bs.length ≤ maxLen) : Bts w (.slice (some ⟨r, 0, none⟩) bs.length bs.length) bs := by
  refine .inr (.inl ⟨r, 0, bs.length, rfl, Nat.le_refl _, h, fun i hi => ?_⟩)
  rw [Nat.zero_add]
  exact hb.cell (by simp [List.getElem?_eq_getElem hi, u8v])
theorem blk_grown {w w' : World} {xs : Array Value} {t : TypeId} {r : Nat} (hg : (w.alloc (.cells xs t)).grownBy w' (some r)) (hr : r = w.heap.size) : w.grownBy w' none := by
  subst hr
  exact grown_own (World.grownBy_alloc _ _ _) hg (fun n hn => by cases hn; exact Nat.le_refl _)

theorem cells_set (l : List UInt8) (i : Nat) (x : UInt8) : (l.map u8v).toArray.setIfInBounds i (u8v x) = ((l.set i x).map u8v).toArray := by
  simp [List.map_set]

/-- The bytes of a number behind k rounds. -/
def wordK (n : Nat) : Nat → List UInt8
  | 0 => List.replicate 8 0
  | k + 1 => (wordK n k).set (7 - k) (UInt8.ofNat (n / 256 ^ k))
theorem wordK_len (n k : Nat) : (wordK n k).length = 8 := by
  induction k with
  | zero => rfl
  | succ k ih => unfold wordK; rw [List.length_set, ih]
theorem wordK_all (n : Nat) : wordK n 8 = word8 n := by
  simp [wordK, word8, List.replicate, List.set]

/-- Bytes that were made, and hold these. -/
def NB (w : World) (bs : List UInt8) (e : Ending) (w' : World) : Prop := ∃ v, e = .returned v ∧ Bts w' v bs ∧ w.grownBy w' none

set_option maxRecDepth 20000 in
set_option maxHeartbeats 1000000 in
theorem word_any (n : Nat) (w : World) (hn : n ≤ 140737488355328) :
    Calls Try.prog 28 #[.int .i64 (n : Int)] w (NB w (word8 n)) := by
  have hm : (Instr.makeSlice 35 (.int .i64 8) (.int .i64 8)).run Try.prog w = .ok (.slice (some ⟨w.heap.size, 0, none⟩) 8 8) (w.alloc (.cells ((List.replicate 8 (0 : UInt8)).map u8v).toArray 5)) := make_run 8 (by decide) w
  have hb := Blk.made w 5 ((List.replicate 8 (0 : UInt8)).map u8v).toArray
  have HG := Lib.hid (World.grownBy_alloc w (.cells ((List.replicate 8 (0 : UInt8)).map u8v).toArray 5) (some w.heap.size))
  generalize hW : w.alloc (.cells ((List.replicate 8 (0 : UInt8)).map u8v).toArray 5) = w1 at *
  have HB := Lib.hid hb
  have HW := Lib.hid hW
  have HN := Lib.hid hn
  have HGR : Hid (∀ w', w1.grownBy w' (some w.heap.size) → w.grownBy w' none) := Lib.hid (fun w' h => by rw [← HW.out] at h; exact blk_grown h rfl)
  generalize w.heap.size = r at *
  clear hW hb hn HW HG
  go_enter Try.func28, Try.ntmps28
  go_wp2_with fail
  go_loopw [0, 6] (fun x i w' => ∃ k : Nat, k ≤ 8 ∧ i = .int .i64 k ∧ x = .int .i64 ((n / 256 ^ k : Nat) : Int) ∧ w1.grownBy w' (some r) ∧ Blk w' r 5 ((wordK n k).map u8v).toArray) (fun _ i w' => 8 - (intOf i).toNat)
  case atStart => exact ⟨0, Nat.zero_le _, rfl, by rw [Nat.pow_zero, Nat.div_one], World.grownBy.refl _ _, HB.out⟩
  case round =>
    obtain ⟨k, hk1, rfl, rfl, hg, hb⟩ := hrel
    by_cases hlt : k < 8
    · have h1 := wordK_len n k
      have hp : (((wordK n k).map u8v).toArray)[7 - k]? = some (u8v ((wordK n k)[7 - k]'(by omega))) := by simp [List.getElem?_eq_getElem (show 7 - k < (wordK n k).length by omega)]
      obtain ⟨y, hc⟩ : ∃ y, wr.cell? ⟨r, 7 - k, none⟩ = some y := ⟨_, hb.cell hp⟩
      have hf := hb.frozen (7 - k)
      have ht : (7 : Int) - k = ((7 - k : Nat) : Int) := by omega
      have hle : n / 256 ^ k ≤ 140737488355328 := Nat.le_trans (Nat.div_le_self _ _) HN.out
      have hS : n / 256 ^ (k + 1) = n / 256 ^ k / 256 := by rw [Nat.pow_succ, Nat.div_div_eq_div_mul]
      have hWK : wordK n (k + 1) = (wordK n k).set (7 - k) (UInt8.ofNat (n / 256 ^ k)) := rfl
      have HG := Lib.hid hg
      have HB := Lib.hid hb
      have HS := Lib.hid hS
      have HWK := Lib.hid hWK
      have hlt2 : (k : Int) < 8 := by omega
      clear hg hb hp h1 hS hWK
      generalize n / 256 ^ k = m at *
      go_wp2_with fail
      go_roundw
      case rel =>
        have hv : Value.int IntKind.u8 ((m : Int) % 256) = u8v (UInt8.ofNat m) := by
          unfold u8v
          rw [UInt8.toNat_ofNat']
          rfl
        have hb2 := HB.out.set (7 - k) (u8v (UInt8.ofNat m))
        rw [cells_set, ← HWK.out] at hb2
        rw [hv]
        exact ⟨k + 1, by omega, by go_num, by rw [HS.out]; rfl, Lib.grownBy_setB HG.out (7 - k) _, hb2⟩
      case measure => simp [intOf]; omega
    · obtain rfl : k = 8 := by omega
      have HG := Lib.hid hg
      have HB := Lib.hid hb
      clear hlt hg hb
      go_wp2_with fail
      go_ret
      refine ⟨_, rfl, ?_, HGR.out _ HG.out⟩
      have := blk_bts HB.out (by rw [wordK_len]; decide)
      rw [wordK_len, wordK_all] at this
      exact this
end Go.Proofs.Ytdicoojodefacaa
