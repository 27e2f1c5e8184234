/- put, Cut, Write. -/
import Derived.Test.YtahmpgaohjopeaaFeed
import Derived.Lib.AppendStr
namespace Go.Proofs.Ytahmpgaohjopeaa
open Go.RowKit

/-- A fragment's bytes. -/
def fragB (s : List UInt8) (last : Bool) : List UInt8 := word4 (s.length + if last = true then 2147483648 else 0) ++ s

theorem fragB_len (s : List UInt8) (last : Bool) : (fragB s last).length = 4 + s.length := by simp [fragB, word4]; omega

/-- A record in fragments. -/
def cutB (size : Nat) (s : List UInt8) : List UInt8 :=
  if h : size = 0 ∨ s.length ≤ size then fragB s true else fragB (s.take size) false ++ cutB size (s.drop size)
termination_by s.length
decreasing_by simp; omega

theorem inf5z : ∃ i : TypeInfo, Try.prog.info? 5 = some i ∧ i.zero = some (.int .u8 0) ∧ i.size = 1 ∧ i.bytes = 1 := by
  obtain ⟨i, h, h0, h1, h2⟩ := info_parts inf5
  exact ⟨i, h, h0, h1, h2⟩

theorem strCells_u8v (s : ByteArray) : Lib.strCells s = s.data.toList.map u8v := by
  simp [Lib.strCells, u8v]

def bitOf (last : Bool) : Nat := if last = true then 2147483648 else 0

theorem or_bit (n : Nat) (last : Bool) (h : n < 2147483648) : bits BinOp.or IntKind.u32 (n : Int) (bitOf last : Int) = ((n + bitOf last : Nat) : Int) := by
  rw [u32_or_nat n (bitOf last) (by omega) (by unfold bitOf; split <;> omega)]
  congr 1
  cases last with
  | false => simp [bitOf]
  | true =>
    have := Nat.two_pow_add_eq_or_of_lt (i := 31) (b := n) (by omega) 1
    simp only [bitOf, if_true]
    rw [Nat.or_comm, show (2147483648 : Nat) = 2 ^ 31 * 1 from rfl]
    omega

set_option maxHeartbeats 800000 in
theorem put_any (w0 : World) (v : Value) (bs : List UInt8) (s : ByteArray) (last : Bool) (w : World) (hg : w0.grownBy w none) (hv : Own w w0.heap.size v bs) (hb : bs.length ≤ 100000000000) (hs : s.size ≤ 1000000) :
    Calls Try.prog 25 #[v, .string s, .int .u32 (bitOf last)] w fun e w' => ∃ v', e = .returned v' ∧ Own w' w0.heap.size v' (bs ++ fragB s.data.toList last) ∧ w0.grownBy w' none := by
  have ho := or_bit s.size last (by omega)
  have hn : s.size + bitOf last < 4294967296 := by unfold bitOf; split <;> omega
  have HW := Lib.hid (fun w => Word_any (.slice none 0 0) [] (s.size + bitOf last) w (Bts.nil w) (by simp) hn)
  obtain ⟨i, hi, hz0, hz1, hz2⟩ := inf5z
  have hs' : (s.size : Int) ≤ 1000000 := by omega
  have HG := Lib.hid hg; have HV := Lib.hid hv
  have hfrag : word4 (s.size + bitOf last) ++ s.data.toList = fragB s.data.toList last := by simp [fragB, bitOf]
  have HF := Lib.hid hfrag
  obtain ⟨a, m, c, rfl⟩ := hv.bts.shape
  have HBL := Lib.hid hb
  have HU := Lib.hid und22; have HU9 := Lib.hid und9
  clear hg hv hfrag hb
  generalize hN : s.size + bitOf last = N at *
  generalize hB : ((bitOf last : Nat) : Int) = B at *
  go_enter Try.func25, Try.ntmps25
  go_wp2_with fail
  refine (HW.out _).mono ?_; rintro e w2 ⟨v2, rfl, h1, h2⟩
  have hg2 := World.grownBy.trans HG.out h2
  have hv2 := HV.out.new h2
  obtain ⟨a2, m2, c2, rfl⟩ := h1.bts.shape
  have HV2 := Lib.hid hv2; have HG2 := Lib.hid hg2; have H1 := Lib.hid h1.bts
  have HL2 : Hid (bs.length + ([] ++ word4 N).length ≤ 140737488355328) := Lib.hid (by have := HBL.out; simp [word4]; omega)
  have HL3 : Hid ((bs ++ ([] ++ word4 N)).length + s.size ≤ 140737488355328) := Lib.hid (by have := HBL.out; simp [word4]; omega)
  clear h1 h2 hg2 hv2
  go_wp2_with (first
    | (at_builtin; refine wpList_append_bts rfl _ _ rfl _ _ _ _ _ rfl rfl HV2.out H1.out HL2.out HG2.out.size ?_; rintro v5 w5 ⟨h6, h7, h8⟩; obtain ⟨a5, n5, c5, rfl⟩ := h6.bts.shape; have hg5 := grown_own HG2.out h7 (fun m hm => (HV2.out.lt m hm).1); have H6 := Lib.hid h6; have HG5 := Lib.hid hg5; clear h6 h7 h8 hg5)
    | (at_builtin; refine Lib.wpList_append_own_string _ rfl _ _ 30 9 rfl w0.heap.size 5 i und22 und9 hi hz0 hz1 hz2 _ _ _ rfl H6.out s rfl (by have := HL3.out; unfold maxLen; omega) HL3.out HG5.out.size ?_; rintro v7 w7 h8 h9 _; have HO := Lib.hid h8; have HG7 := Lib.hid (grown_own HG5.out h9 (fun m hm => (H6.out.lt m hm).1)); clear h8 h9))
  go_ret
  refine ⟨v7, rfl, ?_, HG7.out⟩
  have h := HO.out
  rw [← HF.out]
  unfold Own
  rw [strCells_u8v, ← List.map_append] at h
  simpa [List.append_assoc, Nat.add_assoc] using h

theorem ext_take (s : ByteArray) (n : Nat) : (s.extract 0 n).data.toList = s.data.toList.take n := by simp
theorem ext_drop (s : ByteArray) (n : Nat) : (s.extract n s.size).data.toList = s.data.toList.drop n := by
  simp
  rw [List.take_of_length_le]
  simp

theorem cutB_step (size : Nat) (s : List UInt8) (h0 : size ≠ 0) (h : size < s.length) : cutB size s = fragB (s.take size) false ++ cutB size (s.drop size) := by
  rw [cutB, dif_neg (by omega)]
theorem cutB_end (size : Nat) (s : List UInt8) (h : s.length ≤ size) : cutB size s = fragB s true := by
  rw [cutB, dif_pos (.inr h)]

set_option maxHeartbeats 800000 in
theorem cut_ok (s : ByteArray) (n : Nat) (w : World) (hs : s.size ≤ 4096) (h0 : 0 < n) (hn : n ≤ 9223372036854775807) :
    Calls Try.prog 20 #[.string s, .int .i64 n] w fun e w' => ∃ v, e = .returned (.tuple #[v, .int .i64 0]) ∧ Own w' w.heap.size v (cutB n s.data.toList) ∧ w.grownBy w' none := by
  have hs' : (s.size : Int) ≤ 4096 := by omega
  have h0' : (1 : Int) ≤ n := by omega
  have hn' : (n : Int) ≤ 9223372036854775807 := by omega
  go_enter Try.func20, Try.ntmps20
  go_wp2_with fail
  go_loopw [0, 6] (fun sv bv w' => ∃ (rest : ByteArray) (acc : List UInt8), sv = .string rest ∧ Own w' w.heap.size bv acc ∧ acc ++ cutB n rest.data.toList = cutB n s.data.toList ∧ w.grownBy w' none ∧ acc.length + 5 * rest.size ≤ 5 * s.size) (fun sv _ _ => match sv with | .string r => r.size | _ => 0)
  case atStart => exact ⟨s, [], rfl, Own.nil _ _, rfl, World.grownBy.refl _ _, by simp⟩
  case round =>
    obtain ⟨rest, acc, rfl, hown, hacc, hgr, hlen⟩ := hrel
    have hr4 : (rest.size : Int) ≤ 4096 := by omega
    obtain ⟨a, m, c, rfl⟩ := hown.bts.shape
    have HO := Lib.hid hown; have HA := Lib.hid hacc; have HG := Lib.hid hgr; have HL := Lib.hid hlen
    clear hown hacc hgr hlen
    by_cases hlt : n < rest.size
    · have hlt' : (n : Int) < rest.size := by omega
      go_wp2_with fail
      have hx : (rest.extract 0 n).size = n := by simp; omega
      refine (put_any w _ acc (rest.extract 0 n) false _ HG.out HO.out (by have := HL.out; omega) (by omega)).mono ?_; rintro e w2 ⟨v2, rfl, h1, h2⟩
      obtain ⟨a2, m2, c2, rfl⟩ := h1.bts.shape
      have H1 := Lib.hid h1; have H2 := Lib.hid h2; have HX := Lib.hid hx
      clear h1 h2 hx
      go_wp2_with fail
      go_roundw
      case rel =>
        refine ⟨rest.extract n rest.size, acc ++ fragB (rest.extract 0 n).data.toList false, rfl, H1.out, ?_, H2.out, ?_⟩
        · have hA := HA.out
          rw [cutB_step n _ (by omega) (by simpa using hlt)] at hA
          rw [← hA, List.append_assoc, ext_take, ext_drop]
        · have := HL.out
          rw [List.length_append, fragB_len, ext_take]
          simp
          omega
      case measure => simp; omega
    · have hlt' : (rest.size : Int) ≤ n := by omega
      go_wp2_with fail
      refine (put_any w _ acc rest true _ HG.out HO.out (by have := HL.out; omega) (by omega)).mono ?_; rintro e w2 ⟨v2, rfl, h1, h2⟩
      obtain ⟨a2, m2, c2, rfl⟩ := h1.bts.shape
      have H1 := Lib.hid h1; have H2 := Lib.hid h2
      clear h1 h2
      go_wp2_with fail
      go_ret2
      refine ⟨_, rfl, ?_, H2.out⟩
      rw [← HA.out, cutB_end n _ (by simpa using hlt)]
      exact H1.out

set_option maxHeartbeats 400000 in
theorem cut_large (s : ByteArray) (n : Int) (w : World) (hs : 4096 < s.size) (hs2 : s.size ≤ 9223372036854775807) :
    Calls Try.prog 20 #[.string s, .int .i64 n] w fun e w' => e = .returned (.tuple #[.slice none 0 0, .int .i64 40]) ∧ w = w' := by
  have hs' : (4096 : Int) < s.size := by omega
  have hs2' : (s.size : Int) ≤ 9223372036854775807 := by omega
  go_enter Try.func20, Try.ntmps20
  go_wp2_with fail
  go_ret2
  exact ⟨rfl, rfl⟩

set_option maxHeartbeats 400000 in
theorem cut_arg (s : ByteArray) (n : Int) (w : World) (hs : s.size ≤ 4096) (hn : n < 1) :
    Calls Try.prog 20 #[.string s, .int .i64 n] w fun e w' => e = .returned (.tuple #[.slice none 0 0, .int .i64 1]) ∧ w = w' := by
  have hs' : (s.size : Int) ≤ 4096 := by omega
  go_enter Try.func20, Try.ntmps20
  go_wp2_with fail
  go_ret2
  exact ⟨rfl, rfl⟩

/-- What Cut answers. -/
def cutR (s : List UInt8) (n : Int) : List UInt8 × Int := if 4096 < s.length then ([], 40) else if n < 1 then ([], 1) else (cutB n.toNat s, 0)

/-- Bytes and an error, told. -/
def Wrote (w : World) (p : List UInt8 × Int) (e : Ending) (w' : World) : Prop := ∃ v, e = .returned (.tuple #[v, .int .i64 p.2]) ∧ Own w' w.heap.size v p.1 ∧ w.grownBy w' none

theorem cut_any (s : ByteArray) (n : Int) (w : World) (hs : s.size ≤ 1000000000000) (hn : n ≤ 9223372036854775807) :
    Calls Try.prog 20 #[.string s, .int .i64 n] w (Wrote w (cutR s.data.toList n)) := by
  unfold cutR
  by_cases h1 : 4096 < s.size
  · rw [if_pos (by simpa using h1)]
    refine (cut_large s n w h1 (by omega)).mono ?_
    rintro e w' ⟨rfl, rfl⟩
    exact ⟨_, rfl, Own.nil _ _, World.grownBy.refl _ _⟩
  · rw [if_neg (by simpa using h1)]
    by_cases h2 : n < 1
    · rw [if_pos h2]
      refine (cut_arg s n w (by omega) h2).mono ?_
      rintro e w' ⟨rfl, rfl⟩
      exact ⟨_, rfl, Own.nil _ _, World.grownBy.refl _ _⟩
    · rw [if_neg h2]
      obtain ⟨k, rfl⟩ := Int.eq_ofNat_of_zero_le (show 0 ≤ n by omega)
      exact cut_ok s k w (by omega) (by omega) (by omega)

def writeR (s : List UInt8) : List UInt8 × Int := if 4096 < s.length then ([], 40) else (fragB s true, 0)

theorem cutR_write (s : List UInt8) : cutR s (max (s.length : Int) 1) = writeR s := by
  unfold cutR writeR
  by_cases h1 : 4096 < s.length
  · rw [if_pos h1, if_pos h1]
  · rw [if_neg h1, if_neg h1, if_neg (by omega), cutB_end _ _ (by omega)]

set_option maxHeartbeats 400000 in
theorem write_any (s : ByteArray) (w : World) (hs : s.size ≤ 1000000000000) :
    Calls Try.prog 18 #[.string s] w (Wrote w (writeR s.data.toList)) := by
  have HC := Lib.hid (cut_any s (max (s.size : Int) 1) w hs (by omega))
  have he : cutR s.data.toList (max (s.size : Int) 1) = writeR s.data.toList := by
    have := cutR_write s.data.toList
    simpa using this
  rw [he] at HC
  have hs' : (s.size : Int) ≤ 1000000000000 := by omega
  clear he
  generalize writeR s.data.toList = p at *
  by_cases h1 : (1 : Int) ≤ s.size
  · rw [show max (s.size : Int) 1 = s.size by omega] at HC
    go_enter Try.func18, Try.ntmps18
    go_wp2_with fail
    refine HC.out.mono ?_; rintro e w2 ⟨v2, rfl, k1, k2⟩
    obtain ⟨a2, m2, c2, rfl⟩ := k1.bts.shape
    have K1 := Lib.hid k1; have K2 := Lib.hid k2; clear k1 k2
    go_wp2_with fail
    go_ret2
    exact ⟨_, rfl, K1.out, K2.out⟩
  · obtain h0 : s.size = 0 := by omega
    rw [show max (s.size : Int) 1 = 1 by omega] at HC
    go_enter Try.func18, Try.ntmps18
    go_wp2_with fail
    refine HC.out.mono ?_; rintro e w2 ⟨v2, rfl, k1, k2⟩
    obtain ⟨a2, m2, c2, rfl⟩ := k1.bts.shape
    have K1 := Lib.hid k1; have K2 := Lib.hid k2; clear k1 k2
    go_wp2_with fail
    go_ret2
    exact ⟨_, rfl, K1.out, K2.out⟩
end Go.Proofs.Ytahmpgaohjopeaa
