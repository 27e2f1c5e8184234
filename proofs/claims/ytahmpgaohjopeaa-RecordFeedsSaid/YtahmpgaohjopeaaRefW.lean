/- The document's own writers. -/
import Derived.Test.YtahmpgaohjopeaaMsB
namespace Go.Proofs.Ytahmpgaohjopeaa
open Go.RowKit

theorem fragB_short (s : List UInt8) (last : Bool) (h : s.length ≤ 65535) : fragB s last = [if last = true then 128 else 0, 0, UInt8.ofNat (s.length / 256), UInt8.ofNat s.length] ++ s := by
  unfold fragB word4
  cases last
  · simp only [Bool.false_eq_true, if_false, Nat.add_zero]
    rw [show s.length / 16777216 = 0 by omega, show s.length / 65536 = 0 by omega]
    rfl
  · simp only [if_true]
    congr 2
    · rw [show (s.length + 2147483648) / 16777216 = 128 by omega]; rfl
    congr 1
    · apply UInt8.toNat_inj.1
      simp only [UInt8.toNat_ofNat']
      have : (s.length + 2147483648) / 65536 = 32768 := by omega
      rw [this]; rfl
    congr 1
    · apply UInt8.toNat_inj.1
      simp only [UInt8.toNat_ofNat']
      omega
    congr 1
    · apply UInt8.toNat_inj.1
      simp only [UInt8.toNat_ofNat']
      omega

theorem conv_four (w : World) (n : Nat) (hn : n ≤ 4096) (b : UInt8) (x : Int) (hx : x = (b.toNat : Int)) :
    (convert 30 9 (.slice (some ⟨w.heap.size, 0, none⟩) 4 4)).run Try.prog (w.alloc (.cells #[.int .u8 x, .int .u8 ((n : Int) / 65536), .int .u8 ((n : Int) / 256), .int .u8 ((n : Int) % 256)] 5)) =
      .ok (.string ⟨#[b, 0, UInt8.ofNat (n / 256), UInt8.ofNat n]⟩) (w.alloc (.cells #[.int .u8 x, .int .u8 ((n : Int) / 65536), .int .u8 ((n : Int) / 256), .int .u8 ((n : Int) % 256)] 5)) := by
  have e1 : ((n : Int) / 65536) = ((0 : UInt8).toNat : Int) := by simp; omega
  have e2 : ((n : Int) / 256) = ((UInt8.ofNat (n / 256)).toNat : Int) := by simp only [UInt8.toNat_ofNat']; omega
  have e3 : ((n : Int) % 256) = ((UInt8.ofNat n).toNat : Int) := by simp only [UInt8.toNat_ofNat']; omega
  rw [hx, e1, e2, e3]
  exact (bts_four (t := 5) b 0 (UInt8.ofNat (n / 256)) (UInt8.ofNat n) (heap_alloc_new w _)).str und22 und5 und9

theorem ba_app (l : List UInt8) (s : ByteArray) : (⟨l.toArray⟩ : ByteArray) ++ s = ⟨(l ++ s.data.toList).toArray⟩ := by
  apply ByteArray.ext
  apply Array.ext'
  simp

set_option maxHeartbeats 800000 in
theorem fragment_ref (s : ByteArray) (last : Bool) (w : World) (hs : s.size ≤ 4096) :
    Calls Try.prog 24 #[.string s, .bool last] w fun e w' => e = .returned (.string ⟨(fragB s.data.toList last).toArray⟩) ∧ w.grownBy w' none := by
  have hs' : (s.size : Int) ≤ 4096 := by omega
  have hf := fragB_short s.data.toList last (by simp; omega)
  have HF := Lib.hid hf; clear hf
  cases last with
  | false =>
    go_enter Try.func24, Try.ntmps24
    have hc := conv_four w s.size hs 0 ((s.size : Int) / 16777216) (by simp; omega)
    go_wp2_with fail
    go_ret
    refine ⟨?_, World.grownBy_alloc _ _ _⟩
    rw [HF.out]
    show Ending.returned (.string ((⟨[0, 0, UInt8.ofNat (s.size / 256), UInt8.ofNat s.size].toArray⟩ : ByteArray) ++ s)) = _
    rw [ba_app]
    simp
  | true =>
    go_enter Try.func24, Try.ntmps24
    have hc := conv_four w s.size hs 128 ((s.size : Int) / 16777216 + 128) (by simp; omega)
    go_wp2_with fail
    go_ret
    refine ⟨?_, World.grownBy_alloc _ _ _⟩
    rw [HF.out]
    show Ending.returned (.string ((⟨[128, 0, UInt8.ofNat (s.size / 256), UInt8.ofNat s.size].toArray⟩ : ByteArray) ++ s)) = _
    rw [ba_app]
    simp

/-- What the document's writers answer. -/
def WroteT (w : World) (p : List UInt8 × Int) (e : Ending) (w' : World) : Prop := e = .returned (.tuple #[txt p.1, .int .i64 p.2]) ∧ w.grownBy w' none

set_option maxHeartbeats 400000 in
theorem write_ref (s : ByteArray) (w : World) (hs : s.size ≤ 1000000000000) : Calls Try.prog 19 #[.string s] w (WroteT w (writeR s.data.toList)) := by
  have hs' : (s.size : Int) ≤ 1000000000000 := by omega
  unfold writeR
  by_cases h : 4096 < s.size
  · rw [if_pos (by simpa using h)]
    have h' : (4096 : Int) < s.size := by omega
    go_enter Try.func19, Try.ntmps19
    go_wp2_with fail
    go_ret2
    exact ⟨rfl, World.grownBy.refl _ _⟩
  · rw [if_neg (by simpa using h)]
    have h' : (s.size : Int) ≤ 4096 := by omega
    go_enter Try.func19, Try.ntmps19
    go_wp2_with fail
    refine (fragment_ref s true w (by omega)).mono ?_; rintro e w2 ⟨rfl, h2⟩
    have H2 := Lib.hid h2; clear h2
    go_wp2_with fail
    go_ret2
    exact ⟨rfl, H2.out⟩

set_option maxHeartbeats 800000 in
theorem cut_ref_ok (s : ByteArray) (n : Nat) (w : World) (hs : s.size ≤ 4096) (h0 : 0 < n) (hn : n ≤ 9223372036854775807) :
    Calls Try.prog 21 #[.string s, .int .i64 n] w (WroteT w (cutB n s.data.toList, 0)) := by
  have hs' : (s.size : Int) ≤ 4096 := by omega
  have h0' : (1 : Int) ≤ n := by omega
  have hn' : (n : Int) ≤ 9223372036854775807 := by omega
  go_enter Try.func21, Try.ntmps21
  go_wp2_with fail
  go_loopw [0, 6] (fun sv bv w' => ∃ (rest acc : ByteArray), sv = .string rest ∧ bv = .string acc ∧ acc.data.toList ++ cutB n rest.data.toList = cutB n s.data.toList ∧ w.grownBy w' none ∧ acc.size + 5 * rest.size ≤ 5 * s.size) (fun sv _ _ => match sv with | .string r => r.size | _ => 0)
  case atStart => exact ⟨s, ⟨#[]⟩, rfl, rfl, rfl, World.grownBy.refl _ _, by show 0 + _ ≤ _; omega⟩
  case round =>
    obtain ⟨rest, acc, rfl, rfl, hacc, hgr, hlen⟩ := hrel
    have hr4 : (rest.size : Int) ≤ 4096 := by omega
    have HA := Lib.hid hacc; have HG := Lib.hid hgr
    clear hacc hgr
    by_cases hlt : n < rest.size
    · have hlt' : (n : Int) < rest.size := by omega
      have hx : (rest.extract 0 n).size = n := by simp; omega
      have HFR := Lib.hid (fun w => fragment_ref (rest.extract 0 n) false w (by omega))
      rw [ext_take] at HFR
      obtain ⟨t, ht⟩ : ∃ t : ByteArray, t = ⟨(fragB (rest.data.toList.take n) false).toArray⟩ := ⟨_, rfl⟩
      have htl : t.data.toList = fragB (rest.data.toList.take n) false := by rw [ht]
      have hts : t.size = 4 + n := by rw [ht]; show (fragB _ _).length = _; rw [fragB_len, List.length_take]; simp; omega
      rw [← ht] at HFR
      have hac : (acc.size : Int) ≤ 20480 := by omega
      have hts' : (t.size : Int) ≤ 5000 := by omega
      have HTL := Lib.hid htl
      clear hx ht htl
      go_wp2_with fail
      refine (HFR.out _).mono ?_; rintro e w2 ⟨rfl, h2⟩
      have H2 := Lib.hid h2; clear h2 HFR
      go_wp2_with fail
      go_roundw
      case rel =>
        refine ⟨rest.extract n rest.size, _, rfl, rfl, ?_, World.grownBy.trans HG.out H2.out, by simp; omega⟩
        have hA := HA.out
        rw [cutB_step n _ (by omega) (by simpa using hlt)] at hA
        rw [← hA, ext_drop, ← HTL.out]
        simp
      case measure => simp; omega
    · have hlt' : (rest.size : Int) ≤ n := by omega
      have HFR := Lib.hid (fun w => fragment_ref rest true w (by omega))
      obtain ⟨t, ht⟩ : ∃ t : ByteArray, t = ⟨(fragB rest.data.toList true).toArray⟩ := ⟨_, rfl⟩
      have htl : t.data.toList = fragB rest.data.toList true := by rw [ht]
      have hts : t.size = 4 + rest.size := by rw [ht]; show (fragB _ _).length = _; rw [fragB_len]; simp
      rw [← ht] at HFR
      have hac : (acc.size : Int) ≤ 20480 := by omega
      have hts' : (t.size : Int) ≤ 5000 := by omega
      have HTL := Lib.hid htl
      clear ht htl
      go_wp2_with fail
      refine (HFR.out _).mono ?_; rintro e w2 ⟨rfl, h2⟩
      have H2 := Lib.hid h2; clear h2
      go_wp2_with fail
      go_ret2
      refine ⟨?_, World.grownBy.trans HG.out H2.out⟩
      have hA := HA.out
      rw [cutB_end n rest.data.toList (by simpa using hlt)] at hA
      rw [← hA, ← HTL.out]
      show Ending.returned (.tuple #[.string (acc ++ t), .int .i64 0]) = _
      rw [show acc = (⟨acc.data.toList.toArray⟩ : ByteArray) by simp, ba_app]
      simp [txt]

theorem cut_ref (s : ByteArray) (n : Int) (w : World) (hs : s.size ≤ 1000000000000) (hn : n ≤ 9223372036854775807) :
    Calls Try.prog 21 #[.string s, .int .i64 n] w (WroteT w (cutR s.data.toList n)) := by
  have hs2 : (s.size : Int) ≤ 1000000000000 := by omega
  unfold cutR
  by_cases h1 : 4096 < s.size
  · rw [if_pos (by simpa using h1)]
    have h' : (4096 : Int) < s.size := by omega
    go_enter Try.func21, Try.ntmps21
    go_wp2_with fail
    go_ret2
    exact ⟨rfl, World.grownBy.refl _ _⟩
  · rw [if_neg (by simpa using h1)]
    have h' : (s.size : Int) ≤ 4096 := by omega
    by_cases h2 : n < 1
    · rw [if_pos h2]
      go_enter Try.func21, Try.ntmps21
      go_wp2_with fail
      go_ret2
      exact ⟨rfl, World.grownBy.refl _ _⟩
    · rw [if_neg h2]
      obtain ⟨k, rfl⟩ := Int.eq_ofNat_of_zero_le (show 0 ≤ n by omega)
      exact cut_ref_ok s k w (by omega) (by omega) (by omega)
end Go.Proofs.Ytahmpgaohjopeaa
