/- DigestTexts, DigestOn, DigestByte, call by call. -/
import Derived.Test.YtdicoojodefacaaDigW
namespace Go.Proofs.Ytdicoojodefacaa
open Go.RowKit

theorem u64n {a : Int} (h : (Lit.int .u64 a).wf = true) : ∃ n : Nat, a = (n : Int) ∧ n < fnvM := by
  simp [Lit.wf, IntKind.min, IntKind.max, IntKind.signed, IntKind.bits] at h
  exact ⟨a.toNat, by omega, by unfold fnvM; omega⟩
theorem u8n {a : Int} (h : (Lit.int .u8 a).wf = true) : ∃ x : UInt8, a = (x.toNat : Int) := by
  simp [Lit.wf, IntKind.min, IntKind.max, IntKind.signed, IntKind.bits] at h
  exact ⟨UInt8.ofNat a.toNat, by rw [UInt8.toNat_ofNat']; omega⟩
theorem str_of (s : ByteArray) : ∃ l : List UInt8, s = ⟨l.toArray⟩ := ⟨s.data.toList, by apply ByteArray.ext; simp⟩

set_option maxRecDepth 20000 in
set_option maxHeartbeats 1000000 in
theorem texts_long (n : Nat) (l : List UInt8) (w : World) (hm : l.length ≤ maxLen) (h : 5000 < l.length) : Calls Try.prog 7 #[.int .u64 (n : Int), .string ⟨l.toArray⟩] w (OK w) := by
  have HW := Lib.hid (fun w => awake_any w)
  have q1 : (l.length : Int) ≤ 9223372036854775807 := by unfold maxLen at hm; omega
  have k : decide (5000 < (l.length : Int)) = true := by simp; omega
  clear h hm
  go_enter Try.func7, Try.ntmps7
  go_wp2_with fail
  refine (HW.out _).mono ?_; rintro e u1 ⟨rfl, hg⟩
  have G := Lib.hid hg
  clear hg
  go_wp2_with fail
  go_ret
  exact ⟨rfl, G.out⟩

set_option maxRecDepth 10000 in
set_option maxHeartbeats 2000000 in
theorem texts_short (n : Nat) (l : List UInt8) (w : World) (hn : n < fnvM) (h : l.length ≤ 5000) : Calls Try.prog 7 #[.int .u64 (n : Int), .string ⟨l.toArray⟩] w (OK w) := by
  have HW := Lib.hid (fun w => awake_any w)
  have HT := Lib.hid (fun w => text_any n w hn)
  have HP := Lib.hid (fun w => parse_any (dText n) w (by rw [dText_len]; decide))
  rw [parse_text n hn] at HP
  have HL := Lib.hid (fun w => parse_any l w (by unfold maxLen; omega))
  have hlt := dParse_lt l
  have HB := Lib.hid (fun w => text_any (dParse l).1 w hlt)
  have HC : Hid ((dParse l).2 = 0 → dText (dParse l).1 = l) := Lib.hid (fun h => text_parse l _ (by rw [← h]))
  have h2 : (dParse l).2 = 0 ∨ (dParse l).2 = 4 := by
    unfold dParse
    split
    · cases pOf l <;> simp
    · simp
  have k : decide (5000 < (l.length : Int)) = false := by simp; omega
  have q1 : (l.length : Int) ≤ 9223372036854775807 := by omega
  generalize dText n = t at *
  rcases hp : dParse l with ⟨p, f⟩
  rw [hp] at HL HB HC h2
  dsimp only at HB HC h2
  clear h hn hlt hp
  rcases h2 with rfl | rfl
  · have HC2 := HC.out rfl
    rw [HC2] at HB
    clear HC HC2
    go_enter Try.func7, Try.ntmps7
    go_wp2_with fail
    refine (HW.out _).mono ?_; rintro e u1 ⟨rfl, hg⟩
    have G := Lib.hid hg
    clear hg
    go_wp2_with fail
    refine (HT.out _).mono ?_; rintro e u2 ⟨rfl, hg⟩
    replace G := Lib.hid (World.grownBy.trans G.out hg)
    clear hg
    go_wp2_with fail
    refine (HP.out _).mono ?_; rintro e u3 ⟨rfl, hg⟩
    replace G := Lib.hid (World.grownBy.trans G.out hg)
    clear hg
    go_wp2_with fail
    refine (HL.out _).mono ?_; rintro e u4 ⟨rfl, hg⟩
    replace G := Lib.hid (World.grownBy.trans G.out hg)
    clear hg
    go_wp2_with fail
    refine (HB.out _).mono ?_; rintro e u5 ⟨rfl, hg⟩
    replace G := Lib.hid (World.grownBy.trans G.out hg)
    clear hg
    go_wp2_with fail
    go_ret
    exact ⟨rfl, G.out⟩
  · clear HB HC
    go_enter Try.func7, Try.ntmps7
    go_wp2_with fail
    refine (HW.out _).mono ?_; rintro e u1 ⟨rfl, hg⟩
    have G := Lib.hid hg
    clear hg
    go_wp2_with fail
    refine (HT.out _).mono ?_; rintro e u2 ⟨rfl, hg⟩
    replace G := Lib.hid (World.grownBy.trans G.out hg)
    clear hg
    go_wp2_with fail
    refine (HP.out _).mono ?_; rintro e u3 ⟨rfl, hg⟩
    replace G := Lib.hid (World.grownBy.trans G.out hg)
    clear hg
    go_wp2_with fail
    refine (HL.out _).mono ?_; rintro e u4 ⟨rfl, hg⟩
    replace G := Lib.hid (World.grownBy.trans G.out hg)
    clear hg
    go_wp2_with fail
    go_ret
    exact ⟨rfl, G.out⟩

theorem texts_walk (a : Int) (ha : (Lit.int .u64 a).wf = true) (s : ByteArray) (hs : s.size ≤ maxLen) (w : World) : Calls Try.prog 7 #[.int .u64 a, .string s] w (OK w) := by
  obtain ⟨l, rfl⟩ := str_of s
  obtain ⟨n, rfl, hn⟩ := u64n ha
  have hl : l.length ≤ maxLen := hs
  by_cases h : 5000 < l.length
  · exact texts_long n l w hl h
  · exact texts_short n l w hn (by omega)
end Go.Proofs.Ytdicoojodefacaa
