/- Contracts of xdr.Reader's methods: counts, flags, texts. -/
import Derived.Test.YtpklgcinijlmmaaRdr3
import Derived.Test.YtpklgcinijlmmaaUnd
import Derived.LoopTactic
namespace Go.Proofs.Ytpklgcinijlmmaa
open Go.RowKit

set_option maxRecDepth 20000 in
set_option maxHeartbeats 400000 in
theorem count_yes (r : Nat) (g : Option Nat) (a b c d : UInt8) (bs : List UInt8) (m : Int) (w : World) (hr : Rdr w r g (a :: b :: c :: d :: bs) false) (hm : num4 a.toNat b.toNat c.toNat d.toNat ≤ m) :
    Calls Try.prog 77 #[.pointer (some ⟨r, 0, none⟩), .int .i64 m] w (ReadYes w r g (.int .i64 (num4 a.toNat b.toNat c.toNat d.toNat)) bs) := by
  have HT := Lib.hid (word_yes r g a b c d bs w hr)
  clear hr
  obtain ⟨m0, m1⟩ := num4_lt a.toNat b.toNat c.toNat d.toNat a.toNat_lt b.toNat_lt c.toNat_lt d.toNat_lt
  generalize num4 a.toNat b.toNat c.toNat d.toNat = n at *
  go_enter Try.func77, Try.ntmps77
  go_wp2_with (first | (go_at_call 99; refine HT.out.mono ?_; rintro e w' ⟨rfl, h2, h3⟩; have H2 := Lib.hid h2; have H3 := Lib.hid h3; clear h2 h3))
  go_ret
  exact ⟨rfl, H2.out, H3.out⟩

set_option maxRecDepth 20000 in
set_option maxHeartbeats 400000 in
theorem count_far (r : Nat) (g : Option Nat) (a b c d : UInt8) (bs : List UInt8) (m : Int) (w : World) (hr : Rdr w r g (a :: b :: c :: d :: bs) false) (hm : m < num4 a.toNat b.toNat c.toNat d.toNat) :
    Calls Try.prog 77 #[.pointer (some ⟨r, 0, none⟩), .int .i64 m] w (ReadNo w r g (.int .i64 0)) := by
  have HT := Lib.hid (word_yes r g a b c d bs w hr)
  clear hr
  obtain ⟨m0, m1⟩ := num4_lt a.toNat b.toNat c.toNat d.toNat a.toNat_lt b.toNat_lt c.toNat_lt d.toNat_lt
  generalize num4 a.toNat b.toNat c.toNat d.toNat = n at *
  go_enter Try.func77, Try.ntmps77
  go_wp2_with (first
    | (go_at_call 99; refine HT.out.mono ?_; rintro e w' ⟨rfl, h2, h3⟩; obtain ⟨v, h4, _, _, h7, _⟩ := h2; have H4 := Lib.hid h4; have H7 := Lib.hid h7; have H3 := Lib.hid h3; clear h4 h3 h7)
    | (go_at_call 100; refine (fail_any r _ _ _ H4.out).mono ?_; rintro e w2 ⟨rfl, h5, h6⟩; have H5 := Lib.hid h5; have H6 := Lib.hid h6; clear h5 h6))
  go_ret
  exact ⟨rfl, Rdr.failed H5.out H7.out, World.grownBy.trans H3.out H6.out⟩

set_option maxRecDepth 20000 in
set_option maxHeartbeats 400000 in
theorem count_no (r : Nat) (g : Option Nat) (bs : List UInt8) (bad : Bool) (m : Int) (w : World) (hr : Rdr w r g bs bad) (h : bs.length < 4 ∨ bad = true) :
    Calls Try.prog 77 #[.pointer (some ⟨r, 0, none⟩), .int .i64 m] w (ReadNo w r g (.int .i64 0)) := by
  have HT := Lib.hid (word_no r g bs bad w hr h)
  clear hr h
  by_cases hm : m < 0
  · go_enter Try.func77, Try.ntmps77
    go_wp2_with (first
    | (go_at_call 99; refine HT.out.mono ?_; rintro e w' ⟨rfl, h2, h3⟩; obtain ⟨v, h4, _, _, h7, _⟩ := h2; have H4 := Lib.hid h4; have H7 := Lib.hid h7; have H3 := Lib.hid h3; clear h4 h3 h7)
      | (go_at_call 100; refine (fail_any r _ _ _ H4.out).mono ?_; rintro e w2 ⟨rfl, h5, h6⟩; have H5 := Lib.hid h5; have H6 := Lib.hid h6; clear h5 h6))
    go_ret
    exact ⟨rfl, Rdr.failed H5.out H7.out, World.grownBy.trans H3.out H6.out⟩
  · have hm' : 0 ≤ m := by omega
    clear hm
    go_enter Try.func77, Try.ntmps77
    go_wp2_with (first | (go_at_call 99; refine HT.out.mono ?_; rintro e w' ⟨rfl, h2, h3⟩; have H2 := Lib.hid h2; have H3 := Lib.hid h3; clear h2 h3))
    go_ret
    exact ⟨rfl, H2.out, H3.out⟩

/-- How many 00s make whole words. -/
def pad (n : Nat) : Nat := (4 - n % 4) % 4

set_option maxRecDepth 20000 in
set_option maxHeartbeats 400000 in
theorem fixed_short (r : Nat) (g : Option Nat) (bs : List UInt8) (bad : Bool) (n : Int) (w : World) (hr : Rdr w r g bs bad) (h : n < 0 ∨ (bs.length : Int) < n ∨ bad = true) :
    Calls Try.prog 79 #[.pointer (some ⟨r, 0, none⟩), .int .i64 n] w (ReadNo w r g (.string ⟨#[]⟩)) := by
  have HT := Lib.hid (take_no r g n bs bad w hr h)
  clear hr h
  go_enter Try.func79, Try.ntmps79
  go_wp2_with (first | (go_at_call 97; refine HT.out.mono ?_; rintro e w' ⟨rfl, h2, h3⟩; have H2 := Lib.hid h2; have H3 := Lib.hid h3; clear h2 h3))
  go_ret
  exact ⟨rfl, H2.out, H3.out⟩

set_option maxRecDepth 20000 in
theorem fill_any (n : Nat) (w : World) (h1 : n ≤ maxLen) :
    Calls Try.prog 96 #[.int .i64 (n : Int)] w fun e w' => e = .returned (.int .i64 (pad n : Int)) ∧ w = w' := by
  have hp : ((4 - (n : Int) % 4) % 4) = ((pad n : Nat) : Int) := by unfold pad; omega
  unfold maxLen at h1
  have h2 : (n : Int) ≤ 9223372036854775807 := by omega
  clear h1
  have HP := Lib.hid hp; clear hp
  go_enter Try.func96, Try.ntmps96
  go_wp2
  go_ret
  exact ⟨congrArg (fun z => Ending.returned (Value.int IntKind.i64 z)) HP.out, rfl⟩


set_option maxRecDepth 20000 in
set_option maxHeartbeats 400000 in
theorem fixed_edge (r : Nat) (g : Option Nat) (bs : List UInt8) (n : Nat) (w : World) (hr : Rdr w r g bs false) (h : n ≤ bs.length) (hm : bs.length ≤ maxLen) (hp : bs.length < n + pad n) :
    Calls Try.prog 79 #[.pointer (some ⟨r, 0, none⟩), .int .i64 (n : Int)] w (ReadNo w r g (.string ⟨#[]⟩)) := by
  have HT := Lib.hid (take_yes r g n bs w hr (by omega) (by omega))
  have HF := Lib.hid (fun w => fill_any n w (by omega))
  have HP : Hid ((((bs.drop n).length : Nat) : Int) < ((pad n : Nat) : Int)) := Lib.hid (by rw [List.length_drop]; omega)
  clear hr h hm hp
  go_enter Try.func79, Try.ntmps79
  go_wp2_with fail
  refine HT.out.mono ?_; rintro e w' ⟨v1, rfl, h1, h2, h3, h4⟩
  rw [Int.toNat_natCast] at h3
  have HT2 := Lib.hid (take_no r g (pad n : Int) _ _ w' h3 (.inr (.inl HP.out))); have H4 := Lib.hid h4; clear h1 h2 h3 h4
  obtain ⟨q, hq⟩ : ∃ q : Int, q = (pad n : Int) := ⟨_, rfl⟩
  rw [← hq] at HT2 HF; clear hq
  go_wp2_with fail
  refine (HF.out _).mono ?_; rintro e w2 ⟨rfl, rfl⟩
  go_wp2_with fail
  refine HT2.out.mono ?_; rintro e w3 ⟨rfl, h5, h6⟩
  have H5 := Lib.hid h5; have H6 := Lib.hid h6; clear h5 h6
  go_wp2_with fail
  go_ret
  exact ⟨rfl, H5.out, World.grownBy.trans H4.out H6.out⟩

theorem Bts.cell {w : World} {v : Value} {bs : List UInt8} (h : Bts w v bs) (h0 : 0 < bs.length) : ∃ g o c, v = .slice (some ⟨g, o, none⟩) bs.length c ∧ BCells w g o bs := by
  rcases h with ⟨_, h⟩ | ⟨g, o, c, rfl, _, _, h3⟩ | ⟨_, _, h⟩
  rotate_left 2
  · subst h; simp at h0
  · subst h; simp at h0
  · exact ⟨g, o, c, rfl, h3⟩

/-- Behind both takes: the loop over the 00s. -/
def zeros (zs : List UInt8) : Prop := ∀ i (h : i < zs.length), zs[i] = 0

set_option maxRecDepth 20000 in
set_option maxHeartbeats 800000 in
theorem fixed_yes (r : Nat) (g : Option Nat) (bs : List UInt8) (n : Nat) (w : World) (hr : Rdr w r g bs false) (hm : bs.length ≤ maxLen) (hp : n + pad n ≤ bs.length) (hz : zeros ((bs.drop n).take (pad n))) :
    Calls Try.prog 79 #[.pointer (some ⟨r, 0, none⟩), .int .i64 (n : Int)] w (ReadYes w r g (.string ⟨(bs.take n).toArray⟩) (bs.drop (n + pad n))) := by
  have HT := Lib.hid (take_yes r g n bs w hr (by omega) (by omega))
  have HF := Lib.hid (fun w => fill_any n w (by omega))
  have hl : (bs.drop n).length = bs.length - n := by simp
  have HR := Lib.hid (show ((pad n : Nat) : Int) ≤ (bs.drop n).length by omega)
  have hd : (bs.drop n).drop (pad n) = bs.drop (n + pad n) := by simp
  rw [← hd]
  have hl2 : ((bs.drop n).take (pad n)).length ≤ 9223372036854775807 := by unfold maxLen at hm; simp; omega
  clear hr hm hp hl hd
  go_enter Try.func79, Try.ntmps79
  go_wp2_with fail
  refine HT.out.mono ?_; rintro e w' ⟨v1, rfl, h1, h2, h3, h4⟩
  rw [Int.toNat_natCast] at h3 h1
  have HT2 := Lib.hid (take_yes r g (pad n : Int) _ w' h3 (by omega) HR.out); have H4 := Lib.hid h4; have H1 := Lib.hid h1; have H2 := Lib.hid h2; clear h1 h2 h3 h4
  rw [Int.toNat_natCast] at HT2
  generalize List.take (pad n) (List.drop n bs) = zs at *
  generalize List.drop (pad n) (List.drop n bs) = rest at *
  generalize ((pad n : Nat) : Int) = q at *
  generalize List.take n bs = txt at *
  go_wp2_with fail
  refine (HF.out _).mono ?_; rintro e w2 ⟨rfl, rfl⟩
  go_wp2_with fail
  refine HT2.out.mono ?_; rintro e w3 ⟨v2, rfl, h5, h6, h7, h8⟩
  have h1 := H1.out.kept h8 H2.out
  have HS := Lib.hid (h1.str und22 und5 und9)
  have H7 := Lib.hid h7; have H8 := Lib.hid h8; clear h6 h7 h8 h1
  by_cases h0 : 0 < zs.length
  · obtain ⟨g, o, c, rfl, hc⟩ := h5.cell h0
    have hcell : ∀ k, k < zs.length → w3.cell? ⟨g, o + k, none⟩ = some (.int .u8 0) := fun k hk => by rw [hc k hk, hz k hk]; rfl
    clear hc h5 hz
    generalize zs.length = l at *
    clear h0
    go_wp2_with fail
    go_loop [29] (fun i => ∃ k : Nat, k ≤ l ∧ i = .int .i64 k) (fun i => l - (intOf i).toNat)
    case atStart => exact ⟨0, Nat.zero_le _, rfl⟩
    case round =>
      obtain ⟨k, hk, rfl⟩ := hrel
      have hcl := hcell k
      clear hcell
      by_cases hlt : k < l
      · have hcl := hcl hlt
        go_wp2
        go_round
        case rel => exact ⟨k + 1, by omega, by go_num⟩
        case measure => simp [intOf]; omega
      · clear hcl
        have hs := HS.out
        go_wp2
        go_ret
        exact ⟨rfl, H7.out, World.grownBy.trans H4.out H8.out⟩
  · obtain ⟨a2, c2, rfl, _, _⟩ := h5.form
    obtain rfl : zs = [] := by cases zs with
      | nil => rfl
      | cons x l => simp at h0
    clear h0 h5 hl2 hz
    go_wp2_with fail
    go_loop [29] (fun i => i = .int .i64 0) (fun i => 0)
    case atStart => rfl
    case round =>
      obtain rfl := hrel
      have hs := HS.out
      go_wp2
      go_ret
      exact ⟨rfl, H7.out, World.grownBy.trans H4.out H8.out⟩

end Go.Proofs.Ytpklgcinijlmmaa
