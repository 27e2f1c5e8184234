/- XdrBack returns true, whatever is written. -/
import Derived.Test.YtdjapbgilcainaaWk
import Derived.Test.YtdjapbgilcainaaPure
namespace Go.Proofs.Ytdjapbgilcainaa
open Go.RowKit

set_option maxHeartbeats 1000000 in
theorem back_long (n : Int) (b : Bool) (s t : ByteArray) (v : Value) (bs : List UInt8) (w : World) (hv : Bts w v bs) (h : 3000 < s.size ∨ 3000 < t.size ∨ 3000 < bs.length) :
    Calls Try.prog 6 #[.int .u64 n, .bool b, .string s, .string t, v] w fun e w' => e = .returned (.bool true) ∧ w.grownBy w' none := by
  obtain ⟨a, c, rfl, hl, hm⟩ := hv.form
  have hm2 : bs.length ≤ 9223372036854775807 := by unfold maxLen at hm; omega
  clear hv hm hl
  generalize bs.length = m at *
  have fin : (3000 < s.size) ∨ (s.size ≤ 3000 ∧ 3000 < t.size) ∨ (s.size ≤ 3000 ∧ t.size ≤ 3000 ∧ 3000 < m) := by omega
  clear h
  rcases fin with h | ⟨h1, h⟩ | ⟨h1, h2, h⟩
  all_goals
    go_enter Try.func6, Try.ntmps6
    go_wp2_with fail
    refine (works_any _).mono ?_; rintro e w1 ⟨rfl, hg⟩
    have HG := Lib.hid hg; clear hg
    go_wp2_with fail
    refine (works_any _).mono ?_; rintro e w2 ⟨rfl, hg⟩
    have HG2 := Lib.hid hg; clear hg
    go_wp2_with fail
    go_ret
    exact ⟨rfl, World.grownBy.trans HG.out HG2.out⟩

/-- What XdrBack writes. -/
def backB (n : Nat) (b : Bool) (s t : List UInt8) : List UInt8 := word4 (n % 4294967296) ++ (longB n ++ (longB (bits64 (wrap64 n)) ++ (flagB b ++ (textB s ++ fixedB t))))

theorem text_str (r : Nat) (g : Option Nat) (st : St) (w : World) (hr : RdrS w r g st) (s : ByteArray) (m : Int) (s' : St) (he : rText m st = (s.data.toList, s')) : Calls Try.prog 25 #[.pointer (some ⟨r, 0, none⟩), .int .i64 m] w (Rd w r g (.string s) s') :=
  text_l r g st w hr m s.data s' he
theorem fixed_str (r : Nat) (g : Option Nat) (st : St) (w : World) (hr : RdrS w r g st) (s : ByteArray) (m : Int) (s' : St) (he : rFixed m st = (s.data.toList, s')) : Calls Try.prog 20 #[.pointer (some ⟨r, 0, none⟩), .int .i64 m] w (Rd w r g (.string s) s') :=
  fixed_l r g st w hr m s.data s' he

set_option maxHeartbeats 4000000 in
theorem back_main (n : Nat) (b : Bool) (s t : ByteArray) (v : Value) (bs : List UInt8) (w : World) (hn : n < 18446744073709551616) (hv : Bts w v bs) (h1 : s.size ≤ 3000) (h2 : t.size ≤ 3000) (h3 : bs.length ≤ 3000) :
    Calls Try.prog 6 #[.int .u64 n, .bool b, .string s, .string t, v] w fun e w' => e = .returned (.bool true) ∧ w.grownBy w' none := by
  obtain ⟨a, c, rfl, hl, hm⟩ := hv.form
  have zs : s.data.toList.length = s.size := by simp
  have zt : t.data.toList.length = t.size := by simp
  have HW : Hid (∀ w, Calls Try.prog 12 #[.slice none 0 0, .int .u32 ((n : Int) % 4294967296)] w (New w (word4 (n % 4294967296)))) := Lib.hid (fun w => by
    have h := Word_any _ [] (n % 4294967296) w (Bts.nil w) (by simp) (by omega)
    rw [show ((n % 4294967296 : Nat) : Int) = (n : Int) % 4294967296 by omega] at h
    exact h)
  have hw0 : -9223372036854775808 ≤ wrap64 (n : Int) ∧ wrap64 (n : Int) ≤ 9223372036854775807 := by unfold wrap64; omega
  have ps := pad_le s.data.toList.length
  have pt := pad_le t.data.toList.length
  have HA : Hid (word4 (n % 4294967296) ++ longB n ++ longB (bits64 (wrap64 n)) ++ flagB b ++ textB s.data.toList ++ fixedB t.data.toList = backB n b s.data.toList t.data.toList) := Lib.hid (by unfold backB; simp only [List.append_assoc])
  have hL : (backB n b s.data.toList t.data.toList).length = 4 + (8 + (8 + (4 + (4 + (s.data.toList.length + pad s.data.toList.length) + (t.data.toList.length + pad t.data.toList.length))))) := by
    unfold backB; simp only [List.length_append, word4_len, longB_len, flagB_len, textB_len, fixedB_len]
  have HZ : Hid ((((backB n b s.data.toList t.data.toList).length : Int) % 4 == 0) = true) := Lib.hid (by
    have m1 := pad_mod s.data.toList.length
    have m2 := pad_mod t.data.toList.length
    rw [hL, beq_iff_eq]; omega)
  have HLB : Hid ((backB n b s.data.toList t.data.toList).length ≤ 7000) := Lib.hid (by omega)
  have E1 : Hid (rWord (some (backB n b s.data.toList t.data.toList ++ bs)) = ((n : Int) % 4294967296, some (longB n ++ (longB (bits64 (wrap64 n)) ++ (flagB b ++ (textB s.data.toList ++ (fixedB t.data.toList ++ bs))))))) := Lib.hid (by
    unfold backB; simp only [List.append_assoc]; rw [rWord_word4 _ (by omega)]; congr 1)
  have E2 : Hid (rLong (some (longB n ++ (longB (bits64 (wrap64 n)) ++ (flagB b ++ (textB s.data.toList ++ (fixedB t.data.toList ++ bs)))))) = ((n : Int), some (longB (bits64 (wrap64 n)) ++ (flagB b ++ (textB s.data.toList ++ (fixedB t.data.toList ++ bs)))))) := Lib.hid (rLong_longB n hn _)
  have E3 : Hid (rInt (some (longB (bits64 (wrap64 n)) ++ (flagB b ++ (textB s.data.toList ++ (fixedB t.data.toList ++ bs))))) = (wrap64 (n : Int), some (flagB b ++ (textB s.data.toList ++ (fixedB t.data.toList ++ bs))))) := Lib.hid (rInt_longB _ hw0.1 hw0.2 _)
  have E4 : Hid (rFlag (some (flagB b ++ (textB s.data.toList ++ (fixedB t.data.toList ++ bs)))) = (b, some (textB s.data.toList ++ (fixedB t.data.toList ++ bs)))) := Lib.hid (rFlag_flagB _ _)
  have E5 : Hid (rText (s.size : Int) (some (textB s.data.toList ++ (fixedB t.data.toList ++ bs))) = (s.data.toList, some (fixedB t.data.toList ++ bs))) := Lib.hid (by
    have h := rText_textB s.data.toList (fixedB t.data.toList ++ bs) (by omega)
    rw [zs] at h; exact h)
  have E6 : Hid (rFixed (t.size : Int) (some (fixedB t.data.toList ++ bs)) = (t.data.toList, some bs)) := Lib.hid (by
    have h := rFixed_fixedB t.data.toList bs
    rw [zt] at h; exact h)
  have HV := Lib.hid hv
  have hn2 : (n : Int) ≤ 18446744073709551615 := by omega
  have HN := Lib.hid hn
  have HD : Hid (rDone (some bs) = ((bs.length : Int) == 0)) := Lib.hid (by cases bs with
    | nil => rfl
    | cons x l => show false = _; symm; rw [beq_eq_false_iff_ne]; rw [List.length_cons]; omega)
  have HLL : Hid (s.data.toList.length ≤ 3000 ∧ t.data.toList.length ≤ 3000 ∧ bs.length ≤ 3000) := Lib.hid ⟨by omega, by omega, h3⟩
  have d1 : decide (3000 < (s.size : Int)) = false := by rw [decide_eq_false_iff_not]; omega
  have d2 : decide (3000 < (t.size : Int)) = false := by rw [decide_eq_false_iff_not]; omega
  have d3 : decide (3000 < (bs.length : Int)) = false := by rw [decide_eq_false_iff_not]; omega
  have A := Lib.hid (All.start w)
  clear hv hm hl hn hw0 ps pt hL zs zt
  generalize hk : bs.length = k at *
  have HK := Lib.hid hk; clear hk
  go_enter Try.func6, Try.ntmps6
  go_wp2_with fail
  refine (works_any _).mono ?_; rintro e w1 ⟨rfl, hg⟩
  replace A := Lib.hid (A.out.new hg); clear hg
  go_wp2_with fail
  refine (HW.out _).mono ?_; rintro e w2 ⟨v2, rfl, ho, hg⟩
  replace A := Lib.hid (A.out.new hg); obtain ⟨a2, n2, c2, rfl⟩ := ho.bts.shape; have HO := Lib.hid ho.bts; clear ho hg
  go_wp2_with fail
  refine (Long_any _ _ n _ HO.out (by simp [word4_len]) HN.out).mono ?_; rintro e w3 ⟨v3, rfl, ho, hg⟩
  replace A := Lib.hid (A.out.new hg); obtain ⟨a3, n3, c3, rfl⟩ := ho.bts.shape; replace HO := Lib.hid ho.bts; clear ho hg
  go_wp2_with fail
  refine (Int_any _ _ (wrap64 (n : Int)) _ HO.out (by simp [word4])).mono ?_; rintro e w4 ⟨v4, rfl, ho, hg⟩
  replace A := Lib.hid (A.out.new hg); obtain ⟨a4, n4, c4, rfl⟩ := ho.bts.shape; replace HO := Lib.hid ho.bts; clear ho hg
  go_wp2_with fail
  refine (Flag_any _ _ b _ HO.out (by simp [word4, longB])).mono ?_; rintro e w5 ⟨v5, rfl, ho, hg⟩
  replace A := Lib.hid (A.out.new hg); obtain ⟨a5, n5, c5, rfl⟩ := ho.bts.shape; replace HO := Lib.hid ho.bts; clear ho hg
  go_wp2_with fail
  refine (Text_any _ _ s _ HO.out (by simp [word4, longB, flagB]) (by omega)).mono ?_; rintro e w6 ⟨v6, rfl, ho, hg⟩
  replace A := Lib.hid (A.out.new hg); obtain ⟨a6, n6, c6, rfl⟩ := ho.bts.shape; replace HO := Lib.hid ho.bts; clear ho hg
  go_wp2_with fail
  have AS : w.heap.size ≤ w6.heap.size := A.out.1.size
  refine (Fixed_any _ _ t _ HO.out (by have := HLL.out.1; have := pad_le s.data.toList.length; simp only [List.length_append, word4_len, longB_len, flagB_len, textB_len]; omega) (by omega)).mono ?_
  intro e w7 h
  obtain ⟨a7, c7, rfl, ho, hg⟩ := (h.from (World.grownBy.refl _ _) HA.out).shape
  replace A := Lib.hid (A.out.new hg)
  have HOW := Lib.hid ho
  have HB := Lib.hid (HV.out.new A.out.1)
  have HS : Hid (w6.heap.size ≤ w7.heap.size) := Lib.hid hg.size
  have HN2 : Hid (Fit (backB n b s.data.toList t.data.toList) bs) := Lib.hid (by unfold Fit; have := HLB.out; have := HLL.out.2.2; have := HK.out; omega)
  have HN3 : Hid ((backB n b s.data.toList t.data.toList ++ bs).length ≤ 100000000000) := Lib.hid (by have := HLB.out; have := HLL.out.2.2; have := HK.out; rw [List.length_append]; omega)
  have HAS : Hid (w.heap.size ≤ w6.heap.size) := Lib.hid AS
  clear ho hg h AS
  have hz := HZ.out
  have hlb := HLB.out
  clear HZ HLB HA HW HO
  generalize (backB n b s.data.toList t.data.toList).length = L at *
  go_wp2_with (at_builtin; refine wpList_append_bts rfl _ _ rfl _ _ _ _ _ rfl rfl HOW.out HB.out HN2.out HS.out ?_; rintro v8 w8 ⟨h6, h7, h8⟩; obtain ⟨a8, n8, c8, rfl⟩ := h6.bts.shape; have H6 := Lib.hid h6.bts; have H7 := Lib.hid h7; clear h6 h7 h8)
  replace A := Lib.hid (All.new (All.start w) (grown_own A.out.1 H7.out (fun m hm => Nat.le_trans HAS.out (HOW.out.lt m hm).1)))
  clear hz hlb
  refine (newReader_any _ _ _ H6.out HN3.out).mono ?_
  rintro e w9 ⟨r, g, rfl, k1, k2, k3, k4, k5⟩
  replace A : Hid (All w w9 [(r, g, some (backB n b s.data.toList t.data.toList ++ bs))]) := Lib.hid (A.out.made k1 k2 k3 k4 k5)
  clear k1 k2 k3 k4 k5
  go_wp2_with fail
  refine (word_l r g _ _ (A.out.get 0 rfl) _ _ E1.out).mono ?_; rintro e w10 ⟨rfl, k1, k2⟩
  replace A := Lib.hid (A.out.read 0 rfl k1 k2); clear k1 k2
  go_wp2_with fail
  refine (long_l r g _ _ (A.out.get 0 rfl) _ _ E2.out).mono ?_; rintro e w11 ⟨rfl, k1, k2⟩
  replace A := Lib.hid (A.out.read 0 rfl k1 k2); clear k1 k2
  go_wp2_with fail
  refine (int_l r g _ _ (A.out.get 0 rfl) _ _ E3.out).mono ?_; rintro e w12 ⟨rfl, k1, k2⟩
  replace A := Lib.hid (A.out.read 0 rfl k1 k2); clear k1 k2
  go_wp2_with fail
  refine (flag_l r g _ _ (A.out.get 0 rfl) _ _ E4.out).mono ?_; rintro e w13 ⟨rfl, k1, k2⟩
  replace A := Lib.hid (A.out.read 0 rfl k1 k2); clear k1 k2
  go_wp2_with fail
  refine (text_str r g _ _ (A.out.get 0 rfl) s _ _ E5.out).mono ?_; rintro e w14 ⟨rfl, k1, k2⟩
  replace A := Lib.hid (A.out.read 0 rfl k1 k2); clear k1 k2
  go_wp2_with fail
  refine (fixed_str r g _ _ (A.out.get 0 rfl) t _ _ E6.out).mono ?_; rintro e w15 ⟨rfl, k1, k2⟩
  replace A := Lib.hid (A.out.read 0 rfl k1 k2); clear k1 k2
  go_wp2_with fail
  refine (ok_l r g _ _ (A.out.get 0 rfl) true rfl).mono ?_; rintro e w16 ⟨rfl, rfl⟩
  go_wp2_with fail
  refine (left_l r g _ _ (A.out.get 0 rfl) (k : Int) (by have := HK.out; show ((bs.length : Nat) : Int) = k; rw [this])).mono ?_; rintro e w17 ⟨rfl, rfl⟩
  go_wp2_with fail
  refine (done_l r g _ _ (A.out.get 0 rfl) _ HD.out).mono ?_; rintro e w18 ⟨rfl, rfl⟩
  go_wp2_with fail
  go_ret
  exact ⟨rfl, A.out.1⟩

theorem wf_u64 {n : Int} (h : (Lit.int .u64 n).wf = true) : 0 ≤ n ∧ n < 18446744073709551616 := by
  simp [Lit.wf, IntKind.min, IntKind.max, IntKind.signed, IntKind.bits] at h
  omega

theorem back_walk (n : Int) (hn : (Lit.int .u64 n).wf = true) (b : Bool) (s : ByteArray) (_hs : s.size ≤ maxLen) (t : ByteArray) (_ht : t.size ≤ maxLen) (v : Value) (bs : List UInt8) (w : World) (hv : Bts w v bs) :
    Calls Try.prog 6 #[.int .u64 n, .bool b, .string s, .string t, v] w fun e w' => e = .returned (.bool true) ∧ w.grownBy w' none := by
  obtain ⟨h0, h1⟩ := wf_u64 hn
  obtain ⟨k, rfl⟩ := Int.eq_ofNat_of_zero_le h0
  by_cases h : 3000 < s.size ∨ 3000 < t.size ∨ 3000 < bs.length
  · exact back_long k b s t v bs w hv h
  · exact back_main k b s t v bs w (by omega) hv (by omega) (by omega) (by omega)
end Go.Proofs.Ytdjapbgilcainaa
