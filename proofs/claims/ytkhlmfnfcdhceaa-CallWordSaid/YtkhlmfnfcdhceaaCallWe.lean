/- CallWord, of any arguments. -/
import Derived.Test.YtkhlmfnfcdhceaaWd0
import Derived.Test.YtkhlmfnfcdhceaaWd1
import Derived.Test.YtkhlmfnfcdhceaaWd2
import Derived.Test.YtkhlmfnfcdhceaaWd3
import Derived.Test.YtkhlmfnfcdhceaaWd4
import Derived.Test.YtkhlmfnfcdhceaaWd5
namespace Go.Proofs.Ytkhlmfnfcdhceaa
open Go.RowKit

set_option maxRecDepth 10000 in
set_option maxHeartbeats 4000000 in
theorem cword_long (c x p : Int) (b : List UInt8) (at_ : Int) (n : Int) (W : World) (hb : b.length ≤ maxLen) (h : 5000 < b.length) :
    Calls Try.prog 7 #[hdV ⟨c, x, p, b⟩, .int .i64 at_, .int .u32 n] W (OK1 W) := by
  have q1 : (b.length : Int) ≤ 9223372036854775807 := by unfold maxLen at hb; omega
  have k : decide (5000 < (b.length : Int)) = true := by simp; omega
  clear h hb
  unfold hdV txt
  · go_enter Try.func7, Try.ntmps7
    go_wp2_with fail
    have hb := Blk.made W 42 #[.int .i64 c, .int .i64 x, .int .i64 p, .string ⟨b.toArray⟩]
    have B_h := Lib.hid hb
    have G := Lib.hid (World.grownBy_alloc W (.cells #[.int .i64 c, .int .i64 x, .int .i64 p, .string ⟨b.toArray⟩] 42) none)
    clear hb
    generalize W.alloc (.cells #[.int .i64 c, .int .i64 x, .int .i64 p, .string ⟨b.toArray⟩] 42) = w0 at *
    generalize W.heap.size = K at *
    refine (works_any _).mono ?_; rintro e w1 ⟨rfl, g1⟩
    replace G := Lib.hid (World.grownBy.trans G.out g1)
    replace B_h := Lib.hid (B_h.out.new g1)
    clear g1
    have c_h_0 := B_h.out.cell (i := 0) (x := .int .i64 c) rfl
    have c_h_1 := B_h.out.cell (i := 1) (x := .int .i64 x) rfl
    have c_h_2 := B_h.out.cell (i := 2) (x := .int .i64 p) rfl
    have c_h_3 := B_h.out.cell (i := 3) (x := .string ⟨b.toArray⟩) rfl
    go_wp2_with fail
    clear B_h
    clear c_h_0 c_h_1 c_h_2 c_h_3
    refine (works_any _).mono ?_; rintro e w2 ⟨rfl, g1⟩
    replace G := Lib.hid (World.grownBy.trans G.out g1)
    clear g1
    go_wp2_with fail
    go_ret
    exact ⟨rfl, G.out⟩

set_option maxRecDepth 10000 in
set_option maxHeartbeats 4000000 in
theorem cword_no (c x p : Int) (b : List UInt8) (at_ : Int) (n : Int) (W : World) (hx : isI x) (hp : isI p) (hb : b.length ≤ 5000) (h : (cWrite ⟨c, x, p, b⟩).2 ≠ 0 ∨ (cWrite ⟨c, x, p, b⟩).2 = 0 ∧ 19 ≤ p) :
    Calls Try.prog 7 #[hdV ⟨c, x, p, b⟩, .int .i64 at_, .int .u32 n] W (OK1 W) := by
  have HW1 := Lib.hid (fun w => Write_any ⟨c, x, p, b⟩ w hx hp (by show b.length ≤ maxLen; unfold maxLen; omega))
  have q1 : (b.length : Int) ≤ 5000 := by omega
  generalize cWrite ⟨c, x, p, b⟩ = r at *
  obtain ⟨t1, e1⟩ := r
  dsimp only at h
  clear hx hp hb
  unfold hdV txt at HW1
  unfold hdV txt
  have key : (e1 != 0) = true ∨ (e1 != 0) = false ∧ decide (19 ≤ p) = true := by
    rcases h with h | ⟨h, h2⟩
    · exact .inl (by simpa using h)
    · exact .inr ⟨by simpa using h, by simpa using h2⟩
  clear h
  rcases key with h | ⟨h, h2⟩
  all_goals
    go_enter Try.func7, Try.ntmps7
    go_wp2_with fail
    have hb := Blk.made W 42 #[.int .i64 c, .int .i64 x, .int .i64 p, .string ⟨b.toArray⟩]
    have B_h := Lib.hid hb
    have G := Lib.hid (World.grownBy_alloc W (.cells #[.int .i64 c, .int .i64 x, .int .i64 p, .string ⟨b.toArray⟩] 42) none)
    clear hb
    generalize W.alloc (.cells #[.int .i64 c, .int .i64 x, .int .i64 p, .string ⟨b.toArray⟩] 42) = w0 at *
    generalize W.heap.size = K at *
    refine (works_any _).mono ?_; rintro e w1 ⟨rfl, g1⟩
    replace G := Lib.hid (World.grownBy.trans G.out g1)
    replace B_h := Lib.hid (B_h.out.new g1)
    clear g1
    have c_h_0 := B_h.out.cell (i := 0) (x := .int .i64 c) rfl
    have c_h_1 := B_h.out.cell (i := 1) (x := .int .i64 x) rfl
    have c_h_2 := B_h.out.cell (i := 2) (x := .int .i64 p) rfl
    have c_h_3 := B_h.out.cell (i := 3) (x := .string ⟨b.toArray⟩) rfl
    go_wp2_with fail
    clear B_h
    clear c_h_0 c_h_1 c_h_2 c_h_3
    have hb := Blk.made w1 25 #[.int .i64 c, .int .i64 x, .int .i64 p, .string ⟨b.toArray⟩]
    have ga := World.grownBy_alloc w1 (.cells #[.int .i64 c, .int .i64 x, .int .i64 p, .string ⟨b.toArray⟩] 25) none
    have hle := G.out.size
    replace G := Lib.hid (World.grownBy.trans G.out ga)
    generalize w1.alloc (.cells #[.int .i64 c, .int .i64 x, .int .i64 p, .string ⟨b.toArray⟩] 25) = w2 at *
    generalize w1.heap.size = K_x at *
    have B_x := Lib.hid hb
    have E_x := Lib.hid hle
    clear hb ga hle
    refine (HW1.out _).mono ?_; rintro e w3 ⟨rfl, g1⟩
    replace G := Lib.hid (World.grownBy.trans G.out g1)
    replace B_x := Lib.hid (B_x.out.new g1)
    clear g1
    try unfold txt
    have c_x_0 := B_x.out.cell (i := 0) (x := .int .i64 c) rfl
    have c_x_1 := B_x.out.cell (i := 1) (x := .int .i64 x) rfl
    have c_x_2 := B_x.out.cell (i := 2) (x := .int .i64 p) rfl
    have c_x_3 := B_x.out.cell (i := 3) (x := .string ⟨b.toArray⟩) rfl
    go_wp2_with fail
    go_ret
    exact ⟨rfl, G.out⟩

theorem cat_one (n : Nat) : cat [n] = word4 n := by simp [cat]

/-- The places a word can have. -/
theorem places (a : Int) : wrap64 ((IntKind.u64.wrap a).tmod 6) = 0 ∨ wrap64 ((IntKind.u64.wrap a).tmod 6) = 1 ∨ wrap64 ((IntKind.u64.wrap a).tmod 6) = 2 ∨ wrap64 ((IntKind.u64.wrap a).tmod 6) = 3 ∨ wrap64 ((IntKind.u64.wrap a).tmod 6) = 4 ∨ wrap64 ((IntKind.u64.wrap a).tmod 6) = 5 := by
  have h0 : 0 ≤ IntKind.u64.wrap a := by rw [IntKind.wrap_u64]; omega
  generalize IntKind.u64.wrap a = v at *
  rw [Int.tmod_eq_emod_of_nonneg h0]
  have h1 : 0 ≤ v % 6 := by omega
  have h2 : v % 6 < 6 := by omega
  generalize v % 6 = m at *
  have e : wrap64 m = m := by unfold wrap64; omega
  rw [e]
  omega

theorem cword_walk (v0 : Value) (a : Int) (_ha : (Lit.int .i64 a).wf = true) (m : Int) (hm : (Lit.int .u32 m).wf = true) (W : World) (k0 : HdIn v0) : Calls Try.prog 7 #[v0, .int .i64 a, .int .u32 m] W fun e w' => e = .returned (.bool true) ∧ W.grownBy w' none := by
  obtain ⟨⟨c, x, p, b⟩, rfl, _, h2, h3, h4⟩ := k0
  dsimp only at h2 h3 h4
  simp [Lit.wf, IntKind.min, IntKind.max, IntKind.signed, IntKind.bits] at hm
  by_cases h5 : 5000 < b.length
  · exact cword_long c x p b a m W h4 h5
  by_cases h6 : (cWrite ⟨c, x, p, b⟩).2 = 0
  · by_cases h7 : 19 ≤ p
    · exact cword_no c x p b a m W h2 h3 (by omega) (.inr ⟨h6, h7⟩)
    · have e : cWrite ⟨c, x, p, b⟩ = ((cWrite ⟨c, x, p, b⟩).1, 0) := Prod.ext rfl h6
      obtain ⟨e1, hc, hx, hp, hb4, hbl⟩ := cWrite_ok e
      dsimp only at hc hx hp hb4 hbl
      rw [e1] at e
      obtain ⟨n, rfl⟩ := Int.eq_ofNat_of_zero_le hm.1
      obtain ⟨c, rfl⟩ := Int.eq_ofNat_of_zero_le (show 0 ≤ c by omega)
      obtain ⟨x, rfl⟩ := Int.eq_ofNat_of_zero_le hx.1
      obtain ⟨p, rfl⟩ := Int.eq_ofNat_of_zero_le hp.1
      have bx := hx.2
      have bp := hp.2
      have bn : n < 4294967296 := by omega
      have hlen := hdB_len ⟨c, x, p, b⟩
      dsimp only at hlen
      obtain ⟨t0, t1, t2, t3, t4, t5⟩ := put_word x 0 284 3 c p n b
      have hB : hdB ⟨c, x, p, b⟩ = six x 0 284 3 c p b := rfl
      rw [← hB] at t0 t1 t2 t3 t4 t5
      have hj : ∀ w0 w1 w2 w3 w4 w5 : Nat, w0 < 4294967296 → w1 < 4294967296 → w2 < 4294967296 → w3 < 4294967296 → w4 < 4294967296 → w5 < 4294967296 → cRead (six w0 w1 w2 w3 w4 w5 b) = cJudge w0 w1 w2 w3 w4 w5 b := fun w0 w1 w2 w3 w4 w5 b0 b1 b2 b3 b4 b5 => by
        rw [cRead_six _ _ _ _ _ _ _ b0 b1 b2 b3 b4 b5, if_neg (by omega)]
      rcases places a with hk | hk | hk | hk | hk | hk
      · refine cword_0 c x p b _ a n W e h2 h3 (by omega) hbl bn (by omega) (by omega) hk (cJudge n 0 284 3 c p b) (by rw [cat_one]; have q := hj n 0 284 3 c p bn (by omega) (by omega) (by omega) (by omega) (by omega); rw [← t0] at q; exact q) ?_
        unfold WordSays0 cJudge
        rw [if_neg (by omega), if_neg (by omega), if_neg (by omega)]
      · refine cword_1 c x p b _ a n W e h2 h3 (by omega) hbl bn (by omega) (by omega) hk (cJudge x n 284 3 c p b) (by rw [cat_one, List.append_assoc, t1]; exact hj x n 284 3 c p (by omega) bn (by omega) (by omega) (by omega) (by omega)) ?_
        unfold WordSays1 cJudge
        by_cases hn : n = 0
        · subst hn
          exact .inl ⟨rfl, by rw [if_neg (by omega), if_neg (by omega), if_neg (by omega)]⟩
        · exact .inr ⟨by simp; omega, by rw [if_pos (.inl hn)]⟩
      · refine cword_2 c x p b _ a n W e h2 h3 (by omega) hbl bn (by omega) (by omega) hk (cJudge x 0 n 3 c p b) (by rw [cat_one, List.append_assoc, t2]; exact hj x 0 n 3 c p (by omega) (by omega) bn (by omega) (by omega) (by omega)) ?_
        unfold WordSays2 cJudge
        by_cases hn : n = 284
        · subst hn
          exact .inl ⟨rfl, by rw [if_neg (by omega), if_neg (by omega), if_neg (by omega)]⟩
        · exact .inr ⟨by simp; omega, by rw [if_neg (by omega), if_pos (.inl hn)]⟩
      · refine cword_3 c x p b _ a n W e h2 h3 (by omega) hbl bn (by omega) (by omega) hk (cJudge x 0 284 n c p b) (by rw [cat_one, List.append_assoc, t3]; exact hj x 0 284 n c p (by omega) (by omega) (by omega) bn (by omega) (by omega)) ?_
        unfold WordSays3 cJudge
        by_cases hn : n = 3
        · subst hn
          exact .inl ⟨rfl, by rw [if_neg (by omega), if_neg (by omega), if_neg (by omega)]⟩
        · exact .inr ⟨by simp; omega, by rw [if_neg (by omega), if_pos (.inr hn)]⟩
      · refine cword_4 c x p b _ a n W e h2 h3 (by omega) hbl bn (by omega) (by omega) hk (cJudge x 0 284 3 n p b) (by rw [cat_one, List.append_assoc, t4]; exact hj x 0 284 3 n p (by omega) (by omega) (by omega) (by omega) bn (by omega)) ?_
        unfold WordSays4 cJudge
        by_cases hn : n < 1
        · exact .inr (.inl ⟨hn, by rw [if_pos (.inr (.inl hn))]⟩)
        · by_cases hn2 : 16 < n
          · exact .inr (.inr ⟨hn2, by rw [if_pos (.inr (.inr hn2))]⟩)
          · exact .inl ⟨by omega, by rw [if_neg (by omega), if_neg (by omega), if_neg (by omega)]⟩
      · refine cword_5 c x p b _ a n W e h2 h3 (by omega) hbl bn (by omega) (by omega) hk (cJudge x 0 284 3 c n b) (by rw [cat_one, List.append_assoc, t5]; exact hj x 0 284 3 c n (by omega) (by omega) (by omega) (by omega) (by omega) bn) ?_
        unfold WordSays5 cJudge
        by_cases hn : n < 19
        · exact .inl ⟨hn, by rw [if_neg (by omega), if_neg (by omega), if_neg (by omega)]⟩
        · exact .inr ⟨by omega, by rw [if_neg (by omega), if_neg (by omega), if_pos (by omega)]⟩
  · exact cword_no c x p b a m W h2 h3 (by omega) (.inl h6)
end Go.Proofs.Ytkhlmfnfcdhceaa
