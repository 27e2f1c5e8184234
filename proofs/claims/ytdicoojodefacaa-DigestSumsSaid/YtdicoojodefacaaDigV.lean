/- DigestSums, call by call. -/
import Derived.Test.YtdicoojodefacaaDigT
import Derived.Test.YtdicoojodefacaaDigR
namespace Go.Proofs.Ytdicoojodefacaa
open Go.RowKit

/-- Are parts more than a statement sums? -/
def isLong (ps : List (List UInt8)) : Bool := decide (100 < ps.length) || ps.any (fun p => decide (2000 < p.length))
theorem isLong_many {ps : List (List UInt8)} (h : 100 < ps.length) : isLong ps = true := by simp [isLong, h]
theorem isLong_one {ps : List (List UInt8)} {k : Nat} (hk : k < ps.length) (h : 2000 < ps[k].length) : isLong ps = true := by
  unfold isLong
  rw [Bool.or_eq_true]
  right
  exact List.any_eq_true.2 ⟨ps[k], List.getElem_mem hk, by simpa using h⟩
theorem isLong_no {ps : List (List UInt8)} (h : ps.length ≤ 100) (h2 : ∀ i (h : i < ps.length), ps[i].length ≤ 2000) : isLong ps = false := by
  unfold isLong
  rw [Bool.or_eq_false_iff]
  refine ⟨by simp; omega, List.any_eq_false.2 fun p hp => ?_⟩
  obtain ⟨i, hi, rfl⟩ := List.getElem_of_mem hp
  have := h2 i hi
  simp
  omega
theorem isLong_no' {ps : List (List UInt8)} (h : isLong ps = false) : ps.length ≤ 100 ∧ ∀ p ∈ ps, p.length ≤ 2000 := by
  unfold isLong at h
  rw [Bool.or_eq_false_iff] at h
  refine ⟨by simpa using h.1, fun p hp => ?_⟩
  have := List.any_eq_false.1 h.2 p hp
  simpa using this

/-- The answer is this, and of what was there nothing has turned. -/
def BL (w : World) (b : Bool) (e : Ending) (w' : World) : Prop := e = .returned (.bool b) ∧ w.grownBy w' none

set_option maxRecDepth 20000 in
set_option maxHeartbeats 400000 in
theorem long_many (a : Option Addr) (n c : Nat) (w : World) (hm : n ≤ maxLen) (h : 100 < n) : Calls Try.prog 10 #[.slice a n c] w (BL w true) := by
  have q1 : (n : Int) ≤ 9223372036854775807 := by unfold maxLen at hm; omega
  have k : decide (100 < (n : Int)) = true := by simp; omega
  clear h hm
  go_enter Try.func10, Try.ntmps10
  go_wp2_with fail
  go_ret
  exact ⟨rfl, World.grownBy.refl _ _⟩

set_option maxRecDepth 20000 in
set_option maxHeartbeats 400000 in
theorem long_none (a : Option Addr) (w : World) : Calls Try.prog 10 #[.slice a 0 0] w (BL w false) := by
  go_enter Try.func10, Try.ntmps10
  go_wp2_with fail
  go_loop [3] (fun i => i = .int .i64 0) (fun _ => 0)
  case atStart => exact rfl
  case round =>
    obtain rfl := hrel
    go_wp2_with fail
    go_ret
    exact ⟨rfl, World.grownBy.refl _ _⟩

set_option maxRecDepth 20000 in
set_option maxHeartbeats 1000000 in
theorem long_some (b off c : Nat) (ps : List (List UInt8)) (w : World) (hc : ∀ i (h : i < ps.length), w.cell? ⟨b, off + i, none⟩ = some (.string ⟨ps[i].toArray⟩)) (hl : ps.length ≤ 100) (hp : ∀ p ∈ ps, p.length ≤ maxLen) :
    Calls Try.prog 10 #[.slice (some ⟨b, off, none⟩) ps.length c] w (BL w (isLong ps)) := by
  have HC := Lib.hid hc
  have HP := Lib.hid hp
  have HY := Lib.hid (fun k (h : k < ps.length) (h2 : 2000 < ps[k].length) => isLong_one h h2)
  have HNO := Lib.hid (fun h2 => isLong_no hl h2)
  generalize isLong ps = F at *
  obtain ⟨n, hn⟩ : ∃ n, n = ps.length := ⟨_, rfl⟩
  have HN := Lib.hid hn
  rw [← hn] at hl ⊢
  have hm : (n : Int) ≤ 100 := by omega
  clear hl hn hp hc
  go_enter Try.func10, Try.ntmps10
  go_wp2_with fail
  go_loop [3] (fun i => ∃ k : Nat, k ≤ n ∧ i = .int .i64 k ∧ ∀ j (h : j < ps.length), j < k → ps[j].length ≤ 2000) (fun i => n - (intOf i).toNat)
  case atStart => exact ⟨0, Nat.zero_le _, rfl, fun j _ h => absurd h (Nat.not_lt_zero _)⟩
  case round =>
    obtain ⟨k, hk, rfl, hall⟩ := hrel
    have HALL := Lib.hid hall
    clear hall
    by_cases hlt : k < n
    · have hkl : k < ps.length := by rw [← HN.out]; exact hlt
      have hcell := HC.out k hkl
      have hpl := HP.out _ (List.getElem_mem hkl)
      have hpl2 : (ps[k].length : Int) ≤ 9223372036854775807 := by unfold maxLen at hpl; omega
      have hlt2 : (k : Int) < n := by omega
      by_cases h2 : 2000 < ps[k].length
      · have HF := Lib.hid (HY.out k hkl h2)
        have g1 : (2000 : Int) < ps[k].length := by omega
        clear h2 hpl hpl2 HY HNO HP
        generalize ps[k] = p at *
        go_wp2_with fail
        go_ret
        rw [HF.out]
        exact ⟨rfl, World.grownBy.refl _ _⟩
      · have HK : Hid (∀ j (h : j < ps.length), j < k + 1 → ps[j].length ≤ 2000) := Lib.hid (fun j h hj => by
          by_cases hjk : j < k
          · exact HALL.out j h hjk
          · obtain rfl : j = k := by omega
            omega)
        have g1 : ¬ (2000 : Int) < ps[k].length := by omega
        clear h2 hpl
        generalize ps[k] = p at *
        go_wp2_with fail
        go_round
        case rel => exact ⟨k + 1, by omega, by go_num, HK.out⟩
        case measure => simp [intOf]; omega
    · obtain rfl : k = n := by omega
      have HF := Lib.hid (HNO.out (fun i h => HALL.out i h (by rw [HN.out]; exact h)))
      clear hlt hk
      go_wp2_with fail
      go_ret
      rw [HF.out]
      exact ⟨rfl, World.grownBy.refl _ _⟩

theorem long_any (ps : List (List UInt8)) (v : Value) (w : World) (hv : Strs w v ps) (hp : ∀ p ∈ ps, p.length ≤ maxLen) : Calls Try.prog 10 #[v] w (BL w (isLong ps)) := by
  by_cases h : 100 < ps.length
  · obtain ⟨a, c, rfl, h1, h2⟩ := hv.form
    rw [isLong_many h]
    exact long_many a _ c w (Nat.le_trans h1 h2) h
  · rcases hv with ⟨rfl, rfl⟩ | ⟨b, o, c, rfl, h1, h2, h3⟩ | ⟨a, rfl, rfl⟩
    · exact long_none none w
    · exact long_some b o c ps w h3 (by omega) hp
    · exact long_none (some a) w

set_option maxRecDepth 10000 in
set_option maxHeartbeats 2000000 in
theorem sums_long (v : Value) (ps : List (List UInt8)) (n : Nat) (l : List UInt8) (w : World) (hv : Strs w v ps) (hp : ∀ p ∈ ps, p.length ≤ maxLen) (hl : l.length ≤ maxLen) (h : isLong ps = true ∨ 20000 < l.length) :
    Calls Try.prog 3 #[v, .int .u64 (n : Int), .string ⟨l.toArray⟩] w (OK w) := by
  have HW := Lib.hid (fun w => awake_any w)
  have HL := Lib.hid (long_any ps v w hv hp)
  obtain ⟨a, c, rfl, _, _⟩ := hv.form
  have q1 : (l.length : Int) ≤ 9223372036854775807 := by unfold maxLen at hl; omega
  have hh : isLong ps = true ∨ (isLong ps = false ∧ decide (20000 < (l.length : Int)) = true) := by
    simp only [decide_eq_true_eq]
    cases hb : isLong ps
    · right; rw [hb] at h; simp at h; exact ⟨rfl, by omega⟩
    · left; rfl
  clear hv hp hl h
  rcases hh with k | ⟨k, k2⟩
  · rw [k] at HL
    go_enter Try.func3, Try.ntmps3
    go_wp2_with fail
    refine (HL.out).mono ?_; rintro e u1 ⟨rfl, hg⟩
    have G := Lib.hid hg
    clear hg
    go_wp2_with fail
    refine (HW.out _).mono ?_; rintro e u2 ⟨rfl, hg⟩
    replace G := Lib.hid (World.grownBy.trans G.out hg)
    clear hg
    go_wp2_with fail
    go_ret
    exact ⟨rfl, G.out⟩
  · rw [k] at HL
    go_enter Try.func3, Try.ntmps3
    go_wp2_with fail
    refine (HL.out).mono ?_; rintro e u1 ⟨rfl, hg⟩
    have G := Lib.hid hg
    clear hg
    go_wp2_with fail
    refine (HW.out _).mono ?_; rintro e u2 ⟨rfl, hg⟩
    replace G := Lib.hid (World.grownBy.trans G.out hg)
    clear hg
    go_wp2_with fail
    go_ret
    exact ⟨rfl, G.out⟩

set_option maxRecDepth 10000 in
set_option maxHeartbeats 4000000 in
theorem sums_short (v : Value) (ps : List (List UInt8)) (n : Nat) (l : List UInt8) (w : World) (hn : n < fnvM) (hv : Strs w v ps) (hp : ∀ p ∈ ps, p.length ≤ maxLen) (hl : l.length ≤ 20000) (h : isLong ps = false) :
    Calls Try.prog 3 #[v, .int .u64 (n : Int), .string ⟨l.toArray⟩] w (OK w) := by
  have HW := Lib.hid (fun w => awake_any w)
  have HL := Lib.hid (long_any ps v w hv hp)
  rw [h] at HL
  obtain ⟨h100, h2000⟩ := isLong_no' h
  have HP1 := Lib.hid (fun w => parse_any l w (by unfold maxLen; omega))
  have HP2 := Lib.hid (fun w => rparse_any l w (by unfold maxLen; omega))
  have HS1 := Lib.hid (fun w => sum_any l w (by omega))
  have HS2 := Lib.hid (fun w => rsum_any l w (by omega))
  have HO1 := Lib.hid (fun v w (hv : Strs w v ps) => of_any ps v w hv (fun p hp => by have := h2000 p hp; omega) (by omega))
  have HO2 := Lib.hid (fun v w (hv : Strs w v ps) => rof_any ps v w hv (fun p hp => by have := h2000 p hp; omega) (by omega))
  have HT1 := Lib.hid (fun w => text_any n w hn)
  have HT2 := Lib.hid (fun w => rtext_any n w hn)
  obtain ⟨a, c, rfl, _, _⟩ := hv.form
  have S := Lib.hid hv
  have q1 : (l.length : Int) ≤ 20000 := by omega
  have k : decide (20000 < (l.length : Int)) = false := by simp; omega
  generalize dParse l = p at *
  obtain ⟨p, f⟩ := p
  generalize fnv l = fl at *
  generalize dOf ps = fo at *
  generalize dText n = t at *
  clear hv hp hl h h100 h2000 hn
  go_enter Try.func3, Try.ntmps3
  go_wp2_with fail
  refine (HL.out).mono ?_; rintro e u1 ⟨rfl, hg⟩
  replace S := Lib.hid (S.out.new hg)
  have G := Lib.hid hg
  clear hg
  go_wp2_with fail
  refine (HP1.out _).mono ?_; rintro e u2 ⟨rfl, hg⟩
  replace S := Lib.hid (S.out.new hg)
  replace G := Lib.hid (World.grownBy.trans G.out hg)
  clear hg
  go_wp2_with fail
  refine (HP2.out _).mono ?_; rintro e u3 ⟨rfl, hg⟩
  replace S := Lib.hid (S.out.new hg)
  replace G := Lib.hid (World.grownBy.trans G.out hg)
  clear hg
  go_wp2_with fail
  refine (HS1.out _).mono ?_; rintro e u4 ⟨rfl, hg⟩
  replace S := Lib.hid (S.out.new hg)
  replace G := Lib.hid (World.grownBy.trans G.out hg)
  clear hg
  go_wp2_with fail
  refine (HS2.out _).mono ?_; rintro e u5 ⟨rfl, hg⟩
  replace S := Lib.hid (S.out.new hg)
  replace G := Lib.hid (World.grownBy.trans G.out hg)
  clear hg
  go_wp2_with fail
  refine (HO1.out _ _ S.out).mono ?_; rintro e u6 ⟨rfl, hg⟩
  replace S := Lib.hid (S.out.new hg)
  replace G := Lib.hid (World.grownBy.trans G.out hg)
  clear hg
  go_wp2_with fail
  refine (HO2.out _ _ S.out).mono ?_; rintro e u7 ⟨rfl, hg⟩
  replace S := Lib.hid (S.out.new hg)
  replace G := Lib.hid (World.grownBy.trans G.out hg)
  clear hg
  go_wp2_with fail
  refine (HT1.out _).mono ?_; rintro e u8 ⟨rfl, hg⟩
  replace S := Lib.hid (S.out.new hg)
  replace G := Lib.hid (World.grownBy.trans G.out hg)
  clear hg
  go_wp2_with fail
  refine (HT2.out _).mono ?_; rintro e u9 ⟨rfl, hg⟩
  replace S := Lib.hid (S.out.new hg)
  replace G := Lib.hid (World.grownBy.trans G.out hg)
  clear hg
  go_wp2_with fail
  refine (HW.out _).mono ?_; rintro e u10 ⟨rfl, hg⟩
  replace S := Lib.hid (S.out.new hg)
  replace G := Lib.hid (World.grownBy.trans G.out hg)
  clear hg
  go_wp2_with fail
  go_ret
  exact ⟨rfl, G.out⟩

theorem sums_walk (v : Value) (a : Int) (ha : (Lit.int .u64 a).wf = true) (s : ByteArray) (hs : s.size ≤ maxLen) (w : World) (hv : ∃ ss : List ByteArray, (∀ s ∈ ss, s.size ≤ maxLen) ∧ Elems w v 1 ss.length (fun i => .string (ss.getD i ByteArray.empty))) : Calls Try.prog 3 #[v, .int .u64 a, .string s] w (OK w) := by
  obtain ⟨l, rfl⟩ := str_of s
  obtain ⟨n, rfl, hn⟩ := u64n ha
  obtain ⟨ps, hps, hp⟩ := strs_of hv
  have hl : l.length ≤ maxLen := hs
  by_cases h : isLong ps = true ∨ 20000 < l.length
  · exact sums_long v ps n l w hps hp hl h
  · exact sums_short v ps n l w hn hps hp (by omega) (by cases hb : isLong ps <;> simp [hb] at h ⊢)
end Go.Proofs.Ytdicoojodefacaa
