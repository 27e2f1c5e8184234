/- DigestOn, DigestByte, call by call. -/
import Derived.Test.YtdicoojodefacaaDigT
namespace Go.Proofs.Ytdicoojodefacaa
open Go.RowKit

theorem str_app (x y : List UInt8) : ((⟨x.toArray⟩ : ByteArray) ++ ⟨y.toArray⟩) = ⟨(x ++ y).toArray⟩ := by
  apply ByteArray.ext
  simp

set_option maxRecDepth 10000 in
set_option maxHeartbeats 2000000 in
theorem on_long (a b c : List UInt8) (w : World) (ha : a.length ≤ maxLen) (hb : b.length ≤ maxLen) (hc : c.length ≤ maxLen) (h : 5000 < a.length ∨ 5000 < b.length ∨ 5000 < c.length) :
    Calls Try.prog 8 #[.string ⟨a.toArray⟩, .string ⟨b.toArray⟩, .string ⟨c.toArray⟩] w (OK w) := by
  have HW := Lib.hid (fun w => awake_any w)
  have q1 : (a.length : Int) ≤ 9223372036854775807 := by unfold maxLen at ha; omega
  have q2 : (b.length : Int) ≤ 9223372036854775807 := by unfold maxLen at hb; omega
  have q3 : (c.length : Int) ≤ 9223372036854775807 := by unfold maxLen at hc; omega
  have hh : (decide (5000 < (a.length : Int)) = true) ∨ (decide (5000 < (a.length : Int)) = false ∧ decide (5000 < (b.length : Int)) = true) ∨ (decide (5000 < (a.length : Int)) = false ∧ decide (5000 < (b.length : Int)) = false ∧ decide (5000 < (c.length : Int)) = true) := by
    simp only [decide_eq_true_eq, decide_eq_false_iff_not]
    omega
  clear ha hb hc h
  rcases hh with k | ⟨k, k2⟩ | ⟨k, k2, k3⟩
  · skip
    go_enter Try.func8, Try.ntmps8
    go_wp2_with fail
    refine (HW.out _).mono ?_; rintro e u1 ⟨rfl, hg⟩
    have G := Lib.hid hg
    clear hg
    go_wp2_with fail
    go_ret
    exact ⟨rfl, G.out⟩
  · skip
    go_enter Try.func8, Try.ntmps8
    go_wp2_with fail
    refine (HW.out _).mono ?_; rintro e u1 ⟨rfl, hg⟩
    have G := Lib.hid hg
    clear hg
    go_wp2_with fail
    go_ret
    exact ⟨rfl, G.out⟩
  · skip
    go_enter Try.func8, Try.ntmps8
    go_wp2_with fail
    refine (HW.out _).mono ?_; rintro e u1 ⟨rfl, hg⟩
    have G := Lib.hid hg
    clear hg
    go_wp2_with fail
    go_ret
    exact ⟨rfl, G.out⟩

set_option maxRecDepth 10000 in
set_option maxHeartbeats 2000000 in
theorem on_short (a b c : List UInt8) (w : World) (ha : a.length ≤ 5000) (hb : b.length ≤ 5000) (hc : c.length ≤ 5000) :
    Calls Try.prog 8 #[.string ⟨a.toArray⟩, .string ⟨b.toArray⟩, .string ⟨c.toArray⟩] w (OK w) := by
  have HW := Lib.hid (fun w => awake_any w)
  have HA := Lib.hid (fun w => sum_any a w (by omega))
  have HB := Lib.hid (fun w => sum_any b w (by omega))
  have HAC := Lib.hid (fun w => sum_any (a ++ c) w (by rw [List.length_append]; omega))
  have HBC := Lib.hid (fun w => sum_any (b ++ c) w (by rw [List.length_append]; omega))
  have hiff := fnv_end a b c
  have k : decide (5000 < (a.length : Int)) = false := by simp; omega
  have k2 : decide (5000 < (b.length : Int)) = false := by simp; omega
  have k3 : decide (5000 < (c.length : Int)) = false := by simp; omega
  have e1 := str_app a c
  have e2 := str_app b c
  have n1 : ¬ 9223372036854775807 < a.length + c.length := by omega
  have n2 : ¬ 9223372036854775807 < b.length + c.length := by omega
  have q1 : (a.length : Int) ≤ 5000 := by omega
  have q2 : (b.length : Int) ≤ 5000 := by omega
  have q3 : (c.length : Int) ≤ 5000 := by omega
  generalize fnv a = fa at *
  generalize fnv b = fb at *
  generalize fnv (a ++ c) = fac at *
  generalize fnv (b ++ c) = fbc at *
  have hh : (((fa : Int) == fb) = ((fac : Int) == fbc)) := by
    rw [Bool.eq_iff_iff]; simp only [beq_iff_eq]; omega
  have HH : Hid ((((fa : Int) == fb) == ((fac : Int) == fbc)) = true) := Lib.hid (by rw [hh]; simp)
  clear ha hb hc hiff hh
  go_enter Try.func8, Try.ntmps8
  go_wp2_with fail
  refine (HW.out _).mono ?_; rintro e u1 ⟨rfl, hg⟩
  have G := Lib.hid hg
  clear hg
  go_wp2_with fail
  refine (HA.out _).mono ?_; rintro e u2 ⟨rfl, hg⟩
  replace G := Lib.hid (World.grownBy.trans G.out hg)
  clear hg
  go_wp2_with fail
  refine (HB.out _).mono ?_; rintro e u3 ⟨rfl, hg⟩
  replace G := Lib.hid (World.grownBy.trans G.out hg)
  clear hg
  go_wp2_with fail
  refine (HAC.out _).mono ?_; rintro e u4 ⟨rfl, hg⟩
  replace G := Lib.hid (World.grownBy.trans G.out hg)
  clear hg
  go_wp2_with fail
  refine (HBC.out _).mono ?_; rintro e u5 ⟨rfl, hg⟩
  replace G := Lib.hid (World.grownBy.trans G.out hg)
  clear hg
  go_wp2_with fail
  go_ret
  exact ⟨congrArg (fun b => Ending.returned (Value.bool b)) HH.out, G.out⟩

theorem on_walk (a : ByteArray) (ha : a.size ≤ maxLen) (b : ByteArray) (hb : b.size ≤ maxLen) (c : ByteArray) (hc : c.size ≤ maxLen) (w : World) : Calls Try.prog 8 #[.string a, .string b, .string c] w (OK w) := by
  obtain ⟨a, rfl⟩ := str_of a
  obtain ⟨b, rfl⟩ := str_of b
  obtain ⟨c, rfl⟩ := str_of c
  by_cases h : 5000 < a.length ∨ 5000 < b.length ∨ 5000 < c.length
  · exact on_long a b c w ha hb hc h
  · exact on_short a b c w (by omega) (by omega) (by omega)

set_option maxRecDepth 10000 in
set_option maxHeartbeats 2000000 in
theorem byte_long (a b : List UInt8) (x y : UInt8) (w : World) (ha : a.length ≤ maxLen) (hb : b.length ≤ maxLen) (h : 5000 < a.length ∨ 5000 < b.length) :
    Calls Try.prog 6 #[.string ⟨a.toArray⟩, .int .u8 (x.toNat : Int), .int .u8 (y.toNat : Int), .string ⟨b.toArray⟩] w (OK w) := by
  have HW := Lib.hid (fun w => awake_any w)
  have q1 : (a.length : Int) ≤ 9223372036854775807 := by unfold maxLen at ha; omega
  have q2 : (b.length : Int) ≤ 9223372036854775807 := by unfold maxLen at hb; omega
  have hh : (decide (5000 < (a.length : Int)) = true) ∨ (decide (5000 < (a.length : Int)) = false ∧ decide (5000 < (b.length : Int)) = true) := by
    simp only [decide_eq_true_eq, decide_eq_false_iff_not]
    omega
  clear ha hb h
  rcases hh with k | ⟨k, k2⟩
  · skip
    go_enter Try.func6, Try.ntmps6
    go_wp2_with fail
    refine (HW.out _).mono ?_; rintro e u1 ⟨rfl, hg⟩
    have G := Lib.hid hg
    clear hg
    go_wp2_with fail
    go_ret
    exact ⟨rfl, G.out⟩
  · skip
    go_enter Try.func6, Try.ntmps6
    go_wp2_with fail
    refine (HW.out _).mono ?_; rintro e u1 ⟨rfl, hg⟩
    have G := Lib.hid hg
    clear hg
    go_wp2_with fail
    go_ret
    exact ⟨rfl, G.out⟩

set_option maxRecDepth 10000 in
set_option maxHeartbeats 2000000 in
theorem byte_short (a b : List UInt8) (x y : UInt8) (w : World) (ha : a.length ≤ 5000) (hb : b.length ≤ 5000) :
    Calls Try.prog 6 #[.string ⟨a.toArray⟩, .int .u8 (x.toNat : Int), .int .u8 (y.toNat : Int), .string ⟨b.toArray⟩] w (OK w) := by
  have HW := Lib.hid (fun w => awake_any w)
  have HX := Lib.hid (fun w => sum_any (a ++ [x] ++ b) w (by rw [List.length_append, List.length_append]; simp; omega))
  have HY := Lib.hid (fun w => sum_any (a ++ [y] ++ b) w (by rw [List.length_append, List.length_append]; simp; omega))
  have hiff := fnv_byte a b x y
  have k : decide (5000 < (a.length : Int)) = false := by simp; omega
  have k2 : decide (5000 < (b.length : Int)) = false := by simp; omega
  have e1 := str_app a [x]
  have e2 := str_app (a ++ [x]) b
  have e3 := str_app a [y]
  have e4 := str_app (a ++ [y]) b
  have l1 : (a ++ [x]).length = a.length + 1 := by simp
  have l2 : (a ++ [y]).length = a.length + 1 := by simp
  have n1 : ¬ 9223372036854775807 < a.length + 1 := by omega
  have n2 : ¬ 9223372036854775807 < (a ++ [x]).length + b.length := by omega
  have n3 : ¬ 9223372036854775807 < (a ++ [y]).length + b.length := by omega
  have q1 : (a.length : Int) ≤ 5000 := by omega
  have q2 : (b.length : Int) ≤ 5000 := by omega
  have s1 := fun w => (one_bts w x).str und22 und5 und9
  have s2 := fun w => (one_bts w y).str und22 und5 und9
  unfold u8v at s1 s2
  have hxy : (x = y) ↔ ((x.toNat : Int) = y.toNat) := by rw [← UInt8.toNat_inj]; omega
  rw [hxy] at hiff
  clear hxy
  generalize (x.toNat : Int) = xn at *
  generalize (y.toNat : Int) = yn at *
  generalize fnv (a ++ [x] ++ b) = fx at *
  generalize fnv (a ++ [y] ++ b) = fy at *
  generalize a ++ [x] ++ b = axb at *
  generalize a ++ [y] ++ b = ayb at *
  generalize a ++ [x] = ax at *
  generalize a ++ [y] = ay at *
  have hh : (((fx : Int) == fy) = (xn == yn)) := by
    rw [Bool.eq_iff_iff]; simp only [beq_iff_eq]; omega
  have HH : Hid ((((fx : Int) == fy) == (xn == yn)) = true) := Lib.hid (by rw [hh]; simp)
  clear ha hb hiff hh l1 l2
  go_enter Try.func6, Try.ntmps6
  go_wp2_with fail
  refine (HW.out _).mono ?_; rintro e u1 ⟨rfl, hg⟩
  have G := Lib.hid hg
  clear hg
  go_wp2_with fail
  replace G := Lib.hid (World.grownBy.trans G.out (World.grownBy_alloc u1 (.cells #[.int .u8 xn] 5) none))
  refine (HX.out _).mono ?_; rintro e u2 ⟨rfl, hg⟩
  replace G := Lib.hid (World.grownBy.trans G.out hg)
  clear hg
  go_wp2_with fail
  replace G := Lib.hid (World.grownBy.trans G.out (World.grownBy_alloc u2 (.cells #[.int .u8 yn] 5) none))
  refine (HY.out _).mono ?_; rintro e u3 ⟨rfl, hg⟩
  replace G := Lib.hid (World.grownBy.trans G.out hg)
  clear hg
  go_wp2_with fail
  go_ret
  exact ⟨congrArg (fun b => Ending.returned (Value.bool b)) HH.out, G.out⟩

theorem byte_walk (a : ByteArray) (ha : a.size ≤ maxLen) (x : Int) (hx : (Lit.int .u8 x).wf = true) (y : Int) (hy : (Lit.int .u8 y).wf = true) (b : ByteArray) (hb : b.size ≤ maxLen) (w : World) : Calls Try.prog 6 #[.string a, .int .u8 x, .int .u8 y, .string b] w (OK w) := by
  obtain ⟨a, rfl⟩ := str_of a
  obtain ⟨b, rfl⟩ := str_of b
  obtain ⟨x, rfl⟩ := u8n hx
  obtain ⟨y, rfl⟩ := u8n hy
  by_cases h : 5000 < a.length ∨ 5000 < b.length
  · exact byte_long a b x y w ha hb h
  · exact byte_short a b x y w (by omega) (by omega)
end Go.Proofs.Ytdicoojodefacaa
