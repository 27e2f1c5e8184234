/- HandleApart, call by call. -/
import Derived.Test.YtcifhjocmlalmaaHanO
import Derived.Test.YtcifhjocmlalmaaHanQ
namespace Go.Proofs.Ytcifhjocmlalmaa
open Go.RowKit

set_option maxRecDepth 10000 in
set_option maxHeartbeats 4000000 in
theorem apart_nn (a b : Hn) (w : World) (ha : ¬ hMay a) (hb : ¬ hMay b) : Calls Try.prog 8 #[hnV a, hnV b] w (OK w) := by
  have HW := Lib.hid (fun w => awake_any w)
  have HA := Lib.hid (fun w => Enc_any a w)
  have HB := Lib.hid (fun w => Enc_any b w)
  have HMA := Lib.hid (fun w => may_any a w)
  have HMB := Lib.hid (fun w => may_any b w)
  rw [hEnc_not ha] at HA
  rw [hEnc_not hb] at HB
  rw [decide_eq_false ha] at HMA
  rw [decide_eq_false hb] at HMB
  clear ha hb
  generalize hB fnv a = ta at *
  generalize hB fnv b = tb at *
  obtain ⟨a1, a2, a3⟩ := a
  obtain ⟨b1, b2, b3⟩ := b
  unfold hnV at *
  dsimp only at HA HB HMA HMB
  dsimp only
  go_enter Try.func8, Try.ntmps8
  go_wp2_with fail
  obtain ⟨b_a, b_b, g0⟩ := boxes2 w 23 #[.int .i64 a1, .int .i64 a2, .int .i64 a3] #[.int .i64 b1, .int .i64 b2, .int .i64 b3]
  generalize (w.alloc (.cells #[.int .i64 a1, .int .i64 a2, .int .i64 a3] 23)).alloc (.cells #[.int .i64 b1, .int .i64 b2, .int .i64 b3] 23) = w1 at *
  generalize w.heap.size = K at *
  refine (HW.out _).mono ?_; rintro e w2 ⟨rfl, hg⟩
  have G := Lib.hid (World.grownBy.trans g0 hg)
  have B_a := Lib.hid (b_a.new hg)
  have B_b := Lib.hid (b_b.new hg)
  clear g0 b_a b_b hg HW
  have c00 := B_a.out.cell (i := 0) (x := .int .i64 a1) rfl
  have c01 := B_a.out.cell (i := 1) (x := .int .i64 a2) rfl
  have c02 := B_a.out.cell (i := 2) (x := .int .i64 a3) rfl
  have c10 := B_b.out.cell (i := 0) (x := .int .i64 b1) rfl
  have c11 := B_b.out.cell (i := 1) (x := .int .i64 b2) rfl
  have c12 := B_b.out.cell (i := 2) (x := .int .i64 b3) rfl
  go_wp2_with fail
  clear c00 c01 c02 c10 c11 c12
  refine (HA.out _).mono ?_; rintro e u1 ⟨rfl, hg⟩
  replace G := Lib.hid (World.grownBy.trans G.out hg)
  replace B_a := Lib.hid (B_a.out.new hg)
  replace B_b := Lib.hid (B_b.out.new hg)
  clear hg
  try unfold txt
  have c00 := B_a.out.cell (i := 0) (x := .int .i64 a1) rfl
  have c01 := B_a.out.cell (i := 1) (x := .int .i64 a2) rfl
  have c02 := B_a.out.cell (i := 2) (x := .int .i64 a3) rfl
  have c10 := B_b.out.cell (i := 0) (x := .int .i64 b1) rfl
  have c11 := B_b.out.cell (i := 1) (x := .int .i64 b2) rfl
  have c12 := B_b.out.cell (i := 2) (x := .int .i64 b3) rfl
  go_wp2_with fail
  clear c00 c01 c02 c10 c11 c12
  refine (HB.out _).mono ?_; rintro e u2 ⟨rfl, hg⟩
  replace G := Lib.hid (World.grownBy.trans G.out hg)
  replace B_a := Lib.hid (B_a.out.new hg)
  replace B_b := Lib.hid (B_b.out.new hg)
  clear hg
  try unfold txt
  have c00 := B_a.out.cell (i := 0) (x := .int .i64 a1) rfl
  have c01 := B_a.out.cell (i := 1) (x := .int .i64 a2) rfl
  have c02 := B_a.out.cell (i := 2) (x := .int .i64 a3) rfl
  have c10 := B_b.out.cell (i := 0) (x := .int .i64 b1) rfl
  have c11 := B_b.out.cell (i := 1) (x := .int .i64 b2) rfl
  have c12 := B_b.out.cell (i := 2) (x := .int .i64 b3) rfl
  go_wp2_with fail
  clear c00 c01 c02 c10 c11 c12
  refine (HMA.out _).mono ?_; rintro e u3 ⟨rfl, hg⟩
  replace G := Lib.hid (World.grownBy.trans G.out hg)
  replace B_a := Lib.hid (B_a.out.new hg)
  replace B_b := Lib.hid (B_b.out.new hg)
  clear hg
  have c00 := B_a.out.cell (i := 0) (x := .int .i64 a1) rfl
  have c01 := B_a.out.cell (i := 1) (x := .int .i64 a2) rfl
  have c02 := B_a.out.cell (i := 2) (x := .int .i64 a3) rfl
  have c10 := B_b.out.cell (i := 0) (x := .int .i64 b1) rfl
  have c11 := B_b.out.cell (i := 1) (x := .int .i64 b2) rfl
  have c12 := B_b.out.cell (i := 2) (x := .int .i64 b3) rfl
  go_wp2_with fail
  clear c00 c01 c02 c10 c11 c12
  refine (HMB.out _).mono ?_; rintro e u4 ⟨rfl, hg⟩
  replace G := Lib.hid (World.grownBy.trans G.out hg)
  replace B_a := Lib.hid (B_a.out.new hg)
  replace B_b := Lib.hid (B_b.out.new hg)
  clear hg
  have c00 := B_a.out.cell (i := 0) (x := .int .i64 a1) rfl
  have c01 := B_a.out.cell (i := 1) (x := .int .i64 a2) rfl
  have c02 := B_a.out.cell (i := 2) (x := .int .i64 a3) rfl
  have c10 := B_b.out.cell (i := 0) (x := .int .i64 b1) rfl
  have c11 := B_b.out.cell (i := 1) (x := .int .i64 b2) rfl
  have c12 := B_b.out.cell (i := 2) (x := .int .i64 b3) rfl
  go_wp2_with fail
  go_ret
  exact ⟨rfl, G.out⟩

set_option maxRecDepth 10000 in
set_option maxHeartbeats 4000000 in
theorem apart_ny (a b : Hn) (w : World) (ha : ¬ hMay a) (hb : hMay b) : Calls Try.prog 8 #[hnV a, hnV b] w (OK w) := by
  have HW := Lib.hid (fun w => awake_any w)
  have HA := Lib.hid (fun w => Enc_any a w)
  have HB := Lib.hid (fun w => Enc_any b w)
  have HMA := Lib.hid (fun w => may_any a w)
  have HMB := Lib.hid (fun w => may_any b w)
  rw [hEnc_not ha] at HA
  rw [hEnc_of hb] at HB
  rw [decide_eq_false ha] at HMA
  rw [decide_eq_true hb] at HMB
  clear ha hb
  generalize hB fnv a = ta at *
  generalize hB fnv b = tb at *
  obtain ⟨a1, a2, a3⟩ := a
  obtain ⟨b1, b2, b3⟩ := b
  unfold hnV at *
  dsimp only at HA HB HMA HMB
  dsimp only
  go_enter Try.func8, Try.ntmps8
  go_wp2_with fail
  obtain ⟨b_a, b_b, g0⟩ := boxes2 w 23 #[.int .i64 a1, .int .i64 a2, .int .i64 a3] #[.int .i64 b1, .int .i64 b2, .int .i64 b3]
  generalize (w.alloc (.cells #[.int .i64 a1, .int .i64 a2, .int .i64 a3] 23)).alloc (.cells #[.int .i64 b1, .int .i64 b2, .int .i64 b3] 23) = w1 at *
  generalize w.heap.size = K at *
  refine (HW.out _).mono ?_; rintro e w2 ⟨rfl, hg⟩
  have G := Lib.hid (World.grownBy.trans g0 hg)
  have B_a := Lib.hid (b_a.new hg)
  have B_b := Lib.hid (b_b.new hg)
  clear g0 b_a b_b hg HW
  have c00 := B_a.out.cell (i := 0) (x := .int .i64 a1) rfl
  have c01 := B_a.out.cell (i := 1) (x := .int .i64 a2) rfl
  have c02 := B_a.out.cell (i := 2) (x := .int .i64 a3) rfl
  have c10 := B_b.out.cell (i := 0) (x := .int .i64 b1) rfl
  have c11 := B_b.out.cell (i := 1) (x := .int .i64 b2) rfl
  have c12 := B_b.out.cell (i := 2) (x := .int .i64 b3) rfl
  go_wp2_with fail
  clear c00 c01 c02 c10 c11 c12
  refine (HA.out _).mono ?_; rintro e u1 ⟨rfl, hg⟩
  replace G := Lib.hid (World.grownBy.trans G.out hg)
  replace B_a := Lib.hid (B_a.out.new hg)
  replace B_b := Lib.hid (B_b.out.new hg)
  clear hg
  try unfold txt
  have c00 := B_a.out.cell (i := 0) (x := .int .i64 a1) rfl
  have c01 := B_a.out.cell (i := 1) (x := .int .i64 a2) rfl
  have c02 := B_a.out.cell (i := 2) (x := .int .i64 a3) rfl
  have c10 := B_b.out.cell (i := 0) (x := .int .i64 b1) rfl
  have c11 := B_b.out.cell (i := 1) (x := .int .i64 b2) rfl
  have c12 := B_b.out.cell (i := 2) (x := .int .i64 b3) rfl
  go_wp2_with fail
  clear c00 c01 c02 c10 c11 c12
  refine (HB.out _).mono ?_; rintro e u2 ⟨rfl, hg⟩
  replace G := Lib.hid (World.grownBy.trans G.out hg)
  replace B_a := Lib.hid (B_a.out.new hg)
  replace B_b := Lib.hid (B_b.out.new hg)
  clear hg
  try unfold txt
  have c00 := B_a.out.cell (i := 0) (x := .int .i64 a1) rfl
  have c01 := B_a.out.cell (i := 1) (x := .int .i64 a2) rfl
  have c02 := B_a.out.cell (i := 2) (x := .int .i64 a3) rfl
  have c10 := B_b.out.cell (i := 0) (x := .int .i64 b1) rfl
  have c11 := B_b.out.cell (i := 1) (x := .int .i64 b2) rfl
  have c12 := B_b.out.cell (i := 2) (x := .int .i64 b3) rfl
  go_wp2_with fail
  clear c00 c01 c02 c10 c11 c12
  refine (HMA.out _).mono ?_; rintro e u3 ⟨rfl, hg⟩
  replace G := Lib.hid (World.grownBy.trans G.out hg)
  replace B_a := Lib.hid (B_a.out.new hg)
  replace B_b := Lib.hid (B_b.out.new hg)
  clear hg
  have c00 := B_a.out.cell (i := 0) (x := .int .i64 a1) rfl
  have c01 := B_a.out.cell (i := 1) (x := .int .i64 a2) rfl
  have c02 := B_a.out.cell (i := 2) (x := .int .i64 a3) rfl
  have c10 := B_b.out.cell (i := 0) (x := .int .i64 b1) rfl
  have c11 := B_b.out.cell (i := 1) (x := .int .i64 b2) rfl
  have c12 := B_b.out.cell (i := 2) (x := .int .i64 b3) rfl
  go_wp2_with fail
  clear c00 c01 c02 c10 c11 c12
  refine (HMB.out _).mono ?_; rintro e u4 ⟨rfl, hg⟩
  replace G := Lib.hid (World.grownBy.trans G.out hg)
  replace B_a := Lib.hid (B_a.out.new hg)
  replace B_b := Lib.hid (B_b.out.new hg)
  clear hg
  have c00 := B_a.out.cell (i := 0) (x := .int .i64 a1) rfl
  have c01 := B_a.out.cell (i := 1) (x := .int .i64 a2) rfl
  have c02 := B_a.out.cell (i := 2) (x := .int .i64 a3) rfl
  have c10 := B_b.out.cell (i := 0) (x := .int .i64 b1) rfl
  have c11 := B_b.out.cell (i := 1) (x := .int .i64 b2) rfl
  have c12 := B_b.out.cell (i := 2) (x := .int .i64 b3) rfl
  go_wp2_with fail
  go_ret
  exact ⟨rfl, G.out⟩

set_option maxRecDepth 10000 in
set_option maxHeartbeats 4000000 in
theorem apart_yn (a b : Hn) (w : World) (ha : hMay a) (hb : ¬ hMay b) : Calls Try.prog 8 #[hnV a, hnV b] w (OK w) := by
  have HW := Lib.hid (fun w => awake_any w)
  have HA := Lib.hid (fun w => Enc_any a w)
  have HB := Lib.hid (fun w => Enc_any b w)
  have HMA := Lib.hid (fun w => may_any a w)
  have HMB := Lib.hid (fun w => may_any b w)
  rw [hEnc_of ha] at HA
  rw [hEnc_not hb] at HB
  rw [decide_eq_true ha] at HMA
  rw [decide_eq_false hb] at HMB
  clear ha hb
  generalize hB fnv a = ta at *
  generalize hB fnv b = tb at *
  obtain ⟨a1, a2, a3⟩ := a
  obtain ⟨b1, b2, b3⟩ := b
  unfold hnV at *
  dsimp only at HA HB HMA HMB
  dsimp only
  go_enter Try.func8, Try.ntmps8
  go_wp2_with fail
  obtain ⟨b_a, b_b, g0⟩ := boxes2 w 23 #[.int .i64 a1, .int .i64 a2, .int .i64 a3] #[.int .i64 b1, .int .i64 b2, .int .i64 b3]
  generalize (w.alloc (.cells #[.int .i64 a1, .int .i64 a2, .int .i64 a3] 23)).alloc (.cells #[.int .i64 b1, .int .i64 b2, .int .i64 b3] 23) = w1 at *
  generalize w.heap.size = K at *
  refine (HW.out _).mono ?_; rintro e w2 ⟨rfl, hg⟩
  have G := Lib.hid (World.grownBy.trans g0 hg)
  have B_a := Lib.hid (b_a.new hg)
  have B_b := Lib.hid (b_b.new hg)
  clear g0 b_a b_b hg HW
  have c00 := B_a.out.cell (i := 0) (x := .int .i64 a1) rfl
  have c01 := B_a.out.cell (i := 1) (x := .int .i64 a2) rfl
  have c02 := B_a.out.cell (i := 2) (x := .int .i64 a3) rfl
  have c10 := B_b.out.cell (i := 0) (x := .int .i64 b1) rfl
  have c11 := B_b.out.cell (i := 1) (x := .int .i64 b2) rfl
  have c12 := B_b.out.cell (i := 2) (x := .int .i64 b3) rfl
  go_wp2_with fail
  clear c00 c01 c02 c10 c11 c12
  refine (HA.out _).mono ?_; rintro e u1 ⟨rfl, hg⟩
  replace G := Lib.hid (World.grownBy.trans G.out hg)
  replace B_a := Lib.hid (B_a.out.new hg)
  replace B_b := Lib.hid (B_b.out.new hg)
  clear hg
  try unfold txt
  have c00 := B_a.out.cell (i := 0) (x := .int .i64 a1) rfl
  have c01 := B_a.out.cell (i := 1) (x := .int .i64 a2) rfl
  have c02 := B_a.out.cell (i := 2) (x := .int .i64 a3) rfl
  have c10 := B_b.out.cell (i := 0) (x := .int .i64 b1) rfl
  have c11 := B_b.out.cell (i := 1) (x := .int .i64 b2) rfl
  have c12 := B_b.out.cell (i := 2) (x := .int .i64 b3) rfl
  go_wp2_with fail
  clear c00 c01 c02 c10 c11 c12
  refine (HB.out _).mono ?_; rintro e u2 ⟨rfl, hg⟩
  replace G := Lib.hid (World.grownBy.trans G.out hg)
  replace B_a := Lib.hid (B_a.out.new hg)
  replace B_b := Lib.hid (B_b.out.new hg)
  clear hg
  try unfold txt
  have c00 := B_a.out.cell (i := 0) (x := .int .i64 a1) rfl
  have c01 := B_a.out.cell (i := 1) (x := .int .i64 a2) rfl
  have c02 := B_a.out.cell (i := 2) (x := .int .i64 a3) rfl
  have c10 := B_b.out.cell (i := 0) (x := .int .i64 b1) rfl
  have c11 := B_b.out.cell (i := 1) (x := .int .i64 b2) rfl
  have c12 := B_b.out.cell (i := 2) (x := .int .i64 b3) rfl
  go_wp2_with fail
  clear c00 c01 c02 c10 c11 c12
  refine (HMA.out _).mono ?_; rintro e u3 ⟨rfl, hg⟩
  replace G := Lib.hid (World.grownBy.trans G.out hg)
  replace B_a := Lib.hid (B_a.out.new hg)
  replace B_b := Lib.hid (B_b.out.new hg)
  clear hg
  have c00 := B_a.out.cell (i := 0) (x := .int .i64 a1) rfl
  have c01 := B_a.out.cell (i := 1) (x := .int .i64 a2) rfl
  have c02 := B_a.out.cell (i := 2) (x := .int .i64 a3) rfl
  have c10 := B_b.out.cell (i := 0) (x := .int .i64 b1) rfl
  have c11 := B_b.out.cell (i := 1) (x := .int .i64 b2) rfl
  have c12 := B_b.out.cell (i := 2) (x := .int .i64 b3) rfl
  go_wp2_with fail
  clear c00 c01 c02 c10 c11 c12
  refine (HMB.out _).mono ?_; rintro e u4 ⟨rfl, hg⟩
  replace G := Lib.hid (World.grownBy.trans G.out hg)
  replace B_a := Lib.hid (B_a.out.new hg)
  replace B_b := Lib.hid (B_b.out.new hg)
  clear hg
  have c00 := B_a.out.cell (i := 0) (x := .int .i64 a1) rfl
  have c01 := B_a.out.cell (i := 1) (x := .int .i64 a2) rfl
  have c02 := B_a.out.cell (i := 2) (x := .int .i64 a3) rfl
  have c10 := B_b.out.cell (i := 0) (x := .int .i64 b1) rfl
  have c11 := B_b.out.cell (i := 1) (x := .int .i64 b2) rfl
  have c12 := B_b.out.cell (i := 2) (x := .int .i64 b3) rfl
  go_wp2_with fail
  go_ret
  exact ⟨rfl, G.out⟩

set_option maxRecDepth 10000 in
set_option maxHeartbeats 4000000 in
theorem apart_same (a : Hn) (w : World) (ha : hMay a) : Calls Try.prog 8 #[hnV a, hnV a] w (OK w) := by
  have HW := Lib.hid (fun w => awake_any w)
  have HA := Lib.hid (fun w => Enc_any a w)
  have HL := Lib.hid (fun w => less_any a a w)
  have n := less_not a a
  have bl := bl_h16 a a ha ha
  rw [hEnc_of ha] at HA
  have x1 := hB_16 a
  have hl : (((hB fnv a).length : Nat) : Int) = 24 := rfl
  have hx : hLess a a = false := by cases h : hLess a a <;> simp_all
  rw [hx] at HL bl
  clear n hx ha
  have HB := HA
  generalize hB fnv a = ta at *
  generalize h16 a = la at *
  obtain ⟨a1, a2, a3⟩ := a
  unfold hnV at *
  dsimp only at HA HB HL
  dsimp only
  go_enter Try.func8, Try.ntmps8
  go_wp2_with fail
  obtain ⟨b_a, b_b, g0⟩ := boxes2 w 23 #[.int .i64 a1, .int .i64 a2, .int .i64 a3] #[.int .i64 a1, .int .i64 a2, .int .i64 a3]
  generalize (w.alloc (.cells #[.int .i64 a1, .int .i64 a2, .int .i64 a3] 23)).alloc (.cells #[.int .i64 a1, .int .i64 a2, .int .i64 a3] 23) = w1 at *
  generalize w.heap.size = K at *
  refine (HW.out _).mono ?_; rintro e w2 ⟨rfl, hg⟩
  have G := Lib.hid (World.grownBy.trans g0 hg)
  have B_a := Lib.hid (b_a.new hg)
  have B_b := Lib.hid (b_b.new hg)
  clear g0 b_a b_b hg HW
  have c00 := B_a.out.cell (i := 0) (x := .int .i64 a1) rfl
  have c01 := B_a.out.cell (i := 1) (x := .int .i64 a2) rfl
  have c02 := B_a.out.cell (i := 2) (x := .int .i64 a3) rfl
  have c10 := B_b.out.cell (i := 0) (x := .int .i64 a1) rfl
  have c11 := B_b.out.cell (i := 1) (x := .int .i64 a2) rfl
  have c12 := B_b.out.cell (i := 2) (x := .int .i64 a3) rfl
  go_wp2_with fail
  clear c00 c01 c02 c10 c11 c12
  refine (HA.out _).mono ?_; rintro e u1 ⟨rfl, hg⟩
  replace G := Lib.hid (World.grownBy.trans G.out hg)
  replace B_a := Lib.hid (B_a.out.new hg)
  replace B_b := Lib.hid (B_b.out.new hg)
  clear hg
  try unfold txt
  have c00 := B_a.out.cell (i := 0) (x := .int .i64 a1) rfl
  have c01 := B_a.out.cell (i := 1) (x := .int .i64 a2) rfl
  have c02 := B_a.out.cell (i := 2) (x := .int .i64 a3) rfl
  have c10 := B_b.out.cell (i := 0) (x := .int .i64 a1) rfl
  have c11 := B_b.out.cell (i := 1) (x := .int .i64 a2) rfl
  have c12 := B_b.out.cell (i := 2) (x := .int .i64 a3) rfl
  go_wp2_with fail
  clear c00 c01 c02 c10 c11 c12
  refine (HB.out _).mono ?_; rintro e u2 ⟨rfl, hg⟩
  replace G := Lib.hid (World.grownBy.trans G.out hg)
  replace B_a := Lib.hid (B_a.out.new hg)
  replace B_b := Lib.hid (B_b.out.new hg)
  clear hg
  try unfold txt
  have c00 := B_a.out.cell (i := 0) (x := .int .i64 a1) rfl
  have c01 := B_a.out.cell (i := 1) (x := .int .i64 a2) rfl
  have c02 := B_a.out.cell (i := 2) (x := .int .i64 a3) rfl
  have c10 := B_b.out.cell (i := 0) (x := .int .i64 a1) rfl
  have c11 := B_b.out.cell (i := 1) (x := .int .i64 a2) rfl
  have c12 := B_b.out.cell (i := 2) (x := .int .i64 a3) rfl
  go_upto_region 7 with fail
  clear c00 c01 c02 c10 c11 c12
  have KEEP : Hid (∀ w', u2.grownBy w' none → (w'.cell? ⟨K, 0, none⟩ = some (.int .i64 a1) ∧ w'.cell? ⟨K, 1, none⟩ = some (.int .i64 a2) ∧ w'.cell? ⟨K, 2, none⟩ = some (.int .i64 a3) ∧ w'.cell? ⟨K + 1, 0, none⟩ = some (.int .i64 a1) ∧ w'.cell? ⟨K + 1, 1, none⟩ = some (.int .i64 a2) ∧ w'.cell? ⟨K + 1, 2, none⟩ = some (.int .i64 a3))) := Lib.hid (fun w' hg => ⟨(B_a.out.new hg).cell (i := 0) rfl, (B_a.out.new hg).cell (i := 1) rfl, (B_a.out.new hg).cell (i := 2) rfl, (B_b.out.new hg).cell (i := 0) rfl, (B_b.out.new hg).cell (i := 1) rfl, (B_b.out.new hg).cell (i := 2) rfl⟩)
  refine wp_region_noPanic ?_
  refine wp_region_held_drew (S := fun w' => (w'.cell? ⟨K, 0, none⟩ = some (.int .i64 a1) ∧ w'.cell? ⟨K, 1, none⟩ = some (.int .i64 a2) ∧ w'.cell? ⟨K, 2, none⟩ = some (.int .i64 a3) ∧ w'.cell? ⟨K + 1, 0, none⟩ = some (.int .i64 a1) ∧ w'.cell? ⟨K + 1, 1, none⟩ = some (.int .i64 a2) ∧ w'.cell? ⟨K + 1, 2, none⟩ = some (.int .i64 a3))) (by kernel_rfl) (KEEP.out _ (drew_grown _ _)) (fun hHeld => ?_)
  have HG : Hid (u2.grownBy u2.drew none) := Lib.hid (drew_grown _ _)
  refine wpAnyH_take (i := 0) (v := ?_) (by simp only [List.getElem?_toArray, List.getElem?_cons_zero]; rfl) (by kernel_rfl) (by kernel_rfl) (by kernel_rfl) (fun _ _ _ h => h) (Or.inl ⟨by rfl, ?_⟩) (by assumption) ?_
  rotate_left 1
  · intro w hSw; (try dsimp only at hSw); go_simp; all_goals (with_reducible rfl)
  try simp only [Act.put, List.setIfInBounds_toArray, List.set_cons_zero, List.set_cons_succ]
  refine wpAnyH_take (i := 1) (v := ?_) (by simp only [List.getElem?_toArray, List.getElem?_cons_succ, List.getElem?_cons_zero]; rfl) (by kernel_rfl) (by kernel_rfl) (by kernel_rfl) (fun _ _ _ h => h) (Or.inl ⟨by rfl, ?_⟩) (by assumption) ?_
  rotate_left 1
  · intro w hSw; (try dsimp only at hSw); go_simp; all_goals (with_reducible rfl)
  try simp only [Act.put, List.setIfInBounds_toArray, List.set_cons_zero, List.set_cons_succ]
  refine wpAnyH_take (i := 2) (v := ?_) (by simp only [List.getElem?_toArray, List.getElem?_cons_succ, List.getElem?_cons_zero]; rfl) (by kernel_rfl) (by kernel_rfl) (by kernel_rfl) (fun _ _ _ h => h) (Or.inl ⟨by rfl, ?_⟩) (by assumption) ?_
  rotate_left 1
  · intro w hSw; (try dsimp only at hSw); go_simp; all_goals (with_reducible rfl)
  try simp only [Act.put, List.setIfInBounds_toArray, List.set_cons_zero, List.set_cons_succ]
  refine wpAnyH_take (i := 3) (v := ?_) (by simp only [List.getElem?_toArray, List.getElem?_cons_succ, List.getElem?_cons_zero]; rfl) (by kernel_rfl) (by kernel_rfl) (by kernel_rfl) (fun _ _ _ h => h) (Or.inl ⟨by rfl, ?_⟩) (by assumption) ?_
  rotate_left 1
  · intro w hSw; (try dsimp only at hSw); go_simp; all_goals (with_reducible rfl)
  try simp only [Act.put, List.setIfInBounds_toArray, List.set_cons_zero, List.set_cons_succ]
  refine wpAnyH_take (i := 4) (v := ?_) (by simp only [List.getElem?_toArray, List.getElem?_cons_succ, List.getElem?_cons_zero]; rfl) (by kernel_rfl) (by kernel_rfl) (by kernel_rfl) (fun _ _ _ h => h) (Or.inl ⟨by rfl, ?_⟩) (by assumption) ?_
  rotate_left 1
  · intro w hSw; (try dsimp only at hSw); go_simp; all_goals (with_reducible rfl)
  try simp only [Act.put, List.setIfInBounds_toArray, List.set_cons_zero, List.set_cons_succ]
  refine wpAnyH_take (i := 5) (v := ?_) (by simp only [List.getElem?_toArray, List.getElem?_cons_succ, List.getElem?_cons_zero]; rfl) (by kernel_rfl) (by kernel_rfl) (by kernel_rfl) (fun _ _ _ h => h) (Or.inl ⟨by rfl, ?_⟩) (by assumption) ?_
  rotate_left 1
  · intro w hSw; (try dsimp only at hSw); go_simp; all_goals (with_reducible rfl)
  try simp only [Act.put, List.setIfInBounds_toArray, List.set_cons_zero, List.set_cons_succ]
  refine wpAnyH_take (i := 6) (v := ?_) (by simp only [List.getElem?_toArray, List.getElem?_cons_succ, List.getElem?_cons_zero]; rfl) (by kernel_rfl) (by kernel_rfl) (by kernel_rfl) (fun _ _ _ h => h) (Or.inl ⟨by rfl, ?_⟩) (by assumption) ?_
  rotate_left 1
  · intro w hSw; (try dsimp only at hSw); go_simp; all_goals (with_reducible rfl)
  try simp only [Act.put, List.setIfInBounds_toArray, List.set_cons_zero, List.set_cons_succ]
  refine wpAnyH_take (i := 7) (v := ?_) (by simp only [List.getElem?_toArray, List.getElem?_cons_succ, List.getElem?_cons_zero]; rfl) (by kernel_rfl) (by kernel_rfl) (by kernel_rfl) (fun _ _ _ h => h) (Or.inl ⟨by rfl, ?_⟩) (by assumption) ?_
  rotate_left 1
  · intro w hSw; (try dsimp only at hSw); go_simp; all_goals (with_reducible rfl)
  try simp only [Act.put, List.setIfInBounds_toArray, List.set_cons_zero, List.set_cons_succ]
  refine wpAnyH_take (i := 8) (v := ?_) (by simp only [List.getElem?_toArray, List.getElem?_cons_succ, List.getElem?_cons_zero]; rfl) (by kernel_rfl) (by kernel_rfl) (by kernel_rfl) (fun _ _ _ h => h) (Or.inl ⟨by rfl, ?_⟩) (by assumption) ?_
  rotate_left 1
  · intro w hSw; (try dsimp only at hSw); go_simp; all_goals (with_reducible rfl)
  try simp only [Act.put, List.setIfInBounds_toArray, List.set_cons_zero, List.set_cons_succ]
  refine wpAnyH_take (i := 9) (v := ?_) (by simp only [List.getElem?_toArray, List.getElem?_cons_succ, List.getElem?_cons_zero]; rfl) (by kernel_rfl) (by kernel_rfl) (by kernel_rfl) (fun _ _ _ h => h) (Or.inl ⟨by rfl, ?_⟩) (by assumption) ?_
  rotate_left 1
  · intro w hSw; (try dsimp only at hSw); go_simp; all_goals (with_reducible rfl)
  try simp only [Act.put, List.setIfInBounds_toArray, List.set_cons_zero, List.set_cons_succ]
  refine wpAnyH_take (i := 10) (v := ?_) (by simp only [List.getElem?_toArray, List.getElem?_cons_succ, List.getElem?_cons_zero]; rfl) (by kernel_rfl) (by kernel_rfl) (by kernel_rfl) (fun _ _ _ h => h) (Or.inl ⟨by rfl, ?_⟩) (by assumption) ?_
  rotate_left 1
  · intro w hSw; (try dsimp only at hSw); go_simp; all_goals (with_reducible rfl)
  try simp only [Act.put, List.setIfInBounds_toArray, List.set_cons_zero, List.set_cons_succ]
  refine wpAnyH_take (i := 11) (v := ?_) (by simp only [List.getElem?_toArray, List.getElem?_cons_succ, List.getElem?_cons_zero]; rfl) (by kernel_rfl) (by kernel_rfl) (by kernel_rfl) (fun _ _ _ h => h) (Or.inl ⟨by rfl, ?_⟩) (by assumption) ?_
  rotate_left 1
  · intro w hSw; (try dsimp only at hSw); go_simp; all_goals (with_reducible rfl)
  try simp only [Act.put, List.setIfInBounds_toArray, List.set_cons_zero, List.set_cons_succ]
  refine wpAnyH_take (i := 12) (v := ?_) (by simp only [List.getElem?_toArray, List.getElem?_cons_succ, List.getElem?_cons_zero]; rfl) (by kernel_rfl) (by kernel_rfl) (by kernel_rfl) (fun _ _ _ h => h) (Or.inl ⟨by rfl, ?_⟩) (by assumption) ?_
  rotate_left 1
  · intro w hSw; (try dsimp only at hSw); go_simp; all_goals (with_reducible rfl)
  try simp only [Act.put, List.setIfInBounds_toArray, List.set_cons_zero, List.set_cons_succ]
  refine wpAnyH_take (i := 13) (v := ?_) (by simp only [List.getElem?_toArray, List.getElem?_cons_succ, List.getElem?_cons_zero]; rfl) (by kernel_rfl) (by kernel_rfl) (by kernel_rfl) (fun _ _ _ h => h) (Or.inl ⟨by rfl, ?_⟩) (by assumption) ?_
  rotate_left 1
  · intro w hSw; (try dsimp only at hSw); go_simp; all_goals (with_reducible rfl)
  try simp only [Act.put, List.setIfInBounds_toArray, List.set_cons_zero, List.set_cons_succ]
  refine wpAnyH_take (i := 14) (v := ?_) (by simp only [List.getElem?_toArray, List.getElem?_cons_succ, List.getElem?_cons_zero]; rfl) (by kernel_rfl) (by kernel_rfl) (by kernel_rfl) (fun _ _ _ h => h) (Or.inl ⟨by rfl, ?_⟩) (by assumption) ?_
  rotate_left 1
  · intro w hSw; (try dsimp only at hSw); go_simp; all_goals (with_reducible rfl)
  try simp only [Act.put, List.setIfInBounds_toArray, List.set_cons_zero, List.set_cons_succ]
  refine wpAnyH_take (i := 15) (v := ?_) (by simp only [List.getElem?_toArray, List.getElem?_cons_succ, List.getElem?_cons_zero]; rfl) (by kernel_rfl) (by kernel_rfl) (by kernel_rfl) (fun _ _ _ h => h) (Or.inl ⟨by rfl, ?_⟩) (by assumption) ?_
  rotate_left 1
  · intro w hSw; (try dsimp only at hSw); go_simp; all_goals (with_reducible rfl)
  try simp only [Act.put, List.setIfInBounds_toArray, List.set_cons_zero, List.set_cons_succ]
  refine wpAnyH_take (i := 16) (v := ?_) (by simp only [List.getElem?_toArray, List.getElem?_cons_succ, List.getElem?_cons_zero]; rfl) (by kernel_rfl) (by kernel_rfl) (by kernel_rfl) (fun _ _ _ h => h) (Or.inl ⟨by rfl, ?_⟩) (by assumption) ?_
  rotate_left 1
  · intro w hSw; (try dsimp only at hSw); go_simp; all_goals (with_reducible rfl)
  try simp only [Act.put, List.setIfInBounds_toArray, List.set_cons_zero, List.set_cons_succ]
  refine wpAnyH_take (i := 17) (v := ?_) (by simp only [List.getElem?_toArray, List.getElem?_cons_succ, List.getElem?_cons_zero]; rfl) (by kernel_rfl) (by kernel_rfl) (by kernel_rfl) (fun _ _ _ h => h) (Or.inl ⟨by rfl, ?_⟩) (by assumption) ?_
  rotate_left 1
  · intro w hSw; (try dsimp only at hSw); go_simp; all_goals (with_reducible rfl)
  try simp only [Act.put, List.setIfInBounds_toArray, List.set_cons_zero, List.set_cons_succ]
  refine wpAnyH_take (i := 18) (v := ?_) (by simp only [List.getElem?_toArray, List.getElem?_cons_succ, List.getElem?_cons_zero]; rfl) (by kernel_rfl) (by kernel_rfl) (by kernel_rfl) (fun _ _ _ h => h) (Or.inl ⟨by rfl, ?_⟩) (by assumption) ?_
  rotate_left 1
  · intro w hSw; (try dsimp only at hSw); go_simp; all_goals (with_reducible rfl)
  try simp only [Act.put, List.setIfInBounds_toArray, List.set_cons_zero, List.set_cons_succ]
  refine wpAnyH_take (i := 19) (v := ?_) (by simp only [List.getElem?_toArray, List.getElem?_cons_succ, List.getElem?_cons_zero]; rfl) (by kernel_rfl) (by kernel_rfl) (by kernel_rfl) (fun _ _ _ h => h) (Or.inl ⟨by rfl, ?_⟩) (by assumption) ?_
  rotate_left 1
  · intro w hSw; (try dsimp only at hSw); go_simp; all_goals (with_reducible rfl)
  try simp only [Act.put, List.setIfInBounds_toArray, List.set_cons_zero, List.set_cons_succ]
  refine wpAnyH_take (i := 21) (v := ?_) (by simp only [List.getElem?_toArray, List.getElem?_cons_succ, List.getElem?_cons_zero]; rfl) (by kernel_rfl) (by kernel_rfl) (by kernel_rfl) (fun _ _ _ h => h) (Or.inl ⟨by rfl, ?_⟩) (by assumption) ?_
  rotate_left 1
  · intro w hSw; (try dsimp only at hSw); go_simp; all_goals (with_reducible rfl)
  try simp only [Act.put, List.setIfInBounds_toArray, List.set_cons_zero, List.set_cons_succ]
  refine wpAnyH_take (i := 22) (v := ?_) (by simp only [List.getElem?_toArray, List.getElem?_cons_succ, List.getElem?_cons_zero]; rfl) (by kernel_rfl) (by kernel_rfl) (by kernel_rfl) (fun _ _ _ h => h) (Or.inl ⟨by rfl, ?_⟩) (by assumption) ?_
  rotate_left 1
  · intro w hSw; (try dsimp only at hSw); go_simp; all_goals (with_reducible rfl)
  try simp only [Act.put, List.setIfInBounds_toArray, List.set_cons_zero, List.set_cons_succ]
  refine wpAnyH_take (i := 23) (v := ?_) (by simp only [List.getElem?_toArray, List.getElem?_cons_succ, List.getElem?_cons_zero]; rfl) (by kernel_rfl) (by kernel_rfl) (by kernel_rfl) (fun _ _ _ h => h) (Or.inl ⟨by rfl, ?_⟩) (by assumption) ?_
  rotate_left 1
  · intro w hSw; (try dsimp only at hSw); go_simp; all_goals (with_reducible rfl)
  try simp only [Act.put, List.setIfInBounds_toArray, List.set_cons_zero, List.set_cons_succ]
  refine wpAnyH_take (i := 24) (v := ?_) (by simp only [List.getElem?_toArray, List.getElem?_cons_succ, List.getElem?_cons_zero]; rfl) (by kernel_rfl) (by kernel_rfl) (by kernel_rfl) (fun _ _ _ h => h) (Or.inl ⟨by rfl, ?_⟩) (by assumption) ?_
  rotate_left 1
  · intro w hSw; (try dsimp only at hSw); go_simp; all_goals (with_reducible rfl)
  try simp only [Act.put, List.setIfInBounds_toArray, List.set_cons_zero, List.set_cons_succ]
  refine wpAnyH_take (i := 25) (v := ?_) (by simp only [List.getElem?_toArray, List.getElem?_cons_succ, List.getElem?_cons_zero]; rfl) (by kernel_rfl) (by kernel_rfl) (by kernel_rfl) (fun _ _ _ h => h) (Or.inl ⟨by rfl, ?_⟩) (by assumption) ?_
  rotate_left 1
  · intro w hSw; (try dsimp only at hSw); go_simp; all_goals (with_reducible rfl)
  try simp only [Act.put, List.setIfInBounds_toArray, List.set_cons_zero, List.set_cons_succ]
  refine wpAnyH_ready (rs := [20]) (by kernel_rfl) (by simp) ?_
  refine AllReadyH.cons (by simp only [List.getElem?_toArray, List.getElem?_cons_succ, List.getElem?_cons_zero]; rfl) (fun KK hK => ?_) AllReadyH.nil
  go_simp
  refine (HL.out _).mono ?_; rintro e v1 ⟨rfl, hg⟩
  clear hHeld
  replace HG := Lib.hid (World.grownBy.trans HG.out hg)
  clear hg
  go_wp2_with fail
  refine hK.out _ _ (KEEP.out _ HG.out) (fun hHeld => ?_)
  clear hK KK
  try simp only [Act.put, List.setIfInBounds_toArray, List.set_cons_zero, List.set_cons_succ]
  refine wpAnyH_take (i := 26) (v := ?_) (by simp only [List.getElem?_toArray, List.getElem?_cons_succ, List.getElem?_cons_zero]; rfl) (by kernel_rfl) (by kernel_rfl) (by kernel_rfl) (fun _ _ _ h => h) (Or.inl ⟨by rfl, ?_⟩) (by assumption) ?_
  rotate_left 1
  · intro w hSw; (try dsimp only at hSw); go_simp; all_goals (with_reducible rfl)
  try simp only [Act.put, List.setIfInBounds_toArray, List.set_cons_zero, List.set_cons_succ]
  refine wpAnyH_take (i := 27) (v := ?_) (by simp only [List.getElem?_toArray, List.getElem?_cons_succ, List.getElem?_cons_zero]; rfl) (by kernel_rfl) (by kernel_rfl) (by kernel_rfl) (fun _ _ _ h => h) (Or.inl ⟨by rfl, ?_⟩) (by assumption) ?_
  rotate_left 1
  · intro w hSw; (try dsimp only at hSw); go_simp; all_goals (with_reducible rfl)
  try simp only [Act.put, List.setIfInBounds_toArray, List.set_cons_zero, List.set_cons_succ]
  refine wpAnyH_take (i := 28) (v := ?_) (by simp only [List.getElem?_toArray, List.getElem?_cons_succ, List.getElem?_cons_zero]; rfl) (by kernel_rfl) (by kernel_rfl) (by kernel_rfl) (fun _ _ _ h => h) (Or.inl ⟨by rfl, ?_⟩) (by assumption) ?_
  rotate_left 1
  · intro w hSw; (try dsimp only at hSw); go_simp; all_goals (with_reducible rfl)
  try simp only [Act.put, List.setIfInBounds_toArray, List.set_cons_zero, List.set_cons_succ]
  refine wpAnyH_done (by kernel_rfl) ?_ _
  refine NoPanic.normal ?_
  go_wp2_with fail
  go_ret
  exact ⟨rfl, World.grownBy.trans G.out HG.out⟩

set_option maxRecDepth 10000 in
set_option maxHeartbeats 8000000 in
theorem apart_other (a b : Hn) (w : World) (ha : hMay a) (hb : hMay b) (hab : a ≠ b) : Calls Try.prog 8 #[hnV a, hnV b] w (OK w) := by
  have HW := Lib.hid (fun w => awake_any w)
  have HA := Lib.hid (fun w => Enc_any a w)
  have HB := Lib.hid (fun w => Enc_any b w)
  have HL := Lib.hid (fun w => less_any a b w)
  have bl := bl_h16 a b ha hb
  rw [hEnc_of ha] at HA
  rw [hEnc_of hb] at HB
  have x1 := hB_16 a
  have x2 := hB_16 b
  have hl : (((hB fnv a).length : Nat) : Int) = 24 := rfl
  have hl2 : (((hB fnv b).length : Nat) : Int) = 24 := rfl
  have hne : (hB fnv a == hB fnv b) = false := beq_eq_false_iff_ne.2 (fun e => hab (hB_inj ha hb e))
  have q := parts a b hab
  clear ha hb hab
  generalize hB fnv a = ta at *
  generalize hB fnv b = tb at *
  generalize h16 a = la at *
  generalize h16 b = lb at *
  generalize hLess a b = x at *
  obtain ⟨a1, a2, a3⟩ := a
  obtain ⟨b1, b2, b3⟩ := b
  unfold hnV at *
  dsimp only at HA HB HL q
  dsimp only
  rcases q with q1 | ⟨rfl, q1⟩ | ⟨rfl, rfl, q1⟩
  · skip
    go_enter Try.func8, Try.ntmps8
    go_wp2_with fail
    obtain ⟨b_a, b_b, g0⟩ := boxes2 w 23 #[.int .i64 a1, .int .i64 a2, .int .i64 a3] #[.int .i64 b1, .int .i64 b2, .int .i64 b3]
    generalize (w.alloc (.cells #[.int .i64 a1, .int .i64 a2, .int .i64 a3] 23)).alloc (.cells #[.int .i64 b1, .int .i64 b2, .int .i64 b3] 23) = w1 at *
    generalize w.heap.size = K at *
    refine (HW.out _).mono ?_; rintro e w2 ⟨rfl, hg⟩
    have G := Lib.hid (World.grownBy.trans g0 hg)
    have B_a := Lib.hid (b_a.new hg)
    have B_b := Lib.hid (b_b.new hg)
    clear g0 b_a b_b hg HW
    have c00 := B_a.out.cell (i := 0) (x := .int .i64 a1) rfl
    have c01 := B_a.out.cell (i := 1) (x := .int .i64 a2) rfl
    have c02 := B_a.out.cell (i := 2) (x := .int .i64 a3) rfl
    have c10 := B_b.out.cell (i := 0) (x := .int .i64 b1) rfl
    have c11 := B_b.out.cell (i := 1) (x := .int .i64 b2) rfl
    have c12 := B_b.out.cell (i := 2) (x := .int .i64 b3) rfl
    go_wp2_with fail
    clear c00 c01 c02 c10 c11 c12
    refine (HA.out _).mono ?_; rintro e u1 ⟨rfl, hg⟩
    replace G := Lib.hid (World.grownBy.trans G.out hg)
    replace B_a := Lib.hid (B_a.out.new hg)
    replace B_b := Lib.hid (B_b.out.new hg)
    clear hg
    try unfold txt
    have c00 := B_a.out.cell (i := 0) (x := .int .i64 a1) rfl
    have c01 := B_a.out.cell (i := 1) (x := .int .i64 a2) rfl
    have c02 := B_a.out.cell (i := 2) (x := .int .i64 a3) rfl
    have c10 := B_b.out.cell (i := 0) (x := .int .i64 b1) rfl
    have c11 := B_b.out.cell (i := 1) (x := .int .i64 b2) rfl
    have c12 := B_b.out.cell (i := 2) (x := .int .i64 b3) rfl
    go_wp2_with fail
    clear c00 c01 c02 c10 c11 c12
    refine (HB.out _).mono ?_; rintro e u2 ⟨rfl, hg⟩
    replace G := Lib.hid (World.grownBy.trans G.out hg)
    replace B_a := Lib.hid (B_a.out.new hg)
    replace B_b := Lib.hid (B_b.out.new hg)
    clear hg
    try unfold txt
    have c00 := B_a.out.cell (i := 0) (x := .int .i64 a1) rfl
    have c01 := B_a.out.cell (i := 1) (x := .int .i64 a2) rfl
    have c02 := B_a.out.cell (i := 2) (x := .int .i64 a3) rfl
    have c10 := B_b.out.cell (i := 0) (x := .int .i64 b1) rfl
    have c11 := B_b.out.cell (i := 1) (x := .int .i64 b2) rfl
    have c12 := B_b.out.cell (i := 2) (x := .int .i64 b3) rfl
    go_upto_region 7 with fail
    clear c00 c01 c02 c10 c11 c12
    have KEEP : Hid (∀ w', u2.grownBy w' none → (w'.cell? ⟨K, 0, none⟩ = some (.int .i64 a1) ∧ w'.cell? ⟨K, 1, none⟩ = some (.int .i64 a2) ∧ w'.cell? ⟨K, 2, none⟩ = some (.int .i64 a3) ∧ w'.cell? ⟨K + 1, 0, none⟩ = some (.int .i64 b1) ∧ w'.cell? ⟨K + 1, 1, none⟩ = some (.int .i64 b2) ∧ w'.cell? ⟨K + 1, 2, none⟩ = some (.int .i64 b3))) := Lib.hid (fun w' hg => ⟨(B_a.out.new hg).cell (i := 0) rfl, (B_a.out.new hg).cell (i := 1) rfl, (B_a.out.new hg).cell (i := 2) rfl, (B_b.out.new hg).cell (i := 0) rfl, (B_b.out.new hg).cell (i := 1) rfl, (B_b.out.new hg).cell (i := 2) rfl⟩)
    refine wp_region_noPanic ?_
    refine wp_region_held_drew (S := fun w' => (w'.cell? ⟨K, 0, none⟩ = some (.int .i64 a1) ∧ w'.cell? ⟨K, 1, none⟩ = some (.int .i64 a2) ∧ w'.cell? ⟨K, 2, none⟩ = some (.int .i64 a3) ∧ w'.cell? ⟨K + 1, 0, none⟩ = some (.int .i64 b1) ∧ w'.cell? ⟨K + 1, 1, none⟩ = some (.int .i64 b2) ∧ w'.cell? ⟨K + 1, 2, none⟩ = some (.int .i64 b3))) (by kernel_rfl) (KEEP.out _ (drew_grown _ _)) (fun hHeld => ?_)
    have HG : Hid (u2.grownBy u2.drew none) := Lib.hid (drew_grown _ _)
    refine wpAnyH_take (i := 0) (v := ?_) (by simp only [List.getElem?_toArray, List.getElem?_cons_zero]; rfl) (by kernel_rfl) (by kernel_rfl) (by kernel_rfl) (fun _ _ _ h => h) (Or.inl ⟨by rfl, ?_⟩) (by assumption) ?_
    rotate_left 1
    · intro w hSw; (try dsimp only at hSw); go_simp; all_goals (with_reducible rfl)
    try simp only [Act.put, List.setIfInBounds_toArray, List.set_cons_zero, List.set_cons_succ]
    refine wpAnyH_take (i := 1) (v := ?_) (by simp only [List.getElem?_toArray, List.getElem?_cons_succ, List.getElem?_cons_zero]; rfl) (by kernel_rfl) (by kernel_rfl) (by kernel_rfl) (fun _ _ _ h => h) (Or.inl ⟨by rfl, ?_⟩) (by assumption) ?_
    rotate_left 1
    · intro w hSw; (try dsimp only at hSw); go_simp; all_goals (with_reducible rfl)
    try simp only [Act.put, List.setIfInBounds_toArray, List.set_cons_zero, List.set_cons_succ]
    refine wpAnyH_take (i := 2) (v := ?_) (by simp only [List.getElem?_toArray, List.getElem?_cons_succ, List.getElem?_cons_zero]; rfl) (by kernel_rfl) (by kernel_rfl) (by kernel_rfl) (fun _ _ _ h => h) (Or.inl ⟨by rfl, ?_⟩) (by assumption) ?_
    rotate_left 1
    · intro w hSw; (try dsimp only at hSw); go_simp; all_goals (with_reducible rfl)
    try simp only [Act.put, List.setIfInBounds_toArray, List.set_cons_zero, List.set_cons_succ]
    refine wpAnyH_take (i := 3) (v := ?_) (by simp only [List.getElem?_toArray, List.getElem?_cons_succ, List.getElem?_cons_zero]; rfl) (by kernel_rfl) (by kernel_rfl) (by kernel_rfl) (fun _ _ _ h => h) (Or.inl ⟨by rfl, ?_⟩) (by assumption) ?_
    rotate_left 1
    · intro w hSw; (try dsimp only at hSw); go_simp; all_goals (with_reducible rfl)
    try simp only [Act.put, List.setIfInBounds_toArray, List.set_cons_zero, List.set_cons_succ]
    refine wpAnyH_take (i := 4) (v := ?_) (by simp only [List.getElem?_toArray, List.getElem?_cons_succ, List.getElem?_cons_zero]; rfl) (by kernel_rfl) (by kernel_rfl) (by kernel_rfl) (fun _ _ _ h => h) (Or.inl ⟨by rfl, ?_⟩) (by assumption) ?_
    rotate_left 1
    · intro w hSw; (try dsimp only at hSw); go_simp; all_goals (with_reducible rfl)
    try simp only [Act.put, List.setIfInBounds_toArray, List.set_cons_zero, List.set_cons_succ]
    refine wpAnyH_take (i := 5) (v := ?_) (by simp only [List.getElem?_toArray, List.getElem?_cons_succ, List.getElem?_cons_zero]; rfl) (by kernel_rfl) (by kernel_rfl) (by kernel_rfl) (fun _ _ _ h => h) (Or.inl ⟨by rfl, ?_⟩) (by assumption) ?_
    rotate_left 1
    · intro w hSw; (try dsimp only at hSw); go_simp; all_goals (with_reducible rfl)
    try simp only [Act.put, List.setIfInBounds_toArray, List.set_cons_zero, List.set_cons_succ]
    refine wpAnyH_take (i := 6) (v := ?_) (by simp only [List.getElem?_toArray, List.getElem?_cons_succ, List.getElem?_cons_zero]; rfl) (by kernel_rfl) (by kernel_rfl) (by kernel_rfl) (fun _ _ _ h => h) (Or.inl ⟨by rfl, ?_⟩) (by assumption) ?_
    rotate_left 1
    · intro w hSw; (try dsimp only at hSw); go_simp; all_goals (with_reducible rfl)
    try simp only [Act.put, List.setIfInBounds_toArray, List.set_cons_zero, List.set_cons_succ]
    refine wpAnyH_take (i := 7) (v := ?_) (by simp only [List.getElem?_toArray, List.getElem?_cons_succ, List.getElem?_cons_zero]; rfl) (by kernel_rfl) (by kernel_rfl) (by kernel_rfl) (fun _ _ _ h => h) (Or.inl ⟨by rfl, ?_⟩) (by assumption) ?_
    rotate_left 1
    · intro w hSw; (try dsimp only at hSw); go_simp; all_goals (with_reducible rfl)
    try simp only [Act.put, List.setIfInBounds_toArray, List.set_cons_zero, List.set_cons_succ]
    refine wpAnyH_take (i := 8) (v := ?_) (by simp only [List.getElem?_toArray, List.getElem?_cons_succ, List.getElem?_cons_zero]; rfl) (by kernel_rfl) (by kernel_rfl) (by kernel_rfl) (fun _ _ _ h => h) (Or.inl ⟨by rfl, ?_⟩) (by assumption) ?_
    rotate_left 1
    · intro w hSw; (try dsimp only at hSw); go_simp; all_goals (with_reducible rfl)
    try simp only [Act.put, List.setIfInBounds_toArray, List.set_cons_zero, List.set_cons_succ]
    refine wpAnyH_take (i := 9) (v := ?_) (by simp only [List.getElem?_toArray, List.getElem?_cons_succ, List.getElem?_cons_zero]; rfl) (by kernel_rfl) (by kernel_rfl) (by kernel_rfl) (fun _ _ _ h => h) (Or.inl ⟨by rfl, ?_⟩) (by assumption) ?_
    rotate_left 1
    · intro w hSw; (try dsimp only at hSw); go_simp; all_goals (with_reducible rfl)
    try simp only [Act.put, List.setIfInBounds_toArray, List.set_cons_zero, List.set_cons_succ]
    refine wpAnyH_take (i := 10) (v := ?_) (by simp only [List.getElem?_toArray, List.getElem?_cons_succ, List.getElem?_cons_zero]; rfl) (by kernel_rfl) (by kernel_rfl) (by kernel_rfl) (fun _ _ _ h => h) (Or.inl ⟨by rfl, ?_⟩) (by assumption) ?_
    rotate_left 1
    · intro w hSw; (try dsimp only at hSw); go_simp; all_goals (with_reducible rfl)
    try simp only [Act.put, List.setIfInBounds_toArray, List.set_cons_zero, List.set_cons_succ]
    refine wpAnyH_take (i := 11) (v := ?_) (by simp only [List.getElem?_toArray, List.getElem?_cons_succ, List.getElem?_cons_zero]; rfl) (by kernel_rfl) (by kernel_rfl) (by kernel_rfl) (fun _ _ _ h => h) (Or.inl ⟨by rfl, ?_⟩) (by assumption) ?_
    rotate_left 1
    · intro w hSw; (try dsimp only at hSw); go_simp; all_goals (with_reducible rfl)
    try simp only [Act.put, List.setIfInBounds_toArray, List.set_cons_zero, List.set_cons_succ]
    refine wpAnyH_take (i := 12) (v := ?_) (by simp only [List.getElem?_toArray, List.getElem?_cons_succ, List.getElem?_cons_zero]; rfl) (by kernel_rfl) (by kernel_rfl) (by kernel_rfl) (fun _ _ _ h => h) (Or.inl ⟨by rfl, ?_⟩) (by assumption) ?_
    rotate_left 1
    · intro w hSw; (try dsimp only at hSw); go_simp; all_goals (with_reducible rfl)
    try simp only [Act.put, List.setIfInBounds_toArray, List.set_cons_zero, List.set_cons_succ]
    refine wpAnyH_take (i := 13) (v := ?_) (by simp only [List.getElem?_toArray, List.getElem?_cons_succ, List.getElem?_cons_zero]; rfl) (by kernel_rfl) (by kernel_rfl) (by kernel_rfl) (fun _ _ _ h => h) (Or.inl ⟨by rfl, ?_⟩) (by assumption) ?_
    rotate_left 1
    · intro w hSw; (try dsimp only at hSw); go_simp; all_goals (with_reducible rfl)
    try simp only [Act.put, List.setIfInBounds_toArray, List.set_cons_zero, List.set_cons_succ]
    refine wpAnyH_take (i := 14) (v := ?_) (by simp only [List.getElem?_toArray, List.getElem?_cons_succ, List.getElem?_cons_zero]; rfl) (by kernel_rfl) (by kernel_rfl) (by kernel_rfl) (fun _ _ _ h => h) (Or.inl ⟨by rfl, ?_⟩) (by assumption) ?_
    rotate_left 1
    · intro w hSw; (try dsimp only at hSw); go_simp; all_goals (with_reducible rfl)
    try simp only [Act.put, List.setIfInBounds_toArray, List.set_cons_zero, List.set_cons_succ]
    refine wpAnyH_take (i := 15) (v := ?_) (by simp only [List.getElem?_toArray, List.getElem?_cons_succ, List.getElem?_cons_zero]; rfl) (by kernel_rfl) (by kernel_rfl) (by kernel_rfl) (fun _ _ _ h => h) (Or.inl ⟨by rfl, ?_⟩) (by assumption) ?_
    rotate_left 1
    · intro w hSw; (try dsimp only at hSw); go_simp; all_goals (with_reducible rfl)
    try simp only [Act.put, List.setIfInBounds_toArray, List.set_cons_zero, List.set_cons_succ]
    refine wpAnyH_take (i := 16) (v := ?_) (by simp only [List.getElem?_toArray, List.getElem?_cons_succ, List.getElem?_cons_zero]; rfl) (by kernel_rfl) (by kernel_rfl) (by kernel_rfl) (fun _ _ _ h => h) (Or.inl ⟨by rfl, ?_⟩) (by assumption) ?_
    rotate_left 1
    · intro w hSw; (try dsimp only at hSw); go_simp; all_goals (with_reducible rfl)
    try simp only [Act.put, List.setIfInBounds_toArray, List.set_cons_zero, List.set_cons_succ]
    refine wpAnyH_take (i := 17) (v := ?_) (by simp only [List.getElem?_toArray, List.getElem?_cons_succ, List.getElem?_cons_zero]; rfl) (by kernel_rfl) (by kernel_rfl) (by kernel_rfl) (fun _ _ _ h => h) (Or.inl ⟨by rfl, ?_⟩) (by assumption) ?_
    rotate_left 1
    · intro w hSw; (try dsimp only at hSw); go_simp; all_goals (with_reducible rfl)
    try simp only [Act.put, List.setIfInBounds_toArray, List.set_cons_zero, List.set_cons_succ]
    refine wpAnyH_take (i := 18) (v := ?_) (by simp only [List.getElem?_toArray, List.getElem?_cons_succ, List.getElem?_cons_zero]; rfl) (by kernel_rfl) (by kernel_rfl) (by kernel_rfl) (fun _ _ _ h => h) (Or.inl ⟨by rfl, ?_⟩) (by assumption) ?_
    rotate_left 1
    · intro w hSw; (try dsimp only at hSw); go_simp; all_goals (with_reducible rfl)
    try simp only [Act.put, List.setIfInBounds_toArray, List.set_cons_zero, List.set_cons_succ]
    refine wpAnyH_take (i := 19) (v := ?_) (by simp only [List.getElem?_toArray, List.getElem?_cons_succ, List.getElem?_cons_zero]; rfl) (by kernel_rfl) (by kernel_rfl) (by kernel_rfl) (fun _ _ _ h => h) (Or.inl ⟨by rfl, ?_⟩) (by assumption) ?_
    rotate_left 1
    · intro w hSw; (try dsimp only at hSw); go_simp; all_goals (with_reducible rfl)
    try simp only [Act.put, List.setIfInBounds_toArray, List.set_cons_zero, List.set_cons_succ]
    refine wpAnyH_take (i := 21) (v := ?_) (by simp only [List.getElem?_toArray, List.getElem?_cons_succ, List.getElem?_cons_zero]; rfl) (by kernel_rfl) (by kernel_rfl) (by kernel_rfl) (fun _ _ _ h => h) (Or.inl ⟨by rfl, ?_⟩) (by assumption) ?_
    rotate_left 1
    · intro w hSw; (try dsimp only at hSw); go_simp; all_goals (with_reducible rfl)
    try simp only [Act.put, List.setIfInBounds_toArray, List.set_cons_zero, List.set_cons_succ]
    refine wpAnyH_take (i := 22) (v := ?_) (by simp only [List.getElem?_toArray, List.getElem?_cons_succ, List.getElem?_cons_zero]; rfl) (by kernel_rfl) (by kernel_rfl) (by kernel_rfl) (fun _ _ _ h => h) (Or.inl ⟨by rfl, ?_⟩) (by assumption) ?_
    rotate_left 1
    · intro w hSw; (try dsimp only at hSw); go_simp; all_goals (with_reducible rfl)
    try simp only [Act.put, List.setIfInBounds_toArray, List.set_cons_zero, List.set_cons_succ]
    refine wpAnyH_take (i := 23) (v := ?_) (by simp only [List.getElem?_toArray, List.getElem?_cons_succ, List.getElem?_cons_zero]; rfl) (by kernel_rfl) (by kernel_rfl) (by kernel_rfl) (fun _ _ _ h => h) (Or.inl ⟨by rfl, ?_⟩) (by assumption) ?_
    rotate_left 1
    · intro w hSw; (try dsimp only at hSw); go_simp; all_goals (with_reducible rfl)
    try simp only [Act.put, List.setIfInBounds_toArray, List.set_cons_zero, List.set_cons_succ]
    refine wpAnyH_take (i := 24) (v := ?_) (by simp only [List.getElem?_toArray, List.getElem?_cons_succ, List.getElem?_cons_zero]; rfl) (by kernel_rfl) (by kernel_rfl) (by kernel_rfl) (fun _ _ _ h => h) (Or.inl ⟨by rfl, ?_⟩) (by assumption) ?_
    rotate_left 1
    · intro w hSw; (try dsimp only at hSw); go_simp; all_goals (with_reducible rfl)
    try simp only [Act.put, List.setIfInBounds_toArray, List.set_cons_zero, List.set_cons_succ]
    refine wpAnyH_take (i := 25) (v := ?_) (by simp only [List.getElem?_toArray, List.getElem?_cons_succ, List.getElem?_cons_zero]; rfl) (by kernel_rfl) (by kernel_rfl) (by kernel_rfl) (fun _ _ _ h => h) (Or.inl ⟨by rfl, ?_⟩) (by assumption) ?_
    rotate_left 1
    · intro w hSw; (try dsimp only at hSw); go_simp; all_goals (with_reducible rfl)
    try simp only [Act.put, List.setIfInBounds_toArray, List.set_cons_zero, List.set_cons_succ]
    refine wpAnyH_ready (rs := [20]) (by kernel_rfl) (by simp) ?_
    refine AllReadyH.cons (by simp only [List.getElem?_toArray, List.getElem?_cons_succ, List.getElem?_cons_zero]; rfl) (fun KK hK => ?_) AllReadyH.nil
    go_simp
    refine (HL.out _).mono ?_; rintro e v1 ⟨rfl, hg⟩
    clear hHeld
    replace HG := Lib.hid (World.grownBy.trans HG.out hg)
    clear hg
    go_wp2_with fail
    refine hK.out _ _ (KEEP.out _ HG.out) (fun hHeld => ?_)
    clear hK KK
    try simp only [Act.put, List.setIfInBounds_toArray, List.set_cons_zero, List.set_cons_succ]
    refine wpAnyH_take (i := 26) (v := ?_) (by simp only [List.getElem?_toArray, List.getElem?_cons_succ, List.getElem?_cons_zero]; rfl) (by kernel_rfl) (by kernel_rfl) (by kernel_rfl) (fun _ _ _ h => h) (Or.inl ⟨by rfl, ?_⟩) (by assumption) ?_
    rotate_left 1
    · intro w hSw; (try dsimp only at hSw); go_simp; all_goals (with_reducible rfl)
    try simp only [Act.put, List.setIfInBounds_toArray, List.set_cons_zero, List.set_cons_succ]
    refine wpAnyH_take (i := 27) (v := ?_) (by simp only [List.getElem?_toArray, List.getElem?_cons_succ, List.getElem?_cons_zero]; rfl) (by kernel_rfl) (by kernel_rfl) (by kernel_rfl) (fun _ _ _ h => h) (Or.inl ⟨by rfl, ?_⟩) (by assumption) ?_
    rotate_left 1
    · intro w hSw; (try dsimp only at hSw); go_simp; all_goals (with_reducible rfl)
    try simp only [Act.put, List.setIfInBounds_toArray, List.set_cons_zero, List.set_cons_succ]
    refine wpAnyH_take (i := 28) (v := ?_) (by simp only [List.getElem?_toArray, List.getElem?_cons_succ, List.getElem?_cons_zero]; rfl) (by kernel_rfl) (by kernel_rfl) (by kernel_rfl) (fun _ _ _ h => h) (Or.inl ⟨by rfl, ?_⟩) (by assumption) ?_
    rotate_left 1
    · intro w hSw; (try dsimp only at hSw); go_simp; all_goals (with_reducible rfl)
    try simp only [Act.put, List.setIfInBounds_toArray, List.set_cons_zero, List.set_cons_succ]
    refine wpAnyH_done (by kernel_rfl) ?_ _
    refine NoPanic.normal ?_
    go_wp2_with fail
    go_ret
    exact ⟨rfl, World.grownBy.trans G.out HG.out⟩
  · skip
    go_enter Try.func8, Try.ntmps8
    go_wp2_with fail
    obtain ⟨b_a, b_b, g0⟩ := boxes2 w 23 #[.int .i64 a1, .int .i64 a2, .int .i64 a3] #[.int .i64 a1, .int .i64 b2, .int .i64 b3]
    generalize (w.alloc (.cells #[.int .i64 a1, .int .i64 a2, .int .i64 a3] 23)).alloc (.cells #[.int .i64 a1, .int .i64 b2, .int .i64 b3] 23) = w1 at *
    generalize w.heap.size = K at *
    refine (HW.out _).mono ?_; rintro e w2 ⟨rfl, hg⟩
    have G := Lib.hid (World.grownBy.trans g0 hg)
    have B_a := Lib.hid (b_a.new hg)
    have B_b := Lib.hid (b_b.new hg)
    clear g0 b_a b_b hg HW
    have c00 := B_a.out.cell (i := 0) (x := .int .i64 a1) rfl
    have c01 := B_a.out.cell (i := 1) (x := .int .i64 a2) rfl
    have c02 := B_a.out.cell (i := 2) (x := .int .i64 a3) rfl
    have c10 := B_b.out.cell (i := 0) (x := .int .i64 a1) rfl
    have c11 := B_b.out.cell (i := 1) (x := .int .i64 b2) rfl
    have c12 := B_b.out.cell (i := 2) (x := .int .i64 b3) rfl
    go_wp2_with fail
    clear c00 c01 c02 c10 c11 c12
    refine (HA.out _).mono ?_; rintro e u1 ⟨rfl, hg⟩
    replace G := Lib.hid (World.grownBy.trans G.out hg)
    replace B_a := Lib.hid (B_a.out.new hg)
    replace B_b := Lib.hid (B_b.out.new hg)
    clear hg
    try unfold txt
    have c00 := B_a.out.cell (i := 0) (x := .int .i64 a1) rfl
    have c01 := B_a.out.cell (i := 1) (x := .int .i64 a2) rfl
    have c02 := B_a.out.cell (i := 2) (x := .int .i64 a3) rfl
    have c10 := B_b.out.cell (i := 0) (x := .int .i64 a1) rfl
    have c11 := B_b.out.cell (i := 1) (x := .int .i64 b2) rfl
    have c12 := B_b.out.cell (i := 2) (x := .int .i64 b3) rfl
    go_wp2_with fail
    clear c00 c01 c02 c10 c11 c12
    refine (HB.out _).mono ?_; rintro e u2 ⟨rfl, hg⟩
    replace G := Lib.hid (World.grownBy.trans G.out hg)
    replace B_a := Lib.hid (B_a.out.new hg)
    replace B_b := Lib.hid (B_b.out.new hg)
    clear hg
    try unfold txt
    have c00 := B_a.out.cell (i := 0) (x := .int .i64 a1) rfl
    have c01 := B_a.out.cell (i := 1) (x := .int .i64 a2) rfl
    have c02 := B_a.out.cell (i := 2) (x := .int .i64 a3) rfl
    have c10 := B_b.out.cell (i := 0) (x := .int .i64 a1) rfl
    have c11 := B_b.out.cell (i := 1) (x := .int .i64 b2) rfl
    have c12 := B_b.out.cell (i := 2) (x := .int .i64 b3) rfl
    go_upto_region 7 with fail
    clear c00 c01 c02 c10 c11 c12
    have KEEP : Hid (∀ w', u2.grownBy w' none → (w'.cell? ⟨K, 0, none⟩ = some (.int .i64 a1) ∧ w'.cell? ⟨K, 1, none⟩ = some (.int .i64 a2) ∧ w'.cell? ⟨K, 2, none⟩ = some (.int .i64 a3) ∧ w'.cell? ⟨K + 1, 0, none⟩ = some (.int .i64 a1) ∧ w'.cell? ⟨K + 1, 1, none⟩ = some (.int .i64 b2) ∧ w'.cell? ⟨K + 1, 2, none⟩ = some (.int .i64 b3))) := Lib.hid (fun w' hg => ⟨(B_a.out.new hg).cell (i := 0) rfl, (B_a.out.new hg).cell (i := 1) rfl, (B_a.out.new hg).cell (i := 2) rfl, (B_b.out.new hg).cell (i := 0) rfl, (B_b.out.new hg).cell (i := 1) rfl, (B_b.out.new hg).cell (i := 2) rfl⟩)
    refine wp_region_noPanic ?_
    refine wp_region_held_drew (S := fun w' => (w'.cell? ⟨K, 0, none⟩ = some (.int .i64 a1) ∧ w'.cell? ⟨K, 1, none⟩ = some (.int .i64 a2) ∧ w'.cell? ⟨K, 2, none⟩ = some (.int .i64 a3) ∧ w'.cell? ⟨K + 1, 0, none⟩ = some (.int .i64 a1) ∧ w'.cell? ⟨K + 1, 1, none⟩ = some (.int .i64 b2) ∧ w'.cell? ⟨K + 1, 2, none⟩ = some (.int .i64 b3))) (by kernel_rfl) (KEEP.out _ (drew_grown _ _)) (fun hHeld => ?_)
    have HG : Hid (u2.grownBy u2.drew none) := Lib.hid (drew_grown _ _)
    refine wpAnyH_take (i := 0) (v := ?_) (by simp only [List.getElem?_toArray, List.getElem?_cons_zero]; rfl) (by kernel_rfl) (by kernel_rfl) (by kernel_rfl) (fun _ _ _ h => h) (Or.inl ⟨by rfl, ?_⟩) (by assumption) ?_
    rotate_left 1
    · intro w hSw; (try dsimp only at hSw); go_simp; all_goals (with_reducible rfl)
    try simp only [Act.put, List.setIfInBounds_toArray, List.set_cons_zero, List.set_cons_succ]
    refine wpAnyH_take (i := 1) (v := ?_) (by simp only [List.getElem?_toArray, List.getElem?_cons_succ, List.getElem?_cons_zero]; rfl) (by kernel_rfl) (by kernel_rfl) (by kernel_rfl) (fun _ _ _ h => h) (Or.inl ⟨by rfl, ?_⟩) (by assumption) ?_
    rotate_left 1
    · intro w hSw; (try dsimp only at hSw); go_simp; all_goals (with_reducible rfl)
    try simp only [Act.put, List.setIfInBounds_toArray, List.set_cons_zero, List.set_cons_succ]
    refine wpAnyH_take (i := 2) (v := ?_) (by simp only [List.getElem?_toArray, List.getElem?_cons_succ, List.getElem?_cons_zero]; rfl) (by kernel_rfl) (by kernel_rfl) (by kernel_rfl) (fun _ _ _ h => h) (Or.inl ⟨by rfl, ?_⟩) (by assumption) ?_
    rotate_left 1
    · intro w hSw; (try dsimp only at hSw); go_simp; all_goals (with_reducible rfl)
    try simp only [Act.put, List.setIfInBounds_toArray, List.set_cons_zero, List.set_cons_succ]
    refine wpAnyH_take (i := 3) (v := ?_) (by simp only [List.getElem?_toArray, List.getElem?_cons_succ, List.getElem?_cons_zero]; rfl) (by kernel_rfl) (by kernel_rfl) (by kernel_rfl) (fun _ _ _ h => h) (Or.inl ⟨by rfl, ?_⟩) (by assumption) ?_
    rotate_left 1
    · intro w hSw; (try dsimp only at hSw); go_simp; all_goals (with_reducible rfl)
    try simp only [Act.put, List.setIfInBounds_toArray, List.set_cons_zero, List.set_cons_succ]
    refine wpAnyH_take (i := 4) (v := ?_) (by simp only [List.getElem?_toArray, List.getElem?_cons_succ, List.getElem?_cons_zero]; rfl) (by kernel_rfl) (by kernel_rfl) (by kernel_rfl) (fun _ _ _ h => h) (Or.inl ⟨by rfl, ?_⟩) (by assumption) ?_
    rotate_left 1
    · intro w hSw; (try dsimp only at hSw); go_simp; all_goals (with_reducible rfl)
    try simp only [Act.put, List.setIfInBounds_toArray, List.set_cons_zero, List.set_cons_succ]
    refine wpAnyH_take (i := 5) (v := ?_) (by simp only [List.getElem?_toArray, List.getElem?_cons_succ, List.getElem?_cons_zero]; rfl) (by kernel_rfl) (by kernel_rfl) (by kernel_rfl) (fun _ _ _ h => h) (Or.inl ⟨by rfl, ?_⟩) (by assumption) ?_
    rotate_left 1
    · intro w hSw; (try dsimp only at hSw); go_simp; all_goals (with_reducible rfl)
    try simp only [Act.put, List.setIfInBounds_toArray, List.set_cons_zero, List.set_cons_succ]
    refine wpAnyH_take (i := 6) (v := ?_) (by simp only [List.getElem?_toArray, List.getElem?_cons_succ, List.getElem?_cons_zero]; rfl) (by kernel_rfl) (by kernel_rfl) (by kernel_rfl) (fun _ _ _ h => h) (Or.inl ⟨by rfl, ?_⟩) (by assumption) ?_
    rotate_left 1
    · intro w hSw; (try dsimp only at hSw); go_simp; all_goals (with_reducible rfl)
    try simp only [Act.put, List.setIfInBounds_toArray, List.set_cons_zero, List.set_cons_succ]
    refine wpAnyH_take (i := 7) (v := ?_) (by simp only [List.getElem?_toArray, List.getElem?_cons_succ, List.getElem?_cons_zero]; rfl) (by kernel_rfl) (by kernel_rfl) (by kernel_rfl) (fun _ _ _ h => h) (Or.inl ⟨by rfl, ?_⟩) (by assumption) ?_
    rotate_left 1
    · intro w hSw; (try dsimp only at hSw); go_simp; all_goals (with_reducible rfl)
    try simp only [Act.put, List.setIfInBounds_toArray, List.set_cons_zero, List.set_cons_succ]
    refine wpAnyH_take (i := 8) (v := ?_) (by simp only [List.getElem?_toArray, List.getElem?_cons_succ, List.getElem?_cons_zero]; rfl) (by kernel_rfl) (by kernel_rfl) (by kernel_rfl) (fun _ _ _ h => h) (Or.inl ⟨by rfl, ?_⟩) (by assumption) ?_
    rotate_left 1
    · intro w hSw; (try dsimp only at hSw); go_simp; all_goals (with_reducible rfl)
    try simp only [Act.put, List.setIfInBounds_toArray, List.set_cons_zero, List.set_cons_succ]
    refine wpAnyH_take (i := 9) (v := ?_) (by simp only [List.getElem?_toArray, List.getElem?_cons_succ, List.getElem?_cons_zero]; rfl) (by kernel_rfl) (by kernel_rfl) (by kernel_rfl) (fun _ _ _ h => h) (Or.inl ⟨by rfl, ?_⟩) (by assumption) ?_
    rotate_left 1
    · intro w hSw; (try dsimp only at hSw); go_simp; all_goals (with_reducible rfl)
    try simp only [Act.put, List.setIfInBounds_toArray, List.set_cons_zero, List.set_cons_succ]
    refine wpAnyH_take (i := 10) (v := ?_) (by simp only [List.getElem?_toArray, List.getElem?_cons_succ, List.getElem?_cons_zero]; rfl) (by kernel_rfl) (by kernel_rfl) (by kernel_rfl) (fun _ _ _ h => h) (Or.inl ⟨by rfl, ?_⟩) (by assumption) ?_
    rotate_left 1
    · intro w hSw; (try dsimp only at hSw); go_simp; all_goals (with_reducible rfl)
    try simp only [Act.put, List.setIfInBounds_toArray, List.set_cons_zero, List.set_cons_succ]
    refine wpAnyH_take (i := 11) (v := ?_) (by simp only [List.getElem?_toArray, List.getElem?_cons_succ, List.getElem?_cons_zero]; rfl) (by kernel_rfl) (by kernel_rfl) (by kernel_rfl) (fun _ _ _ h => h) (Or.inl ⟨by rfl, ?_⟩) (by assumption) ?_
    rotate_left 1
    · intro w hSw; (try dsimp only at hSw); go_simp; all_goals (with_reducible rfl)
    try simp only [Act.put, List.setIfInBounds_toArray, List.set_cons_zero, List.set_cons_succ]
    refine wpAnyH_take (i := 12) (v := ?_) (by simp only [List.getElem?_toArray, List.getElem?_cons_succ, List.getElem?_cons_zero]; rfl) (by kernel_rfl) (by kernel_rfl) (by kernel_rfl) (fun _ _ _ h => h) (Or.inl ⟨by rfl, ?_⟩) (by assumption) ?_
    rotate_left 1
    · intro w hSw; (try dsimp only at hSw); go_simp; all_goals (with_reducible rfl)
    try simp only [Act.put, List.setIfInBounds_toArray, List.set_cons_zero, List.set_cons_succ]
    refine wpAnyH_take (i := 13) (v := ?_) (by simp only [List.getElem?_toArray, List.getElem?_cons_succ, List.getElem?_cons_zero]; rfl) (by kernel_rfl) (by kernel_rfl) (by kernel_rfl) (fun _ _ _ h => h) (Or.inl ⟨by rfl, ?_⟩) (by assumption) ?_
    rotate_left 1
    · intro w hSw; (try dsimp only at hSw); go_simp; all_goals (with_reducible rfl)
    try simp only [Act.put, List.setIfInBounds_toArray, List.set_cons_zero, List.set_cons_succ]
    refine wpAnyH_take (i := 14) (v := ?_) (by simp only [List.getElem?_toArray, List.getElem?_cons_succ, List.getElem?_cons_zero]; rfl) (by kernel_rfl) (by kernel_rfl) (by kernel_rfl) (fun _ _ _ h => h) (Or.inl ⟨by rfl, ?_⟩) (by assumption) ?_
    rotate_left 1
    · intro w hSw; (try dsimp only at hSw); go_simp; all_goals (with_reducible rfl)
    try simp only [Act.put, List.setIfInBounds_toArray, List.set_cons_zero, List.set_cons_succ]
    refine wpAnyH_take (i := 15) (v := ?_) (by simp only [List.getElem?_toArray, List.getElem?_cons_succ, List.getElem?_cons_zero]; rfl) (by kernel_rfl) (by kernel_rfl) (by kernel_rfl) (fun _ _ _ h => h) (Or.inl ⟨by rfl, ?_⟩) (by assumption) ?_
    rotate_left 1
    · intro w hSw; (try dsimp only at hSw); go_simp; all_goals (with_reducible rfl)
    try simp only [Act.put, List.setIfInBounds_toArray, List.set_cons_zero, List.set_cons_succ]
    refine wpAnyH_take (i := 16) (v := ?_) (by simp only [List.getElem?_toArray, List.getElem?_cons_succ, List.getElem?_cons_zero]; rfl) (by kernel_rfl) (by kernel_rfl) (by kernel_rfl) (fun _ _ _ h => h) (Or.inl ⟨by rfl, ?_⟩) (by assumption) ?_
    rotate_left 1
    · intro w hSw; (try dsimp only at hSw); go_simp; all_goals (with_reducible rfl)
    try simp only [Act.put, List.setIfInBounds_toArray, List.set_cons_zero, List.set_cons_succ]
    refine wpAnyH_take (i := 17) (v := ?_) (by simp only [List.getElem?_toArray, List.getElem?_cons_succ, List.getElem?_cons_zero]; rfl) (by kernel_rfl) (by kernel_rfl) (by kernel_rfl) (fun _ _ _ h => h) (Or.inl ⟨by rfl, ?_⟩) (by assumption) ?_
    rotate_left 1
    · intro w hSw; (try dsimp only at hSw); go_simp; all_goals (with_reducible rfl)
    try simp only [Act.put, List.setIfInBounds_toArray, List.set_cons_zero, List.set_cons_succ]
    refine wpAnyH_take (i := 18) (v := ?_) (by simp only [List.getElem?_toArray, List.getElem?_cons_succ, List.getElem?_cons_zero]; rfl) (by kernel_rfl) (by kernel_rfl) (by kernel_rfl) (fun _ _ _ h => h) (Or.inl ⟨by rfl, ?_⟩) (by assumption) ?_
    rotate_left 1
    · intro w hSw; (try dsimp only at hSw); go_simp; all_goals (with_reducible rfl)
    try simp only [Act.put, List.setIfInBounds_toArray, List.set_cons_zero, List.set_cons_succ]
    refine wpAnyH_take (i := 19) (v := ?_) (by simp only [List.getElem?_toArray, List.getElem?_cons_succ, List.getElem?_cons_zero]; rfl) (by kernel_rfl) (by kernel_rfl) (by kernel_rfl) (fun _ _ _ h => h) (Or.inl ⟨by rfl, ?_⟩) (by assumption) ?_
    rotate_left 1
    · intro w hSw; (try dsimp only at hSw); go_simp; all_goals (with_reducible rfl)
    try simp only [Act.put, List.setIfInBounds_toArray, List.set_cons_zero, List.set_cons_succ]
    refine wpAnyH_take (i := 21) (v := ?_) (by simp only [List.getElem?_toArray, List.getElem?_cons_succ, List.getElem?_cons_zero]; rfl) (by kernel_rfl) (by kernel_rfl) (by kernel_rfl) (fun _ _ _ h => h) (Or.inl ⟨by rfl, ?_⟩) (by assumption) ?_
    rotate_left 1
    · intro w hSw; (try dsimp only at hSw); go_simp; all_goals (with_reducible rfl)
    try simp only [Act.put, List.setIfInBounds_toArray, List.set_cons_zero, List.set_cons_succ]
    refine wpAnyH_take (i := 22) (v := ?_) (by simp only [List.getElem?_toArray, List.getElem?_cons_succ, List.getElem?_cons_zero]; rfl) (by kernel_rfl) (by kernel_rfl) (by kernel_rfl) (fun _ _ _ h => h) (Or.inl ⟨by rfl, ?_⟩) (by assumption) ?_
    rotate_left 1
    · intro w hSw; (try dsimp only at hSw); go_simp; all_goals (with_reducible rfl)
    try simp only [Act.put, List.setIfInBounds_toArray, List.set_cons_zero, List.set_cons_succ]
    refine wpAnyH_take (i := 23) (v := ?_) (by simp only [List.getElem?_toArray, List.getElem?_cons_succ, List.getElem?_cons_zero]; rfl) (by kernel_rfl) (by kernel_rfl) (by kernel_rfl) (fun _ _ _ h => h) (Or.inl ⟨by rfl, ?_⟩) (by assumption) ?_
    rotate_left 1
    · intro w hSw; (try dsimp only at hSw); go_simp; all_goals (with_reducible rfl)
    try simp only [Act.put, List.setIfInBounds_toArray, List.set_cons_zero, List.set_cons_succ]
    refine wpAnyH_take (i := 24) (v := ?_) (by simp only [List.getElem?_toArray, List.getElem?_cons_succ, List.getElem?_cons_zero]; rfl) (by kernel_rfl) (by kernel_rfl) (by kernel_rfl) (fun _ _ _ h => h) (Or.inl ⟨by rfl, ?_⟩) (by assumption) ?_
    rotate_left 1
    · intro w hSw; (try dsimp only at hSw); go_simp; all_goals (with_reducible rfl)
    try simp only [Act.put, List.setIfInBounds_toArray, List.set_cons_zero, List.set_cons_succ]
    refine wpAnyH_take (i := 25) (v := ?_) (by simp only [List.getElem?_toArray, List.getElem?_cons_succ, List.getElem?_cons_zero]; rfl) (by kernel_rfl) (by kernel_rfl) (by kernel_rfl) (fun _ _ _ h => h) (Or.inl ⟨by rfl, ?_⟩) (by assumption) ?_
    rotate_left 1
    · intro w hSw; (try dsimp only at hSw); go_simp; all_goals (with_reducible rfl)
    try simp only [Act.put, List.setIfInBounds_toArray, List.set_cons_zero, List.set_cons_succ]
    refine wpAnyH_ready (rs := [20]) (by kernel_rfl) (by simp) ?_
    refine AllReadyH.cons (by simp only [List.getElem?_toArray, List.getElem?_cons_succ, List.getElem?_cons_zero]; rfl) (fun KK hK => ?_) AllReadyH.nil
    go_simp
    refine (HL.out _).mono ?_; rintro e v1 ⟨rfl, hg⟩
    clear hHeld
    replace HG := Lib.hid (World.grownBy.trans HG.out hg)
    clear hg
    go_wp2_with fail
    refine hK.out _ _ (KEEP.out _ HG.out) (fun hHeld => ?_)
    clear hK KK
    try simp only [Act.put, List.setIfInBounds_toArray, List.set_cons_zero, List.set_cons_succ]
    refine wpAnyH_take (i := 26) (v := ?_) (by simp only [List.getElem?_toArray, List.getElem?_cons_succ, List.getElem?_cons_zero]; rfl) (by kernel_rfl) (by kernel_rfl) (by kernel_rfl) (fun _ _ _ h => h) (Or.inl ⟨by rfl, ?_⟩) (by assumption) ?_
    rotate_left 1
    · intro w hSw; (try dsimp only at hSw); go_simp; all_goals (with_reducible rfl)
    try simp only [Act.put, List.setIfInBounds_toArray, List.set_cons_zero, List.set_cons_succ]
    refine wpAnyH_take (i := 27) (v := ?_) (by simp only [List.getElem?_toArray, List.getElem?_cons_succ, List.getElem?_cons_zero]; rfl) (by kernel_rfl) (by kernel_rfl) (by kernel_rfl) (fun _ _ _ h => h) (Or.inl ⟨by rfl, ?_⟩) (by assumption) ?_
    rotate_left 1
    · intro w hSw; (try dsimp only at hSw); go_simp; all_goals (with_reducible rfl)
    try simp only [Act.put, List.setIfInBounds_toArray, List.set_cons_zero, List.set_cons_succ]
    refine wpAnyH_take (i := 28) (v := ?_) (by simp only [List.getElem?_toArray, List.getElem?_cons_succ, List.getElem?_cons_zero]; rfl) (by kernel_rfl) (by kernel_rfl) (by kernel_rfl) (fun _ _ _ h => h) (Or.inl ⟨by rfl, ?_⟩) (by assumption) ?_
    rotate_left 1
    · intro w hSw; (try dsimp only at hSw); go_simp; all_goals (with_reducible rfl)
    try simp only [Act.put, List.setIfInBounds_toArray, List.set_cons_zero, List.set_cons_succ]
    refine wpAnyH_done (by kernel_rfl) ?_ _
    refine NoPanic.normal ?_
    go_wp2_with fail
    go_ret
    exact ⟨rfl, World.grownBy.trans G.out HG.out⟩
  · skip
    go_enter Try.func8, Try.ntmps8
    go_wp2_with fail
    obtain ⟨b_a, b_b, g0⟩ := boxes2 w 23 #[.int .i64 a1, .int .i64 a2, .int .i64 a3] #[.int .i64 a1, .int .i64 a2, .int .i64 b3]
    generalize (w.alloc (.cells #[.int .i64 a1, .int .i64 a2, .int .i64 a3] 23)).alloc (.cells #[.int .i64 a1, .int .i64 a2, .int .i64 b3] 23) = w1 at *
    generalize w.heap.size = K at *
    refine (HW.out _).mono ?_; rintro e w2 ⟨rfl, hg⟩
    have G := Lib.hid (World.grownBy.trans g0 hg)
    have B_a := Lib.hid (b_a.new hg)
    have B_b := Lib.hid (b_b.new hg)
    clear g0 b_a b_b hg HW
    have c00 := B_a.out.cell (i := 0) (x := .int .i64 a1) rfl
    have c01 := B_a.out.cell (i := 1) (x := .int .i64 a2) rfl
    have c02 := B_a.out.cell (i := 2) (x := .int .i64 a3) rfl
    have c10 := B_b.out.cell (i := 0) (x := .int .i64 a1) rfl
    have c11 := B_b.out.cell (i := 1) (x := .int .i64 a2) rfl
    have c12 := B_b.out.cell (i := 2) (x := .int .i64 b3) rfl
    go_wp2_with fail
    clear c00 c01 c02 c10 c11 c12
    refine (HA.out _).mono ?_; rintro e u1 ⟨rfl, hg⟩
    replace G := Lib.hid (World.grownBy.trans G.out hg)
    replace B_a := Lib.hid (B_a.out.new hg)
    replace B_b := Lib.hid (B_b.out.new hg)
    clear hg
    try unfold txt
    have c00 := B_a.out.cell (i := 0) (x := .int .i64 a1) rfl
    have c01 := B_a.out.cell (i := 1) (x := .int .i64 a2) rfl
    have c02 := B_a.out.cell (i := 2) (x := .int .i64 a3) rfl
    have c10 := B_b.out.cell (i := 0) (x := .int .i64 a1) rfl
    have c11 := B_b.out.cell (i := 1) (x := .int .i64 a2) rfl
    have c12 := B_b.out.cell (i := 2) (x := .int .i64 b3) rfl
    go_wp2_with fail
    clear c00 c01 c02 c10 c11 c12
    refine (HB.out _).mono ?_; rintro e u2 ⟨rfl, hg⟩
    replace G := Lib.hid (World.grownBy.trans G.out hg)
    replace B_a := Lib.hid (B_a.out.new hg)
    replace B_b := Lib.hid (B_b.out.new hg)
    clear hg
    try unfold txt
    have c00 := B_a.out.cell (i := 0) (x := .int .i64 a1) rfl
    have c01 := B_a.out.cell (i := 1) (x := .int .i64 a2) rfl
    have c02 := B_a.out.cell (i := 2) (x := .int .i64 a3) rfl
    have c10 := B_b.out.cell (i := 0) (x := .int .i64 a1) rfl
    have c11 := B_b.out.cell (i := 1) (x := .int .i64 a2) rfl
    have c12 := B_b.out.cell (i := 2) (x := .int .i64 b3) rfl
    go_upto_region 7 with fail
    clear c00 c01 c02 c10 c11 c12
    have KEEP : Hid (∀ w', u2.grownBy w' none → (w'.cell? ⟨K, 0, none⟩ = some (.int .i64 a1) ∧ w'.cell? ⟨K, 1, none⟩ = some (.int .i64 a2) ∧ w'.cell? ⟨K, 2, none⟩ = some (.int .i64 a3) ∧ w'.cell? ⟨K + 1, 0, none⟩ = some (.int .i64 a1) ∧ w'.cell? ⟨K + 1, 1, none⟩ = some (.int .i64 a2) ∧ w'.cell? ⟨K + 1, 2, none⟩ = some (.int .i64 b3))) := Lib.hid (fun w' hg => ⟨(B_a.out.new hg).cell (i := 0) rfl, (B_a.out.new hg).cell (i := 1) rfl, (B_a.out.new hg).cell (i := 2) rfl, (B_b.out.new hg).cell (i := 0) rfl, (B_b.out.new hg).cell (i := 1) rfl, (B_b.out.new hg).cell (i := 2) rfl⟩)
    refine wp_region_noPanic ?_
    refine wp_region_held_drew (S := fun w' => (w'.cell? ⟨K, 0, none⟩ = some (.int .i64 a1) ∧ w'.cell? ⟨K, 1, none⟩ = some (.int .i64 a2) ∧ w'.cell? ⟨K, 2, none⟩ = some (.int .i64 a3) ∧ w'.cell? ⟨K + 1, 0, none⟩ = some (.int .i64 a1) ∧ w'.cell? ⟨K + 1, 1, none⟩ = some (.int .i64 a2) ∧ w'.cell? ⟨K + 1, 2, none⟩ = some (.int .i64 b3))) (by kernel_rfl) (KEEP.out _ (drew_grown _ _)) (fun hHeld => ?_)
    have HG : Hid (u2.grownBy u2.drew none) := Lib.hid (drew_grown _ _)
    refine wpAnyH_take (i := 0) (v := ?_) (by simp only [List.getElem?_toArray, List.getElem?_cons_zero]; rfl) (by kernel_rfl) (by kernel_rfl) (by kernel_rfl) (fun _ _ _ h => h) (Or.inl ⟨by rfl, ?_⟩) (by assumption) ?_
    rotate_left 1
    · intro w hSw; (try dsimp only at hSw); go_simp; all_goals (with_reducible rfl)
    try simp only [Act.put, List.setIfInBounds_toArray, List.set_cons_zero, List.set_cons_succ]
    refine wpAnyH_take (i := 1) (v := ?_) (by simp only [List.getElem?_toArray, List.getElem?_cons_succ, List.getElem?_cons_zero]; rfl) (by kernel_rfl) (by kernel_rfl) (by kernel_rfl) (fun _ _ _ h => h) (Or.inl ⟨by rfl, ?_⟩) (by assumption) ?_
    rotate_left 1
    · intro w hSw; (try dsimp only at hSw); go_simp; all_goals (with_reducible rfl)
    try simp only [Act.put, List.setIfInBounds_toArray, List.set_cons_zero, List.set_cons_succ]
    refine wpAnyH_take (i := 2) (v := ?_) (by simp only [List.getElem?_toArray, List.getElem?_cons_succ, List.getElem?_cons_zero]; rfl) (by kernel_rfl) (by kernel_rfl) (by kernel_rfl) (fun _ _ _ h => h) (Or.inl ⟨by rfl, ?_⟩) (by assumption) ?_
    rotate_left 1
    · intro w hSw; (try dsimp only at hSw); go_simp; all_goals (with_reducible rfl)
    try simp only [Act.put, List.setIfInBounds_toArray, List.set_cons_zero, List.set_cons_succ]
    refine wpAnyH_take (i := 3) (v := ?_) (by simp only [List.getElem?_toArray, List.getElem?_cons_succ, List.getElem?_cons_zero]; rfl) (by kernel_rfl) (by kernel_rfl) (by kernel_rfl) (fun _ _ _ h => h) (Or.inl ⟨by rfl, ?_⟩) (by assumption) ?_
    rotate_left 1
    · intro w hSw; (try dsimp only at hSw); go_simp; all_goals (with_reducible rfl)
    try simp only [Act.put, List.setIfInBounds_toArray, List.set_cons_zero, List.set_cons_succ]
    refine wpAnyH_take (i := 4) (v := ?_) (by simp only [List.getElem?_toArray, List.getElem?_cons_succ, List.getElem?_cons_zero]; rfl) (by kernel_rfl) (by kernel_rfl) (by kernel_rfl) (fun _ _ _ h => h) (Or.inl ⟨by rfl, ?_⟩) (by assumption) ?_
    rotate_left 1
    · intro w hSw; (try dsimp only at hSw); go_simp; all_goals (with_reducible rfl)
    try simp only [Act.put, List.setIfInBounds_toArray, List.set_cons_zero, List.set_cons_succ]
    refine wpAnyH_take (i := 5) (v := ?_) (by simp only [List.getElem?_toArray, List.getElem?_cons_succ, List.getElem?_cons_zero]; rfl) (by kernel_rfl) (by kernel_rfl) (by kernel_rfl) (fun _ _ _ h => h) (Or.inl ⟨by rfl, ?_⟩) (by assumption) ?_
    rotate_left 1
    · intro w hSw; (try dsimp only at hSw); go_simp; all_goals (with_reducible rfl)
    try simp only [Act.put, List.setIfInBounds_toArray, List.set_cons_zero, List.set_cons_succ]
    refine wpAnyH_take (i := 6) (v := ?_) (by simp only [List.getElem?_toArray, List.getElem?_cons_succ, List.getElem?_cons_zero]; rfl) (by kernel_rfl) (by kernel_rfl) (by kernel_rfl) (fun _ _ _ h => h) (Or.inl ⟨by rfl, ?_⟩) (by assumption) ?_
    rotate_left 1
    · intro w hSw; (try dsimp only at hSw); go_simp; all_goals (with_reducible rfl)
    try simp only [Act.put, List.setIfInBounds_toArray, List.set_cons_zero, List.set_cons_succ]
    refine wpAnyH_take (i := 7) (v := ?_) (by simp only [List.getElem?_toArray, List.getElem?_cons_succ, List.getElem?_cons_zero]; rfl) (by kernel_rfl) (by kernel_rfl) (by kernel_rfl) (fun _ _ _ h => h) (Or.inl ⟨by rfl, ?_⟩) (by assumption) ?_
    rotate_left 1
    · intro w hSw; (try dsimp only at hSw); go_simp; all_goals (with_reducible rfl)
    try simp only [Act.put, List.setIfInBounds_toArray, List.set_cons_zero, List.set_cons_succ]
    refine wpAnyH_take (i := 8) (v := ?_) (by simp only [List.getElem?_toArray, List.getElem?_cons_succ, List.getElem?_cons_zero]; rfl) (by kernel_rfl) (by kernel_rfl) (by kernel_rfl) (fun _ _ _ h => h) (Or.inl ⟨by rfl, ?_⟩) (by assumption) ?_
    rotate_left 1
    · intro w hSw; (try dsimp only at hSw); go_simp; all_goals (with_reducible rfl)
    try simp only [Act.put, List.setIfInBounds_toArray, List.set_cons_zero, List.set_cons_succ]
    refine wpAnyH_take (i := 9) (v := ?_) (by simp only [List.getElem?_toArray, List.getElem?_cons_succ, List.getElem?_cons_zero]; rfl) (by kernel_rfl) (by kernel_rfl) (by kernel_rfl) (fun _ _ _ h => h) (Or.inl ⟨by rfl, ?_⟩) (by assumption) ?_
    rotate_left 1
    · intro w hSw; (try dsimp only at hSw); go_simp; all_goals (with_reducible rfl)
    try simp only [Act.put, List.setIfInBounds_toArray, List.set_cons_zero, List.set_cons_succ]
    refine wpAnyH_take (i := 10) (v := ?_) (by simp only [List.getElem?_toArray, List.getElem?_cons_succ, List.getElem?_cons_zero]; rfl) (by kernel_rfl) (by kernel_rfl) (by kernel_rfl) (fun _ _ _ h => h) (Or.inl ⟨by rfl, ?_⟩) (by assumption) ?_
    rotate_left 1
    · intro w hSw; (try dsimp only at hSw); go_simp; all_goals (with_reducible rfl)
    try simp only [Act.put, List.setIfInBounds_toArray, List.set_cons_zero, List.set_cons_succ]
    refine wpAnyH_take (i := 11) (v := ?_) (by simp only [List.getElem?_toArray, List.getElem?_cons_succ, List.getElem?_cons_zero]; rfl) (by kernel_rfl) (by kernel_rfl) (by kernel_rfl) (fun _ _ _ h => h) (Or.inl ⟨by rfl, ?_⟩) (by assumption) ?_
    rotate_left 1
    · intro w hSw; (try dsimp only at hSw); go_simp; all_goals (with_reducible rfl)
    try simp only [Act.put, List.setIfInBounds_toArray, List.set_cons_zero, List.set_cons_succ]
    refine wpAnyH_take (i := 12) (v := ?_) (by simp only [List.getElem?_toArray, List.getElem?_cons_succ, List.getElem?_cons_zero]; rfl) (by kernel_rfl) (by kernel_rfl) (by kernel_rfl) (fun _ _ _ h => h) (Or.inl ⟨by rfl, ?_⟩) (by assumption) ?_
    rotate_left 1
    · intro w hSw; (try dsimp only at hSw); go_simp; all_goals (with_reducible rfl)
    try simp only [Act.put, List.setIfInBounds_toArray, List.set_cons_zero, List.set_cons_succ]
    refine wpAnyH_take (i := 13) (v := ?_) (by simp only [List.getElem?_toArray, List.getElem?_cons_succ, List.getElem?_cons_zero]; rfl) (by kernel_rfl) (by kernel_rfl) (by kernel_rfl) (fun _ _ _ h => h) (Or.inl ⟨by rfl, ?_⟩) (by assumption) ?_
    rotate_left 1
    · intro w hSw; (try dsimp only at hSw); go_simp; all_goals (with_reducible rfl)
    try simp only [Act.put, List.setIfInBounds_toArray, List.set_cons_zero, List.set_cons_succ]
    refine wpAnyH_take (i := 14) (v := ?_) (by simp only [List.getElem?_toArray, List.getElem?_cons_succ, List.getElem?_cons_zero]; rfl) (by kernel_rfl) (by kernel_rfl) (by kernel_rfl) (fun _ _ _ h => h) (Or.inl ⟨by rfl, ?_⟩) (by assumption) ?_
    rotate_left 1
    · intro w hSw; (try dsimp only at hSw); go_simp; all_goals (with_reducible rfl)
    try simp only [Act.put, List.setIfInBounds_toArray, List.set_cons_zero, List.set_cons_succ]
    refine wpAnyH_take (i := 15) (v := ?_) (by simp only [List.getElem?_toArray, List.getElem?_cons_succ, List.getElem?_cons_zero]; rfl) (by kernel_rfl) (by kernel_rfl) (by kernel_rfl) (fun _ _ _ h => h) (Or.inl ⟨by rfl, ?_⟩) (by assumption) ?_
    rotate_left 1
    · intro w hSw; (try dsimp only at hSw); go_simp; all_goals (with_reducible rfl)
    try simp only [Act.put, List.setIfInBounds_toArray, List.set_cons_zero, List.set_cons_succ]
    refine wpAnyH_take (i := 16) (v := ?_) (by simp only [List.getElem?_toArray, List.getElem?_cons_succ, List.getElem?_cons_zero]; rfl) (by kernel_rfl) (by kernel_rfl) (by kernel_rfl) (fun _ _ _ h => h) (Or.inl ⟨by rfl, ?_⟩) (by assumption) ?_
    rotate_left 1
    · intro w hSw; (try dsimp only at hSw); go_simp; all_goals (with_reducible rfl)
    try simp only [Act.put, List.setIfInBounds_toArray, List.set_cons_zero, List.set_cons_succ]
    refine wpAnyH_take (i := 17) (v := ?_) (by simp only [List.getElem?_toArray, List.getElem?_cons_succ, List.getElem?_cons_zero]; rfl) (by kernel_rfl) (by kernel_rfl) (by kernel_rfl) (fun _ _ _ h => h) (Or.inl ⟨by rfl, ?_⟩) (by assumption) ?_
    rotate_left 1
    · intro w hSw; (try dsimp only at hSw); go_simp; all_goals (with_reducible rfl)
    try simp only [Act.put, List.setIfInBounds_toArray, List.set_cons_zero, List.set_cons_succ]
    refine wpAnyH_take (i := 18) (v := ?_) (by simp only [List.getElem?_toArray, List.getElem?_cons_succ, List.getElem?_cons_zero]; rfl) (by kernel_rfl) (by kernel_rfl) (by kernel_rfl) (fun _ _ _ h => h) (Or.inl ⟨by rfl, ?_⟩) (by assumption) ?_
    rotate_left 1
    · intro w hSw; (try dsimp only at hSw); go_simp; all_goals (with_reducible rfl)
    try simp only [Act.put, List.setIfInBounds_toArray, List.set_cons_zero, List.set_cons_succ]
    refine wpAnyH_take (i := 19) (v := ?_) (by simp only [List.getElem?_toArray, List.getElem?_cons_succ, List.getElem?_cons_zero]; rfl) (by kernel_rfl) (by kernel_rfl) (by kernel_rfl) (fun _ _ _ h => h) (Or.inl ⟨by rfl, ?_⟩) (by assumption) ?_
    rotate_left 1
    · intro w hSw; (try dsimp only at hSw); go_simp; all_goals (with_reducible rfl)
    try simp only [Act.put, List.setIfInBounds_toArray, List.set_cons_zero, List.set_cons_succ]
    refine wpAnyH_take (i := 21) (v := ?_) (by simp only [List.getElem?_toArray, List.getElem?_cons_succ, List.getElem?_cons_zero]; rfl) (by kernel_rfl) (by kernel_rfl) (by kernel_rfl) (fun _ _ _ h => h) (Or.inl ⟨by rfl, ?_⟩) (by assumption) ?_
    rotate_left 1
    · intro w hSw; (try dsimp only at hSw); go_simp; all_goals (with_reducible rfl)
    try simp only [Act.put, List.setIfInBounds_toArray, List.set_cons_zero, List.set_cons_succ]
    refine wpAnyH_take (i := 22) (v := ?_) (by simp only [List.getElem?_toArray, List.getElem?_cons_succ, List.getElem?_cons_zero]; rfl) (by kernel_rfl) (by kernel_rfl) (by kernel_rfl) (fun _ _ _ h => h) (Or.inl ⟨by rfl, ?_⟩) (by assumption) ?_
    rotate_left 1
    · intro w hSw; (try dsimp only at hSw); go_simp; all_goals (with_reducible rfl)
    try simp only [Act.put, List.setIfInBounds_toArray, List.set_cons_zero, List.set_cons_succ]
    refine wpAnyH_take (i := 23) (v := ?_) (by simp only [List.getElem?_toArray, List.getElem?_cons_succ, List.getElem?_cons_zero]; rfl) (by kernel_rfl) (by kernel_rfl) (by kernel_rfl) (fun _ _ _ h => h) (Or.inl ⟨by rfl, ?_⟩) (by assumption) ?_
    rotate_left 1
    · intro w hSw; (try dsimp only at hSw); go_simp; all_goals (with_reducible rfl)
    try simp only [Act.put, List.setIfInBounds_toArray, List.set_cons_zero, List.set_cons_succ]
    refine wpAnyH_take (i := 24) (v := ?_) (by simp only [List.getElem?_toArray, List.getElem?_cons_succ, List.getElem?_cons_zero]; rfl) (by kernel_rfl) (by kernel_rfl) (by kernel_rfl) (fun _ _ _ h => h) (Or.inl ⟨by rfl, ?_⟩) (by assumption) ?_
    rotate_left 1
    · intro w hSw; (try dsimp only at hSw); go_simp; all_goals (with_reducible rfl)
    try simp only [Act.put, List.setIfInBounds_toArray, List.set_cons_zero, List.set_cons_succ]
    refine wpAnyH_take (i := 25) (v := ?_) (by simp only [List.getElem?_toArray, List.getElem?_cons_succ, List.getElem?_cons_zero]; rfl) (by kernel_rfl) (by kernel_rfl) (by kernel_rfl) (fun _ _ _ h => h) (Or.inl ⟨by rfl, ?_⟩) (by assumption) ?_
    rotate_left 1
    · intro w hSw; (try dsimp only at hSw); go_simp; all_goals (with_reducible rfl)
    try simp only [Act.put, List.setIfInBounds_toArray, List.set_cons_zero, List.set_cons_succ]
    refine wpAnyH_ready (rs := [20]) (by kernel_rfl) (by simp) ?_
    refine AllReadyH.cons (by simp only [List.getElem?_toArray, List.getElem?_cons_succ, List.getElem?_cons_zero]; rfl) (fun KK hK => ?_) AllReadyH.nil
    go_simp
    refine (HL.out _).mono ?_; rintro e v1 ⟨rfl, hg⟩
    clear hHeld
    replace HG := Lib.hid (World.grownBy.trans HG.out hg)
    clear hg
    go_wp2_with fail
    refine hK.out _ _ (KEEP.out _ HG.out) (fun hHeld => ?_)
    clear hK KK
    try simp only [Act.put, List.setIfInBounds_toArray, List.set_cons_zero, List.set_cons_succ]
    refine wpAnyH_take (i := 26) (v := ?_) (by simp only [List.getElem?_toArray, List.getElem?_cons_succ, List.getElem?_cons_zero]; rfl) (by kernel_rfl) (by kernel_rfl) (by kernel_rfl) (fun _ _ _ h => h) (Or.inl ⟨by rfl, ?_⟩) (by assumption) ?_
    rotate_left 1
    · intro w hSw; (try dsimp only at hSw); go_simp; all_goals (with_reducible rfl)
    try simp only [Act.put, List.setIfInBounds_toArray, List.set_cons_zero, List.set_cons_succ]
    refine wpAnyH_take (i := 27) (v := ?_) (by simp only [List.getElem?_toArray, List.getElem?_cons_succ, List.getElem?_cons_zero]; rfl) (by kernel_rfl) (by kernel_rfl) (by kernel_rfl) (fun _ _ _ h => h) (Or.inl ⟨by rfl, ?_⟩) (by assumption) ?_
    rotate_left 1
    · intro w hSw; (try dsimp only at hSw); go_simp; all_goals (with_reducible rfl)
    try simp only [Act.put, List.setIfInBounds_toArray, List.set_cons_zero, List.set_cons_succ]
    refine wpAnyH_take (i := 28) (v := ?_) (by simp only [List.getElem?_toArray, List.getElem?_cons_succ, List.getElem?_cons_zero]; rfl) (by kernel_rfl) (by kernel_rfl) (by kernel_rfl) (fun _ _ _ h => h) (Or.inl ⟨by rfl, ?_⟩) (by assumption) ?_
    rotate_left 1
    · intro w hSw; (try dsimp only at hSw); go_simp; all_goals (with_reducible rfl)
    try simp only [Act.put, List.setIfInBounds_toArray, List.set_cons_zero, List.set_cons_succ]
    refine wpAnyH_done (by kernel_rfl) ?_ _
    refine NoPanic.normal ?_
    go_wp2_with fail
    go_ret
    exact ⟨rfl, World.grownBy.trans G.out HG.out⟩

theorem apart_walk (a b : Hn) (w : World) : Calls Try.prog 8 #[hnV a, hnV b] w (OK w) := by
  by_cases ha : hMay a
  · by_cases hb : hMay b
    · by_cases hab : a = b
      · subst hab; exact apart_same a w ha
      · exact apart_other a b w ha hb hab
    · exact apart_yn a b w ha hb
  · by_cases hb : hMay b
    · exact apart_ny a b w ha hb
    · exact apart_nn a b w ha hb
end Go.Proofs.Ytcifhjocmlalmaa
