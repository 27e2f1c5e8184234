/- HandleBack, call by call. -/
import Derived.Test.YtcifhjocmlalmaaHanO
namespace Go.Proofs.Ytcifhjocmlalmaa
open Go.RowKit

set_option maxRecDepth 10000 in
set_option maxHeartbeats 2000000 in
theorem back_long (a : Hn) (l : List UInt8) (w : World) (hm : l.length ≤ maxLen) (h : 1000 < l.length) : Calls Try.prog 5 #[hnV a, .string ⟨l.toArray⟩] w (OK w) := by
  have HW := Lib.hid (fun w => awake_any w)
  have q1 : (l.length : Int) ≤ 9223372036854775807 := by unfold maxLen at hm; omega
  have k : decide (1000 < (l.length : Int)) = true := by simp; omega
  clear h hm
  obtain ⟨a1, a2, a3⟩ := a
  unfold hnV at *
  dsimp only
  go_enter Try.func5, Try.ntmps5
  go_upto_region 1 with fail
  have hb := Blk.made w 23 #[.int .i64 a1, .int .i64 a2, .int .i64 a3]
  have hg := World.grownBy_alloc w (.cells #[.int .i64 a1, .int .i64 a2, .int .i64 a3] 23) none
  have G := Lib.hid (hg)
  generalize w.alloc (.cells #[.int .i64 a1, .int .i64 a2, .int .i64 a3] 23) = u1 at *
  generalize w.heap.size = K_h at *
  have B_h := Lib.hid hb
  clear hb hg
  go_wp2_with fail
  refine (HW.out _).mono ?_; rintro e u2 ⟨rfl, hg⟩
  replace G := Lib.hid (World.grownBy.trans G.out hg)
  replace B_h := Lib.hid (B_h.out.new hg)
  clear hg
  go_wp2_with fail
  go_ret
  exact ⟨rfl, G.out⟩

set_option maxRecDepth 10000 in
set_option maxHeartbeats 4000000 in
theorem back_yy (a g : Hn) (l : List UInt8) (w : World) (h : l.length ≤ 1000) (ha : hMay a) (hd : hDec fnv l = (g, 0)) : Calls Try.prog 5 #[hnV a, .string ⟨l.toArray⟩] w (OK w) := by
  have HW := Lib.hid (fun w => awake_any w)
  have HE := Lib.hid (fun w => Enc_any a w)
  have HM := Lib.hid (fun w => may_any a w)
  have HD2 := Lib.hid (fun w => Dec_any l w (by unfold maxLen; omega))
  rw [hd] at HD2
  rw [hEnc_of ha] at HE
  rw [decide_eq_true ha] at HM
  have HD1 := Lib.hid (fun w => Dec_any (hB fnv a) w (by rw [hB_len]; unfold maxLen; omega))
  rw [hDec_hB ha] at HD1
  have HE2 := Lib.hid (fun w => Enc_any g w)
  rw [dec_enc hd] at HE2
  have q1 : (l.length : Int) ≤ 1000 := by omega
  clear h ha hd
  generalize hB fnv a = ta at *
  obtain ⟨a1, a2, a3⟩ := a
  obtain ⟨g1, g2, g3⟩ := g
  unfold hnV at *
  dsimp only at HE HM HD2 HD1 HE2
  dsimp only
  go_enter Try.func5, Try.ntmps5
  go_upto_region 1 with fail
  have hb := Blk.made w 23 #[.int .i64 a1, .int .i64 a2, .int .i64 a3]
  have hg := World.grownBy_alloc w (.cells #[.int .i64 a1, .int .i64 a2, .int .i64 a3] 23) none
  have G := Lib.hid (hg)
  generalize w.alloc (.cells #[.int .i64 a1, .int .i64 a2, .int .i64 a3] 23) = u1 at *
  generalize w.heap.size = K_h at *
  have B_h := Lib.hid hb
  clear hb hg
  have c_h0 := B_h.out.cell (i := 0) (x := .int .i64 a1) rfl
  have c_h1 := B_h.out.cell (i := 1) (x := .int .i64 a2) rfl
  have c_h2 := B_h.out.cell (i := 2) (x := .int .i64 a3) rfl
  go_wp2_with fail
  clear c_h0 c_h1 c_h2
  refine (HW.out _).mono ?_; rintro e u2 ⟨rfl, hg⟩
  replace G := Lib.hid (World.grownBy.trans G.out hg)
  replace B_h := Lib.hid (B_h.out.new hg)
  clear hg
  have c_h0 := B_h.out.cell (i := 0) (x := .int .i64 a1) rfl
  have c_h1 := B_h.out.cell (i := 1) (x := .int .i64 a2) rfl
  have c_h2 := B_h.out.cell (i := 2) (x := .int .i64 a3) rfl
  go_wp2_with fail
  clear c_h0 c_h1 c_h2
  refine (HE.out _).mono ?_; rintro e u3 ⟨rfl, hg⟩
  replace G := Lib.hid (World.grownBy.trans G.out hg)
  replace B_h := Lib.hid (B_h.out.new hg)
  clear hg
  try unfold txt
  have c_h0 := B_h.out.cell (i := 0) (x := .int .i64 a1) rfl
  have c_h1 := B_h.out.cell (i := 1) (x := .int .i64 a2) rfl
  have c_h2 := B_h.out.cell (i := 2) (x := .int .i64 a3) rfl
  go_wp2_with fail
  clear c_h0 c_h1 c_h2
  refine (HD1.out _).mono ?_; rintro e u4 ⟨rfl, hg⟩
  replace G := Lib.hid (World.grownBy.trans G.out hg)
  replace B_h := Lib.hid (B_h.out.new hg)
  clear hg
  try unfold hnV
  have c_h0 := B_h.out.cell (i := 0) (x := .int .i64 a1) rfl
  have c_h1 := B_h.out.cell (i := 1) (x := .int .i64 a2) rfl
  have c_h2 := B_h.out.cell (i := 2) (x := .int .i64 a3) rfl
  go_upto_region 6 with fail
  clear c_h0 c_h1 c_h2
  have hb := Blk.made u4 23 #[.int .i64 a1, .int .i64 a2, .int .i64 a3]
  have hg := World.grownBy_alloc u4 (.cells #[.int .i64 a1, .int .i64 a2, .int .i64 a3] 23) none
  replace G := Lib.hid (World.grownBy.trans G.out hg)
  replace B_h := Lib.hid (B_h.out.new hg)
  generalize u4.alloc (.cells #[.int .i64 a1, .int .i64 a2, .int .i64 a3] 23) = u5 at *
  generalize u4.heap.size = K_d at *
  have B_d := Lib.hid hb
  clear hb hg
  have c_h0 := B_h.out.cell (i := 0) (x := .int .i64 a1) rfl
  have c_h1 := B_h.out.cell (i := 1) (x := .int .i64 a2) rfl
  have c_h2 := B_h.out.cell (i := 2) (x := .int .i64 a3) rfl
  have c_d0 := B_d.out.cell (i := 0) (x := .int .i64 a1) rfl
  have c_d1 := B_d.out.cell (i := 1) (x := .int .i64 a2) rfl
  have c_d2 := B_d.out.cell (i := 2) (x := .int .i64 a3) rfl
  go_wp2_with fail
  clear c_h0 c_h1 c_h2 c_d0 c_d1 c_d2
  refine (HD2.out _).mono ?_; rintro e u6 ⟨rfl, hg⟩
  replace G := Lib.hid (World.grownBy.trans G.out hg)
  replace B_h := Lib.hid (B_h.out.new hg)
  replace B_d := Lib.hid (B_d.out.new hg)
  clear hg
  try unfold hnV
  have c_h0 := B_h.out.cell (i := 0) (x := .int .i64 a1) rfl
  have c_h1 := B_h.out.cell (i := 1) (x := .int .i64 a2) rfl
  have c_h2 := B_h.out.cell (i := 2) (x := .int .i64 a3) rfl
  have c_d0 := B_d.out.cell (i := 0) (x := .int .i64 a1) rfl
  have c_d1 := B_d.out.cell (i := 1) (x := .int .i64 a2) rfl
  have c_d2 := B_d.out.cell (i := 2) (x := .int .i64 a3) rfl
  go_upto_region 9 with fail
  clear c_h0 c_h1 c_h2 c_d0 c_d1 c_d2
  have hb := Blk.made u6 23 #[.int .i64 g1, .int .i64 g2, .int .i64 g3]
  have hg := World.grownBy_alloc u6 (.cells #[.int .i64 g1, .int .i64 g2, .int .i64 g3] 23) none
  replace G := Lib.hid (World.grownBy.trans G.out hg)
  replace B_h := Lib.hid (B_h.out.new hg)
  replace B_d := Lib.hid (B_d.out.new hg)
  generalize u6.alloc (.cells #[.int .i64 g1, .int .i64 g2, .int .i64 g3] 23) = u7 at *
  generalize u6.heap.size = K_g at *
  have B_g := Lib.hid hb
  clear hb hg
  have c_h0 := B_h.out.cell (i := 0) (x := .int .i64 a1) rfl
  have c_h1 := B_h.out.cell (i := 1) (x := .int .i64 a2) rfl
  have c_h2 := B_h.out.cell (i := 2) (x := .int .i64 a3) rfl
  have c_d0 := B_d.out.cell (i := 0) (x := .int .i64 a1) rfl
  have c_d1 := B_d.out.cell (i := 1) (x := .int .i64 a2) rfl
  have c_d2 := B_d.out.cell (i := 2) (x := .int .i64 a3) rfl
  have c_g0 := B_g.out.cell (i := 0) (x := .int .i64 g1) rfl
  have c_g1 := B_g.out.cell (i := 1) (x := .int .i64 g2) rfl
  have c_g2 := B_g.out.cell (i := 2) (x := .int .i64 g3) rfl
  go_wp2_with fail
  clear c_h0 c_h1 c_h2 c_d0 c_d1 c_d2 c_g0 c_g1 c_g2
  refine (HE2.out _).mono ?_; rintro e u8 ⟨rfl, hg⟩
  replace G := Lib.hid (World.grownBy.trans G.out hg)
  replace B_h := Lib.hid (B_h.out.new hg)
  replace B_d := Lib.hid (B_d.out.new hg)
  replace B_g := Lib.hid (B_g.out.new hg)
  clear hg
  try unfold txt
  have c_h0 := B_h.out.cell (i := 0) (x := .int .i64 a1) rfl
  have c_h1 := B_h.out.cell (i := 1) (x := .int .i64 a2) rfl
  have c_h2 := B_h.out.cell (i := 2) (x := .int .i64 a3) rfl
  have c_d0 := B_d.out.cell (i := 0) (x := .int .i64 a1) rfl
  have c_d1 := B_d.out.cell (i := 1) (x := .int .i64 a2) rfl
  have c_d2 := B_d.out.cell (i := 2) (x := .int .i64 a3) rfl
  have c_g0 := B_g.out.cell (i := 0) (x := .int .i64 g1) rfl
  have c_g1 := B_g.out.cell (i := 1) (x := .int .i64 g2) rfl
  have c_g2 := B_g.out.cell (i := 2) (x := .int .i64 g3) rfl
  go_wp2_with fail
  clear c_h0 c_h1 c_h2 c_d0 c_d1 c_d2 c_g0 c_g1 c_g2
  refine (HM.out _).mono ?_; rintro e u9 ⟨rfl, hg⟩
  replace G := Lib.hid (World.grownBy.trans G.out hg)
  replace B_h := Lib.hid (B_h.out.new hg)
  replace B_d := Lib.hid (B_d.out.new hg)
  replace B_g := Lib.hid (B_g.out.new hg)
  clear hg
  have c_h0 := B_h.out.cell (i := 0) (x := .int .i64 a1) rfl
  have c_h1 := B_h.out.cell (i := 1) (x := .int .i64 a2) rfl
  have c_h2 := B_h.out.cell (i := 2) (x := .int .i64 a3) rfl
  have c_d0 := B_d.out.cell (i := 0) (x := .int .i64 a1) rfl
  have c_d1 := B_d.out.cell (i := 1) (x := .int .i64 a2) rfl
  have c_d2 := B_d.out.cell (i := 2) (x := .int .i64 a3) rfl
  have c_g0 := B_g.out.cell (i := 0) (x := .int .i64 g1) rfl
  have c_g1 := B_g.out.cell (i := 1) (x := .int .i64 g2) rfl
  have c_g2 := B_g.out.cell (i := 2) (x := .int .i64 g3) rfl
  go_wp2_with fail
  go_ret
  exact ⟨rfl, G.out⟩

set_option maxRecDepth 10000 in
set_option maxHeartbeats 4000000 in
theorem back_yn (a g : Hn) (l : List UInt8) (w : World) (h : l.length ≤ 1000) (ha : hMay a) (hd : hDec fnv l = (g, 4)) : Calls Try.prog 5 #[hnV a, .string ⟨l.toArray⟩] w (OK w) := by
  have HW := Lib.hid (fun w => awake_any w)
  have HE := Lib.hid (fun w => Enc_any a w)
  have HM := Lib.hid (fun w => may_any a w)
  have HD2 := Lib.hid (fun w => Dec_any l w (by unfold maxLen; omega))
  rw [hd] at HD2
  rw [hEnc_of ha] at HE
  rw [decide_eq_true ha] at HM
  have HD1 := Lib.hid (fun w => Dec_any (hB fnv a) w (by rw [hB_len]; unfold maxLen; omega))
  rw [hDec_hB ha] at HD1
  obtain rfl : g = noHn := by
    unfold hDec at hd
    split at hd
    · cases congrArg Prod.snd hd
    · exact (congrArg Prod.fst hd).symm
  unfold noHn at *
  have q1 : (l.length : Int) ≤ 1000 := by omega
  clear h ha hd
  generalize hB fnv a = ta at *
  obtain ⟨a1, a2, a3⟩ := a
  unfold hnV at *
  dsimp only at HE HM HD2 HD1
  dsimp only
  go_enter Try.func5, Try.ntmps5
  go_upto_region 1 with fail
  have hb := Blk.made w 23 #[.int .i64 a1, .int .i64 a2, .int .i64 a3]
  have hg := World.grownBy_alloc w (.cells #[.int .i64 a1, .int .i64 a2, .int .i64 a3] 23) none
  have G := Lib.hid (hg)
  generalize w.alloc (.cells #[.int .i64 a1, .int .i64 a2, .int .i64 a3] 23) = u1 at *
  generalize w.heap.size = K_h at *
  have B_h := Lib.hid hb
  clear hb hg
  have c_h0 := B_h.out.cell (i := 0) (x := .int .i64 a1) rfl
  have c_h1 := B_h.out.cell (i := 1) (x := .int .i64 a2) rfl
  have c_h2 := B_h.out.cell (i := 2) (x := .int .i64 a3) rfl
  go_wp2_with fail
  clear c_h0 c_h1 c_h2
  refine (HW.out _).mono ?_; rintro e u2 ⟨rfl, hg⟩
  replace G := Lib.hid (World.grownBy.trans G.out hg)
  replace B_h := Lib.hid (B_h.out.new hg)
  clear hg
  have c_h0 := B_h.out.cell (i := 0) (x := .int .i64 a1) rfl
  have c_h1 := B_h.out.cell (i := 1) (x := .int .i64 a2) rfl
  have c_h2 := B_h.out.cell (i := 2) (x := .int .i64 a3) rfl
  go_wp2_with fail
  clear c_h0 c_h1 c_h2
  refine (HE.out _).mono ?_; rintro e u3 ⟨rfl, hg⟩
  replace G := Lib.hid (World.grownBy.trans G.out hg)
  replace B_h := Lib.hid (B_h.out.new hg)
  clear hg
  try unfold txt
  have c_h0 := B_h.out.cell (i := 0) (x := .int .i64 a1) rfl
  have c_h1 := B_h.out.cell (i := 1) (x := .int .i64 a2) rfl
  have c_h2 := B_h.out.cell (i := 2) (x := .int .i64 a3) rfl
  go_wp2_with fail
  clear c_h0 c_h1 c_h2
  refine (HD1.out _).mono ?_; rintro e u4 ⟨rfl, hg⟩
  replace G := Lib.hid (World.grownBy.trans G.out hg)
  replace B_h := Lib.hid (B_h.out.new hg)
  clear hg
  try unfold hnV
  have c_h0 := B_h.out.cell (i := 0) (x := .int .i64 a1) rfl
  have c_h1 := B_h.out.cell (i := 1) (x := .int .i64 a2) rfl
  have c_h2 := B_h.out.cell (i := 2) (x := .int .i64 a3) rfl
  go_upto_region 6 with fail
  clear c_h0 c_h1 c_h2
  have hb := Blk.made u4 23 #[.int .i64 a1, .int .i64 a2, .int .i64 a3]
  have hg := World.grownBy_alloc u4 (.cells #[.int .i64 a1, .int .i64 a2, .int .i64 a3] 23) none
  replace G := Lib.hid (World.grownBy.trans G.out hg)
  replace B_h := Lib.hid (B_h.out.new hg)
  generalize u4.alloc (.cells #[.int .i64 a1, .int .i64 a2, .int .i64 a3] 23) = u5 at *
  generalize u4.heap.size = K_d at *
  have B_d := Lib.hid hb
  clear hb hg
  have c_h0 := B_h.out.cell (i := 0) (x := .int .i64 a1) rfl
  have c_h1 := B_h.out.cell (i := 1) (x := .int .i64 a2) rfl
  have c_h2 := B_h.out.cell (i := 2) (x := .int .i64 a3) rfl
  have c_d0 := B_d.out.cell (i := 0) (x := .int .i64 a1) rfl
  have c_d1 := B_d.out.cell (i := 1) (x := .int .i64 a2) rfl
  have c_d2 := B_d.out.cell (i := 2) (x := .int .i64 a3) rfl
  go_wp2_with fail
  clear c_h0 c_h1 c_h2 c_d0 c_d1 c_d2
  refine (HD2.out _).mono ?_; rintro e u6 ⟨rfl, hg⟩
  replace G := Lib.hid (World.grownBy.trans G.out hg)
  replace B_h := Lib.hid (B_h.out.new hg)
  replace B_d := Lib.hid (B_d.out.new hg)
  clear hg
  try unfold hnV
  have c_h0 := B_h.out.cell (i := 0) (x := .int .i64 a1) rfl
  have c_h1 := B_h.out.cell (i := 1) (x := .int .i64 a2) rfl
  have c_h2 := B_h.out.cell (i := 2) (x := .int .i64 a3) rfl
  have c_d0 := B_d.out.cell (i := 0) (x := .int .i64 a1) rfl
  have c_d1 := B_d.out.cell (i := 1) (x := .int .i64 a2) rfl
  have c_d2 := B_d.out.cell (i := 2) (x := .int .i64 a3) rfl
  go_upto_region 9 with fail
  clear c_h0 c_h1 c_h2 c_d0 c_d1 c_d2
  have hb := Blk.made u6 23 #[.int .i64 0, .int .i64 0, .int .i64 0]
  have hg := World.grownBy_alloc u6 (.cells #[.int .i64 0, .int .i64 0, .int .i64 0] 23) none
  replace G := Lib.hid (World.grownBy.trans G.out hg)
  replace B_h := Lib.hid (B_h.out.new hg)
  replace B_d := Lib.hid (B_d.out.new hg)
  generalize u6.alloc (.cells #[.int .i64 0, .int .i64 0, .int .i64 0] 23) = u7 at *
  generalize u6.heap.size = K_g at *
  have B_g := Lib.hid hb
  clear hb hg
  have c_h0 := B_h.out.cell (i := 0) (x := .int .i64 a1) rfl
  have c_h1 := B_h.out.cell (i := 1) (x := .int .i64 a2) rfl
  have c_h2 := B_h.out.cell (i := 2) (x := .int .i64 a3) rfl
  have c_d0 := B_d.out.cell (i := 0) (x := .int .i64 a1) rfl
  have c_d1 := B_d.out.cell (i := 1) (x := .int .i64 a2) rfl
  have c_d2 := B_d.out.cell (i := 2) (x := .int .i64 a3) rfl
  have c_g0 := B_g.out.cell (i := 0) (x := .int .i64 0) rfl
  have c_g1 := B_g.out.cell (i := 1) (x := .int .i64 0) rfl
  have c_g2 := B_g.out.cell (i := 2) (x := .int .i64 0) rfl
  go_wp2_with fail
  clear c_h0 c_h1 c_h2 c_d0 c_d1 c_d2 c_g0 c_g1 c_g2
  refine (HM.out _).mono ?_; rintro e u8 ⟨rfl, hg⟩
  replace G := Lib.hid (World.grownBy.trans G.out hg)
  replace B_h := Lib.hid (B_h.out.new hg)
  replace B_d := Lib.hid (B_d.out.new hg)
  replace B_g := Lib.hid (B_g.out.new hg)
  clear hg
  have c_h0 := B_h.out.cell (i := 0) (x := .int .i64 a1) rfl
  have c_h1 := B_h.out.cell (i := 1) (x := .int .i64 a2) rfl
  have c_h2 := B_h.out.cell (i := 2) (x := .int .i64 a3) rfl
  have c_d0 := B_d.out.cell (i := 0) (x := .int .i64 a1) rfl
  have c_d1 := B_d.out.cell (i := 1) (x := .int .i64 a2) rfl
  have c_d2 := B_d.out.cell (i := 2) (x := .int .i64 a3) rfl
  have c_g0 := B_g.out.cell (i := 0) (x := .int .i64 0) rfl
  have c_g1 := B_g.out.cell (i := 1) (x := .int .i64 0) rfl
  have c_g2 := B_g.out.cell (i := 2) (x := .int .i64 0) rfl
  go_wp2_with fail
  go_ret
  exact ⟨rfl, G.out⟩

set_option maxRecDepth 10000 in
set_option maxHeartbeats 4000000 in
theorem back_ny (a g : Hn) (l : List UInt8) (w : World) (h : l.length ≤ 1000) (ha : ¬ hMay a) (hd : hDec fnv l = (g, 0)) : Calls Try.prog 5 #[hnV a, .string ⟨l.toArray⟩] w (OK w) := by
  have HW := Lib.hid (fun w => awake_any w)
  have HE := Lib.hid (fun w => Enc_any a w)
  have HM := Lib.hid (fun w => may_any a w)
  have HD2 := Lib.hid (fun w => Dec_any l w (by unfold maxLen; omega))
  rw [hd] at HD2
  rw [hEnc_not ha] at HE
  rw [decide_eq_false ha] at HM
  have HE2 := Lib.hid (fun w => Enc_any g w)
  rw [dec_enc hd] at HE2
  have q1 : (l.length : Int) ≤ 1000 := by omega
  clear h ha hd
  generalize hB fnv a = ta at *
  obtain ⟨a1, a2, a3⟩ := a
  obtain ⟨g1, g2, g3⟩ := g
  unfold hnV at *
  dsimp only at HE HM HD2 HE2
  dsimp only
  go_enter Try.func5, Try.ntmps5
  go_upto_region 1 with fail
  have hb := Blk.made w 23 #[.int .i64 a1, .int .i64 a2, .int .i64 a3]
  have hg := World.grownBy_alloc w (.cells #[.int .i64 a1, .int .i64 a2, .int .i64 a3] 23) none
  have G := Lib.hid (hg)
  generalize w.alloc (.cells #[.int .i64 a1, .int .i64 a2, .int .i64 a3] 23) = u1 at *
  generalize w.heap.size = K_h at *
  have B_h := Lib.hid hb
  clear hb hg
  have c_h0 := B_h.out.cell (i := 0) (x := .int .i64 a1) rfl
  have c_h1 := B_h.out.cell (i := 1) (x := .int .i64 a2) rfl
  have c_h2 := B_h.out.cell (i := 2) (x := .int .i64 a3) rfl
  go_wp2_with fail
  clear c_h0 c_h1 c_h2
  refine (HW.out _).mono ?_; rintro e u2 ⟨rfl, hg⟩
  replace G := Lib.hid (World.grownBy.trans G.out hg)
  replace B_h := Lib.hid (B_h.out.new hg)
  clear hg
  have c_h0 := B_h.out.cell (i := 0) (x := .int .i64 a1) rfl
  have c_h1 := B_h.out.cell (i := 1) (x := .int .i64 a2) rfl
  have c_h2 := B_h.out.cell (i := 2) (x := .int .i64 a3) rfl
  go_wp2_with fail
  clear c_h0 c_h1 c_h2
  refine (HE.out _).mono ?_; rintro e u3 ⟨rfl, hg⟩
  replace G := Lib.hid (World.grownBy.trans G.out hg)
  replace B_h := Lib.hid (B_h.out.new hg)
  clear hg
  try unfold txt
  have c_h0 := B_h.out.cell (i := 0) (x := .int .i64 a1) rfl
  have c_h1 := B_h.out.cell (i := 1) (x := .int .i64 a2) rfl
  have c_h2 := B_h.out.cell (i := 2) (x := .int .i64 a3) rfl
  go_wp2_with fail
  clear c_h0 c_h1 c_h2
  refine (HD2.out _).mono ?_; rintro e u4 ⟨rfl, hg⟩
  replace G := Lib.hid (World.grownBy.trans G.out hg)
  replace B_h := Lib.hid (B_h.out.new hg)
  clear hg
  try unfold hnV
  have c_h0 := B_h.out.cell (i := 0) (x := .int .i64 a1) rfl
  have c_h1 := B_h.out.cell (i := 1) (x := .int .i64 a2) rfl
  have c_h2 := B_h.out.cell (i := 2) (x := .int .i64 a3) rfl
  go_upto_region 9 with fail
  clear c_h0 c_h1 c_h2
  have hb := Blk.made u4 23 #[.int .i64 g1, .int .i64 g2, .int .i64 g3]
  have hg := World.grownBy_alloc u4 (.cells #[.int .i64 g1, .int .i64 g2, .int .i64 g3] 23) none
  replace G := Lib.hid (World.grownBy.trans G.out hg)
  replace B_h := Lib.hid (B_h.out.new hg)
  generalize u4.alloc (.cells #[.int .i64 g1, .int .i64 g2, .int .i64 g3] 23) = u5 at *
  generalize u4.heap.size = K_g at *
  have B_g := Lib.hid hb
  clear hb hg
  have c_h0 := B_h.out.cell (i := 0) (x := .int .i64 a1) rfl
  have c_h1 := B_h.out.cell (i := 1) (x := .int .i64 a2) rfl
  have c_h2 := B_h.out.cell (i := 2) (x := .int .i64 a3) rfl
  have c_g0 := B_g.out.cell (i := 0) (x := .int .i64 g1) rfl
  have c_g1 := B_g.out.cell (i := 1) (x := .int .i64 g2) rfl
  have c_g2 := B_g.out.cell (i := 2) (x := .int .i64 g3) rfl
  go_wp2_with fail
  clear c_h0 c_h1 c_h2 c_g0 c_g1 c_g2
  refine (HE2.out _).mono ?_; rintro e u6 ⟨rfl, hg⟩
  replace G := Lib.hid (World.grownBy.trans G.out hg)
  replace B_h := Lib.hid (B_h.out.new hg)
  replace B_g := Lib.hid (B_g.out.new hg)
  clear hg
  try unfold txt
  have c_h0 := B_h.out.cell (i := 0) (x := .int .i64 a1) rfl
  have c_h1 := B_h.out.cell (i := 1) (x := .int .i64 a2) rfl
  have c_h2 := B_h.out.cell (i := 2) (x := .int .i64 a3) rfl
  have c_g0 := B_g.out.cell (i := 0) (x := .int .i64 g1) rfl
  have c_g1 := B_g.out.cell (i := 1) (x := .int .i64 g2) rfl
  have c_g2 := B_g.out.cell (i := 2) (x := .int .i64 g3) rfl
  go_wp2_with fail
  clear c_h0 c_h1 c_h2 c_g0 c_g1 c_g2
  refine (HM.out _).mono ?_; rintro e u7 ⟨rfl, hg⟩
  replace G := Lib.hid (World.grownBy.trans G.out hg)
  replace B_h := Lib.hid (B_h.out.new hg)
  replace B_g := Lib.hid (B_g.out.new hg)
  clear hg
  have c_h0 := B_h.out.cell (i := 0) (x := .int .i64 a1) rfl
  have c_h1 := B_h.out.cell (i := 1) (x := .int .i64 a2) rfl
  have c_h2 := B_h.out.cell (i := 2) (x := .int .i64 a3) rfl
  have c_g0 := B_g.out.cell (i := 0) (x := .int .i64 g1) rfl
  have c_g1 := B_g.out.cell (i := 1) (x := .int .i64 g2) rfl
  have c_g2 := B_g.out.cell (i := 2) (x := .int .i64 g3) rfl
  go_wp2_with fail
  go_ret
  exact ⟨rfl, G.out⟩

set_option maxRecDepth 10000 in
set_option maxHeartbeats 4000000 in
theorem back_nn (a g : Hn) (l : List UInt8) (w : World) (h : l.length ≤ 1000) (ha : ¬ hMay a) (hd : hDec fnv l = (g, 4)) : Calls Try.prog 5 #[hnV a, .string ⟨l.toArray⟩] w (OK w) := by
  have HW := Lib.hid (fun w => awake_any w)
  have HE := Lib.hid (fun w => Enc_any a w)
  have HM := Lib.hid (fun w => may_any a w)
  have HD2 := Lib.hid (fun w => Dec_any l w (by unfold maxLen; omega))
  rw [hd] at HD2
  rw [hEnc_not ha] at HE
  rw [decide_eq_false ha] at HM
  obtain rfl : g = noHn := by
    unfold hDec at hd
    split at hd
    · cases congrArg Prod.snd hd
    · exact (congrArg Prod.fst hd).symm
  unfold noHn at *
  have q1 : (l.length : Int) ≤ 1000 := by omega
  clear h ha hd
  generalize hB fnv a = ta at *
  obtain ⟨a1, a2, a3⟩ := a
  unfold hnV at *
  dsimp only at HE HM HD2
  dsimp only
  go_enter Try.func5, Try.ntmps5
  go_upto_region 1 with fail
  have hb := Blk.made w 23 #[.int .i64 a1, .int .i64 a2, .int .i64 a3]
  have hg := World.grownBy_alloc w (.cells #[.int .i64 a1, .int .i64 a2, .int .i64 a3] 23) none
  have G := Lib.hid (hg)
  generalize w.alloc (.cells #[.int .i64 a1, .int .i64 a2, .int .i64 a3] 23) = u1 at *
  generalize w.heap.size = K_h at *
  have B_h := Lib.hid hb
  clear hb hg
  have c_h0 := B_h.out.cell (i := 0) (x := .int .i64 a1) rfl
  have c_h1 := B_h.out.cell (i := 1) (x := .int .i64 a2) rfl
  have c_h2 := B_h.out.cell (i := 2) (x := .int .i64 a3) rfl
  go_wp2_with fail
  clear c_h0 c_h1 c_h2
  refine (HW.out _).mono ?_; rintro e u2 ⟨rfl, hg⟩
  replace G := Lib.hid (World.grownBy.trans G.out hg)
  replace B_h := Lib.hid (B_h.out.new hg)
  clear hg
  have c_h0 := B_h.out.cell (i := 0) (x := .int .i64 a1) rfl
  have c_h1 := B_h.out.cell (i := 1) (x := .int .i64 a2) rfl
  have c_h2 := B_h.out.cell (i := 2) (x := .int .i64 a3) rfl
  go_wp2_with fail
  clear c_h0 c_h1 c_h2
  refine (HE.out _).mono ?_; rintro e u3 ⟨rfl, hg⟩
  replace G := Lib.hid (World.grownBy.trans G.out hg)
  replace B_h := Lib.hid (B_h.out.new hg)
  clear hg
  try unfold txt
  have c_h0 := B_h.out.cell (i := 0) (x := .int .i64 a1) rfl
  have c_h1 := B_h.out.cell (i := 1) (x := .int .i64 a2) rfl
  have c_h2 := B_h.out.cell (i := 2) (x := .int .i64 a3) rfl
  go_wp2_with fail
  clear c_h0 c_h1 c_h2
  refine (HD2.out _).mono ?_; rintro e u4 ⟨rfl, hg⟩
  replace G := Lib.hid (World.grownBy.trans G.out hg)
  replace B_h := Lib.hid (B_h.out.new hg)
  clear hg
  try unfold hnV
  have c_h0 := B_h.out.cell (i := 0) (x := .int .i64 a1) rfl
  have c_h1 := B_h.out.cell (i := 1) (x := .int .i64 a2) rfl
  have c_h2 := B_h.out.cell (i := 2) (x := .int .i64 a3) rfl
  go_upto_region 9 with fail
  clear c_h0 c_h1 c_h2
  have hb := Blk.made u4 23 #[.int .i64 0, .int .i64 0, .int .i64 0]
  have hg := World.grownBy_alloc u4 (.cells #[.int .i64 0, .int .i64 0, .int .i64 0] 23) none
  replace G := Lib.hid (World.grownBy.trans G.out hg)
  replace B_h := Lib.hid (B_h.out.new hg)
  generalize u4.alloc (.cells #[.int .i64 0, .int .i64 0, .int .i64 0] 23) = u5 at *
  generalize u4.heap.size = K_g at *
  have B_g := Lib.hid hb
  clear hb hg
  have c_h0 := B_h.out.cell (i := 0) (x := .int .i64 a1) rfl
  have c_h1 := B_h.out.cell (i := 1) (x := .int .i64 a2) rfl
  have c_h2 := B_h.out.cell (i := 2) (x := .int .i64 a3) rfl
  have c_g0 := B_g.out.cell (i := 0) (x := .int .i64 0) rfl
  have c_g1 := B_g.out.cell (i := 1) (x := .int .i64 0) rfl
  have c_g2 := B_g.out.cell (i := 2) (x := .int .i64 0) rfl
  go_wp2_with fail
  clear c_h0 c_h1 c_h2 c_g0 c_g1 c_g2
  refine (HM.out _).mono ?_; rintro e u6 ⟨rfl, hg⟩
  replace G := Lib.hid (World.grownBy.trans G.out hg)
  replace B_h := Lib.hid (B_h.out.new hg)
  replace B_g := Lib.hid (B_g.out.new hg)
  clear hg
  have c_h0 := B_h.out.cell (i := 0) (x := .int .i64 a1) rfl
  have c_h1 := B_h.out.cell (i := 1) (x := .int .i64 a2) rfl
  have c_h2 := B_h.out.cell (i := 2) (x := .int .i64 a3) rfl
  have c_g0 := B_g.out.cell (i := 0) (x := .int .i64 0) rfl
  have c_g1 := B_g.out.cell (i := 1) (x := .int .i64 0) rfl
  have c_g2 := B_g.out.cell (i := 2) (x := .int .i64 0) rfl
  go_wp2_with fail
  go_ret
  exact ⟨rfl, G.out⟩

theorem hDec_err (l : List UInt8) : (hDec fnv l).2 = 0 ∨ (hDec fnv l).2 = 4 := by
  unfold hDec
  split
  · exact .inl rfl
  · exact .inr rfl

theorem back_walk (a : Hn) (s : ByteArray) (hs : s.size ≤ maxLen) (w : World) : Calls Try.prog 5 #[hnV a, .string s] w (OK w) := by
  obtain ⟨l, rfl⟩ : ∃ l : List UInt8, s = ⟨l.toArray⟩ := ⟨s.data.toList, by apply ByteArray.ext; simp⟩
  have hl : l.length ≤ maxLen := hs
  by_cases h : 1000 < l.length
  · exact back_long a l w hl h
  · obtain ⟨⟨g, f⟩, hd⟩ : ∃ p, hDec fnv l = p := ⟨_, rfl⟩
    have hf := hDec_err l
    rw [hd] at hf
    by_cases ha : hMay a
    · rcases hf with rfl | rfl
      · exact back_yy a g l w (by omega) ha hd
      · exact back_yn a g l w (by omega) ha hd
    · rcases hf with rfl | rfl
      · exact back_ny a g l w (by omega) ha hd
      · exact back_nn a g l w (by omega) ha hd
end Go.Proofs.Ytcifhjocmlalmaa
