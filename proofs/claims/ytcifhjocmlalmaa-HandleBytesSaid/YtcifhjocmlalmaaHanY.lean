/- HandleBytes, call by call. -/
import Derived.Test.YtcifhjocmlalmaaHanO
namespace Go.Proofs.Ytcifhjocmlalmaa
open Go.RowKit

set_option maxRecDepth 10000 in
set_option maxHeartbeats 2000000 in
theorem bytes_long (a b : Hn) (l : List UInt8) (w : World) (hm : l.length ≤ maxLen) (h : 1000 < l.length) : Calls Try.prog 3 #[hnV a, hnV b, .string ⟨l.toArray⟩] w (OK w) := by
  have HW := Lib.hid (fun w => awake_any w)
  have q1 : (l.length : Int) ≤ 9223372036854775807 := by unfold maxLen at hm; omega
  have k : decide (1000 < (l.length : Int)) = true := by simp; omega
  clear h hm
  obtain ⟨a1, a2, a3⟩ := a
  obtain ⟨b1, b2, b3⟩ := b
  unfold hnV at *
  dsimp only
  go_enter Try.func3, Try.ntmps3
  go_upto_region 1 with fail
  obtain ⟨b_a, b_b, g0⟩ := boxes2 w 23 #[.int .i64 a1, .int .i64 a2, .int .i64 a3] #[.int .i64 b1, .int .i64 b2, .int .i64 b3]
  generalize (w.alloc (.cells #[.int .i64 a1, .int .i64 a2, .int .i64 a3] 23)).alloc (.cells #[.int .i64 b1, .int .i64 b2, .int .i64 b3] 23) = w1 at *
  generalize w.heap.size = K at *
  have G := Lib.hid g0
  have B_a := Lib.hid b_a
  have B_b := Lib.hid b_b
  clear g0 b_a b_b
  go_wp2_with fail
  refine (HW.out _).mono ?_; rintro e u1 ⟨rfl, hg⟩
  replace G := Lib.hid (World.grownBy.trans G.out hg)
  replace B_a := Lib.hid (B_a.out.new hg)
  replace B_b := Lib.hid (B_b.out.new hg)
  clear hg
  go_wp2_with fail
  go_ret
  exact ⟨rfl, G.out⟩

set_option maxRecDepth 10000 in
set_option maxHeartbeats 8000000 in
theorem bytes_short (a b : Hn) (l : List UInt8) (w : World) (h : l.length ≤ 1000) : Calls Try.prog 3 #[hnV a, hnV b, .string ⟨l.toArray⟩] w (OK w) := by
  have HW := Lib.hid (fun w => awake_any w)
  have HE := Lib.hid (fun w => Enc_any a w)
  have HF := Lib.hid (fun w => rEnc_any a w)
  have HD := Lib.hid (fun w => Dec_any l w (by unfold maxLen; omega))
  have HC := Lib.hid (fun w => rDec_any l w (by unfold maxLen; omega))
  have HM := Lib.hid (fun w => may_any a w)
  have HN := Lib.hid (fun w => rmay_any a w)
  have HL := Lib.hid (fun w => less_any a b w)
  have HR := Lib.hid (fun w => rless_any a b w)
  have q1 : (l.length : Int) ≤ 1000 := by omega
  clear h
  generalize hEnc fnv a = p at *
  generalize hDec fnv l = q at *
  generalize decide (hMay a) = m at *
  generalize hLess a b = x at *
  obtain ⟨t, e⟩ := p
  obtain ⟨⟨d1, d2, d3⟩, f⟩ := q
  obtain ⟨a1, a2, a3⟩ := a
  obtain ⟨b1, b2, b3⟩ := b
  unfold hnV at *
  dsimp only at HE HF HM HN HL HR
  dsimp only
  go_enter Try.func3, Try.ntmps3
  go_upto_region 1 with fail
  obtain ⟨b_a, b_b, g0⟩ := boxes2 w 23 #[.int .i64 a1, .int .i64 a2, .int .i64 a3] #[.int .i64 b1, .int .i64 b2, .int .i64 b3]
  generalize (w.alloc (.cells #[.int .i64 a1, .int .i64 a2, .int .i64 a3] 23)).alloc (.cells #[.int .i64 b1, .int .i64 b2, .int .i64 b3] 23) = w1 at *
  generalize w.heap.size = K at *
  have G := Lib.hid g0
  have B_a := Lib.hid b_a
  have B_b := Lib.hid b_b
  clear g0 b_a b_b
  have c_a0 := B_a.out.cell (i := 0) (x := .int .i64 a1) rfl
  have c_a1 := B_a.out.cell (i := 1) (x := .int .i64 a2) rfl
  have c_a2 := B_a.out.cell (i := 2) (x := .int .i64 a3) rfl
  have c_b0 := B_b.out.cell (i := 0) (x := .int .i64 b1) rfl
  have c_b1 := B_b.out.cell (i := 1) (x := .int .i64 b2) rfl
  have c_b2 := B_b.out.cell (i := 2) (x := .int .i64 b3) rfl
  go_wp2_with fail
  clear c_a0 c_a1 c_a2 c_b0 c_b1 c_b2
  refine (HE.out _).mono ?_; rintro e u1 ⟨rfl, hg⟩
  replace G := Lib.hid (World.grownBy.trans G.out hg)
  replace B_a := Lib.hid (B_a.out.new hg)
  replace B_b := Lib.hid (B_b.out.new hg)
  clear hg
  try unfold txt
  have c_a0 := B_a.out.cell (i := 0) (x := .int .i64 a1) rfl
  have c_a1 := B_a.out.cell (i := 1) (x := .int .i64 a2) rfl
  have c_a2 := B_a.out.cell (i := 2) (x := .int .i64 a3) rfl
  have c_b0 := B_b.out.cell (i := 0) (x := .int .i64 b1) rfl
  have c_b1 := B_b.out.cell (i := 1) (x := .int .i64 b2) rfl
  have c_b2 := B_b.out.cell (i := 2) (x := .int .i64 b3) rfl
  go_wp2_with fail
  clear c_a0 c_a1 c_a2 c_b0 c_b1 c_b2
  refine (HF.out _).mono ?_; rintro e u2 ⟨rfl, hg⟩
  replace G := Lib.hid (World.grownBy.trans G.out hg)
  replace B_a := Lib.hid (B_a.out.new hg)
  replace B_b := Lib.hid (B_b.out.new hg)
  clear hg
  try unfold txt
  have c_a0 := B_a.out.cell (i := 0) (x := .int .i64 a1) rfl
  have c_a1 := B_a.out.cell (i := 1) (x := .int .i64 a2) rfl
  have c_a2 := B_a.out.cell (i := 2) (x := .int .i64 a3) rfl
  have c_b0 := B_b.out.cell (i := 0) (x := .int .i64 b1) rfl
  have c_b1 := B_b.out.cell (i := 1) (x := .int .i64 b2) rfl
  have c_b2 := B_b.out.cell (i := 2) (x := .int .i64 b3) rfl
  go_wp2_with fail
  clear c_a0 c_a1 c_a2 c_b0 c_b1 c_b2
  refine (HD.out _).mono ?_; rintro e u3 ⟨rfl, hg⟩
  replace G := Lib.hid (World.grownBy.trans G.out hg)
  replace B_a := Lib.hid (B_a.out.new hg)
  replace B_b := Lib.hid (B_b.out.new hg)
  clear hg
  try unfold hnV
  go_upto_region 6 with fail
  have hb := Blk.made u3 23 #[.int .i64 d1, .int .i64 d2, .int .i64 d3]
  have hg := World.grownBy_alloc u3 (.cells #[.int .i64 d1, .int .i64 d2, .int .i64 d3] 23) none
  replace G := Lib.hid (World.grownBy.trans G.out hg)
  replace B_a := Lib.hid (B_a.out.new hg)
  replace B_b := Lib.hid (B_b.out.new hg)
  generalize u3.alloc (.cells #[.int .i64 d1, .int .i64 d2, .int .i64 d3] 23) = u4 at *
  generalize u3.heap.size = K_d at *
  have B_d := Lib.hid hb
  clear hb hg
  go_wp2_with fail
  refine (HC.out _).mono ?_; rintro e u5 ⟨rfl, hg⟩
  replace G := Lib.hid (World.grownBy.trans G.out hg)
  replace B_a := Lib.hid (B_a.out.new hg)
  replace B_b := Lib.hid (B_b.out.new hg)
  replace B_d := Lib.hid (B_d.out.new hg)
  clear hg
  try unfold hnV
  go_upto_region 7 with fail
  have hb := Blk.made u5 23 #[.int .i64 d1, .int .i64 d2, .int .i64 d3]
  have hg := World.grownBy_alloc u5 (.cells #[.int .i64 d1, .int .i64 d2, .int .i64 d3] 23) none
  replace G := Lib.hid (World.grownBy.trans G.out hg)
  replace B_a := Lib.hid (B_a.out.new hg)
  replace B_b := Lib.hid (B_b.out.new hg)
  replace B_d := Lib.hid (B_d.out.new hg)
  generalize u5.alloc (.cells #[.int .i64 d1, .int .i64 d2, .int .i64 d3] 23) = u6 at *
  generalize u5.heap.size = K_e at *
  have B_e := Lib.hid hb
  clear hb hg
  have KEEP : Hid (∀ w', u6.grownBy w' none → (w'.cell? ⟨K, 0, none⟩ = some (.int .i64 a1) ∧ w'.cell? ⟨K, 1, none⟩ = some (.int .i64 a2) ∧ w'.cell? ⟨K, 2, none⟩ = some (.int .i64 a3) ∧ w'.cell? ⟨K + 1, 0, none⟩ = some (.int .i64 b1) ∧ w'.cell? ⟨K + 1, 1, none⟩ = some (.int .i64 b2) ∧ w'.cell? ⟨K + 1, 2, none⟩ = some (.int .i64 b3) ∧ w'.cell? ⟨K_d, 0, none⟩ = some (.int .i64 d1) ∧ w'.cell? ⟨K_d, 1, none⟩ = some (.int .i64 d2) ∧ w'.cell? ⟨K_d, 2, none⟩ = some (.int .i64 d3) ∧ w'.cell? ⟨K_e, 0, none⟩ = some (.int .i64 d1) ∧ w'.cell? ⟨K_e, 1, none⟩ = some (.int .i64 d2) ∧ w'.cell? ⟨K_e, 2, none⟩ = some (.int .i64 d3))) := Lib.hid (fun w' hg => ⟨(B_a.out.new hg).cell (i := 0) rfl, (B_a.out.new hg).cell (i := 1) rfl, (B_a.out.new hg).cell (i := 2) rfl, (B_b.out.new hg).cell (i := 0) rfl, (B_b.out.new hg).cell (i := 1) rfl, (B_b.out.new hg).cell (i := 2) rfl, (B_d.out.new hg).cell (i := 0) rfl, (B_d.out.new hg).cell (i := 1) rfl, (B_d.out.new hg).cell (i := 2) rfl, (B_e.out.new hg).cell (i := 0) rfl, (B_e.out.new hg).cell (i := 1) rfl, (B_e.out.new hg).cell (i := 2) rfl⟩)
  refine wp_region_noPanic ?_
  refine wp_region_held_drew (S := fun w' => (w'.cell? ⟨K, 0, none⟩ = some (.int .i64 a1) ∧ w'.cell? ⟨K, 1, none⟩ = some (.int .i64 a2) ∧ w'.cell? ⟨K, 2, none⟩ = some (.int .i64 a3) ∧ w'.cell? ⟨K + 1, 0, none⟩ = some (.int .i64 b1) ∧ w'.cell? ⟨K + 1, 1, none⟩ = some (.int .i64 b2) ∧ w'.cell? ⟨K + 1, 2, none⟩ = some (.int .i64 b3) ∧ w'.cell? ⟨K_d, 0, none⟩ = some (.int .i64 d1) ∧ w'.cell? ⟨K_d, 1, none⟩ = some (.int .i64 d2) ∧ w'.cell? ⟨K_d, 2, none⟩ = some (.int .i64 d3) ∧ w'.cell? ⟨K_e, 0, none⟩ = some (.int .i64 d1) ∧ w'.cell? ⟨K_e, 1, none⟩ = some (.int .i64 d2) ∧ w'.cell? ⟨K_e, 2, none⟩ = some (.int .i64 d3))) (by kernel_rfl) (KEEP.out _ (drew_grown _ _)) (fun hHeld => ?_)
  have HG : Hid (u6.grownBy u6.drew none) := Lib.hid (drew_grown _ _)
  refine wpAnyH_take (i := 0) (v := ?_) (by simp only [List.getElem?_toArray, List.getElem?_cons_zero]; rfl) (by kernel_rfl) (by kernel_rfl) (by kernel_rfl) (fun _ _ _ h => h) (Or.inl ⟨by rfl, ?_⟩) (by assumption) ?_
  rotate_left 1
  · intro w hSw; (try dsimp only at hSw); go_simp; all_goals (with_reducible rfl)
  try simp only [Act.put, List.setIfInBounds_toArray, List.set_cons_zero, List.set_cons_succ]
  refine wpAnyH_take (i := 2) (v := ?_) (by simp only [List.getElem?_toArray, List.getElem?_cons_succ, List.getElem?_cons_zero]; rfl) (by kernel_rfl) (by kernel_rfl) (by kernel_rfl) (fun _ _ _ h => h) (Or.inl ⟨by rfl, ?_⟩) (by assumption) ?_
  rotate_left 1
  · intro w hSw; (try dsimp only at hSw); go_simp; all_goals (with_reducible rfl)
  try simp only [Act.put, List.setIfInBounds_toArray, List.set_cons_zero, List.set_cons_succ]
  refine wpAnyH_ready (rs := [1]) (by kernel_rfl) (by simp) ?_
  refine AllReadyH.cons (by simp only [List.getElem?_toArray, List.getElem?_cons_succ, List.getElem?_cons_zero]; rfl) (fun KK hK => ?_) AllReadyH.nil
  go_simp
  refine (HM.out _).mono ?_; rintro e v1 ⟨rfl, hg⟩
  clear hHeld
  replace HG := Lib.hid (World.grownBy.trans HG.out hg)
  clear hg
  go_wp2_with fail
  refine hK.out _ _ (KEEP.out _ HG.out) (fun hHeld => ?_)
  clear hK KK
  try simp only [Act.put, List.setIfInBounds_toArray, List.set_cons_zero, List.set_cons_succ]
  refine wpAnyH_ready (rs := [3]) (by kernel_rfl) (by simp) ?_
  refine AllReadyH.cons (by simp only [List.getElem?_toArray, List.getElem?_cons_succ, List.getElem?_cons_zero]; rfl) (fun KK hK => ?_) AllReadyH.nil
  go_simp
  refine (HN.out _).mono ?_; rintro e v2 ⟨rfl, hg⟩
  clear hHeld
  replace HG := Lib.hid (World.grownBy.trans HG.out hg)
  clear hg
  go_wp2_with fail
  refine hK.out _ _ (KEEP.out _ HG.out) (fun hHeld => ?_)
  clear hK KK
  try simp only [Act.put, List.setIfInBounds_toArray, List.set_cons_zero, List.set_cons_succ]
  refine wpAnyH_take (i := 4) (v := ?_) (by simp only [List.getElem?_toArray, List.getElem?_cons_succ, List.getElem?_cons_zero]; rfl) (by kernel_rfl) (by kernel_rfl) (by kernel_rfl) (fun _ _ _ h => h) (Or.inl ⟨by rfl, ?_⟩) (by assumption) ?_
  rotate_left 1
  · intro w hSw; (try dsimp only at hSw); go_simp; all_goals (with_reducible rfl)
  try simp only [Act.put, List.setIfInBounds_toArray, List.set_cons_zero, List.set_cons_succ]
  refine wpAnyH_take (i := 5) (v := ?_) (by simp only [List.getElem?_toArray, List.getElem?_cons_succ, List.getElem?_cons_zero]; rfl) (by kernel_rfl) (by kernel_rfl) (by kernel_rfl) (fun _ _ _ h => h) (Or.inl ⟨by rfl, ?_⟩) (by assumption) ?_
  rotate_left 1
  · intro w hSw; (try dsimp only at hSw); go_simp; all_goals (with_reducible rfl)
  try simp only [Act.put, List.setIfInBounds_toArray, List.set_cons_zero, List.set_cons_succ]
  refine wpAnyH_take (i := 6) (v := ?_) (by simp only [List.getElem?_toArray, List.getElem?_cons_succ, List.getElem?_cons_zero]; rfl) (by kernel_rfl) (by kernel_rfl) (by kernel_rfl) (fun _ _ _ h => h) (Or.inl ⟨by rfl, ?_⟩) (by assumption) ?_
  rotate_left 1
  · intro w hSw; (try dsimp only at hSw); go_simp; all_goals (with_reducible rfl)
  try simp only [Act.put, List.setIfInBounds_toArray, List.set_cons_zero, List.set_cons_succ]
  refine wpAnyH_take (i := 7) (v := ?_) (by simp only [List.getElem?_toArray, List.getElem?_cons_succ, List.getElem?_cons_zero]; rfl) (by kernel_rfl) (by kernel_rfl) (by kernel_rfl) (fun _ _ _ h => h) (Or.inl ⟨by rfl, ?_⟩) (by assumption) ?_
  rotate_left 1
  · intro w hSw; (try dsimp only at hSw); go_simp; all_goals (with_reducible rfl)
  try simp only [Act.put, List.setIfInBounds_toArray, List.set_cons_zero, List.set_cons_succ]
  refine wpAnyH_take (i := 8) (v := ?_) (by simp only [List.getElem?_toArray, List.getElem?_cons_succ, List.getElem?_cons_zero]; rfl) (by kernel_rfl) (by kernel_rfl) (by kernel_rfl) (fun _ _ _ h => h) (Or.inl ⟨by rfl, ?_⟩) (by assumption) ?_
  rotate_left 1
  · intro w hSw; (try dsimp only at hSw); go_simp; all_goals (with_reducible rfl)
  try simp only [Act.put, List.setIfInBounds_toArray, List.set_cons_zero, List.set_cons_succ]
  refine wpAnyH_take (i := 9) (v := ?_) (by simp only [List.getElem?_toArray, List.getElem?_cons_succ, List.getElem?_cons_zero]; rfl) (by kernel_rfl) (by kernel_rfl) (by kernel_rfl) (fun _ _ _ h => h) (Or.inl ⟨by rfl, ?_⟩) (by assumption) ?_
  rotate_left 1
  · intro w hSw; (try dsimp only at hSw); go_simp; all_goals (with_reducible rfl)
  try simp only [Act.put, List.setIfInBounds_toArray, List.set_cons_zero, List.set_cons_succ]
  refine wpAnyH_take (i := 10) (v := ?_) (by simp only [List.getElem?_toArray, List.getElem?_cons_succ, List.getElem?_cons_zero]; rfl) (by kernel_rfl) (by kernel_rfl) (by kernel_rfl) (fun _ _ _ h => h) (Or.inl ⟨by rfl, ?_⟩) (by assumption) ?_
  rotate_left 1
  · intro w hSw; (try dsimp only at hSw); go_simp; all_goals (with_reducible rfl)
  try simp only [Act.put, List.setIfInBounds_toArray, List.set_cons_zero, List.set_cons_succ]
  refine wpAnyH_take (i := 11) (v := ?_) (by simp only [List.getElem?_toArray, List.getElem?_cons_succ, List.getElem?_cons_zero]; rfl) (by kernel_rfl) (by kernel_rfl) (by kernel_rfl) (fun _ _ _ h => h) (Or.inl ⟨by rfl, ?_⟩) (by assumption) ?_
  rotate_left 1
  · intro w hSw; (try dsimp only at hSw); go_simp; all_goals (with_reducible rfl)
  try simp only [Act.put, List.setIfInBounds_toArray, List.set_cons_zero, List.set_cons_succ]
  refine wpAnyH_take (i := 12) (v := ?_) (by simp only [List.getElem?_toArray, List.getElem?_cons_succ, List.getElem?_cons_zero]; rfl) (by kernel_rfl) (by kernel_rfl) (by kernel_rfl) (fun _ _ _ h => h) (Or.inl ⟨by rfl, ?_⟩) (by assumption) ?_
  rotate_left 1
  · intro w hSw; (try dsimp only at hSw); go_simp; all_goals (with_reducible rfl)
  try simp only [Act.put, List.setIfInBounds_toArray, List.set_cons_zero, List.set_cons_succ]
  refine wpAnyH_take (i := 13) (v := ?_) (by simp only [List.getElem?_toArray, List.getElem?_cons_succ, List.getElem?_cons_zero]; rfl) (by kernel_rfl) (by kernel_rfl) (by kernel_rfl) (fun _ _ _ h => h) (Or.inl ⟨by rfl, ?_⟩) (by assumption) ?_
  rotate_left 1
  · intro w hSw; (try dsimp only at hSw); go_simp; all_goals (with_reducible rfl)
  try simp only [Act.put, List.setIfInBounds_toArray, List.set_cons_zero, List.set_cons_succ]
  refine wpAnyH_take (i := 14) (v := ?_) (by simp only [List.getElem?_toArray, List.getElem?_cons_succ, List.getElem?_cons_zero]; rfl) (by kernel_rfl) (by kernel_rfl) (by kernel_rfl) (fun _ _ _ h => h) (Or.inl ⟨by rfl, ?_⟩) (by assumption) ?_
  rotate_left 1
  · intro w hSw; (try dsimp only at hSw); go_simp; all_goals (with_reducible rfl)
  try simp only [Act.put, List.setIfInBounds_toArray, List.set_cons_zero, List.set_cons_succ]
  refine wpAnyH_take (i := 15) (v := ?_) (by simp only [List.getElem?_toArray, List.getElem?_cons_succ, List.getElem?_cons_zero]; rfl) (by kernel_rfl) (by kernel_rfl) (by kernel_rfl) (fun _ _ _ h => h) (Or.inl ⟨by rfl, ?_⟩) (by assumption) ?_
  rotate_left 1
  · intro w hSw; (try dsimp only at hSw); go_simp; all_goals (with_reducible rfl)
  try simp only [Act.put, List.setIfInBounds_toArray, List.set_cons_zero, List.set_cons_succ]
  refine wpAnyH_take (i := 16) (v := ?_) (by simp only [List.getElem?_toArray, List.getElem?_cons_succ, List.getElem?_cons_zero]; rfl) (by kernel_rfl) (by kernel_rfl) (by kernel_rfl) (fun _ _ _ h => h) (Or.inl ⟨by rfl, ?_⟩) (by assumption) ?_
  rotate_left 1
  · intro w hSw; (try dsimp only at hSw); go_simp; all_goals (with_reducible rfl)
  try simp only [Act.put, List.setIfInBounds_toArray, List.set_cons_zero, List.set_cons_succ]
  refine wpAnyH_take (i := 17) (v := ?_) (by simp only [List.getElem?_toArray, List.getElem?_cons_succ, List.getElem?_cons_zero]; rfl) (by kernel_rfl) (by kernel_rfl) (by kernel_rfl) (fun _ _ _ h => h) (Or.inl ⟨by rfl, ?_⟩) (by assumption) ?_
  rotate_left 1
  · intro w hSw; (try dsimp only at hSw); go_simp; all_goals (with_reducible rfl)
  try simp only [Act.put, List.setIfInBounds_toArray, List.set_cons_zero, List.set_cons_succ]
  refine wpAnyH_take (i := 18) (v := ?_) (by simp only [List.getElem?_toArray, List.getElem?_cons_succ, List.getElem?_cons_zero]; rfl) (by kernel_rfl) (by kernel_rfl) (by kernel_rfl) (fun _ _ _ h => h) (Or.inl ⟨by rfl, ?_⟩) (by assumption) ?_
  rotate_left 1
  · intro w hSw; (try dsimp only at hSw); go_simp; all_goals (with_reducible rfl)
  try simp only [Act.put, List.setIfInBounds_toArray, List.set_cons_zero, List.set_cons_succ]
  refine wpAnyH_take (i := 19) (v := ?_) (by simp only [List.getElem?_toArray, List.getElem?_cons_succ, List.getElem?_cons_zero]; rfl) (by kernel_rfl) (by kernel_rfl) (by kernel_rfl) (fun _ _ _ h => h) (Or.inl ⟨by rfl, ?_⟩) (by assumption) ?_
  rotate_left 1
  · intro w hSw; (try dsimp only at hSw); go_simp; all_goals (with_reducible rfl)
  try simp only [Act.put, List.setIfInBounds_toArray, List.set_cons_zero, List.set_cons_succ]
  refine wpAnyH_take (i := 20) (v := ?_) (by simp only [List.getElem?_toArray, List.getElem?_cons_succ, List.getElem?_cons_zero]; rfl) (by kernel_rfl) (by kernel_rfl) (by kernel_rfl) (fun _ _ _ h => h) (Or.inl ⟨by rfl, ?_⟩) (by assumption) ?_
  rotate_left 1
  · intro w hSw; (try dsimp only at hSw); go_simp; all_goals (with_reducible rfl)
  try simp only [Act.put, List.setIfInBounds_toArray, List.set_cons_zero, List.set_cons_succ]
  refine wpAnyH_take (i := 21) (v := ?_) (by simp only [List.getElem?_toArray, List.getElem?_cons_succ, List.getElem?_cons_zero]; rfl) (by kernel_rfl) (by kernel_rfl) (by kernel_rfl) (fun _ _ _ h => h) (Or.inl ⟨by rfl, ?_⟩) (by assumption) ?_
  rotate_left 1
  · intro w hSw; (try dsimp only at hSw); go_simp; all_goals (with_reducible rfl)
  try simp only [Act.put, List.setIfInBounds_toArray, List.set_cons_zero, List.set_cons_succ]
  refine wpAnyH_take (i := 22) (v := ?_) (by simp only [List.getElem?_toArray, List.getElem?_cons_succ, List.getElem?_cons_zero]; rfl) (by kernel_rfl) (by kernel_rfl) (by kernel_rfl) (fun _ _ _ h => h) (Or.inl ⟨by rfl, ?_⟩) (by assumption) ?_
  rotate_left 1
  · intro w hSw; (try dsimp only at hSw); go_simp; all_goals (with_reducible rfl)
  try simp only [Act.put, List.setIfInBounds_toArray, List.set_cons_zero, List.set_cons_succ]
  refine wpAnyH_take (i := 23) (v := ?_) (by simp only [List.getElem?_toArray, List.getElem?_cons_succ, List.getElem?_cons_zero]; rfl) (by kernel_rfl) (by kernel_rfl) (by kernel_rfl) (fun _ _ _ h => h) (Or.inl ⟨by rfl, ?_⟩) (by assumption) ?_
  rotate_left 1
  · intro w hSw; (try dsimp only at hSw); go_simp; all_goals (with_reducible rfl)
  try simp only [Act.put, List.setIfInBounds_toArray, List.set_cons_zero, List.set_cons_succ]
  refine wpAnyH_take (i := 24) (v := ?_) (by simp only [List.getElem?_toArray, List.getElem?_cons_succ, List.getElem?_cons_zero]; rfl) (by kernel_rfl) (by kernel_rfl) (by kernel_rfl) (fun _ _ _ h => h) (Or.inl ⟨by rfl, ?_⟩) (by assumption) ?_
  rotate_left 1
  · intro w hSw; (try dsimp only at hSw); go_simp; all_goals (with_reducible rfl)
  try simp only [Act.put, List.setIfInBounds_toArray, List.set_cons_zero, List.set_cons_succ]
  refine wpAnyH_take (i := 25) (v := ?_) (by simp only [List.getElem?_toArray, List.getElem?_cons_succ, List.getElem?_cons_zero]; rfl) (by kernel_rfl) (by kernel_rfl) (by kernel_rfl) (fun _ _ _ h => h) (Or.inl ⟨by rfl, ?_⟩) (by assumption) ?_
  rotate_left 1
  · intro w hSw; (try dsimp only at hSw); go_simp; all_goals (with_reducible rfl)
  try simp only [Act.put, List.setIfInBounds_toArray, List.set_cons_zero, List.set_cons_succ]
  refine wpAnyH_take (i := 26) (v := ?_) (by simp only [List.getElem?_toArray, List.getElem?_cons_succ, List.getElem?_cons_zero]; rfl) (by kernel_rfl) (by kernel_rfl) (by kernel_rfl) (fun _ _ _ h => h) (Or.inl ⟨by rfl, ?_⟩) (by assumption) ?_
  rotate_left 1
  · intro w hSw; (try dsimp only at hSw); go_simp; all_goals (with_reducible rfl)
  try simp only [Act.put, List.setIfInBounds_toArray, List.set_cons_zero, List.set_cons_succ]
  refine wpAnyH_take (i := 27) (v := ?_) (by simp only [List.getElem?_toArray, List.getElem?_cons_succ, List.getElem?_cons_zero]; rfl) (by kernel_rfl) (by kernel_rfl) (by kernel_rfl) (fun _ _ _ h => h) (Or.inl ⟨by rfl, ?_⟩) (by assumption) ?_
  rotate_left 1
  · intro w hSw; (try dsimp only at hSw); go_simp; all_goals (with_reducible rfl)
  try simp only [Act.put, List.setIfInBounds_toArray, List.set_cons_zero, List.set_cons_succ]
  refine wpAnyH_take (i := 29) (v := ?_) (by simp only [List.getElem?_toArray, List.getElem?_cons_succ, List.getElem?_cons_zero]; rfl) (by kernel_rfl) (by kernel_rfl) (by kernel_rfl) (fun _ _ _ h => h) (Or.inl ⟨by rfl, ?_⟩) (by assumption) ?_
  rotate_left 1
  · intro w hSw; (try dsimp only at hSw); go_simp; all_goals (with_reducible rfl)
  try simp only [Act.put, List.setIfInBounds_toArray, List.set_cons_zero, List.set_cons_succ]
  refine wpAnyH_take (i := 30) (v := ?_) (by simp only [List.getElem?_toArray, List.getElem?_cons_succ, List.getElem?_cons_zero]; rfl) (by kernel_rfl) (by kernel_rfl) (by kernel_rfl) (fun _ _ _ h => h) (Or.inl ⟨by rfl, ?_⟩) (by assumption) ?_
  rotate_left 1
  · intro w hSw; (try dsimp only at hSw); go_simp; all_goals (with_reducible rfl)
  try simp only [Act.put, List.setIfInBounds_toArray, List.set_cons_zero, List.set_cons_succ]
  refine wpAnyH_ready (rs := [28]) (by kernel_rfl) (by simp) ?_
  refine AllReadyH.cons (by simp only [List.getElem?_toArray, List.getElem?_cons_succ, List.getElem?_cons_zero]; rfl) (fun KK hK => ?_) AllReadyH.nil
  go_simp
  refine (HL.out _).mono ?_; rintro e v3 ⟨rfl, hg⟩
  clear hHeld
  replace HG := Lib.hid (World.grownBy.trans HG.out hg)
  clear hg
  go_wp2_with fail
  refine hK.out _ _ (KEEP.out _ HG.out) (fun hHeld => ?_)
  clear hK KK
  try simp only [Act.put, List.setIfInBounds_toArray, List.set_cons_zero, List.set_cons_succ]
  refine wpAnyH_ready (rs := [31]) (by kernel_rfl) (by simp) ?_
  refine AllReadyH.cons (by simp only [List.getElem?_toArray, List.getElem?_cons_succ, List.getElem?_cons_zero]; rfl) (fun KK hK => ?_) AllReadyH.nil
  go_simp
  refine (HR.out _).mono ?_; rintro e v4 ⟨rfl, hg⟩
  clear hHeld
  replace HG := Lib.hid (World.grownBy.trans HG.out hg)
  clear hg
  go_wp2_with fail
  refine hK.out _ _ (KEEP.out _ HG.out) (fun hHeld => ?_)
  clear hK KK
  try simp only [Act.put, List.setIfInBounds_toArray, List.set_cons_zero, List.set_cons_succ]
  refine wpAnyH_take (i := 32) (v := ?_) (by simp only [List.getElem?_toArray, List.getElem?_cons_succ, List.getElem?_cons_zero]; rfl) (by kernel_rfl) (by kernel_rfl) (by kernel_rfl) (fun _ _ _ h => h) (Or.inl ⟨by rfl, ?_⟩) (by assumption) ?_
  rotate_left 1
  · intro w hSw; (try dsimp only at hSw); go_simp; all_goals (with_reducible rfl)
  try simp only [Act.put, List.setIfInBounds_toArray, List.set_cons_zero, List.set_cons_succ]
  refine wpAnyH_take (i := 33) (v := ?_) (by simp only [List.getElem?_toArray, List.getElem?_cons_succ, List.getElem?_cons_zero]; rfl) (by kernel_rfl) (by kernel_rfl) (by kernel_rfl) (fun _ _ _ h => h) (Or.inl ⟨by rfl, ?_⟩) (by assumption) ?_
  rotate_left 1
  · intro w hSw; (try dsimp only at hSw); go_simp; all_goals (with_reducible rfl)
  try simp only [Act.put, List.setIfInBounds_toArray, List.set_cons_zero, List.set_cons_succ]
  refine wpAnyH_take (i := 34) (v := ?_) (by simp only [List.getElem?_toArray, List.getElem?_cons_succ, List.getElem?_cons_zero]; rfl) (by kernel_rfl) (by kernel_rfl) (by kernel_rfl) (fun _ _ _ h => h) (Or.inl ⟨by rfl, ?_⟩) (by assumption) ?_
  rotate_left 1
  · intro w hSw; (try dsimp only at hSw); go_simp; all_goals (with_reducible rfl)
  try simp only [Act.put, List.setIfInBounds_toArray, List.set_cons_zero, List.set_cons_succ]
  refine wpAnyH_ready (rs := [35]) (by kernel_rfl) (by simp) ?_
  refine AllReadyH.cons (by simp only [List.getElem?_toArray, List.getElem?_cons_succ, List.getElem?_cons_zero]; rfl) (fun KK hK => ?_) AllReadyH.nil
  go_simp
  refine (HW.out _).mono ?_; rintro e v5 ⟨rfl, hg⟩
  clear hHeld
  replace HG := Lib.hid (World.grownBy.trans HG.out hg)
  clear hg
  go_wp2_with fail
  refine hK.out _ _ (KEEP.out _ HG.out) (fun hHeld => ?_)
  clear hK KK
  try simp only [Act.put, List.setIfInBounds_toArray, List.set_cons_zero, List.set_cons_succ]
  refine wpAnyH_take (i := 36) (v := ?_) (by simp only [List.getElem?_toArray, List.getElem?_cons_succ, List.getElem?_cons_zero]; rfl) (by kernel_rfl) (by kernel_rfl) (by kernel_rfl) (fun _ _ _ h => h) (Or.inl ⟨by rfl, ?_⟩) (by assumption) ?_
  rotate_left 1
  · intro w hSw; (try dsimp only at hSw); go_simp; all_goals (with_reducible rfl)
  try simp only [Act.put, List.setIfInBounds_toArray, List.set_cons_zero, List.set_cons_succ]
  refine wpAnyH_take (i := 37) (v := ?_) (by simp only [List.getElem?_toArray, List.getElem?_cons_succ, List.getElem?_cons_zero]; rfl) (by kernel_rfl) (by kernel_rfl) (by kernel_rfl) (fun _ _ _ h => h) (Or.inl ⟨by rfl, ?_⟩) (by assumption) ?_
  rotate_left 1
  · intro w hSw; (try dsimp only at hSw); go_simp; all_goals (with_reducible rfl)
  try simp only [Act.put, List.setIfInBounds_toArray, List.set_cons_zero, List.set_cons_succ]
  refine wpAnyH_done (by kernel_rfl) ?_ _
  refine NoPanic.normal ?_
  go_wp2_with fail
  go_ret
  exact ⟨rfl, World.grownBy.trans G.out HG.out⟩

theorem bytes_walk (a b : Hn) (s : ByteArray) (hs : s.size ≤ maxLen) (w : World) : Calls Try.prog 3 #[hnV a, hnV b, .string s] w (OK w) := by
  obtain ⟨l, rfl⟩ : ∃ l : List UInt8, s = ⟨l.toArray⟩ := ⟨s.data.toList, by apply ByteArray.ext; simp⟩
  have hl : l.length ≤ maxLen := hs
  by_cases h : 1000 < l.length
  · exact bytes_long a b l w hl h
  · exact bytes_short a b l w (by omega)
end Go.Proofs.Ytcifhjocmlalmaa
