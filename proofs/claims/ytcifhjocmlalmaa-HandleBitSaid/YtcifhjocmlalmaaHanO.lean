/- HandleOrder, call by call. -/
import Derived.Test.YtcifhjocmlalmaaOpenH
namespace Go.Proofs.Ytcifhjocmlalmaa
open Go.RowKit

def OK (w : World) (e : Ending) (w' : World) : Prop := e = .returned (.bool true) ∧ w.grownBy w' none

set_option maxRecDepth 10000 in
set_option maxHeartbeats 4000000 in
theorem order_walk (a b c : Hn) (w : World) : Calls Try.prog 7 #[hnV a, hnV b, hnV c] w (OK w) := by
  have HW := Lib.hid (fun w => awake_any w)
  have H1 := Lib.hid (fun w => less_any a b w)
  have H2 := Lib.hid (fun w => less_any b a w)
  have H3 := Lib.hid (fun w => less_any b c w)
  have H4 := Lib.hid (fun w => less_any a c w)
  have key : Hid ((hLess a b = false ∧ hLess b a = false ∧ a = b) ∨ (hLess a b = true ∧ hLess b a = false ∧ hLess b c = false ∧ a ≠ b) ∨ (hLess a b = true ∧ hLess b a = false ∧ (hLess b c = true ∧ hLess a c = true) ∧ a ≠ b) ∨ (hLess a b = false ∧ hLess b a = true ∧ a ≠ b)) := Lib.hid (by
    have e := less_either a b
    have n := less_not a b
    have o := less_on a b c
    revert e n o
    by_cases hab : a = b <;> cases hLess a b <;> cases hLess b a <;> cases hLess b c <;> cases hLess a c <;> simp [hab])
  generalize hLess a b = x at *
  generalize hLess b a = y at *
  generalize hLess b c = z at *
  generalize hLess a c = u at *
  obtain ⟨a1, a2, a3⟩ := a
  obtain ⟨b1, b2, b3⟩ := b
  obtain ⟨c1, c2, c3⟩ := c
  unfold hnV at *
  dsimp only at H1 H2 H3 H4
  dsimp only
  go_enter Try.func7, Try.ntmps7
  go_wp2_with fail
  obtain ⟨b_a, b_b, b_c, g0⟩ := boxes3 w 23 #[.int .i64 a1, .int .i64 a2, .int .i64 a3] #[.int .i64 b1, .int .i64 b2, .int .i64 b3] #[.int .i64 c1, .int .i64 c2, .int .i64 c3]
  generalize ((w.alloc (.cells #[.int .i64 a1, .int .i64 a2, .int .i64 a3] 23)).alloc (.cells #[.int .i64 b1, .int .i64 b2, .int .i64 b3] 23)).alloc (.cells #[.int .i64 c1, .int .i64 c2, .int .i64 c3] 23) = w1 at *
  generalize w.heap.size = K at *
  refine (HW.out _).mono ?_; rintro e w2 ⟨rfl, hg⟩
  have G := Lib.hid (World.grownBy.trans g0 hg)
  have B_a := Lib.hid (b_a.new hg)
  have B_b := Lib.hid (b_b.new hg)
  have B_c := Lib.hid (b_c.new hg)
  clear g0 b_a b_b b_c hg HW
  go_upto_region 3 with fail
  go_cut [7, 8] (fun v7 v8 wx => v7 = .bool x ∧ v8 = .bool y ∧ w2.grownBy wx none)
  case first =>
    have KEEP : Hid (∀ w', w2.grownBy w' none → (w'.cell? ⟨K, 0, none⟩ = some (.int .i64 a1) ∧ w'.cell? ⟨K, 1, none⟩ = some (.int .i64 a2) ∧ w'.cell? ⟨K, 2, none⟩ = some (.int .i64 a3) ∧ w'.cell? ⟨K + 1, 0, none⟩ = some (.int .i64 b1) ∧ w'.cell? ⟨K + 1, 1, none⟩ = some (.int .i64 b2) ∧ w'.cell? ⟨K + 1, 2, none⟩ = some (.int .i64 b3))) := Lib.hid (fun w' hg => ⟨(B_a.out.new hg).cell (i := 0) rfl, (B_a.out.new hg).cell (i := 1) rfl, (B_a.out.new hg).cell (i := 2) rfl, (B_b.out.new hg).cell (i := 0) rfl, (B_b.out.new hg).cell (i := 1) rfl, (B_b.out.new hg).cell (i := 2) rfl⟩)
    refine wp_region_noPanic ?_
    refine wp_region_held_drew (S := fun w' => (w'.cell? ⟨K, 0, none⟩ = some (.int .i64 a1) ∧ w'.cell? ⟨K, 1, none⟩ = some (.int .i64 a2) ∧ w'.cell? ⟨K, 2, none⟩ = some (.int .i64 a3) ∧ w'.cell? ⟨K + 1, 0, none⟩ = some (.int .i64 b1) ∧ w'.cell? ⟨K + 1, 1, none⟩ = some (.int .i64 b2) ∧ w'.cell? ⟨K + 1, 2, none⟩ = some (.int .i64 b3))) (by kernel_rfl) (KEEP.out _ (drew_grown _ _)) (fun hHeld => ?_)
    have HG : Hid (w2.grownBy w2.drew none) := Lib.hid (drew_grown _ _)
    refine wpAnyH_take (i := 0) (v := ?_) (by simp only [List.getElem?_toArray, List.getElem?_cons_zero]; rfl) (by kernel_rfl) (by kernel_rfl) (by kernel_rfl) (fun _ _ _ h => h) (Or.inl ⟨by rfl, ?_⟩) (by assumption) ?_
    rotate_left 1
    · intro w hSw; (try dsimp only at hSw); go_simp; all_goals (with_reducible rfl)
    try simp only [Act.put, List.setIfInBounds_toArray, List.set_cons_zero, List.set_cons_succ]
    refine wpAnyH_take (i := 1) (v := ?_) (by simp only [List.getElem?_toArray, List.getElem?_cons_succ, List.getElem?_cons_zero]; rfl) (by kernel_rfl) (by kernel_rfl) (by kernel_rfl) (fun _ _ _ h => h) (Or.inl ⟨by rfl, ?_⟩) (by assumption) ?_
    rotate_left 1
    · intro w hSw; (try dsimp only at hSw); go_simp; all_goals (with_reducible rfl)
    try simp only [Act.put, List.setIfInBounds_toArray, List.set_cons_zero, List.set_cons_succ]
    refine wpAnyH_take (i := 3) (v := ?_) (by simp only [List.getElem?_toArray, List.getElem?_cons_succ, List.getElem?_cons_zero]; rfl) (by kernel_rfl) (by kernel_rfl) (by kernel_rfl) (fun _ _ _ h => h) (Or.inl ⟨by rfl, ?_⟩) (by assumption) ?_
    rotate_left 1
    · intro w hSw; (try dsimp only at hSw); go_simp; all_goals (with_reducible rfl)
    try simp only [Act.put, List.setIfInBounds_toArray, List.set_cons_zero, List.set_cons_succ]
    refine wpAnyH_take (i := 4) (v := ?_) (by simp only [List.getElem?_toArray, List.getElem?_cons_succ, List.getElem?_cons_zero]; rfl) (by kernel_rfl) (by kernel_rfl) (by kernel_rfl) (fun _ _ _ h => h) (Or.inl ⟨by rfl, ?_⟩) (by assumption) ?_
    rotate_left 1
    · intro w hSw; (try dsimp only at hSw); go_simp; all_goals (with_reducible rfl)
    try simp only [Act.put, List.setIfInBounds_toArray, List.set_cons_zero, List.set_cons_succ]
    refine wpAnyH_ready (rs := [2]) (by kernel_rfl) (by simp) ?_
    refine AllReadyH.cons (by simp only [List.getElem?_toArray, List.getElem?_cons_succ, List.getElem?_cons_zero]; rfl) (fun KK hK => ?_) AllReadyH.nil
    go_simp
    refine (H1.out _).mono ?_; rintro e v1 ⟨rfl, hg⟩
    clear hHeld
    replace HG := Lib.hid (World.grownBy.trans HG.out hg)
    clear hg
    go_wp2_with fail
    refine hK.out _ _ (KEEP.out _ HG.out) (fun hHeld => ?_)
    clear hK KK
    try simp only [Act.put, List.setIfInBounds_toArray, List.set_cons_zero, List.set_cons_succ]
    refine wpAnyH_ready (rs := [5]) (by kernel_rfl) (by simp) ?_
    refine AllReadyH.cons (by simp only [List.getElem?_toArray, List.getElem?_cons_succ, List.getElem?_cons_zero]; rfl) (fun KK hK => ?_) AllReadyH.nil
    go_simp
    refine (H2.out _).mono ?_; rintro e v2 ⟨rfl, hg⟩
    clear hHeld
    replace HG := Lib.hid (World.grownBy.trans HG.out hg)
    clear hg
    go_wp2_with fail
    refine hK.out _ _ (KEEP.out _ HG.out) (fun hHeld => ?_)
    clear hK KK
    try simp only [Act.put, List.setIfInBounds_toArray, List.set_cons_zero, List.set_cons_succ]
    refine wpAnyH_take (i := 6) (v := ?_) (by simp only [List.getElem?_toArray, List.getElem?_cons_succ, List.getElem?_cons_zero]; rfl) (by kernel_rfl) (by kernel_rfl) (by kernel_rfl) (fun _ _ _ h => h) (Or.inl ⟨by rfl, ?_⟩) (by assumption) ?_
    rotate_left 1
    · intro w hSw; (try dsimp only at hSw); go_simp; all_goals (with_reducible rfl)
    try simp only [Act.put, List.setIfInBounds_toArray, List.set_cons_zero, List.set_cons_succ]
    refine wpAnyH_take (i := 7) (v := ?_) (by simp only [List.getElem?_toArray, List.getElem?_cons_succ, List.getElem?_cons_zero]; rfl) (by kernel_rfl) (by kernel_rfl) (by kernel_rfl) (fun _ _ _ h => h) (Or.inl ⟨by rfl, ?_⟩) (by assumption) ?_
    rotate_left 1
    · intro w hSw; (try dsimp only at hSw); go_simp; all_goals (with_reducible rfl)
    try simp only [Act.put, List.setIfInBounds_toArray, List.set_cons_zero, List.set_cons_succ]
    refine wpAnyH_done (by kernel_rfl) ?_ _
    refine NoPanic.normal ?_
    go_wp2_with fail
    go_meet
    exact ⟨rfl, rfl, HG.out⟩
  case rest =>
    obtain ⟨rfl, rfl, hg⟩ := hcut
    replace G := Lib.hid (World.grownBy.trans G.out hg)
    replace B_a := Lib.hid (B_a.out.new hg)
    replace B_b := Lib.hid (B_b.out.new hg)
    replace B_c := Lib.hid (B_c.out.new hg)
    clear hg
    have PARTS : Hid (¬ (⟨a1, a2, a3⟩ : Hn) = ⟨b1, b2, b3⟩ → ¬ a1 = b1 ∨ a1 = b1 ∧ ¬ a2 = b2 ∨ a1 = b1 ∧ a2 = b2 ∧ ¬ a3 = b3) := Lib.hid (fun q => parts ⟨a1, a2, a3⟩ ⟨b1, b2, b3⟩ q)
    rcases key.out with ⟨rfl, rfl, q⟩ | ⟨rfl, rfl, rfl, q⟩ | ⟨rfl, rfl, ⟨rfl, rfl⟩, q⟩ | ⟨rfl, rfl, q⟩
    · cases q
      clear key PARTS
      have c00 := B_a.out.cell (i := 0) (x := .int .i64 a1) rfl
      have c01 := B_a.out.cell (i := 1) (x := .int .i64 a2) rfl
      have c02 := B_a.out.cell (i := 2) (x := .int .i64 a3) rfl
      have c10 := B_b.out.cell (i := 0) (x := .int .i64 a1) rfl
      have c11 := B_b.out.cell (i := 1) (x := .int .i64 a2) rfl
      have c12 := B_b.out.cell (i := 2) (x := .int .i64 a3) rfl
      have c20 := B_c.out.cell (i := 0) (x := .int .i64 c1) rfl
      have c21 := B_c.out.cell (i := 1) (x := .int .i64 c2) rfl
      have c22 := B_c.out.cell (i := 2) (x := .int .i64 c3) rfl
      go_wp2_with fail
      go_ret
      exact ⟨rfl, G.out⟩
    · rcases PARTS.out q with q1 | ⟨rfl, q1⟩ | ⟨rfl, rfl, q1⟩
      · clear key PARTS q
        have c00 := B_a.out.cell (i := 0) (x := .int .i64 a1) rfl
        have c01 := B_a.out.cell (i := 1) (x := .int .i64 a2) rfl
        have c02 := B_a.out.cell (i := 2) (x := .int .i64 a3) rfl
        have c10 := B_b.out.cell (i := 0) (x := .int .i64 b1) rfl
        have c11 := B_b.out.cell (i := 1) (x := .int .i64 b2) rfl
        have c12 := B_b.out.cell (i := 2) (x := .int .i64 b3) rfl
        have c20 := B_c.out.cell (i := 0) (x := .int .i64 c1) rfl
        have c21 := B_c.out.cell (i := 1) (x := .int .i64 c2) rfl
        have c22 := B_c.out.cell (i := 2) (x := .int .i64 c3) rfl
        go_wp2_with fail
        clear c00 c01 c02 c10 c11 c12 c20 c21 c22
        refine (H3.out _).mono ?_; rintro e u0 ⟨rfl, hg⟩
        replace G := Lib.hid (World.grownBy.trans G.out hg)
        replace B_a := Lib.hid (B_a.out.new hg)
        replace B_b := Lib.hid (B_b.out.new hg)
        replace B_c := Lib.hid (B_c.out.new hg)
        clear hg
        have c00 := B_a.out.cell (i := 0) (x := .int .i64 a1) rfl
        have c01 := B_a.out.cell (i := 1) (x := .int .i64 a2) rfl
        have c02 := B_a.out.cell (i := 2) (x := .int .i64 a3) rfl
        have c10 := B_b.out.cell (i := 0) (x := .int .i64 b1) rfl
        have c11 := B_b.out.cell (i := 1) (x := .int .i64 b2) rfl
        have c12 := B_b.out.cell (i := 2) (x := .int .i64 b3) rfl
        have c20 := B_c.out.cell (i := 0) (x := .int .i64 c1) rfl
        have c21 := B_c.out.cell (i := 1) (x := .int .i64 c2) rfl
        have c22 := B_c.out.cell (i := 2) (x := .int .i64 c3) rfl
        go_wp2_with fail
        go_ret
        exact ⟨rfl, G.out⟩
      · clear key PARTS q
        have c00 := B_a.out.cell (i := 0) (x := .int .i64 a1) rfl
        have c01 := B_a.out.cell (i := 1) (x := .int .i64 a2) rfl
        have c02 := B_a.out.cell (i := 2) (x := .int .i64 a3) rfl
        have c10 := B_b.out.cell (i := 0) (x := .int .i64 a1) rfl
        have c11 := B_b.out.cell (i := 1) (x := .int .i64 b2) rfl
        have c12 := B_b.out.cell (i := 2) (x := .int .i64 b3) rfl
        have c20 := B_c.out.cell (i := 0) (x := .int .i64 c1) rfl
        have c21 := B_c.out.cell (i := 1) (x := .int .i64 c2) rfl
        have c22 := B_c.out.cell (i := 2) (x := .int .i64 c3) rfl
        go_wp2_with fail
        clear c00 c01 c02 c10 c11 c12 c20 c21 c22
        refine (H3.out _).mono ?_; rintro e u0 ⟨rfl, hg⟩
        replace G := Lib.hid (World.grownBy.trans G.out hg)
        replace B_a := Lib.hid (B_a.out.new hg)
        replace B_b := Lib.hid (B_b.out.new hg)
        replace B_c := Lib.hid (B_c.out.new hg)
        clear hg
        have c00 := B_a.out.cell (i := 0) (x := .int .i64 a1) rfl
        have c01 := B_a.out.cell (i := 1) (x := .int .i64 a2) rfl
        have c02 := B_a.out.cell (i := 2) (x := .int .i64 a3) rfl
        have c10 := B_b.out.cell (i := 0) (x := .int .i64 a1) rfl
        have c11 := B_b.out.cell (i := 1) (x := .int .i64 b2) rfl
        have c12 := B_b.out.cell (i := 2) (x := .int .i64 b3) rfl
        have c20 := B_c.out.cell (i := 0) (x := .int .i64 c1) rfl
        have c21 := B_c.out.cell (i := 1) (x := .int .i64 c2) rfl
        have c22 := B_c.out.cell (i := 2) (x := .int .i64 c3) rfl
        go_wp2_with fail
        go_ret
        exact ⟨rfl, G.out⟩
      · clear key PARTS q
        have c00 := B_a.out.cell (i := 0) (x := .int .i64 a1) rfl
        have c01 := B_a.out.cell (i := 1) (x := .int .i64 a2) rfl
        have c02 := B_a.out.cell (i := 2) (x := .int .i64 a3) rfl
        have c10 := B_b.out.cell (i := 0) (x := .int .i64 a1) rfl
        have c11 := B_b.out.cell (i := 1) (x := .int .i64 a2) rfl
        have c12 := B_b.out.cell (i := 2) (x := .int .i64 b3) rfl
        have c20 := B_c.out.cell (i := 0) (x := .int .i64 c1) rfl
        have c21 := B_c.out.cell (i := 1) (x := .int .i64 c2) rfl
        have c22 := B_c.out.cell (i := 2) (x := .int .i64 c3) rfl
        go_wp2_with fail
        clear c00 c01 c02 c10 c11 c12 c20 c21 c22
        refine (H3.out _).mono ?_; rintro e u0 ⟨rfl, hg⟩
        replace G := Lib.hid (World.grownBy.trans G.out hg)
        replace B_a := Lib.hid (B_a.out.new hg)
        replace B_b := Lib.hid (B_b.out.new hg)
        replace B_c := Lib.hid (B_c.out.new hg)
        clear hg
        have c00 := B_a.out.cell (i := 0) (x := .int .i64 a1) rfl
        have c01 := B_a.out.cell (i := 1) (x := .int .i64 a2) rfl
        have c02 := B_a.out.cell (i := 2) (x := .int .i64 a3) rfl
        have c10 := B_b.out.cell (i := 0) (x := .int .i64 a1) rfl
        have c11 := B_b.out.cell (i := 1) (x := .int .i64 a2) rfl
        have c12 := B_b.out.cell (i := 2) (x := .int .i64 b3) rfl
        have c20 := B_c.out.cell (i := 0) (x := .int .i64 c1) rfl
        have c21 := B_c.out.cell (i := 1) (x := .int .i64 c2) rfl
        have c22 := B_c.out.cell (i := 2) (x := .int .i64 c3) rfl
        go_wp2_with fail
        go_ret
        exact ⟨rfl, G.out⟩
    · rcases PARTS.out q with q1 | ⟨rfl, q1⟩ | ⟨rfl, rfl, q1⟩
      · clear key PARTS q
        have c00 := B_a.out.cell (i := 0) (x := .int .i64 a1) rfl
        have c01 := B_a.out.cell (i := 1) (x := .int .i64 a2) rfl
        have c02 := B_a.out.cell (i := 2) (x := .int .i64 a3) rfl
        have c10 := B_b.out.cell (i := 0) (x := .int .i64 b1) rfl
        have c11 := B_b.out.cell (i := 1) (x := .int .i64 b2) rfl
        have c12 := B_b.out.cell (i := 2) (x := .int .i64 b3) rfl
        have c20 := B_c.out.cell (i := 0) (x := .int .i64 c1) rfl
        have c21 := B_c.out.cell (i := 1) (x := .int .i64 c2) rfl
        have c22 := B_c.out.cell (i := 2) (x := .int .i64 c3) rfl
        go_wp2_with fail
        clear c00 c01 c02 c10 c11 c12 c20 c21 c22
        refine (H3.out _).mono ?_; rintro e u0 ⟨rfl, hg⟩
        replace G := Lib.hid (World.grownBy.trans G.out hg)
        replace B_a := Lib.hid (B_a.out.new hg)
        replace B_b := Lib.hid (B_b.out.new hg)
        replace B_c := Lib.hid (B_c.out.new hg)
        clear hg
        have c00 := B_a.out.cell (i := 0) (x := .int .i64 a1) rfl
        have c01 := B_a.out.cell (i := 1) (x := .int .i64 a2) rfl
        have c02 := B_a.out.cell (i := 2) (x := .int .i64 a3) rfl
        have c10 := B_b.out.cell (i := 0) (x := .int .i64 b1) rfl
        have c11 := B_b.out.cell (i := 1) (x := .int .i64 b2) rfl
        have c12 := B_b.out.cell (i := 2) (x := .int .i64 b3) rfl
        have c20 := B_c.out.cell (i := 0) (x := .int .i64 c1) rfl
        have c21 := B_c.out.cell (i := 1) (x := .int .i64 c2) rfl
        have c22 := B_c.out.cell (i := 2) (x := .int .i64 c3) rfl
        go_wp2_with fail
        clear c00 c01 c02 c10 c11 c12 c20 c21 c22
        refine (H4.out _).mono ?_; rintro e u1 ⟨rfl, hg⟩
        replace G := Lib.hid (World.grownBy.trans G.out hg)
        replace B_a := Lib.hid (B_a.out.new hg)
        replace B_b := Lib.hid (B_b.out.new hg)
        replace B_c := Lib.hid (B_c.out.new hg)
        clear hg
        have c00 := B_a.out.cell (i := 0) (x := .int .i64 a1) rfl
        have c01 := B_a.out.cell (i := 1) (x := .int .i64 a2) rfl
        have c02 := B_a.out.cell (i := 2) (x := .int .i64 a3) rfl
        have c10 := B_b.out.cell (i := 0) (x := .int .i64 b1) rfl
        have c11 := B_b.out.cell (i := 1) (x := .int .i64 b2) rfl
        have c12 := B_b.out.cell (i := 2) (x := .int .i64 b3) rfl
        have c20 := B_c.out.cell (i := 0) (x := .int .i64 c1) rfl
        have c21 := B_c.out.cell (i := 1) (x := .int .i64 c2) rfl
        have c22 := B_c.out.cell (i := 2) (x := .int .i64 c3) rfl
        go_wp2_with fail
        go_ret
        exact ⟨rfl, G.out⟩
      · clear key PARTS q
        have c00 := B_a.out.cell (i := 0) (x := .int .i64 a1) rfl
        have c01 := B_a.out.cell (i := 1) (x := .int .i64 a2) rfl
        have c02 := B_a.out.cell (i := 2) (x := .int .i64 a3) rfl
        have c10 := B_b.out.cell (i := 0) (x := .int .i64 a1) rfl
        have c11 := B_b.out.cell (i := 1) (x := .int .i64 b2) rfl
        have c12 := B_b.out.cell (i := 2) (x := .int .i64 b3) rfl
        have c20 := B_c.out.cell (i := 0) (x := .int .i64 c1) rfl
        have c21 := B_c.out.cell (i := 1) (x := .int .i64 c2) rfl
        have c22 := B_c.out.cell (i := 2) (x := .int .i64 c3) rfl
        go_wp2_with fail
        clear c00 c01 c02 c10 c11 c12 c20 c21 c22
        refine (H3.out _).mono ?_; rintro e u0 ⟨rfl, hg⟩
        replace G := Lib.hid (World.grownBy.trans G.out hg)
        replace B_a := Lib.hid (B_a.out.new hg)
        replace B_b := Lib.hid (B_b.out.new hg)
        replace B_c := Lib.hid (B_c.out.new hg)
        clear hg
        have c00 := B_a.out.cell (i := 0) (x := .int .i64 a1) rfl
        have c01 := B_a.out.cell (i := 1) (x := .int .i64 a2) rfl
        have c02 := B_a.out.cell (i := 2) (x := .int .i64 a3) rfl
        have c10 := B_b.out.cell (i := 0) (x := .int .i64 a1) rfl
        have c11 := B_b.out.cell (i := 1) (x := .int .i64 b2) rfl
        have c12 := B_b.out.cell (i := 2) (x := .int .i64 b3) rfl
        have c20 := B_c.out.cell (i := 0) (x := .int .i64 c1) rfl
        have c21 := B_c.out.cell (i := 1) (x := .int .i64 c2) rfl
        have c22 := B_c.out.cell (i := 2) (x := .int .i64 c3) rfl
        go_wp2_with fail
        clear c00 c01 c02 c10 c11 c12 c20 c21 c22
        refine (H4.out _).mono ?_; rintro e u1 ⟨rfl, hg⟩
        replace G := Lib.hid (World.grownBy.trans G.out hg)
        replace B_a := Lib.hid (B_a.out.new hg)
        replace B_b := Lib.hid (B_b.out.new hg)
        replace B_c := Lib.hid (B_c.out.new hg)
        clear hg
        have c00 := B_a.out.cell (i := 0) (x := .int .i64 a1) rfl
        have c01 := B_a.out.cell (i := 1) (x := .int .i64 a2) rfl
        have c02 := B_a.out.cell (i := 2) (x := .int .i64 a3) rfl
        have c10 := B_b.out.cell (i := 0) (x := .int .i64 a1) rfl
        have c11 := B_b.out.cell (i := 1) (x := .int .i64 b2) rfl
        have c12 := B_b.out.cell (i := 2) (x := .int .i64 b3) rfl
        have c20 := B_c.out.cell (i := 0) (x := .int .i64 c1) rfl
        have c21 := B_c.out.cell (i := 1) (x := .int .i64 c2) rfl
        have c22 := B_c.out.cell (i := 2) (x := .int .i64 c3) rfl
        go_wp2_with fail
        go_ret
        exact ⟨rfl, G.out⟩
      · clear key PARTS q
        have c00 := B_a.out.cell (i := 0) (x := .int .i64 a1) rfl
        have c01 := B_a.out.cell (i := 1) (x := .int .i64 a2) rfl
        have c02 := B_a.out.cell (i := 2) (x := .int .i64 a3) rfl
        have c10 := B_b.out.cell (i := 0) (x := .int .i64 a1) rfl
        have c11 := B_b.out.cell (i := 1) (x := .int .i64 a2) rfl
        have c12 := B_b.out.cell (i := 2) (x := .int .i64 b3) rfl
        have c20 := B_c.out.cell (i := 0) (x := .int .i64 c1) rfl
        have c21 := B_c.out.cell (i := 1) (x := .int .i64 c2) rfl
        have c22 := B_c.out.cell (i := 2) (x := .int .i64 c3) rfl
        go_wp2_with fail
        clear c00 c01 c02 c10 c11 c12 c20 c21 c22
        refine (H3.out _).mono ?_; rintro e u0 ⟨rfl, hg⟩
        replace G := Lib.hid (World.grownBy.trans G.out hg)
        replace B_a := Lib.hid (B_a.out.new hg)
        replace B_b := Lib.hid (B_b.out.new hg)
        replace B_c := Lib.hid (B_c.out.new hg)
        clear hg
        have c00 := B_a.out.cell (i := 0) (x := .int .i64 a1) rfl
        have c01 := B_a.out.cell (i := 1) (x := .int .i64 a2) rfl
        have c02 := B_a.out.cell (i := 2) (x := .int .i64 a3) rfl
        have c10 := B_b.out.cell (i := 0) (x := .int .i64 a1) rfl
        have c11 := B_b.out.cell (i := 1) (x := .int .i64 a2) rfl
        have c12 := B_b.out.cell (i := 2) (x := .int .i64 b3) rfl
        have c20 := B_c.out.cell (i := 0) (x := .int .i64 c1) rfl
        have c21 := B_c.out.cell (i := 1) (x := .int .i64 c2) rfl
        have c22 := B_c.out.cell (i := 2) (x := .int .i64 c3) rfl
        go_wp2_with fail
        clear c00 c01 c02 c10 c11 c12 c20 c21 c22
        refine (H4.out _).mono ?_; rintro e u1 ⟨rfl, hg⟩
        replace G := Lib.hid (World.grownBy.trans G.out hg)
        replace B_a := Lib.hid (B_a.out.new hg)
        replace B_b := Lib.hid (B_b.out.new hg)
        replace B_c := Lib.hid (B_c.out.new hg)
        clear hg
        have c00 := B_a.out.cell (i := 0) (x := .int .i64 a1) rfl
        have c01 := B_a.out.cell (i := 1) (x := .int .i64 a2) rfl
        have c02 := B_a.out.cell (i := 2) (x := .int .i64 a3) rfl
        have c10 := B_b.out.cell (i := 0) (x := .int .i64 a1) rfl
        have c11 := B_b.out.cell (i := 1) (x := .int .i64 a2) rfl
        have c12 := B_b.out.cell (i := 2) (x := .int .i64 b3) rfl
        have c20 := B_c.out.cell (i := 0) (x := .int .i64 c1) rfl
        have c21 := B_c.out.cell (i := 1) (x := .int .i64 c2) rfl
        have c22 := B_c.out.cell (i := 2) (x := .int .i64 c3) rfl
        go_wp2_with fail
        go_ret
        exact ⟨rfl, G.out⟩
    · rcases PARTS.out q with q1 | ⟨rfl, q1⟩ | ⟨rfl, rfl, q1⟩
      · clear key PARTS q
        have c00 := B_a.out.cell (i := 0) (x := .int .i64 a1) rfl
        have c01 := B_a.out.cell (i := 1) (x := .int .i64 a2) rfl
        have c02 := B_a.out.cell (i := 2) (x := .int .i64 a3) rfl
        have c10 := B_b.out.cell (i := 0) (x := .int .i64 b1) rfl
        have c11 := B_b.out.cell (i := 1) (x := .int .i64 b2) rfl
        have c12 := B_b.out.cell (i := 2) (x := .int .i64 b3) rfl
        have c20 := B_c.out.cell (i := 0) (x := .int .i64 c1) rfl
        have c21 := B_c.out.cell (i := 1) (x := .int .i64 c2) rfl
        have c22 := B_c.out.cell (i := 2) (x := .int .i64 c3) rfl
        go_wp2_with fail
        go_ret
        exact ⟨rfl, G.out⟩
      · clear key PARTS q
        have c00 := B_a.out.cell (i := 0) (x := .int .i64 a1) rfl
        have c01 := B_a.out.cell (i := 1) (x := .int .i64 a2) rfl
        have c02 := B_a.out.cell (i := 2) (x := .int .i64 a3) rfl
        have c10 := B_b.out.cell (i := 0) (x := .int .i64 a1) rfl
        have c11 := B_b.out.cell (i := 1) (x := .int .i64 b2) rfl
        have c12 := B_b.out.cell (i := 2) (x := .int .i64 b3) rfl
        have c20 := B_c.out.cell (i := 0) (x := .int .i64 c1) rfl
        have c21 := B_c.out.cell (i := 1) (x := .int .i64 c2) rfl
        have c22 := B_c.out.cell (i := 2) (x := .int .i64 c3) rfl
        go_wp2_with fail
        go_ret
        exact ⟨rfl, G.out⟩
      · clear key PARTS q
        have c00 := B_a.out.cell (i := 0) (x := .int .i64 a1) rfl
        have c01 := B_a.out.cell (i := 1) (x := .int .i64 a2) rfl
        have c02 := B_a.out.cell (i := 2) (x := .int .i64 a3) rfl
        have c10 := B_b.out.cell (i := 0) (x := .int .i64 a1) rfl
        have c11 := B_b.out.cell (i := 1) (x := .int .i64 a2) rfl
        have c12 := B_b.out.cell (i := 2) (x := .int .i64 b3) rfl
        have c20 := B_c.out.cell (i := 0) (x := .int .i64 c1) rfl
        have c21 := B_c.out.cell (i := 1) (x := .int .i64 c2) rfl
        have c22 := B_c.out.cell (i := 2) (x := .int .i64 c3) rfl
        go_wp2_with fail
        go_ret
        exact ⟨rfl, G.out⟩
end Go.Proofs.Ytcifhjocmlalmaa
