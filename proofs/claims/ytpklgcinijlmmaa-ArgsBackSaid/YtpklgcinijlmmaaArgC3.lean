/- Arguments as words: which arguments may be: MayArgs. -/
import Derived.Test.YtpklgcinijlmmaaArgC
import Derived.Deep.DeepCutAuto
namespace Go.Proofs.Ytpklgcinijlmmaa
open Go.RowKit

set_option maxRecDepth 20000 in
set_option maxHeartbeats 8000000 in
theorem mayArgs_3 (k : Nat) (hk : k < 19) (hl : asks k = [72, 110]) (p : PA) (w : World) (hn : p.n.length ≤ 1000000000) (ho : p.o.length ≤ 1000000000) (hx : p.x.length ≤ 1000000000) :
    Calls Try.prog 43 #[.int .i64 (k : Int), paV p] w fun e w' => e = .returned (.bool (aMay [72, 110] p)) ∧ w.grownBy w' none := by
  have HA := Lib.hid (fun w => asks_any k hk w)
  rw [hl] at HA
  clear hl
  have H72 : Hid (∀ w, Calls Try.prog 89 #[.string ⟨[72, 110].toArray⟩, .int .u8 72] w (Says w (.bool true))) := Lib.hid (fun w => has_any [72, 110] (by decide) 72 w)
  have H84 : Hid (∀ w, Calls Try.prog 89 #[.string ⟨[72, 110].toArray⟩, .int .u8 84] w (Says w (.bool false))) := Lib.hid (fun w => has_any [72, 110] (by decide) 84 w)
  have H110 : Hid (∀ w, Calls Try.prog 89 #[.string ⟨[72, 110].toArray⟩, .int .u8 110] w (Says w (.bool true))) := Lib.hid (fun w => has_any [72, 110] (by decide) 110 w)
  have H111 : Hid (∀ w, Calls Try.prog 89 #[.string ⟨[72, 110].toArray⟩, .int .u8 111] w (Says w (.bool false))) := Lib.hid (fun w => has_any [72, 110] (by decide) 111 w)
  have H116 : Hid (∀ w, Calls Try.prog 89 #[.string ⟨[72, 110].toArray⟩, .int .u8 116] w (Says w (.bool false))) := Lib.hid (fun w => has_any [72, 110] (by decide) 116 w)
  have H97 : Hid (∀ w, Calls Try.prog 89 #[.string ⟨[72, 110].toArray⟩, .int .u8 97] w (Says w (.bool false))) := Lib.hid (fun w => has_any [72, 110] (by decide) 97 w)
  have H78 : Hid (∀ w, Calls Try.prog 89 #[.string ⟨[72, 110].toArray⟩, .int .u8 78] w (Says w (.bool false))) := Lib.hid (fun w => has_any [72, 110] (by decide) 78 w)
  have H109 : Hid (∀ w, Calls Try.prog 89 #[.string ⟨[72, 110].toArray⟩, .int .u8 109] w (Says w (.bool false))) := Lib.hid (fun w => has_any [72, 110] (by decide) 109 w)
  have H115 : Hid (∀ w, Calls Try.prog 89 #[.string ⟨[72, 110].toArray⟩, .int .u8 115] w (Says w (.bool false))) := Lib.hid (fun w => has_any [72, 110] (by decide) 115 w)
  have H83 : Hid (∀ w, Calls Try.prog 89 #[.string ⟨[72, 110].toArray⟩, .int .u8 83] w (Says w (.bool false))) := Lib.hid (fun w => has_any [72, 110] (by decide) 83 w)
  have H103 : Hid (∀ w, Calls Try.prog 89 #[.string ⟨[72, 110].toArray⟩, .int .u8 103] w (Says w (.bool false))) := Lib.hid (fun w => has_any [72, 110] (by decide) 103 w)
  have H118 : Hid (∀ w, Calls Try.prog 89 #[.string ⟨[72, 110].toArray⟩, .int .u8 118] w (Says w (.bool false))) := Lib.hid (fun w => has_any [72, 110] (by decide) 118 w)
  have HMh := Lib.hid (fun w => rmay_any p.h w)
  have HMt := Lib.hid (fun w => rmay_any p.t w)
  obtain ⟨⟨h1, h2, h3⟩, ⟨t1, t2, t3⟩, n, o, x, a, q, m, s, b, g, v⟩ := p
  unfold paV paC txt
  unfold hnV at HMh HMt
  dsimp only at *
  have LN : Hid (n.length ≤ 1000000000 ∧ o.length ≤ 1000000000 ∧ x.length ≤ 1000000000) := Lib.hid ⟨hn, ho, hx⟩
  clear hn ho hx hk
  skip
  go_enter Try.func43, Try.ntmps43
  go_upto_region 1 with fail
  have hA := Blk.made w 27 #[.int .i64 h1, .int .i64 h2, .int .i64 h3, .int .i64 t1, .int .i64 t2, .int .i64 t3, .string ⟨n.toArray⟩, .string ⟨o.toArray⟩, .string ⟨x.toArray⟩, .int .i64 a, .int .i64 q, .int .i64 m, .int .i64 s, .int .i64 b, .int .i64 g, .int .u64 v]
  have ga := World.grownBy_alloc w (.cells #[.int .i64 h1, .int .i64 h2, .int .i64 h3, .int .i64 t1, .int .i64 t2, .int .i64 t3, .string ⟨n.toArray⟩, .string ⟨o.toArray⟩, .string ⟨x.toArray⟩, .int .i64 a, .int .i64 q, .int .i64 m, .int .i64 s, .int .i64 b, .int .i64 g, .int .u64 v] 27) none
  generalize w.alloc (.cells #[.int .i64 h1, .int .i64 h2, .int .i64 h3, .int .i64 t1, .int .i64 t2, .int .i64 t3, .string ⟨n.toArray⟩, .string ⟨o.toArray⟩, .string ⟨x.toArray⟩, .int .i64 a, .int .i64 q, .int .i64 m, .int .i64 s, .int .i64 b, .int .i64 g, .int .u64 v] 27) = w1 at *
  generalize w.heap.size = K at *
  go_wp2_with fail
  refine (HA.out _).mono ?_; rintro e w2 ⟨rfl, g1⟩
  have G := Lib.hid (World.grownBy.trans ga g1)
  have B_a := Lib.hid (hA.new g1)
  clear hA ga g1 HA
  go_upto_region 3 with fail
  have hz := Blk.made w2 24 #[.int .i64 0, .int .i64 0, .int .i64 0]
  have ga := World.grownBy_alloc w2 (.cells #[.int .i64 0, .int .i64 0, .int .i64 0] 24) none
  replace G := Lib.hid (World.grownBy.trans G.out ga)
  replace B_a := Lib.hid (B_a.out.new ga)
  generalize w2.alloc (.cells #[.int .i64 0, .int .i64 0, .int .i64 0] 24) = w3 at *
  generalize w2.heap.size = Z at *
  have B_z := Lib.hid hz
  clear hz ga
  have c0 := B_a.out.cell (i := 0) (x := .int .i64 h1) rfl
  have c1 := B_a.out.cell (i := 1) (x := .int .i64 h2) rfl
  have c2 := B_a.out.cell (i := 2) (x := .int .i64 h3) rfl
  have c3 := B_a.out.cell (i := 3) (x := .int .i64 t1) rfl
  have c4 := B_a.out.cell (i := 4) (x := .int .i64 t2) rfl
  have c5 := B_a.out.cell (i := 5) (x := .int .i64 t3) rfl
  have c6 := B_a.out.cell (i := 6) (x := .string ⟨n.toArray⟩) rfl
  have c7 := B_a.out.cell (i := 7) (x := .string ⟨o.toArray⟩) rfl
  have c8 := B_a.out.cell (i := 8) (x := .string ⟨x.toArray⟩) rfl
  have c9 := B_a.out.cell (i := 9) (x := .int .i64 a) rfl
  have c10 := B_a.out.cell (i := 10) (x := .int .i64 q) rfl
  have c11 := B_a.out.cell (i := 11) (x := .int .i64 m) rfl
  have c12 := B_a.out.cell (i := 12) (x := .int .i64 s) rfl
  have c13 := B_a.out.cell (i := 13) (x := .int .i64 b) rfl
  have c14 := B_a.out.cell (i := 14) (x := .int .i64 g) rfl
  have c15 := B_a.out.cell (i := 15) (x := .int .u64 v) rfl
  have z0 := B_z.out.cell (i := 0) (x := .int .i64 0) rfl
  have z1 := B_z.out.cell (i := 1) (x := .int .i64 0) rfl
  have z2 := B_z.out.cell (i := 2) (x := .int .i64 0) rfl
  go_wp2_with fail
  refine (H72.out _).mono ?_; rintro e u ⟨rfl, rfl⟩
  go_wp2_with fail
  clear c0 c1 c2 c3 c4 c5 c6 c7 c8 c9 c10 c11 c12 c13 c14 c15 z0 z1 z2
  refine (HMh.out _).mono ?_; rintro e u1 ⟨rfl, g1⟩
  replace G := Lib.hid (World.grownBy.trans G.out g1)
  replace B_a := Lib.hid (B_a.out.new g1)
  replace B_z := Lib.hid (B_z.out.new g1)
  clear g1
  by_cases kh : hMay ⟨h1, h2, h3⟩
  rotate_left 1
  · rw [decide_eq_false kh]
    go_wp2_with fail
    go_ret
    exact ⟨retB (aMay_1 (by simp [bad1, kh])).symm, G.out⟩
  rw [decide_eq_true kh]
  have c0 := B_a.out.cell (i := 0) (x := .int .i64 h1) rfl
  have c1 := B_a.out.cell (i := 1) (x := .int .i64 h2) rfl
  have c2 := B_a.out.cell (i := 2) (x := .int .i64 h3) rfl
  have c3 := B_a.out.cell (i := 3) (x := .int .i64 t1) rfl
  have c4 := B_a.out.cell (i := 4) (x := .int .i64 t2) rfl
  have c5 := B_a.out.cell (i := 5) (x := .int .i64 t3) rfl
  have c6 := B_a.out.cell (i := 6) (x := .string ⟨n.toArray⟩) rfl
  have c7 := B_a.out.cell (i := 7) (x := .string ⟨o.toArray⟩) rfl
  have c8 := B_a.out.cell (i := 8) (x := .string ⟨x.toArray⟩) rfl
  have c9 := B_a.out.cell (i := 9) (x := .int .i64 a) rfl
  have c10 := B_a.out.cell (i := 10) (x := .int .i64 q) rfl
  have c11 := B_a.out.cell (i := 11) (x := .int .i64 m) rfl
  have c12 := B_a.out.cell (i := 12) (x := .int .i64 s) rfl
  have c13 := B_a.out.cell (i := 13) (x := .int .i64 b) rfl
  have c14 := B_a.out.cell (i := 14) (x := .int .i64 g) rfl
  have c15 := B_a.out.cell (i := 15) (x := .int .u64 v) rfl
  have z0 := B_z.out.cell (i := 0) (x := .int .i64 0) rfl
  have z1 := B_z.out.cell (i := 1) (x := .int .i64 0) rfl
  have z2 := B_z.out.cell (i := 2) (x := .int .i64 0) rfl
  go_wp2_with fail
  refine (H72.out _).mono ?_; rintro e u ⟨rfl, rfl⟩
  go_wp2_with fail
  refine (H84.out _).mono ?_; rintro e u ⟨rfl, rfl⟩
  go_wp2_with fail
  refine (H84.out _).mono ?_; rintro e u ⟨rfl, rfl⟩
  by_cases kt : (⟨t1, t2, t3⟩ : Hn) ≠ noHn
  · rcases hn_parts kt with q1 | ⟨rfl, q1⟩ | ⟨rfl, rfl, q1⟩
    · clear kt
      go_wp2_with fail
      go_ret
      exact ⟨retB (aMay_1 (by simp [bad1, noHn, q1])).symm, G.out⟩
    · clear kt
      go_wp2_with fail
      go_ret
      exact ⟨retB (aMay_1 (by simp [bad1, noHn, q1])).symm, G.out⟩
    · clear kt
      go_wp2_with fail
      go_ret
      exact ⟨retB (aMay_1 (by simp [bad1, noHn, q1])).symm, G.out⟩
  obtain ⟨rfl, rfl, rfl⟩ := hn_none kt
  clear kt
  go_wp2_with fail
  refine (H110.out _).mono ?_; rintro e u ⟨rfl, rfl⟩
  go_wp2_with fail
  refine (H111.out _).mono ?_; rintro e u ⟨rfl, rfl⟩
  by_cases k7 : o = []
  rotate_left 1
  · skip
    obtain ⟨y, ys, rfl⟩ := List.exists_cons_of_ne_nil k7
    go_wp2_with fail
    go_ret
    exact ⟨retB (aMay_2 (by simp [bad2])).symm, G.out⟩
  subst k7
  go_wp2_with fail
  refine (H116.out _).mono ?_; rintro e u ⟨rfl, rfl⟩
  by_cases k8 : x = []
  rotate_left 1
  · skip
    obtain ⟨y, ys, rfl⟩ := List.exists_cons_of_ne_nil k8
    go_wp2_with fail
    go_ret
    exact ⟨retB (aMay_2 (by simp [bad2])).symm, G.out⟩
  subst k8
  go_wp2_with fail
  refine (H97.out _).mono ?_; rintro e u ⟨rfl, rfl⟩
  by_cases k9 : a = 0
  rotate_left 1
  · skip
    go_wp2_with fail
    go_ret
    exact ⟨retB (aMay_2 (by simp [bad2, k9])).symm, G.out⟩
  subst k9
  go_wp2_with fail
  refine (H78.out _).mono ?_; rintro e u ⟨rfl, rfl⟩
  by_cases k10 : q = 0
  rotate_left 1
  · skip
    go_wp2_with fail
    go_ret
    exact ⟨retB (aMay_2 (by simp [bad2, k10])).symm, G.out⟩
  subst k10
  go_wp2_with fail
  refine (H109.out _).mono ?_; rintro e u ⟨rfl, rfl⟩
  by_cases k11 : m = 0
  rotate_left 1
  · skip
    go_wp2_with fail
    go_ret
    exact ⟨retB (aMay_2 (by simp [bad2, k11])).symm, G.out⟩
  subst k11
  go_wp2_with fail
  refine (H115.out _).mono ?_; rintro e u ⟨rfl, rfl⟩
  by_cases k12 : s = 0
  rotate_left 1
  · skip
    go_wp2_with fail
    go_ret
    exact ⟨retB (aMay_3 (by simp [bad3, k12])).symm, G.out⟩
  subst k12
  go_wp2_with fail
  refine (H83.out _).mono ?_; rintro e u ⟨rfl, rfl⟩
  by_cases k13 : b = 0
  rotate_left 1
  · skip
    go_wp2_with fail
    go_ret
    exact ⟨retB (aMay_3 (by simp [bad3, k13])).symm, G.out⟩
  subst k13
  go_wp2_with fail
  refine (H103.out _).mono ?_; rintro e u ⟨rfl, rfl⟩
  by_cases k14 : g = 0
  rotate_left 1
  · skip
    go_wp2_with fail
    go_ret
    exact ⟨retB (aMay_3 (by simp [bad3, k14])).symm, G.out⟩
  subst k14
  go_wp2_with fail
  refine (H118.out _).mono ?_; rintro e u ⟨rfl, rfl⟩
  by_cases k15 : v = 0
  rotate_left 1
  · skip
    go_wp2_with fail
    go_ret
    exact ⟨retB (aMay_3 (by simp [bad3, k15])).symm, G.out⟩
  subst k15
  have l6 : (n.length : Int) ≤ 1000000000 := by have := LN.out; omega
  go_wp2_with fail
  all_goals
    go_ret
    exact ⟨retB (by rw [Bool.eq_iff_iff]; simp [aMay, bad1, bad2, bad3, noHn, kh]; omega), G.out⟩

set_option maxRecDepth 20000 in
set_option maxHeartbeats 8000000 in
theorem mayArgs_7 (k : Nat) (hk : k < 19) (hl : asks k = [72, 110, 109]) (p : PA) (w : World) (hn : p.n.length ≤ 1000000000) (ho : p.o.length ≤ 1000000000) (hx : p.x.length ≤ 1000000000) :
    Calls Try.prog 43 #[.int .i64 (k : Int), paV p] w fun e w' => e = .returned (.bool (aMay [72, 110, 109] p)) ∧ w.grownBy w' none := by
  have HA := Lib.hid (fun w => asks_any k hk w)
  rw [hl] at HA
  clear hl
  have H72 : Hid (∀ w, Calls Try.prog 89 #[.string ⟨[72, 110, 109].toArray⟩, .int .u8 72] w (Says w (.bool true))) := Lib.hid (fun w => has_any [72, 110, 109] (by decide) 72 w)
  have H84 : Hid (∀ w, Calls Try.prog 89 #[.string ⟨[72, 110, 109].toArray⟩, .int .u8 84] w (Says w (.bool false))) := Lib.hid (fun w => has_any [72, 110, 109] (by decide) 84 w)
  have H110 : Hid (∀ w, Calls Try.prog 89 #[.string ⟨[72, 110, 109].toArray⟩, .int .u8 110] w (Says w (.bool true))) := Lib.hid (fun w => has_any [72, 110, 109] (by decide) 110 w)
  have H111 : Hid (∀ w, Calls Try.prog 89 #[.string ⟨[72, 110, 109].toArray⟩, .int .u8 111] w (Says w (.bool false))) := Lib.hid (fun w => has_any [72, 110, 109] (by decide) 111 w)
  have H116 : Hid (∀ w, Calls Try.prog 89 #[.string ⟨[72, 110, 109].toArray⟩, .int .u8 116] w (Says w (.bool false))) := Lib.hid (fun w => has_any [72, 110, 109] (by decide) 116 w)
  have H97 : Hid (∀ w, Calls Try.prog 89 #[.string ⟨[72, 110, 109].toArray⟩, .int .u8 97] w (Says w (.bool false))) := Lib.hid (fun w => has_any [72, 110, 109] (by decide) 97 w)
  have H78 : Hid (∀ w, Calls Try.prog 89 #[.string ⟨[72, 110, 109].toArray⟩, .int .u8 78] w (Says w (.bool false))) := Lib.hid (fun w => has_any [72, 110, 109] (by decide) 78 w)
  have H109 : Hid (∀ w, Calls Try.prog 89 #[.string ⟨[72, 110, 109].toArray⟩, .int .u8 109] w (Says w (.bool true))) := Lib.hid (fun w => has_any [72, 110, 109] (by decide) 109 w)
  have H115 : Hid (∀ w, Calls Try.prog 89 #[.string ⟨[72, 110, 109].toArray⟩, .int .u8 115] w (Says w (.bool false))) := Lib.hid (fun w => has_any [72, 110, 109] (by decide) 115 w)
  have H83 : Hid (∀ w, Calls Try.prog 89 #[.string ⟨[72, 110, 109].toArray⟩, .int .u8 83] w (Says w (.bool false))) := Lib.hid (fun w => has_any [72, 110, 109] (by decide) 83 w)
  have H103 : Hid (∀ w, Calls Try.prog 89 #[.string ⟨[72, 110, 109].toArray⟩, .int .u8 103] w (Says w (.bool false))) := Lib.hid (fun w => has_any [72, 110, 109] (by decide) 103 w)
  have H118 : Hid (∀ w, Calls Try.prog 89 #[.string ⟨[72, 110, 109].toArray⟩, .int .u8 118] w (Says w (.bool false))) := Lib.hid (fun w => has_any [72, 110, 109] (by decide) 118 w)
  have HMh := Lib.hid (fun w => rmay_any p.h w)
  have HMt := Lib.hid (fun w => rmay_any p.t w)
  obtain ⟨⟨h1, h2, h3⟩, ⟨t1, t2, t3⟩, n, o, x, a, q, m, s, b, g, v⟩ := p
  unfold paV paC txt
  unfold hnV at HMh HMt
  dsimp only at *
  have LN : Hid (n.length ≤ 1000000000 ∧ o.length ≤ 1000000000 ∧ x.length ≤ 1000000000) := Lib.hid ⟨hn, ho, hx⟩
  clear hn ho hx hk
  skip
  go_enter Try.func43, Try.ntmps43
  go_upto_region 1 with fail
  have hA := Blk.made w 27 #[.int .i64 h1, .int .i64 h2, .int .i64 h3, .int .i64 t1, .int .i64 t2, .int .i64 t3, .string ⟨n.toArray⟩, .string ⟨o.toArray⟩, .string ⟨x.toArray⟩, .int .i64 a, .int .i64 q, .int .i64 m, .int .i64 s, .int .i64 b, .int .i64 g, .int .u64 v]
  have ga := World.grownBy_alloc w (.cells #[.int .i64 h1, .int .i64 h2, .int .i64 h3, .int .i64 t1, .int .i64 t2, .int .i64 t3, .string ⟨n.toArray⟩, .string ⟨o.toArray⟩, .string ⟨x.toArray⟩, .int .i64 a, .int .i64 q, .int .i64 m, .int .i64 s, .int .i64 b, .int .i64 g, .int .u64 v] 27) none
  generalize w.alloc (.cells #[.int .i64 h1, .int .i64 h2, .int .i64 h3, .int .i64 t1, .int .i64 t2, .int .i64 t3, .string ⟨n.toArray⟩, .string ⟨o.toArray⟩, .string ⟨x.toArray⟩, .int .i64 a, .int .i64 q, .int .i64 m, .int .i64 s, .int .i64 b, .int .i64 g, .int .u64 v] 27) = w1 at *
  generalize w.heap.size = K at *
  go_wp2_with fail
  refine (HA.out _).mono ?_; rintro e w2 ⟨rfl, g1⟩
  have G := Lib.hid (World.grownBy.trans ga g1)
  have B_a := Lib.hid (hA.new g1)
  clear hA ga g1 HA
  go_upto_region 3 with fail
  have hz := Blk.made w2 24 #[.int .i64 0, .int .i64 0, .int .i64 0]
  have ga := World.grownBy_alloc w2 (.cells #[.int .i64 0, .int .i64 0, .int .i64 0] 24) none
  replace G := Lib.hid (World.grownBy.trans G.out ga)
  replace B_a := Lib.hid (B_a.out.new ga)
  generalize w2.alloc (.cells #[.int .i64 0, .int .i64 0, .int .i64 0] 24) = w3 at *
  generalize w2.heap.size = Z at *
  have B_z := Lib.hid hz
  clear hz ga
  have c0 := B_a.out.cell (i := 0) (x := .int .i64 h1) rfl
  have c1 := B_a.out.cell (i := 1) (x := .int .i64 h2) rfl
  have c2 := B_a.out.cell (i := 2) (x := .int .i64 h3) rfl
  have c3 := B_a.out.cell (i := 3) (x := .int .i64 t1) rfl
  have c4 := B_a.out.cell (i := 4) (x := .int .i64 t2) rfl
  have c5 := B_a.out.cell (i := 5) (x := .int .i64 t3) rfl
  have c6 := B_a.out.cell (i := 6) (x := .string ⟨n.toArray⟩) rfl
  have c7 := B_a.out.cell (i := 7) (x := .string ⟨o.toArray⟩) rfl
  have c8 := B_a.out.cell (i := 8) (x := .string ⟨x.toArray⟩) rfl
  have c9 := B_a.out.cell (i := 9) (x := .int .i64 a) rfl
  have c10 := B_a.out.cell (i := 10) (x := .int .i64 q) rfl
  have c11 := B_a.out.cell (i := 11) (x := .int .i64 m) rfl
  have c12 := B_a.out.cell (i := 12) (x := .int .i64 s) rfl
  have c13 := B_a.out.cell (i := 13) (x := .int .i64 b) rfl
  have c14 := B_a.out.cell (i := 14) (x := .int .i64 g) rfl
  have c15 := B_a.out.cell (i := 15) (x := .int .u64 v) rfl
  have z0 := B_z.out.cell (i := 0) (x := .int .i64 0) rfl
  have z1 := B_z.out.cell (i := 1) (x := .int .i64 0) rfl
  have z2 := B_z.out.cell (i := 2) (x := .int .i64 0) rfl
  go_wp2_with fail
  refine (H72.out _).mono ?_; rintro e u ⟨rfl, rfl⟩
  go_wp2_with fail
  clear c0 c1 c2 c3 c4 c5 c6 c7 c8 c9 c10 c11 c12 c13 c14 c15 z0 z1 z2
  refine (HMh.out _).mono ?_; rintro e u1 ⟨rfl, g1⟩
  replace G := Lib.hid (World.grownBy.trans G.out g1)
  replace B_a := Lib.hid (B_a.out.new g1)
  replace B_z := Lib.hid (B_z.out.new g1)
  clear g1
  by_cases kh : hMay ⟨h1, h2, h3⟩
  rotate_left 1
  · rw [decide_eq_false kh]
    go_wp2_with fail
    go_ret
    exact ⟨retB (aMay_1 (by simp [bad1, kh])).symm, G.out⟩
  rw [decide_eq_true kh]
  have c0 := B_a.out.cell (i := 0) (x := .int .i64 h1) rfl
  have c1 := B_a.out.cell (i := 1) (x := .int .i64 h2) rfl
  have c2 := B_a.out.cell (i := 2) (x := .int .i64 h3) rfl
  have c3 := B_a.out.cell (i := 3) (x := .int .i64 t1) rfl
  have c4 := B_a.out.cell (i := 4) (x := .int .i64 t2) rfl
  have c5 := B_a.out.cell (i := 5) (x := .int .i64 t3) rfl
  have c6 := B_a.out.cell (i := 6) (x := .string ⟨n.toArray⟩) rfl
  have c7 := B_a.out.cell (i := 7) (x := .string ⟨o.toArray⟩) rfl
  have c8 := B_a.out.cell (i := 8) (x := .string ⟨x.toArray⟩) rfl
  have c9 := B_a.out.cell (i := 9) (x := .int .i64 a) rfl
  have c10 := B_a.out.cell (i := 10) (x := .int .i64 q) rfl
  have c11 := B_a.out.cell (i := 11) (x := .int .i64 m) rfl
  have c12 := B_a.out.cell (i := 12) (x := .int .i64 s) rfl
  have c13 := B_a.out.cell (i := 13) (x := .int .i64 b) rfl
  have c14 := B_a.out.cell (i := 14) (x := .int .i64 g) rfl
  have c15 := B_a.out.cell (i := 15) (x := .int .u64 v) rfl
  have z0 := B_z.out.cell (i := 0) (x := .int .i64 0) rfl
  have z1 := B_z.out.cell (i := 1) (x := .int .i64 0) rfl
  have z2 := B_z.out.cell (i := 2) (x := .int .i64 0) rfl
  go_wp2_with fail
  refine (H72.out _).mono ?_; rintro e u ⟨rfl, rfl⟩
  go_wp2_with fail
  refine (H84.out _).mono ?_; rintro e u ⟨rfl, rfl⟩
  go_wp2_with fail
  refine (H84.out _).mono ?_; rintro e u ⟨rfl, rfl⟩
  by_cases kt : (⟨t1, t2, t3⟩ : Hn) ≠ noHn
  · rcases hn_parts kt with q1 | ⟨rfl, q1⟩ | ⟨rfl, rfl, q1⟩
    · clear kt
      go_wp2_with fail
      go_ret
      exact ⟨retB (aMay_1 (by simp [bad1, noHn, q1])).symm, G.out⟩
    · clear kt
      go_wp2_with fail
      go_ret
      exact ⟨retB (aMay_1 (by simp [bad1, noHn, q1])).symm, G.out⟩
    · clear kt
      go_wp2_with fail
      go_ret
      exact ⟨retB (aMay_1 (by simp [bad1, noHn, q1])).symm, G.out⟩
  obtain ⟨rfl, rfl, rfl⟩ := hn_none kt
  clear kt
  go_wp2_with fail
  refine (H110.out _).mono ?_; rintro e u ⟨rfl, rfl⟩
  go_wp2_with fail
  refine (H111.out _).mono ?_; rintro e u ⟨rfl, rfl⟩
  by_cases k7 : o = []
  rotate_left 1
  · skip
    obtain ⟨y, ys, rfl⟩ := List.exists_cons_of_ne_nil k7
    go_wp2_with fail
    go_ret
    exact ⟨retB (aMay_2 (by simp [bad2])).symm, G.out⟩
  subst k7
  go_wp2_with fail
  refine (H116.out _).mono ?_; rintro e u ⟨rfl, rfl⟩
  by_cases k8 : x = []
  rotate_left 1
  · skip
    obtain ⟨y, ys, rfl⟩ := List.exists_cons_of_ne_nil k8
    go_wp2_with fail
    go_ret
    exact ⟨retB (aMay_2 (by simp [bad2])).symm, G.out⟩
  subst k8
  go_wp2_with fail
  refine (H97.out _).mono ?_; rintro e u ⟨rfl, rfl⟩
  by_cases k9 : a = 0
  rotate_left 1
  · skip
    go_wp2_with fail
    go_ret
    exact ⟨retB (aMay_2 (by simp [bad2, k9])).symm, G.out⟩
  subst k9
  go_wp2_with fail
  refine (H78.out _).mono ?_; rintro e u ⟨rfl, rfl⟩
  by_cases k10 : q = 0
  rotate_left 1
  · skip
    go_wp2_with fail
    go_ret
    exact ⟨retB (aMay_2 (by simp [bad2, k10])).symm, G.out⟩
  subst k10
  go_wp2_with fail
  refine (H109.out _).mono ?_; rintro e u ⟨rfl, rfl⟩
  go_wp2_with fail
  refine (H115.out _).mono ?_; rintro e u ⟨rfl, rfl⟩
  by_cases k12 : s = 0
  rotate_left 1
  · skip
    go_wp2_with fail
    go_ret
    exact ⟨retB (aMay_3 (by simp [bad3, k12])).symm, G.out⟩
  subst k12
  go_wp2_with fail
  refine (H83.out _).mono ?_; rintro e u ⟨rfl, rfl⟩
  by_cases k13 : b = 0
  rotate_left 1
  · skip
    go_wp2_with fail
    go_ret
    exact ⟨retB (aMay_3 (by simp [bad3, k13])).symm, G.out⟩
  subst k13
  go_wp2_with fail
  refine (H103.out _).mono ?_; rintro e u ⟨rfl, rfl⟩
  by_cases k14 : g = 0
  rotate_left 1
  · skip
    go_wp2_with fail
    go_ret
    exact ⟨retB (aMay_3 (by simp [bad3, k14])).symm, G.out⟩
  subst k14
  go_wp2_with fail
  refine (H118.out _).mono ?_; rintro e u ⟨rfl, rfl⟩
  by_cases k15 : v = 0
  rotate_left 1
  · skip
    go_wp2_with fail
    go_ret
    exact ⟨retB (aMay_3 (by simp [bad3, k15])).symm, G.out⟩
  subst k15
  have l6 : (n.length : Int) ≤ 1000000000 := by have := LN.out; omega
  go_wp2_with fail
  all_goals
    go_ret
    exact ⟨retB (by rw [Bool.eq_iff_iff]; simp [aMay, bad1, bad2, bad3, noHn, kh]; omega), G.out⟩

set_option maxRecDepth 20000 in
set_option maxHeartbeats 8000000 in
theorem mayArgs_11 (k : Nat) (hk : k < 19) (hl : asks k = [72, 97, 78, 118]) (p : PA) (w : World) (hn : p.n.length ≤ 1000000000) (ho : p.o.length ≤ 1000000000) (hx : p.x.length ≤ 1000000000) :
    Calls Try.prog 43 #[.int .i64 (k : Int), paV p] w fun e w' => e = .returned (.bool (aMay [72, 97, 78, 118] p)) ∧ w.grownBy w' none := by
  have HA := Lib.hid (fun w => asks_any k hk w)
  rw [hl] at HA
  clear hl
  have H72 : Hid (∀ w, Calls Try.prog 89 #[.string ⟨[72, 97, 78, 118].toArray⟩, .int .u8 72] w (Says w (.bool true))) := Lib.hid (fun w => has_any [72, 97, 78, 118] (by decide) 72 w)
  have H84 : Hid (∀ w, Calls Try.prog 89 #[.string ⟨[72, 97, 78, 118].toArray⟩, .int .u8 84] w (Says w (.bool false))) := Lib.hid (fun w => has_any [72, 97, 78, 118] (by decide) 84 w)
  have H110 : Hid (∀ w, Calls Try.prog 89 #[.string ⟨[72, 97, 78, 118].toArray⟩, .int .u8 110] w (Says w (.bool false))) := Lib.hid (fun w => has_any [72, 97, 78, 118] (by decide) 110 w)
  have H111 : Hid (∀ w, Calls Try.prog 89 #[.string ⟨[72, 97, 78, 118].toArray⟩, .int .u8 111] w (Says w (.bool false))) := Lib.hid (fun w => has_any [72, 97, 78, 118] (by decide) 111 w)
  have H116 : Hid (∀ w, Calls Try.prog 89 #[.string ⟨[72, 97, 78, 118].toArray⟩, .int .u8 116] w (Says w (.bool false))) := Lib.hid (fun w => has_any [72, 97, 78, 118] (by decide) 116 w)
  have H97 : Hid (∀ w, Calls Try.prog 89 #[.string ⟨[72, 97, 78, 118].toArray⟩, .int .u8 97] w (Says w (.bool true))) := Lib.hid (fun w => has_any [72, 97, 78, 118] (by decide) 97 w)
  have H78 : Hid (∀ w, Calls Try.prog 89 #[.string ⟨[72, 97, 78, 118].toArray⟩, .int .u8 78] w (Says w (.bool true))) := Lib.hid (fun w => has_any [72, 97, 78, 118] (by decide) 78 w)
  have H109 : Hid (∀ w, Calls Try.prog 89 #[.string ⟨[72, 97, 78, 118].toArray⟩, .int .u8 109] w (Says w (.bool false))) := Lib.hid (fun w => has_any [72, 97, 78, 118] (by decide) 109 w)
  have H115 : Hid (∀ w, Calls Try.prog 89 #[.string ⟨[72, 97, 78, 118].toArray⟩, .int .u8 115] w (Says w (.bool false))) := Lib.hid (fun w => has_any [72, 97, 78, 118] (by decide) 115 w)
  have H83 : Hid (∀ w, Calls Try.prog 89 #[.string ⟨[72, 97, 78, 118].toArray⟩, .int .u8 83] w (Says w (.bool false))) := Lib.hid (fun w => has_any [72, 97, 78, 118] (by decide) 83 w)
  have H103 : Hid (∀ w, Calls Try.prog 89 #[.string ⟨[72, 97, 78, 118].toArray⟩, .int .u8 103] w (Says w (.bool false))) := Lib.hid (fun w => has_any [72, 97, 78, 118] (by decide) 103 w)
  have H118 : Hid (∀ w, Calls Try.prog 89 #[.string ⟨[72, 97, 78, 118].toArray⟩, .int .u8 118] w (Says w (.bool true))) := Lib.hid (fun w => has_any [72, 97, 78, 118] (by decide) 118 w)
  have HMh := Lib.hid (fun w => rmay_any p.h w)
  have HMt := Lib.hid (fun w => rmay_any p.t w)
  obtain ⟨⟨h1, h2, h3⟩, ⟨t1, t2, t3⟩, n, o, x, a, q, m, s, b, g, v⟩ := p
  unfold paV paC txt
  unfold hnV at HMh HMt
  dsimp only at *
  have LN : Hid (n.length ≤ 1000000000 ∧ o.length ≤ 1000000000 ∧ x.length ≤ 1000000000) := Lib.hid ⟨hn, ho, hx⟩
  clear hn ho hx hk
  skip
  go_enter Try.func43, Try.ntmps43
  go_upto_region 1 with fail
  have hA := Blk.made w 27 #[.int .i64 h1, .int .i64 h2, .int .i64 h3, .int .i64 t1, .int .i64 t2, .int .i64 t3, .string ⟨n.toArray⟩, .string ⟨o.toArray⟩, .string ⟨x.toArray⟩, .int .i64 a, .int .i64 q, .int .i64 m, .int .i64 s, .int .i64 b, .int .i64 g, .int .u64 v]
  have ga := World.grownBy_alloc w (.cells #[.int .i64 h1, .int .i64 h2, .int .i64 h3, .int .i64 t1, .int .i64 t2, .int .i64 t3, .string ⟨n.toArray⟩, .string ⟨o.toArray⟩, .string ⟨x.toArray⟩, .int .i64 a, .int .i64 q, .int .i64 m, .int .i64 s, .int .i64 b, .int .i64 g, .int .u64 v] 27) none
  generalize w.alloc (.cells #[.int .i64 h1, .int .i64 h2, .int .i64 h3, .int .i64 t1, .int .i64 t2, .int .i64 t3, .string ⟨n.toArray⟩, .string ⟨o.toArray⟩, .string ⟨x.toArray⟩, .int .i64 a, .int .i64 q, .int .i64 m, .int .i64 s, .int .i64 b, .int .i64 g, .int .u64 v] 27) = w1 at *
  generalize w.heap.size = K at *
  go_wp2_with fail
  refine (HA.out _).mono ?_; rintro e w2 ⟨rfl, g1⟩
  have G := Lib.hid (World.grownBy.trans ga g1)
  have B_a := Lib.hid (hA.new g1)
  clear hA ga g1 HA
  go_upto_region 3 with fail
  have hz := Blk.made w2 24 #[.int .i64 0, .int .i64 0, .int .i64 0]
  have ga := World.grownBy_alloc w2 (.cells #[.int .i64 0, .int .i64 0, .int .i64 0] 24) none
  replace G := Lib.hid (World.grownBy.trans G.out ga)
  replace B_a := Lib.hid (B_a.out.new ga)
  generalize w2.alloc (.cells #[.int .i64 0, .int .i64 0, .int .i64 0] 24) = w3 at *
  generalize w2.heap.size = Z at *
  have B_z := Lib.hid hz
  clear hz ga
  have c0 := B_a.out.cell (i := 0) (x := .int .i64 h1) rfl
  have c1 := B_a.out.cell (i := 1) (x := .int .i64 h2) rfl
  have c2 := B_a.out.cell (i := 2) (x := .int .i64 h3) rfl
  have c3 := B_a.out.cell (i := 3) (x := .int .i64 t1) rfl
  have c4 := B_a.out.cell (i := 4) (x := .int .i64 t2) rfl
  have c5 := B_a.out.cell (i := 5) (x := .int .i64 t3) rfl
  have c6 := B_a.out.cell (i := 6) (x := .string ⟨n.toArray⟩) rfl
  have c7 := B_a.out.cell (i := 7) (x := .string ⟨o.toArray⟩) rfl
  have c8 := B_a.out.cell (i := 8) (x := .string ⟨x.toArray⟩) rfl
  have c9 := B_a.out.cell (i := 9) (x := .int .i64 a) rfl
  have c10 := B_a.out.cell (i := 10) (x := .int .i64 q) rfl
  have c11 := B_a.out.cell (i := 11) (x := .int .i64 m) rfl
  have c12 := B_a.out.cell (i := 12) (x := .int .i64 s) rfl
  have c13 := B_a.out.cell (i := 13) (x := .int .i64 b) rfl
  have c14 := B_a.out.cell (i := 14) (x := .int .i64 g) rfl
  have c15 := B_a.out.cell (i := 15) (x := .int .u64 v) rfl
  have z0 := B_z.out.cell (i := 0) (x := .int .i64 0) rfl
  have z1 := B_z.out.cell (i := 1) (x := .int .i64 0) rfl
  have z2 := B_z.out.cell (i := 2) (x := .int .i64 0) rfl
  go_wp2_with fail
  refine (H72.out _).mono ?_; rintro e u ⟨rfl, rfl⟩
  go_wp2_with fail
  clear c0 c1 c2 c3 c4 c5 c6 c7 c8 c9 c10 c11 c12 c13 c14 c15 z0 z1 z2
  refine (HMh.out _).mono ?_; rintro e u1 ⟨rfl, g1⟩
  replace G := Lib.hid (World.grownBy.trans G.out g1)
  replace B_a := Lib.hid (B_a.out.new g1)
  replace B_z := Lib.hid (B_z.out.new g1)
  clear g1
  by_cases kh : hMay ⟨h1, h2, h3⟩
  rotate_left 1
  · rw [decide_eq_false kh]
    go_wp2_with fail
    go_ret
    exact ⟨retB (aMay_1 (by simp [bad1, kh])).symm, G.out⟩
  rw [decide_eq_true kh]
  have c0 := B_a.out.cell (i := 0) (x := .int .i64 h1) rfl
  have c1 := B_a.out.cell (i := 1) (x := .int .i64 h2) rfl
  have c2 := B_a.out.cell (i := 2) (x := .int .i64 h3) rfl
  have c3 := B_a.out.cell (i := 3) (x := .int .i64 t1) rfl
  have c4 := B_a.out.cell (i := 4) (x := .int .i64 t2) rfl
  have c5 := B_a.out.cell (i := 5) (x := .int .i64 t3) rfl
  have c6 := B_a.out.cell (i := 6) (x := .string ⟨n.toArray⟩) rfl
  have c7 := B_a.out.cell (i := 7) (x := .string ⟨o.toArray⟩) rfl
  have c8 := B_a.out.cell (i := 8) (x := .string ⟨x.toArray⟩) rfl
  have c9 := B_a.out.cell (i := 9) (x := .int .i64 a) rfl
  have c10 := B_a.out.cell (i := 10) (x := .int .i64 q) rfl
  have c11 := B_a.out.cell (i := 11) (x := .int .i64 m) rfl
  have c12 := B_a.out.cell (i := 12) (x := .int .i64 s) rfl
  have c13 := B_a.out.cell (i := 13) (x := .int .i64 b) rfl
  have c14 := B_a.out.cell (i := 14) (x := .int .i64 g) rfl
  have c15 := B_a.out.cell (i := 15) (x := .int .u64 v) rfl
  have z0 := B_z.out.cell (i := 0) (x := .int .i64 0) rfl
  have z1 := B_z.out.cell (i := 1) (x := .int .i64 0) rfl
  have z2 := B_z.out.cell (i := 2) (x := .int .i64 0) rfl
  go_wp2_with fail
  refine (H72.out _).mono ?_; rintro e u ⟨rfl, rfl⟩
  go_wp2_with fail
  refine (H84.out _).mono ?_; rintro e u ⟨rfl, rfl⟩
  go_wp2_with fail
  refine (H84.out _).mono ?_; rintro e u ⟨rfl, rfl⟩
  by_cases kt : (⟨t1, t2, t3⟩ : Hn) ≠ noHn
  · rcases hn_parts kt with q1 | ⟨rfl, q1⟩ | ⟨rfl, rfl, q1⟩
    · clear kt
      go_wp2_with fail
      go_ret
      exact ⟨retB (aMay_1 (by simp [bad1, noHn, q1])).symm, G.out⟩
    · clear kt
      go_wp2_with fail
      go_ret
      exact ⟨retB (aMay_1 (by simp [bad1, noHn, q1])).symm, G.out⟩
    · clear kt
      go_wp2_with fail
      go_ret
      exact ⟨retB (aMay_1 (by simp [bad1, noHn, q1])).symm, G.out⟩
  obtain ⟨rfl, rfl, rfl⟩ := hn_none kt
  clear kt
  go_wp2_with fail
  refine (H110.out _).mono ?_; rintro e u ⟨rfl, rfl⟩
  by_cases k6 : n = []
  rotate_left 1
  · skip
    obtain ⟨y, ys, rfl⟩ := List.exists_cons_of_ne_nil k6
    go_wp2_with fail
    go_ret
    exact ⟨retB (aMay_2 (by simp [bad2])).symm, G.out⟩
  subst k6
  go_wp2_with fail
  refine (H111.out _).mono ?_; rintro e u ⟨rfl, rfl⟩
  by_cases k7 : o = []
  rotate_left 1
  · skip
    obtain ⟨y, ys, rfl⟩ := List.exists_cons_of_ne_nil k7
    go_wp2_with fail
    go_ret
    exact ⟨retB (aMay_2 (by simp [bad2])).symm, G.out⟩
  subst k7
  go_wp2_with fail
  refine (H116.out _).mono ?_; rintro e u ⟨rfl, rfl⟩
  by_cases k8 : x = []
  rotate_left 1
  · skip
    obtain ⟨y, ys, rfl⟩ := List.exists_cons_of_ne_nil k8
    go_wp2_with fail
    go_ret
    exact ⟨retB (aMay_2 (by simp [bad2])).symm, G.out⟩
  subst k8
  go_wp2_with fail
  refine (H97.out _).mono ?_; rintro e u ⟨rfl, rfl⟩
  go_wp2_with fail
  refine (H78.out _).mono ?_; rintro e u ⟨rfl, rfl⟩
  go_wp2_with fail
  refine (H109.out _).mono ?_; rintro e u ⟨rfl, rfl⟩
  by_cases k11 : m = 0
  rotate_left 1
  · skip
    go_wp2_with fail
    go_ret
    exact ⟨retB (aMay_2 (by simp [bad2, k11])).symm, G.out⟩
  subst k11
  go_wp2_with fail
  refine (H115.out _).mono ?_; rintro e u ⟨rfl, rfl⟩
  by_cases k12 : s = 0
  rotate_left 1
  · skip
    go_wp2_with fail
    go_ret
    exact ⟨retB (aMay_3 (by simp [bad3, k12])).symm, G.out⟩
  subst k12
  go_wp2_with fail
  refine (H83.out _).mono ?_; rintro e u ⟨rfl, rfl⟩
  by_cases k13 : b = 0
  rotate_left 1
  · skip
    go_wp2_with fail
    go_ret
    exact ⟨retB (aMay_3 (by simp [bad3, k13])).symm, G.out⟩
  subst k13
  go_wp2_with fail
  refine (H103.out _).mono ?_; rintro e u ⟨rfl, rfl⟩
  by_cases k14 : g = 0
  rotate_left 1
  · skip
    go_wp2_with fail
    go_ret
    exact ⟨retB (aMay_3 (by simp [bad3, k14])).symm, G.out⟩
  subst k14
  go_wp2_with fail
  refine (H118.out _).mono ?_; rintro e u ⟨rfl, rfl⟩
  go_wp2_with fail
  all_goals
    go_ret
    exact ⟨retB (by rw [Bool.eq_iff_iff]; simp [aMay, bad1, bad2, bad3, noHn, kh]), G.out⟩
end Go.Proofs.Ytpklgcinijlmmaa
