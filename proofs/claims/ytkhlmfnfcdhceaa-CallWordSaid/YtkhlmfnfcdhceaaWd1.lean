/- CallWord, walked: the word 1. -/
import Derived.Test.YtkhlmfnfcdhceaaCallZ
namespace Go.Proofs.Ytkhlmfnfcdhceaa
open Go.RowKit

set_option maxRecDepth 10000 in
set_option maxHeartbeats 8000000 in
theorem cword_1 (c x p : Int) (b t1 : List UInt8) (at_ : Int) (n : Nat) (W : World) (hw : cWrite ⟨c, x, p, b⟩ = (t1, 0)) (hx : isI x) (hp : isI p) (hp1 : p < 19) (hb : b.length ≤ 4072) (hn : n < 4294967296) (hl : 24 ≤ t1.length) (hl2 : t1.length ≤ 5000)
    (hk : wrap64 ((IntKind.u64.wrap at_).tmod 6) = 1) (r : Hd × Int) (hr : cRead (t1.take 4 ++ cat [n] ++ t1.drop 8) = r) (hj : WordSays1 c x p b n r) :
    Calls Try.prog 7 #[hdV ⟨c, x, p, b⟩, .int .i64 at_, .int .u32 n] W (OK1 W) := by
  have HW1 := Lib.hid (fun w => Write_any ⟨c, x, p, b⟩ w hx hp (by show b.length ≤ maxLen; unfold maxLen; omega))
  rw [hw] at HW1
  have he1 := extract_to ⟨t1.toArray⟩ 4
  have he2 := extract_from ⟨t1.toArray⟩ 8
  rw [show (⟨t1.toArray⟩ : ByteArray).size = t1.length from rfl] at he2
  rw [show (⟨t1.toArray⟩ : ByteArray).data.toList = t1 from rfl] at he1 he2
  have hw1 : IntKind.i64.wrap 4 = 4 := by rw [IntKind.wrap_i64]; omega
  have hw2 : IntKind.i64.wrap 8 = 8 := by rw [IntKind.wrap_i64]; omega
  have hb2 : (8 : Int) ≤ t1.length := by omega
  have hb1 : (4 : Int) ≤ t1.length := by omega
  have hA : (t1.take 4).length = 4 := by rw [List.length_take]; omega
  have hZ : (t1.drop 8).length ≤ 5000 := by rw [List.length_drop]; omega
  have hM : (cat [n]).length = 4 := cat_len [n]
  have HRD := Lib.hid (fun w => Read_l (t1.take 4 ++ cat [n] ++ t1.drop 8) w (by simp only [List.length_append]; omega))
  rw [hr] at HRD
  have hAM : ¬ 9223372036854775807 < (t1.take 4).length + (cat [n]).length := by omega
  have hAMZ : ¬ 9223372036854775807 < (t1.take 4).length + (cat [n]).length + (t1.drop 8).length := by omega
  have HSA := Lib.hid (str_app (t1.take 4) (cat [n]))
  have HSB := Lib.hid (str_app (t1.take 4 ++ cat [n]) (t1.drop 8))
  have HNN := Lib.hid (And.intro hn hn)
  obtain ⟨M, hMM⟩ : ∃ M, cat [n] = M := ⟨_, rfl⟩
  have HMM := Lib.hid hMM
  rw [hMM] at hAM hAMZ HSA HSB HRD
  clear hMM
  generalize t1.take 4 = A at *
  generalize t1.drop 8 = Z at *
  have q1 : (b.length : Int) ≤ 4072 := by omega
  have hwn : IntKind.i64.wrap (n : Int) = n := wrap_i64_w hn
  have hp2 : decide (19 ≤ p) = false := by simp; omega
  have HJ := Lib.hid hj
  have HAM := Lib.hid (And.intro hAM hAMZ)
  obtain ⟨⟨rc, rx, rp, rb⟩, re⟩ := r
  clear hw hx hp hb hl hl2 hA hZ hM hr hj hn hp1 hAM hAMZ
  unfold hdV txt at HW1
  unfold hdV txt
  go_enter Try.func7, Try.ntmps7
  go_wp2_with fail
  have hb := Blk.made W 42 #[.int .i64 c, .int .i64 x, .int .i64 p, .string ⟨b.toArray⟩]
  have B_h := Lib.hid hb
  have G := Lib.hid (World.grownBy_alloc W (.cells #[.int .i64 c, .int .i64 x, .int .i64 p, .string ⟨b.toArray⟩] 42) none)
  clear hb
  generalize W.alloc (.cells #[.int .i64 c, .int .i64 x, .int .i64 p, .string ⟨b.toArray⟩] 42) = w0 at *
  generalize W.heap.size = K at *
  refine (works_any _).mono ?_; rintro e w1 ⟨rfl, g1⟩
  replace G := Lib.hid (World.grownBy.trans G.out g1)
  replace B_h := Lib.hid (B_h.out.new g1)
  clear g1
  have c_h_0 := B_h.out.cell (i := 0) (x := .int .i64 c) rfl
  have c_h_1 := B_h.out.cell (i := 1) (x := .int .i64 x) rfl
  have c_h_2 := B_h.out.cell (i := 2) (x := .int .i64 p) rfl
  have c_h_3 := B_h.out.cell (i := 3) (x := .string ⟨b.toArray⟩) rfl
  go_wp2_with fail
  clear B_h
  clear c_h_0 c_h_1 c_h_2 c_h_3
  have hb := Blk.made w1 25 #[.int .i64 c, .int .i64 x, .int .i64 p, .string ⟨b.toArray⟩]
  have ga := World.grownBy_alloc w1 (.cells #[.int .i64 c, .int .i64 x, .int .i64 p, .string ⟨b.toArray⟩] 25) none
  have hle := G.out.size
  replace G := Lib.hid (World.grownBy.trans G.out ga)
  generalize w1.alloc (.cells #[.int .i64 c, .int .i64 x, .int .i64 p, .string ⟨b.toArray⟩] 25) = w2 at *
  generalize w1.heap.size = K_x at *
  have B_x := Lib.hid hb
  have E_x := Lib.hid hle
  clear hb ga hle
  refine (HW1.out _).mono ?_; rintro e w3 ⟨rfl, g1⟩
  replace G := Lib.hid (World.grownBy.trans G.out g1)
  replace B_x := Lib.hid (B_x.out.new g1)
  clear g1
  try unfold txt
  have c_x_0 := B_x.out.cell (i := 0) (x := .int .i64 c) rfl
  have c_x_1 := B_x.out.cell (i := 1) (x := .int .i64 x) rfl
  have c_x_2 := B_x.out.cell (i := 2) (x := .int .i64 p) rfl
  have c_x_3 := B_x.out.cell (i := 3) (x := .string ⟨b.toArray⟩) rfl
  go_wp2_with fail
  clear c_x_0 c_x_1 c_x_2 c_x_3
  go_cut [9, 11] (fun v9 v11 wx => ∃ R, v11 = .pointer (some ⟨R, 0, none⟩) ∧ v9 = .int .i64 re ∧ Hid (W.grownBy wx none) ∧ Hid (Blk wx K_x 25 #[.int .i64 c, .int .i64 x, .int .i64 p, .string ⟨b.toArray⟩]) ∧ Hid (Blk wx R 25 #[.int .i64 rc, .int .i64 rx, .int .i64 rp, .string ⟨rb.toArray⟩]) ∧ Hid (K_x < R))
  case first =>
    refine wp_region_noPanic ?_
    refine wp_region_held_drew (S := fun w' => True) (by kernel_rfl) (trivial) (fun hHeld => ?_)
    have hN : w3.grownBy w3.drew none := drew_grown _ _
    replace G := Lib.hid (World.grownBy.trans G.out hN)
    replace B_x := Lib.hid (B_x.out.new hN)
    clear hN
    generalize w3.drew = wd at *
    refine wpAnyH_take (i := 0) (v := ?_) (by simp only [List.getElem?_toArray, List.getElem?_cons_zero]; rfl) (by kernel_rfl) (by kernel_rfl) (by kernel_rfl) (fun _ _ _ h => h) (Or.inl ⟨by rfl, ?_⟩) (by assumption) ?_
    rotate_left 1
    · intro w hSw; (try dsimp only at hSw); go_simp; all_goals (with_reducible rfl)
    try simp only [Act.put, List.setIfInBounds_toArray, List.set_cons_zero, List.set_cons_succ]
    refine wpAnyH_take (i := 1) (v := ?_) (by simp only [List.getElem?_toArray, List.getElem?_cons_succ, List.getElem?_cons_zero]; rfl) (by kernel_rfl) (by kernel_rfl) (by kernel_rfl) (fun _ _ _ h => h) (Or.inl ⟨by rfl, ?_⟩) (by assumption) ?_
    rotate_left 1
    · intro w hSw; (try dsimp only at hSw); go_simp; all_goals (with_reducible rfl)
    try simp only [Act.put, List.setIfInBounds_toArray, List.set_cons_zero, List.set_cons_succ]
    refine wpAnyH_take (i := 2) (v := ?_) (by simp only [List.getElem?_toArray, List.getElem?_cons_succ, List.getElem?_cons_zero]; rfl) (by kernel_rfl) (by kernel_rfl) (by kernel_rfl) (fun _ _ _ h => h) (Or.inl ⟨by rfl, ?_⟩) (by assumption) ?_
    rotate_left 1
    · intro w hSw; (try dsimp only at hSw); go_simp; all_goals (with_reducible rfl)
    try simp only [Act.put, List.setIfInBounds_toArray, List.set_cons_zero, List.set_cons_succ]
    refine wpAnyH_take (i := 3) (v := ?_) (by simp only [List.getElem?_toArray, List.getElem?_cons_succ, List.getElem?_cons_zero]; rfl) (by kernel_rfl) (by kernel_rfl) (by kernel_rfl) (fun _ _ _ h => h) (Or.inl ⟨by rfl, ?_⟩) (by assumption) ?_
    rotate_left 1
    · intro w hSw; (try dsimp only at hSw); go_simp; all_goals (with_reducible rfl)
    try simp only [Act.put, List.setIfInBounds_toArray, List.set_cons_zero, List.set_cons_succ]
    refine wpAnyH_take (i := 4) (v := ?_) (by simp only [List.getElem?_toArray, List.getElem?_cons_succ, List.getElem?_cons_zero]; rfl) (by kernel_rfl) (by kernel_rfl) (by kernel_rfl) (fun _ _ _ h => h) (Or.inl ⟨by rfl, ?_⟩) (by assumption) ?_
    rotate_left 1
    · intro w hSw; (try dsimp only at hSw); go_simp; all_goals (with_reducible rfl)
    try simp only [Act.put, List.setIfInBounds_toArray, List.set_cons_zero, List.set_cons_succ]
    refine wpAnyH_take (i := 5) (v := ?_) (by simp only [List.getElem?_toArray, List.getElem?_cons_succ, List.getElem?_cons_zero]; rfl) (by kernel_rfl) (by kernel_rfl) (by kernel_rfl) (fun _ _ _ h => h) (Or.inl ⟨by rfl, ?_⟩) (by assumption) ?_
    rotate_left 1
    · intro w hSw; (try dsimp only at hSw); go_simp; all_goals (with_reducible rfl)
    try simp only [Act.put, List.setIfInBounds_toArray, List.set_cons_zero, List.set_cons_succ]
    refine wpAnyH_take (i := 9) (v := ?_) (by simp only [List.getElem?_toArray, List.getElem?_cons_succ, List.getElem?_cons_zero]; rfl) (by kernel_rfl) (by kernel_rfl) (by kernel_rfl) (fun _ _ _ h => h) (Or.inl ⟨by rfl, ?_⟩) (by assumption) ?_
    rotate_left 1
    · intro w hSw; (try dsimp only at hSw); go_simp; all_goals (with_reducible rfl)
    try simp only [Act.put, List.setIfInBounds_toArray, List.set_cons_zero, List.set_cons_succ]
    refine wpAnyH_take (i := 10) (v := ?_) (by simp only [List.getElem?_toArray, List.getElem?_cons_succ, List.getElem?_cons_zero]; rfl) (by kernel_rfl) (by kernel_rfl) (by kernel_rfl) (fun _ _ _ h => h) (Or.inl ⟨by rfl, ?_⟩) (by assumption) ?_
    rotate_left 1
    · intro w hSw; (try dsimp only at hSw); go_simp; all_goals (with_reducible rfl)
    try simp only [Act.put, List.setIfInBounds_toArray, List.set_cons_zero, List.set_cons_succ]
    refine wpAnyH_take (i := 11) (v := ?_) (by simp only [List.getElem?_toArray, List.getElem?_cons_succ, List.getElem?_cons_zero]; rfl) (by kernel_rfl) (by kernel_rfl) (by kernel_rfl) (fun _ _ _ h => h) (Or.inl ⟨by rfl, ?_⟩) (by assumption) ?_
    rotate_left 1
    · intro w hSw; (try dsimp only at hSw); go_simp; all_goals (with_reducible rfl)
    try simp only [Act.put, List.setIfInBounds_toArray, List.set_cons_zero, List.set_cons_succ]
    refine wpAnyH_take (i := 12) (v := ?_) (by simp only [List.getElem?_toArray, List.getElem?_cons_succ, List.getElem?_cons_zero]; rfl) (by kernel_rfl) (by kernel_rfl) (by kernel_rfl) (fun _ _ _ h => h) (Or.inl ⟨by rfl, ?_⟩) (by assumption) ?_
    rotate_left 1
    · intro w hSw; (try dsimp only at hSw); go_simp; all_goals (with_reducible rfl)
    try simp only [Act.put, List.setIfInBounds_toArray, List.set_cons_zero, List.set_cons_succ]
    refine wpAnyH_take (i := 13) (v := ?_) (by simp only [List.getElem?_toArray, List.getElem?_cons_succ, List.getElem?_cons_zero]; rfl) (by kernel_rfl) (by kernel_rfl) (by kernel_rfl) (fun _ _ _ h => h) (Or.inl ⟨by rfl, ?_⟩) (by assumption) ?_
    rotate_left 1
    · intro w hSw; (try dsimp only at hSw); go_simp; all_goals (with_reducible rfl)
    try simp only [Act.put, List.setIfInBounds_toArray, List.set_cons_zero, List.set_cons_succ]
    clear hw1 hw2 he1 he2 hb1 hb2 hwn hk
    refine wpAnyH_ready (rs := [6, 19]) (by kernel_rfl) (by simp) ?_
    refine AllReadyH.cons (by simp only [List.getElem?_toArray, List.getElem?_cons_succ, List.getElem?_cons_zero]; rfl) (fun K hK => ?_) (AllReadyH.cons (by simp only [List.getElem?_toArray, List.getElem?_cons_succ, List.getElem?_cons_zero]; rfl) (fun K hK => ?_) AllReadyH.nil)
    · go_simp
      have hb := Blk.made wd 3 #[.int .i64 n]
      have ga := World.grownBy_alloc wd (.cells #[.int .i64 n] 3) none
      have hle := G.out.size
      have n_x := B_x.out.lt
      replace G := Lib.hid (World.grownBy.trans G.out ga)
      replace B_x := Lib.hid (B_x.out.new ga)
      generalize wd.alloc (.cells #[.int .i64 n] 3) = w4 at *
      generalize wd.heap.size = K_n at *
      have N_x_n := Lib.hid n_x
      clear n_x
      have B_n := Lib.hid hb
      have E_n := Lib.hid hle
      clear hb ga hle
      refine hK.out _ _ (trivial) (fun hHeld => ?_)
      clear hK K
      try simp only [Act.put, List.setIfInBounds_toArray, List.set_cons_zero, List.set_cons_succ]
      refine wpAnyH_ready (rs := [7, 19]) (by kernel_rfl) (by simp) ?_
      refine AllReadyH.cons (by simp only [List.getElem?_toArray, List.getElem?_cons_succ, List.getElem?_cons_zero]; rfl) (fun K hK => ?_) (AllReadyH.cons (by simp only [List.getElem?_toArray, List.getElem?_cons_succ, List.getElem?_cons_zero]; rfl) (fun K hK => ?_) AllReadyH.nil)
      · go_simp
        refine (words_blk (c := 1) n (by have := HNN.out; omega) B_n.out).mono ?_; rintro e w5 ⟨rfl, g1⟩
        replace G := Lib.hid (World.grownBy.trans G.out g1)
        replace B_x := Lib.hid (B_x.out.new g1)
        replace B_n := Lib.hid (B_n.out.new g1)
        clear g1
        clear B_n
        rw [HMM.out]
        go_wp2_with fail
        refine hK.out _ _ (trivial) (fun hHeld => ?_)
        clear hK K
        try simp only [Act.put, List.setIfInBounds_toArray, List.set_cons_zero, List.set_cons_succ]
        have hAM := HAM.out.1
        have hAMZ := HAM.out.2
        refine wpAnyH_take (i := 8) (v := ?_) (by simp only [List.getElem?_toArray, List.getElem?_cons_succ, List.getElem?_cons_zero]; rfl) (by kernel_rfl) (by kernel_rfl) (by kernel_rfl) (fun _ _ _ h => h) (Or.inl ⟨by rfl, ?_⟩) (by assumption) ?_
        rotate_left 1
        · intro w hSw; (try dsimp only at hSw); go_simp; all_goals (with_reducible rfl)
        try simp only [Act.put, List.setIfInBounds_toArray, List.set_cons_zero, List.set_cons_succ]
        refine wpAnyH_take (i := 14) (v := ?_) (by simp only [List.getElem?_toArray, List.getElem?_cons_succ, List.getElem?_cons_zero]; rfl) (by kernel_rfl) (by kernel_rfl) (by kernel_rfl) (fun _ _ _ h => h) (Or.inl ⟨by rfl, ?_⟩) (by assumption) ?_
        rotate_left 1
        · intro w hSw; (try dsimp only at hSw); go_simp; all_goals (with_reducible rfl)
        try simp only [Act.put, List.setIfInBounds_toArray, List.set_cons_zero, List.set_cons_succ]
        clear hAM hAMZ
        refine wpAnyH_ready (rs := [15, 19]) (by kernel_rfl) (by simp) ?_
        refine AllReadyH.cons (by simp only [List.getElem?_toArray, List.getElem?_cons_succ, List.getElem?_cons_zero]; rfl) (fun K hK => ?_) (AllReadyH.cons (by simp only [List.getElem?_toArray, List.getElem?_cons_succ, List.getElem?_cons_zero]; rfl) (fun K hK => ?_) AllReadyH.nil)
        · go_simp
          rw [HSA.out, HSB.out]
          refine (HRD.out _).mono ?_; rintro e w6 ⟨rfl, g1⟩
          replace G := Lib.hid (World.grownBy.trans G.out g1)
          replace B_x := Lib.hid (B_x.out.new g1)
          clear g1
          unfold hdV txt
          go_wp2_with fail
          refine hK.out _ _ (trivial) (fun hHeld => ?_)
          clear hK K
          try simp only [Act.put, List.setIfInBounds_toArray, List.set_cons_zero, List.set_cons_succ]
          refine wpAnyH_take (i := 16) (v := ?_) (by simp only [List.getElem?_toArray, List.getElem?_cons_succ, List.getElem?_cons_zero]; rfl) (by kernel_rfl) (by kernel_rfl) (by kernel_rfl) (fun _ _ _ h => h) (Or.inl ⟨by rfl, ?_⟩) (by assumption) ?_
          rotate_left 1
          · intro w hSw; (try dsimp only at hSw); go_simp; all_goals (with_reducible rfl)
          try simp only [Act.put, List.setIfInBounds_toArray, List.set_cons_zero, List.set_cons_succ]
          refine wpAnyH_take (i := 17) (v := ?_) (by simp only [List.getElem?_toArray, List.getElem?_cons_succ, List.getElem?_cons_zero]; rfl) (by kernel_rfl) (by kernel_rfl) (by kernel_rfl) (fun _ _ _ h => h) (Or.inl ⟨by rfl, ?_⟩) (by assumption) ?_
          rotate_left 1
          · intro w hSw; (try dsimp only at hSw); go_simp; all_goals (with_reducible rfl)
          try simp only [Act.put, List.setIfInBounds_toArray, List.set_cons_zero, List.set_cons_succ]
          refine wpAnyH_take (i := 18) (v := ?_) (by simp only [List.getElem?_toArray, List.getElem?_cons_succ, List.getElem?_cons_zero]; rfl) (by kernel_rfl) (by kernel_rfl) (by kernel_rfl) (fun _ _ _ h => h) (Or.inl ⟨by rfl, ?_⟩) (by assumption) ?_
          rotate_left 1
          · intro w hSw; (try dsimp only at hSw); go_simp; all_goals (with_reducible rfl)
          try simp only [Act.put, List.setIfInBounds_toArray, List.set_cons_zero, List.set_cons_succ]
          refine wpAnyH_ready (rs := [19]) (by kernel_rfl) (by simp) ?_
          refine AllReadyH.cons (by simp only [List.getElem?_toArray, List.getElem?_cons_succ, List.getElem?_cons_zero]; rfl) (fun K hK => ?_) AllReadyH.nil
          go_simp
          have hb := Blk.made w6 25 #[.int .i64 0, .int .i64 0, .int .i64 0, .string ⟨#[]⟩]
          have ga := World.grownBy_alloc w6 (.cells #[.int .i64 0, .int .i64 0, .int .i64 0, .string ⟨#[]⟩] 25) none
          have hle := G.out.size
          have n_x := B_x.out.lt
          replace G := Lib.hid (World.grownBy.trans G.out ga)
          replace B_x := Lib.hid (B_x.out.new ga)
          generalize w6.alloc (.cells #[.int .i64 0, .int .i64 0, .int .i64 0, .string ⟨#[]⟩] 25) = w7 at *
          generalize w6.heap.size = K_r at *
          have N_x_r := Lib.hid n_x
          clear n_x
          have B_r := Lib.hid hb
          have E_r := Lib.hid hle
          clear hb ga hle
          refine hK.out _ _ (trivial) (fun hHeld => ?_)
          clear hK K
          try simp only [Act.put, List.setIfInBounds_toArray, List.set_cons_zero, List.set_cons_succ]
          have c_r_0 := B_r.out.cell (i := 0) (x := .int .i64 0) rfl
          have c_r_1 := B_r.out.cell (i := 1) (x := .int .i64 0) rfl
          have c_r_2 := B_r.out.cell (i := 2) (x := .int .i64 0) rfl
          have c_r_3 := B_r.out.cell (i := 3) (x := .string ⟨#[]⟩) rfl
          have f_r_0 := B_r.out.frozen 0
          have f_r_1 := B_r.out.frozen 1
          have f_r_2 := B_r.out.frozen 2
          have f_r_3 := B_r.out.frozen 3
          refine wpAnyH_ready (rs := [20]) (by kernel_rfl) (by simp) ?_
          refine AllReadyH.cons (by simp only [List.getElem?_toArray, List.getElem?_cons_succ, List.getElem?_cons_zero]; rfl) (fun K hK => ?_) AllReadyH.nil
          go_simp
          clear c_r_0 c_r_1 c_r_2 c_r_3 f_r_0 f_r_1 f_r_2 f_r_3
          have gs := Lib.grownBy_setB (World.grownBy.refl w7 (some K_r)) 0 (.int .i64 rc)
          replace B_x := Lib.hid (B_x.out.kept gs (by have := N_x_r.out; simp; omega))
          replace B_r := Lib.hid (B_r.out.set 0 (.int .i64 rc))
          simp only [List.setIfInBounds_toArray, List.set_cons_zero] at B_r
          replace G := Lib.hid (grown_own G.out gs (fun n hn => by cases hn; exact E_r.out))
          clear gs
          generalize w7.setCell ⟨K_r, 0, none⟩ (.int .i64 rc) = w8 at *
          have gs := Lib.grownBy_setB (World.grownBy.refl w8 (some K_r)) 1 (.int .i64 rx)
          replace B_x := Lib.hid (B_x.out.kept gs (by have := N_x_r.out; simp; omega))
          replace B_r := Lib.hid (B_r.out.set 1 (.int .i64 rx))
          simp only [List.setIfInBounds_toArray, List.set_cons_succ, List.set_cons_zero] at B_r
          replace G := Lib.hid (grown_own G.out gs (fun n hn => by cases hn; exact E_r.out))
          clear gs
          generalize w8.setCell ⟨K_r, 1, none⟩ (.int .i64 rx) = w9 at *
          have gs := Lib.grownBy_setB (World.grownBy.refl w9 (some K_r)) 2 (.int .i64 rp)
          replace B_x := Lib.hid (B_x.out.kept gs (by have := N_x_r.out; simp; omega))
          replace B_r := Lib.hid (B_r.out.set 2 (.int .i64 rp))
          simp only [List.setIfInBounds_toArray, List.set_cons_succ, List.set_cons_zero] at B_r
          replace G := Lib.hid (grown_own G.out gs (fun n hn => by cases hn; exact E_r.out))
          clear gs
          generalize w9.setCell ⟨K_r, 2, none⟩ (.int .i64 rp) = w10 at *
          have gs := Lib.grownBy_setB (World.grownBy.refl w10 (some K_r)) 3 (.string ⟨rb.toArray⟩)
          replace B_x := Lib.hid (B_x.out.kept gs (by have := N_x_r.out; simp; omega))
          replace B_r := Lib.hid (B_r.out.set 3 (.string ⟨rb.toArray⟩))
          simp only [List.setIfInBounds_toArray, List.set_cons_succ, List.set_cons_zero] at B_r
          replace G := Lib.hid (grown_own G.out gs (fun n hn => by cases hn; exact E_r.out))
          clear gs
          generalize w10.setCell ⟨K_r, 3, none⟩ (.string ⟨rb.toArray⟩) = w11 at *
          refine hK.out _ _ (trivial) (fun hHeld => ?_)
          clear hK K
          try simp only [Act.put, List.setIfInBounds_toArray, List.set_cons_zero, List.set_cons_succ]
          refine wpAnyH_ready (rs := [21]) (by kernel_rfl) (by simp) ?_
          refine AllReadyH.cons (by simp only [List.getElem?_toArray, List.getElem?_cons_succ, List.getElem?_cons_zero]; rfl) (fun K hK => ?_) AllReadyH.nil
          go_simp
          refine hK.out _ _ (trivial) (fun hHeld => ?_)
          clear hK K
          try simp only [Act.put, List.setIfInBounds_toArray, List.set_cons_zero, List.set_cons_succ]
          refine wpAnyH_done (by kernel_rfl) ?_ _
          refine NoPanic.normal ?_
          go_wp2_with fail
          go_meet
          exact ⟨K_r, rfl, rfl, G, B_x, B_r, N_x_r⟩
        · go_simp
          have hb := Blk.made w5 25 #[.int .i64 0, .int .i64 0, .int .i64 0, .string ⟨#[]⟩]
          have ga := World.grownBy_alloc w5 (.cells #[.int .i64 0, .int .i64 0, .int .i64 0, .string ⟨#[]⟩] 25) none
          have hle := G.out.size
          have n_x := B_x.out.lt
          replace G := Lib.hid (World.grownBy.trans G.out ga)
          replace B_x := Lib.hid (B_x.out.new ga)
          generalize w5.alloc (.cells #[.int .i64 0, .int .i64 0, .int .i64 0, .string ⟨#[]⟩] 25) = w6 at *
          generalize w5.heap.size = K_r at *
          have N_x_r := Lib.hid n_x
          clear n_x
          have B_r := Lib.hid hb
          have E_r := Lib.hid hle
          clear hb ga hle
          refine hK.out _ _ (trivial) (fun hHeld => ?_)
          clear hK K
          try simp only [Act.put, List.setIfInBounds_toArray, List.set_cons_zero, List.set_cons_succ]
          refine wpAnyH_ready (rs := [15]) (by kernel_rfl) (by simp) ?_
          refine AllReadyH.cons (by simp only [List.getElem?_toArray, List.getElem?_cons_succ, List.getElem?_cons_zero]; rfl) (fun K hK => ?_) AllReadyH.nil
          go_simp
          rw [HSA.out, HSB.out]
          refine (HRD.out _).mono ?_; rintro e w7 ⟨rfl, g1⟩
          replace G := Lib.hid (World.grownBy.trans G.out g1)
          replace B_x := Lib.hid (B_x.out.new g1)
          replace B_r := Lib.hid (B_r.out.new g1)
          clear g1
          unfold hdV txt
          go_wp2_with fail
          refine hK.out _ _ (trivial) (fun hHeld => ?_)
          clear hK K
          try simp only [Act.put, List.setIfInBounds_toArray, List.set_cons_zero, List.set_cons_succ]
          refine wpAnyH_take (i := 16) (v := ?_) (by simp only [List.getElem?_toArray, List.getElem?_cons_succ, List.getElem?_cons_zero]; rfl) (by kernel_rfl) (by kernel_rfl) (by kernel_rfl) (fun _ _ _ h => h) (Or.inl ⟨by rfl, ?_⟩) (by assumption) ?_
          rotate_left 1
          · intro w hSw; (try dsimp only at hSw); go_simp; all_goals (with_reducible rfl)
          try simp only [Act.put, List.setIfInBounds_toArray, List.set_cons_zero, List.set_cons_succ]
          refine wpAnyH_take (i := 17) (v := ?_) (by simp only [List.getElem?_toArray, List.getElem?_cons_succ, List.getElem?_cons_zero]; rfl) (by kernel_rfl) (by kernel_rfl) (by kernel_rfl) (fun _ _ _ h => h) (Or.inl ⟨by rfl, ?_⟩) (by assumption) ?_
          rotate_left 1
          · intro w hSw; (try dsimp only at hSw); go_simp; all_goals (with_reducible rfl)
          try simp only [Act.put, List.setIfInBounds_toArray, List.set_cons_zero, List.set_cons_succ]
          refine wpAnyH_take (i := 18) (v := ?_) (by simp only [List.getElem?_toArray, List.getElem?_cons_succ, List.getElem?_cons_zero]; rfl) (by kernel_rfl) (by kernel_rfl) (by kernel_rfl) (fun _ _ _ h => h) (Or.inl ⟨by rfl, ?_⟩) (by assumption) ?_
          rotate_left 1
          · intro w hSw; (try dsimp only at hSw); go_simp; all_goals (with_reducible rfl)
          try simp only [Act.put, List.setIfInBounds_toArray, List.set_cons_zero, List.set_cons_succ]
          have c_r_0 := B_r.out.cell (i := 0) (x := .int .i64 0) rfl
          have c_r_1 := B_r.out.cell (i := 1) (x := .int .i64 0) rfl
          have c_r_2 := B_r.out.cell (i := 2) (x := .int .i64 0) rfl
          have c_r_3 := B_r.out.cell (i := 3) (x := .string ⟨#[]⟩) rfl
          have f_r_0 := B_r.out.frozen 0
          have f_r_1 := B_r.out.frozen 1
          have f_r_2 := B_r.out.frozen 2
          have f_r_3 := B_r.out.frozen 3
          refine wpAnyH_ready (rs := [20]) (by kernel_rfl) (by simp) ?_
          refine AllReadyH.cons (by simp only [List.getElem?_toArray, List.getElem?_cons_succ, List.getElem?_cons_zero]; rfl) (fun K hK => ?_) AllReadyH.nil
          go_simp
          clear c_r_0 c_r_1 c_r_2 c_r_3 f_r_0 f_r_1 f_r_2 f_r_3
          have gs := Lib.grownBy_setB (World.grownBy.refl w7 (some K_r)) 0 (.int .i64 rc)
          replace B_x := Lib.hid (B_x.out.kept gs (by have := N_x_r.out; simp; omega))
          replace B_r := Lib.hid (B_r.out.set 0 (.int .i64 rc))
          simp only [List.setIfInBounds_toArray, List.set_cons_zero] at B_r
          replace G := Lib.hid (grown_own G.out gs (fun n hn => by cases hn; exact E_r.out))
          clear gs
          generalize w7.setCell ⟨K_r, 0, none⟩ (.int .i64 rc) = w8 at *
          have gs := Lib.grownBy_setB (World.grownBy.refl w8 (some K_r)) 1 (.int .i64 rx)
          replace B_x := Lib.hid (B_x.out.kept gs (by have := N_x_r.out; simp; omega))
          replace B_r := Lib.hid (B_r.out.set 1 (.int .i64 rx))
          simp only [List.setIfInBounds_toArray, List.set_cons_succ, List.set_cons_zero] at B_r
          replace G := Lib.hid (grown_own G.out gs (fun n hn => by cases hn; exact E_r.out))
          clear gs
          generalize w8.setCell ⟨K_r, 1, none⟩ (.int .i64 rx) = w9 at *
          have gs := Lib.grownBy_setB (World.grownBy.refl w9 (some K_r)) 2 (.int .i64 rp)
          replace B_x := Lib.hid (B_x.out.kept gs (by have := N_x_r.out; simp; omega))
          replace B_r := Lib.hid (B_r.out.set 2 (.int .i64 rp))
          simp only [List.setIfInBounds_toArray, List.set_cons_succ, List.set_cons_zero] at B_r
          replace G := Lib.hid (grown_own G.out gs (fun n hn => by cases hn; exact E_r.out))
          clear gs
          generalize w9.setCell ⟨K_r, 2, none⟩ (.int .i64 rp) = w10 at *
          have gs := Lib.grownBy_setB (World.grownBy.refl w10 (some K_r)) 3 (.string ⟨rb.toArray⟩)
          replace B_x := Lib.hid (B_x.out.kept gs (by have := N_x_r.out; simp; omega))
          replace B_r := Lib.hid (B_r.out.set 3 (.string ⟨rb.toArray⟩))
          simp only [List.setIfInBounds_toArray, List.set_cons_succ, List.set_cons_zero] at B_r
          replace G := Lib.hid (grown_own G.out gs (fun n hn => by cases hn; exact E_r.out))
          clear gs
          generalize w10.setCell ⟨K_r, 3, none⟩ (.string ⟨rb.toArray⟩) = w11 at *
          refine hK.out _ _ (trivial) (fun hHeld => ?_)
          clear hK K
          try simp only [Act.put, List.setIfInBounds_toArray, List.set_cons_zero, List.set_cons_succ]
          refine wpAnyH_ready (rs := [21]) (by kernel_rfl) (by simp) ?_
          refine AllReadyH.cons (by simp only [List.getElem?_toArray, List.getElem?_cons_succ, List.getElem?_cons_zero]; rfl) (fun K hK => ?_) AllReadyH.nil
          go_simp
          refine hK.out _ _ (trivial) (fun hHeld => ?_)
          clear hK K
          try simp only [Act.put, List.setIfInBounds_toArray, List.set_cons_zero, List.set_cons_succ]
          refine wpAnyH_done (by kernel_rfl) ?_ _
          refine NoPanic.normal ?_
          go_wp2_with fail
          go_meet
          exact ⟨K_r, rfl, rfl, G, B_x, B_r, N_x_r⟩
      · go_simp
        have hb := Blk.made w4 25 #[.int .i64 0, .int .i64 0, .int .i64 0, .string ⟨#[]⟩]
        have ga := World.grownBy_alloc w4 (.cells #[.int .i64 0, .int .i64 0, .int .i64 0, .string ⟨#[]⟩] 25) none
        have hle := G.out.size
        have n_x := B_x.out.lt
        have n_n := B_n.out.lt
        replace G := Lib.hid (World.grownBy.trans G.out ga)
        replace B_x := Lib.hid (B_x.out.new ga)
        replace B_n := Lib.hid (B_n.out.new ga)
        generalize w4.alloc (.cells #[.int .i64 0, .int .i64 0, .int .i64 0, .string ⟨#[]⟩] 25) = w5 at *
        generalize w4.heap.size = K_r at *
        have N_x_r := Lib.hid n_x
        clear n_x
        have N_n_r := Lib.hid n_n
        clear n_n
        have B_r := Lib.hid hb
        have E_r := Lib.hid hle
        clear hb ga hle
        refine hK.out _ _ (trivial) (fun hHeld => ?_)
        clear hK K
        try simp only [Act.put, List.setIfInBounds_toArray, List.set_cons_zero, List.set_cons_succ]
        refine wpAnyH_ready (rs := [7]) (by kernel_rfl) (by simp) ?_
        refine AllReadyH.cons (by simp only [List.getElem?_toArray, List.getElem?_cons_succ, List.getElem?_cons_zero]; rfl) (fun K hK => ?_) AllReadyH.nil
        go_simp
        refine (words_blk (c := 1) n (by have := HNN.out; omega) B_n.out).mono ?_; rintro e w6 ⟨rfl, g1⟩
        replace G := Lib.hid (World.grownBy.trans G.out g1)
        replace B_x := Lib.hid (B_x.out.new g1)
        replace B_n := Lib.hid (B_n.out.new g1)
        replace B_r := Lib.hid (B_r.out.new g1)
        clear g1
        clear B_n
        rw [HMM.out]
        go_wp2_with fail
        refine hK.out _ _ (trivial) (fun hHeld => ?_)
        clear hK K
        try simp only [Act.put, List.setIfInBounds_toArray, List.set_cons_zero, List.set_cons_succ]
        have hAM := HAM.out.1
        have hAMZ := HAM.out.2
        refine wpAnyH_take (i := 8) (v := ?_) (by simp only [List.getElem?_toArray, List.getElem?_cons_succ, List.getElem?_cons_zero]; rfl) (by kernel_rfl) (by kernel_rfl) (by kernel_rfl) (fun _ _ _ h => h) (Or.inl ⟨by rfl, ?_⟩) (by assumption) ?_
        rotate_left 1
        · intro w hSw; (try dsimp only at hSw); go_simp; all_goals (with_reducible rfl)
        try simp only [Act.put, List.setIfInBounds_toArray, List.set_cons_zero, List.set_cons_succ]
        refine wpAnyH_take (i := 14) (v := ?_) (by simp only [List.getElem?_toArray, List.getElem?_cons_succ, List.getElem?_cons_zero]; rfl) (by kernel_rfl) (by kernel_rfl) (by kernel_rfl) (fun _ _ _ h => h) (Or.inl ⟨by rfl, ?_⟩) (by assumption) ?_
        rotate_left 1
        · intro w hSw; (try dsimp only at hSw); go_simp; all_goals (with_reducible rfl)
        try simp only [Act.put, List.setIfInBounds_toArray, List.set_cons_zero, List.set_cons_succ]
        clear hAM hAMZ
        refine wpAnyH_ready (rs := [15]) (by kernel_rfl) (by simp) ?_
        refine AllReadyH.cons (by simp only [List.getElem?_toArray, List.getElem?_cons_succ, List.getElem?_cons_zero]; rfl) (fun K hK => ?_) AllReadyH.nil
        go_simp
        rw [HSA.out, HSB.out]
        refine (HRD.out _).mono ?_; rintro e w7 ⟨rfl, g1⟩
        replace G := Lib.hid (World.grownBy.trans G.out g1)
        replace B_x := Lib.hid (B_x.out.new g1)
        replace B_r := Lib.hid (B_r.out.new g1)
        clear g1
        unfold hdV txt
        go_wp2_with fail
        refine hK.out _ _ (trivial) (fun hHeld => ?_)
        clear hK K
        try simp only [Act.put, List.setIfInBounds_toArray, List.set_cons_zero, List.set_cons_succ]
        refine wpAnyH_take (i := 16) (v := ?_) (by simp only [List.getElem?_toArray, List.getElem?_cons_succ, List.getElem?_cons_zero]; rfl) (by kernel_rfl) (by kernel_rfl) (by kernel_rfl) (fun _ _ _ h => h) (Or.inl ⟨by rfl, ?_⟩) (by assumption) ?_
        rotate_left 1
        · intro w hSw; (try dsimp only at hSw); go_simp; all_goals (with_reducible rfl)
        try simp only [Act.put, List.setIfInBounds_toArray, List.set_cons_zero, List.set_cons_succ]
        refine wpAnyH_take (i := 17) (v := ?_) (by simp only [List.getElem?_toArray, List.getElem?_cons_succ, List.getElem?_cons_zero]; rfl) (by kernel_rfl) (by kernel_rfl) (by kernel_rfl) (fun _ _ _ h => h) (Or.inl ⟨by rfl, ?_⟩) (by assumption) ?_
        rotate_left 1
        · intro w hSw; (try dsimp only at hSw); go_simp; all_goals (with_reducible rfl)
        try simp only [Act.put, List.setIfInBounds_toArray, List.set_cons_zero, List.set_cons_succ]
        refine wpAnyH_take (i := 18) (v := ?_) (by simp only [List.getElem?_toArray, List.getElem?_cons_succ, List.getElem?_cons_zero]; rfl) (by kernel_rfl) (by kernel_rfl) (by kernel_rfl) (fun _ _ _ h => h) (Or.inl ⟨by rfl, ?_⟩) (by assumption) ?_
        rotate_left 1
        · intro w hSw; (try dsimp only at hSw); go_simp; all_goals (with_reducible rfl)
        try simp only [Act.put, List.setIfInBounds_toArray, List.set_cons_zero, List.set_cons_succ]
        have c_r_0 := B_r.out.cell (i := 0) (x := .int .i64 0) rfl
        have c_r_1 := B_r.out.cell (i := 1) (x := .int .i64 0) rfl
        have c_r_2 := B_r.out.cell (i := 2) (x := .int .i64 0) rfl
        have c_r_3 := B_r.out.cell (i := 3) (x := .string ⟨#[]⟩) rfl
        have f_r_0 := B_r.out.frozen 0
        have f_r_1 := B_r.out.frozen 1
        have f_r_2 := B_r.out.frozen 2
        have f_r_3 := B_r.out.frozen 3
        refine wpAnyH_ready (rs := [20]) (by kernel_rfl) (by simp) ?_
        refine AllReadyH.cons (by simp only [List.getElem?_toArray, List.getElem?_cons_succ, List.getElem?_cons_zero]; rfl) (fun K hK => ?_) AllReadyH.nil
        go_simp
        clear c_r_0 c_r_1 c_r_2 c_r_3 f_r_0 f_r_1 f_r_2 f_r_3
        have gs := Lib.grownBy_setB (World.grownBy.refl w7 (some K_r)) 0 (.int .i64 rc)
        replace B_x := Lib.hid (B_x.out.kept gs (by have := N_x_r.out; simp; omega))
        replace B_r := Lib.hid (B_r.out.set 0 (.int .i64 rc))
        simp only [List.setIfInBounds_toArray, List.set_cons_zero] at B_r
        replace G := Lib.hid (grown_own G.out gs (fun n hn => by cases hn; exact E_r.out))
        clear gs
        generalize w7.setCell ⟨K_r, 0, none⟩ (.int .i64 rc) = w8 at *
        have gs := Lib.grownBy_setB (World.grownBy.refl w8 (some K_r)) 1 (.int .i64 rx)
        replace B_x := Lib.hid (B_x.out.kept gs (by have := N_x_r.out; simp; omega))
        replace B_r := Lib.hid (B_r.out.set 1 (.int .i64 rx))
        simp only [List.setIfInBounds_toArray, List.set_cons_succ, List.set_cons_zero] at B_r
        replace G := Lib.hid (grown_own G.out gs (fun n hn => by cases hn; exact E_r.out))
        clear gs
        generalize w8.setCell ⟨K_r, 1, none⟩ (.int .i64 rx) = w9 at *
        have gs := Lib.grownBy_setB (World.grownBy.refl w9 (some K_r)) 2 (.int .i64 rp)
        replace B_x := Lib.hid (B_x.out.kept gs (by have := N_x_r.out; simp; omega))
        replace B_r := Lib.hid (B_r.out.set 2 (.int .i64 rp))
        simp only [List.setIfInBounds_toArray, List.set_cons_succ, List.set_cons_zero] at B_r
        replace G := Lib.hid (grown_own G.out gs (fun n hn => by cases hn; exact E_r.out))
        clear gs
        generalize w9.setCell ⟨K_r, 2, none⟩ (.int .i64 rp) = w10 at *
        have gs := Lib.grownBy_setB (World.grownBy.refl w10 (some K_r)) 3 (.string ⟨rb.toArray⟩)
        replace B_x := Lib.hid (B_x.out.kept gs (by have := N_x_r.out; simp; omega))
        replace B_r := Lib.hid (B_r.out.set 3 (.string ⟨rb.toArray⟩))
        simp only [List.setIfInBounds_toArray, List.set_cons_succ, List.set_cons_zero] at B_r
        replace G := Lib.hid (grown_own G.out gs (fun n hn => by cases hn; exact E_r.out))
        clear gs
        generalize w10.setCell ⟨K_r, 3, none⟩ (.string ⟨rb.toArray⟩) = w11 at *
        refine hK.out _ _ (trivial) (fun hHeld => ?_)
        clear hK K
        try simp only [Act.put, List.setIfInBounds_toArray, List.set_cons_zero, List.set_cons_succ]
        refine wpAnyH_ready (rs := [21]) (by kernel_rfl) (by simp) ?_
        refine AllReadyH.cons (by simp only [List.getElem?_toArray, List.getElem?_cons_succ, List.getElem?_cons_zero]; rfl) (fun K hK => ?_) AllReadyH.nil
        go_simp
        refine hK.out _ _ (trivial) (fun hHeld => ?_)
        clear hK K
        try simp only [Act.put, List.setIfInBounds_toArray, List.set_cons_zero, List.set_cons_succ]
        refine wpAnyH_done (by kernel_rfl) ?_ _
        refine NoPanic.normal ?_
        go_wp2_with fail
        go_meet
        exact ⟨K_r, rfl, rfl, G, B_x, B_r, N_x_r⟩
    · go_simp
      have hb := Blk.made wd 25 #[.int .i64 0, .int .i64 0, .int .i64 0, .string ⟨#[]⟩]
      have ga := World.grownBy_alloc wd (.cells #[.int .i64 0, .int .i64 0, .int .i64 0, .string ⟨#[]⟩] 25) none
      have hle := G.out.size
      have n_x := B_x.out.lt
      replace G := Lib.hid (World.grownBy.trans G.out ga)
      replace B_x := Lib.hid (B_x.out.new ga)
      generalize wd.alloc (.cells #[.int .i64 0, .int .i64 0, .int .i64 0, .string ⟨#[]⟩] 25) = w4 at *
      generalize wd.heap.size = K_r at *
      have N_x_r := Lib.hid n_x
      clear n_x
      have B_r := Lib.hid hb
      have E_r := Lib.hid hle
      clear hb ga hle
      refine hK.out _ _ (trivial) (fun hHeld => ?_)
      clear hK K
      try simp only [Act.put, List.setIfInBounds_toArray, List.set_cons_zero, List.set_cons_succ]
      refine wpAnyH_ready (rs := [6]) (by kernel_rfl) (by simp) ?_
      refine AllReadyH.cons (by simp only [List.getElem?_toArray, List.getElem?_cons_succ, List.getElem?_cons_zero]; rfl) (fun K hK => ?_) AllReadyH.nil
      go_simp
      have hb := Blk.made w4 3 #[.int .i64 n]
      have ga := World.grownBy_alloc w4 (.cells #[.int .i64 n] 3) none
      have hle := G.out.size
      have n_x := B_x.out.lt
      have n_r := B_r.out.lt
      replace G := Lib.hid (World.grownBy.trans G.out ga)
      replace B_x := Lib.hid (B_x.out.new ga)
      replace B_r := Lib.hid (B_r.out.new ga)
      generalize w4.alloc (.cells #[.int .i64 n] 3) = w5 at *
      generalize w4.heap.size = K_n at *
      have N_x_n := Lib.hid n_x
      clear n_x
      have N_r_n := Lib.hid n_r
      clear n_r
      have B_n := Lib.hid hb
      have E_n := Lib.hid hle
      clear hb ga hle
      refine hK.out _ _ (trivial) (fun hHeld => ?_)
      clear hK K
      try simp only [Act.put, List.setIfInBounds_toArray, List.set_cons_zero, List.set_cons_succ]
      refine wpAnyH_ready (rs := [7]) (by kernel_rfl) (by simp) ?_
      refine AllReadyH.cons (by simp only [List.getElem?_toArray, List.getElem?_cons_succ, List.getElem?_cons_zero]; rfl) (fun K hK => ?_) AllReadyH.nil
      go_simp
      refine (words_blk (c := 1) n (by have := HNN.out; omega) B_n.out).mono ?_; rintro e w6 ⟨rfl, g1⟩
      replace G := Lib.hid (World.grownBy.trans G.out g1)
      replace B_x := Lib.hid (B_x.out.new g1)
      replace B_r := Lib.hid (B_r.out.new g1)
      replace B_n := Lib.hid (B_n.out.new g1)
      clear g1
      clear B_n
      rw [HMM.out]
      go_wp2_with fail
      refine hK.out _ _ (trivial) (fun hHeld => ?_)
      clear hK K
      try simp only [Act.put, List.setIfInBounds_toArray, List.set_cons_zero, List.set_cons_succ]
      have hAM := HAM.out.1
      have hAMZ := HAM.out.2
      refine wpAnyH_take (i := 8) (v := ?_) (by simp only [List.getElem?_toArray, List.getElem?_cons_succ, List.getElem?_cons_zero]; rfl) (by kernel_rfl) (by kernel_rfl) (by kernel_rfl) (fun _ _ _ h => h) (Or.inl ⟨by rfl, ?_⟩) (by assumption) ?_
      rotate_left 1
      · intro w hSw; (try dsimp only at hSw); go_simp; all_goals (with_reducible rfl)
      try simp only [Act.put, List.setIfInBounds_toArray, List.set_cons_zero, List.set_cons_succ]
      refine wpAnyH_take (i := 14) (v := ?_) (by simp only [List.getElem?_toArray, List.getElem?_cons_succ, List.getElem?_cons_zero]; rfl) (by kernel_rfl) (by kernel_rfl) (by kernel_rfl) (fun _ _ _ h => h) (Or.inl ⟨by rfl, ?_⟩) (by assumption) ?_
      rotate_left 1
      · intro w hSw; (try dsimp only at hSw); go_simp; all_goals (with_reducible rfl)
      try simp only [Act.put, List.setIfInBounds_toArray, List.set_cons_zero, List.set_cons_succ]
      clear hAM hAMZ
      refine wpAnyH_ready (rs := [15]) (by kernel_rfl) (by simp) ?_
      refine AllReadyH.cons (by simp only [List.getElem?_toArray, List.getElem?_cons_succ, List.getElem?_cons_zero]; rfl) (fun K hK => ?_) AllReadyH.nil
      go_simp
      rw [HSA.out, HSB.out]
      refine (HRD.out _).mono ?_; rintro e w7 ⟨rfl, g1⟩
      replace G := Lib.hid (World.grownBy.trans G.out g1)
      replace B_x := Lib.hid (B_x.out.new g1)
      replace B_r := Lib.hid (B_r.out.new g1)
      clear g1
      unfold hdV txt
      go_wp2_with fail
      refine hK.out _ _ (trivial) (fun hHeld => ?_)
      clear hK K
      try simp only [Act.put, List.setIfInBounds_toArray, List.set_cons_zero, List.set_cons_succ]
      refine wpAnyH_take (i := 16) (v := ?_) (by simp only [List.getElem?_toArray, List.getElem?_cons_succ, List.getElem?_cons_zero]; rfl) (by kernel_rfl) (by kernel_rfl) (by kernel_rfl) (fun _ _ _ h => h) (Or.inl ⟨by rfl, ?_⟩) (by assumption) ?_
      rotate_left 1
      · intro w hSw; (try dsimp only at hSw); go_simp; all_goals (with_reducible rfl)
      try simp only [Act.put, List.setIfInBounds_toArray, List.set_cons_zero, List.set_cons_succ]
      refine wpAnyH_take (i := 17) (v := ?_) (by simp only [List.getElem?_toArray, List.getElem?_cons_succ, List.getElem?_cons_zero]; rfl) (by kernel_rfl) (by kernel_rfl) (by kernel_rfl) (fun _ _ _ h => h) (Or.inl ⟨by rfl, ?_⟩) (by assumption) ?_
      rotate_left 1
      · intro w hSw; (try dsimp only at hSw); go_simp; all_goals (with_reducible rfl)
      try simp only [Act.put, List.setIfInBounds_toArray, List.set_cons_zero, List.set_cons_succ]
      refine wpAnyH_take (i := 18) (v := ?_) (by simp only [List.getElem?_toArray, List.getElem?_cons_succ, List.getElem?_cons_zero]; rfl) (by kernel_rfl) (by kernel_rfl) (by kernel_rfl) (fun _ _ _ h => h) (Or.inl ⟨by rfl, ?_⟩) (by assumption) ?_
      rotate_left 1
      · intro w hSw; (try dsimp only at hSw); go_simp; all_goals (with_reducible rfl)
      try simp only [Act.put, List.setIfInBounds_toArray, List.set_cons_zero, List.set_cons_succ]
      have c_r_0 := B_r.out.cell (i := 0) (x := .int .i64 0) rfl
      have c_r_1 := B_r.out.cell (i := 1) (x := .int .i64 0) rfl
      have c_r_2 := B_r.out.cell (i := 2) (x := .int .i64 0) rfl
      have c_r_3 := B_r.out.cell (i := 3) (x := .string ⟨#[]⟩) rfl
      have f_r_0 := B_r.out.frozen 0
      have f_r_1 := B_r.out.frozen 1
      have f_r_2 := B_r.out.frozen 2
      have f_r_3 := B_r.out.frozen 3
      refine wpAnyH_ready (rs := [20]) (by kernel_rfl) (by simp) ?_
      refine AllReadyH.cons (by simp only [List.getElem?_toArray, List.getElem?_cons_succ, List.getElem?_cons_zero]; rfl) (fun K hK => ?_) AllReadyH.nil
      go_simp
      clear c_r_0 c_r_1 c_r_2 c_r_3 f_r_0 f_r_1 f_r_2 f_r_3
      have gs := Lib.grownBy_setB (World.grownBy.refl w7 (some K_r)) 0 (.int .i64 rc)
      replace B_x := Lib.hid (B_x.out.kept gs (by have := N_x_r.out; simp; omega))
      replace B_r := Lib.hid (B_r.out.set 0 (.int .i64 rc))
      simp only [List.setIfInBounds_toArray, List.set_cons_zero] at B_r
      replace G := Lib.hid (grown_own G.out gs (fun n hn => by cases hn; exact E_r.out))
      clear gs
      generalize w7.setCell ⟨K_r, 0, none⟩ (.int .i64 rc) = w8 at *
      have gs := Lib.grownBy_setB (World.grownBy.refl w8 (some K_r)) 1 (.int .i64 rx)
      replace B_x := Lib.hid (B_x.out.kept gs (by have := N_x_r.out; simp; omega))
      replace B_r := Lib.hid (B_r.out.set 1 (.int .i64 rx))
      simp only [List.setIfInBounds_toArray, List.set_cons_succ, List.set_cons_zero] at B_r
      replace G := Lib.hid (grown_own G.out gs (fun n hn => by cases hn; exact E_r.out))
      clear gs
      generalize w8.setCell ⟨K_r, 1, none⟩ (.int .i64 rx) = w9 at *
      have gs := Lib.grownBy_setB (World.grownBy.refl w9 (some K_r)) 2 (.int .i64 rp)
      replace B_x := Lib.hid (B_x.out.kept gs (by have := N_x_r.out; simp; omega))
      replace B_r := Lib.hid (B_r.out.set 2 (.int .i64 rp))
      simp only [List.setIfInBounds_toArray, List.set_cons_succ, List.set_cons_zero] at B_r
      replace G := Lib.hid (grown_own G.out gs (fun n hn => by cases hn; exact E_r.out))
      clear gs
      generalize w9.setCell ⟨K_r, 2, none⟩ (.int .i64 rp) = w10 at *
      have gs := Lib.grownBy_setB (World.grownBy.refl w10 (some K_r)) 3 (.string ⟨rb.toArray⟩)
      replace B_x := Lib.hid (B_x.out.kept gs (by have := N_x_r.out; simp; omega))
      replace B_r := Lib.hid (B_r.out.set 3 (.string ⟨rb.toArray⟩))
      simp only [List.setIfInBounds_toArray, List.set_cons_succ, List.set_cons_zero] at B_r
      replace G := Lib.hid (grown_own G.out gs (fun n hn => by cases hn; exact E_r.out))
      clear gs
      generalize w10.setCell ⟨K_r, 3, none⟩ (.string ⟨rb.toArray⟩) = w11 at *
      refine hK.out _ _ (trivial) (fun hHeld => ?_)
      clear hK K
      try simp only [Act.put, List.setIfInBounds_toArray, List.set_cons_zero, List.set_cons_succ]
      refine wpAnyH_ready (rs := [21]) (by kernel_rfl) (by simp) ?_
      refine AllReadyH.cons (by simp only [List.getElem?_toArray, List.getElem?_cons_succ, List.getElem?_cons_zero]; rfl) (fun K hK => ?_) AllReadyH.nil
      go_simp
      refine hK.out _ _ (trivial) (fun hHeld => ?_)
      clear hK K
      try simp only [Act.put, List.setIfInBounds_toArray, List.set_cons_zero, List.set_cons_succ]
      refine wpAnyH_done (by kernel_rfl) ?_ _
      refine NoPanic.normal ?_
      go_wp2_with fail
      go_meet
      exact ⟨K_r, rfl, rfl, G, B_x, B_r, N_x_r⟩
  case rest =>
    obtain ⟨K_r, rfl, rfl, G, B_x, B_r, N_x_r⟩ := hcut
    have N_r_x := N_x_r
    clear hw1 hw2 he1 he2 hb1 hb2 HRD HSA HSB HAM HMM HNN HW1 hp2
    unfold WordSays1 at HJ
    rcases HJ.out with ⟨rfl, hr⟩ | ⟨hz, hr⟩
    · skip
      try unfold noHd at hr
      simp only [Prod.mk.injEq, Hd.mk.injEq] at hr
      obtain ⟨⟨z1, z2, z3, z4⟩, z5⟩ := hr
      replace z1 := z1.symm
      replace z2 := z2.symm
      replace z3 := z3.symm
      replace z4 := z4.symm
      replace z5 := z5.symm
      subst z1 z2 z3 z4 z5
      clear HJ
      have c_x_0 := B_x.out.cell (i := 0) (x := .int .i64 c) rfl
      have c_x_1 := B_x.out.cell (i := 1) (x := .int .i64 x) rfl
      have c_x_2 := B_x.out.cell (i := 2) (x := .int .i64 p) rfl
      have c_x_3 := B_x.out.cell (i := 3) (x := .string ⟨b.toArray⟩) rfl
      have c_r_0 := B_r.out.cell (i := 0) (x := .int .i64 c) rfl
      have c_r_1 := B_r.out.cell (i := 1) (x := .int .i64 x) rfl
      have c_r_2 := B_r.out.cell (i := 2) (x := .int .i64 p) rfl
      have c_r_3 := B_r.out.cell (i := 3) (x := .string ⟨b.toArray⟩) rfl
      go_wp2_with fail
      go_ret
      exact ⟨rfl, G.out⟩
    · skip
      try unfold noHd at hr
      simp only [Prod.mk.injEq, Hd.mk.injEq] at hr
      obtain ⟨⟨z1, z2, z3, z4⟩, z5⟩ := hr
      replace z1 := z1.symm
      replace z2 := z2.symm
      replace z3 := z3.symm
      replace z4 := z4.symm
      replace z5 := z5.symm
      subst z1 z2 z3 z4 z5
      clear HJ
      have hz2 : ((n : Int) != 0) = true := by simp at hz ⊢; omega
      generalize (n : Int) = m at *
      have c_x_0 := B_x.out.cell (i := 0) (x := .int .i64 c) rfl
      have c_x_1 := B_x.out.cell (i := 1) (x := .int .i64 x) rfl
      have c_x_2 := B_x.out.cell (i := 2) (x := .int .i64 p) rfl
      have c_x_3 := B_x.out.cell (i := 3) (x := .string ⟨b.toArray⟩) rfl
      have c_r_0 := B_r.out.cell (i := 0) (x := .int .i64 0) rfl
      have c_r_1 := B_r.out.cell (i := 1) (x := .int .i64 0) rfl
      have c_r_2 := B_r.out.cell (i := 2) (x := .int .i64 0) rfl
      have c_r_3 := B_r.out.cell (i := 3) (x := .string ⟨#[]⟩) rfl
      go_wp2_with fail
      go_ret
      exact ⟨rfl, G.out⟩
end Go.Proofs.Ytkhlmfnfcdhceaa
