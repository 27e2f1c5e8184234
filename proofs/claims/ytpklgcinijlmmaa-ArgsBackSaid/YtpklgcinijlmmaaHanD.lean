/- The document's Decode. -/
import Derived.Test.YtpklgcinijlmmaaHanE
import Derived.Deep.DeepCutAuto
namespace Go.Proofs.Ytpklgcinijlmmaa
open Go.RowKit

theorem extract_mid (l : List UInt8) (a b : Nat) : (⟨l.toArray⟩ : ByteArray).extract a b = ⟨((l.drop a).take (b - a)).toArray⟩ := by
  apply ByteArray.ext
  apply Array.ext'
  rw [ByteArray.data_extract, Array.toList_extract, List.extract_eq_take_drop]

theorem four_at (l : List UInt8) (k : Nat) (h : k + 4 ≤ l.length) : (l.drop k).take 4 = [l.getD k 0, l.getD (k + 1) 0, l.getD (k + 2) 0, l.getD (k + 3) 0] := by
  apply List.ext_getElem?
  intro i
  match i with
  | 0 => simp [List.getElem?_drop, List.getD, List.getElem?_eq_getElem (show k < l.length by omega)]
  | 1 => simp [List.getElem?_drop, List.getD, List.getElem?_eq_getElem (show k + 1 < l.length by omega)]
  | 2 => simp [List.getElem?_drop, List.getD, List.getElem?_eq_getElem (show k + 2 < l.length by omega)]
  | 3 => simp [List.getElem?_drop, List.getD, List.getElem?_eq_getElem (show k + 3 < l.length by omega)]
  | i + 4 => simp [List.getElem?_take]; intro q; omega

theorem number_at (l : List UInt8) (k : Nat) (w : World) : Calls Try.prog 104 #[.string ⟨[l.getD k 0, l.getD (k + 1) 0, l.getD (k + 2) 0, l.getD (k + 3) 0].toArray⟩] w fun e w' => e = .returned (.int .i64 (numAt l k)) ∧ w.grownBy w' none := by
  have h := rnumber_any (l.getD k 0) (l.getD (k + 1) 0) (l.getD (k + 2) 0) (l.getD (k + 3) 0) w
  have e : ((numAt l k : Nat) : Int) = num4 (l.getD k 0).toNat (l.getD (k + 1) 0).toNat (l.getD (k + 2) 0).toNat (l.getD (k + 3) 0).toNat := Int.toNat_of_nonneg (num4_lt _ _ _ _ (UInt8.toNat_lt _) (UInt8.toNat_lt _) (UInt8.toNat_lt _) (UInt8.toNat_lt _)).1
  rw [← e] at h
  exact h

set_option maxRecDepth 10000 in
set_option maxHeartbeats 1000000 in
theorem rdec_off (l : List UInt8) (w : World) (h : l.length ≠ 24) (hm : l.length ≤ maxLen) : Calls Try.prog 93 #[.string ⟨l.toArray⟩] w (HT w (noHn, 4)) := by
  have h1 : ((l.length : Int) != 24) = true := by simp; omega
  have h2 : (l.length : Int) ≤ 9223372036854775807 := by unfold maxLen at hm; omega
  clear h hm
  go_enter Try.func93, Try.ntmps93
  go_wp2_with fail
  exact bodyPost_ret (v := .tuple #[hnV noHn, .int .i64 4]) (by simp [results, Try.results93, go_sem, hnV, noHn]) rfl ⟨rfl, World.grownBy_alloc _ _ _⟩

set_option maxRecDepth 10000 in
set_option maxHeartbeats 6000000 in
theorem rdec_on (l : List UInt8) (w : World) (h : l.length = 24) (p : Hn × Int) (t : List UInt8) (f : Int) (n1 n2 n3 : Int) (hn : n1 = numAt l 4 ∧ n2 = numAt l 8 ∧ n3 = numAt l 12) (he : hEnc fnv ⟨n1, n2, n3⟩ = (t, f))
    (hp : (f != 0) = true ∧ p = (noHn, 4) ∨ f = 0 ∧ (t == l) = false ∧ p = (noHn, 4) ∨ f = 0 ∧ t = l ∧ p = (⟨n1, n2, n3⟩, 0)) :
    Calls Try.prog 93 #[.string ⟨l.toArray⟩] w (HT w p) := by
  have HN1 := Lib.hid (fun w => number_at l 4 w)
  have HN2 := Lib.hid (fun w => number_at l 8 w)
  have HN3 := Lib.hid (fun w => number_at l 12 w)
  rw [← hn.1] at HN1
  rw [← hn.2.1] at HN2
  rw [← hn.2.2] at HN3
  have HE := Lib.hid (fun w => rEnc_any ⟨n1, n2, n3⟩ w)
  rw [he] at HE
  unfold hnV at HE
  have x1 := extract_mid l 4 8
  have x2 := extract_mid l 8 12
  have x3 := extract_mid l 12 16
  rw [show 8 - 4 = 4 from rfl, four_at l 4 (by omega)] at x1
  rw [show 12 - 8 = 4 from rfl, four_at l 8 (by omega)] at x2
  rw [show 16 - 12 = 4 from rfl, four_at l 12 (by omega)] at x3
  have HP := Lib.hid hp
  have hl24 : ((l.length : Nat) : Int) = 24 := by omega
  have hb1 : (8 : Int) ≤ l.length := by omega
  have hb2 : (12 : Int) ≤ l.length := by omega
  have hb3 : (16 : Int) ≤ l.length := by omega
  clear h hn he hp
  generalize l.getD 4 0 = a4 at *
  generalize l.getD (4 + 1) 0 = a5 at *
  generalize l.getD (4 + 2) 0 = a6 at *
  generalize l.getD (4 + 3) 0 = a7 at *
  generalize l.getD 8 0 = a8 at *
  generalize l.getD (8 + 1) 0 = a9 at *
  generalize l.getD (8 + 2) 0 = a10 at *
  generalize l.getD (8 + 3) 0 = a11 at *
  generalize l.getD 12 0 = a12 at *
  generalize l.getD (12 + 1) 0 = a13 at *
  generalize l.getD (12 + 2) 0 = a14 at *
  generalize l.getD (12 + 3) 0 = a15 at *
  go_enter Try.func93, Try.ntmps93
  go_upto_region 3 with fail
  have hR := Blk.made w 24 #[.int .i64 0, .int .i64 0, .int .i64 0]
  have ga := World.grownBy_alloc w (.cells #[.int .i64 0, .int .i64 0, .int .i64 0] 24) none
  have B_r := Lib.hid hR
  have G := Lib.hid ga
  obtain ⟨R, hRR⟩ : ∃ R, R = w.heap.size := ⟨_, rfl⟩
  have E_r := Lib.hid (Nat.le_of_eq hRR.symm)
  rw [← hRR] at B_r ⊢
  clear hR ga hRR
  generalize w.alloc (.cells #[.int .i64 0, .int .i64 0, .int .i64 0] 24) = w0 at *
  go_cut [4] (fun v4 wx => ∃ H, v4 = .pointer (some ⟨H, 0, none⟩) ∧ Hid (w.grownBy wx none) ∧ Hid (Blk wx R 24 #[.int .i64 0, .int .i64 0, .int .i64 0]) ∧ Hid (Blk wx H 24 #[.int .i64 n1, .int .i64 n2, .int .i64 n3]) ∧ Hid (R < H) ∧ Hid (w.heap.size ≤ R))
  case first =>
    refine wp_region_noPanic ?_
    refine wp_region_held_drew (S := fun w' => True) (by kernel_rfl) (trivial) (fun hHeld => ?_)
    have hN : w0.grownBy w0.drew none := drew_grown _ _
    replace G := Lib.hid (World.grownBy.trans G.out hN)
    replace B_r := Lib.hid (B_r.out.new hN)
    clear hN
    generalize w0.drew = wd at *
    refine wpAnyH_take (i := 0) (v := ?_) (by simp only [List.getElem?_toArray, List.getElem?_cons_zero]; rfl) (by kernel_rfl) (by kernel_rfl) (by kernel_rfl) (fun _ _ _ h => h) (Or.inl ⟨by rfl, ?_⟩) (by assumption) ?_
    rotate_left 1
    · intro w hSw; (try dsimp only at hSw); go_simp; all_goals (with_reducible rfl)
    try simp only [Act.put, List.setIfInBounds_toArray, List.set_cons_zero, List.set_cons_succ]
    refine wpAnyH_take (i := 1) (v := ?_) (by simp only [List.getElem?_toArray, List.getElem?_cons_succ, List.getElem?_cons_zero]; rfl) (by kernel_rfl) (by kernel_rfl) (by kernel_rfl) (fun _ _ _ h => h) (Or.inl ⟨by rfl, ?_⟩) (by assumption) ?_
    rotate_left 1
    · intro w hSw; (try dsimp only at hSw); go_simp; all_goals (with_reducible rfl)
    try simp only [Act.put, List.setIfInBounds_toArray, List.set_cons_zero, List.set_cons_succ]
    refine wpAnyH_take (i := 3) (v := ?_) (by simp only [List.getElem?_toArray, List.getElem?_cons_succ, List.getElem?_cons_zero]; rfl) (by kernel_rfl) (by kernel_rfl) (by kernel_rfl) (fun _ _ _ h => h) (Or.inl ⟨by rfl, ?_⟩) (by assumption) ?_
    rotate_left 1
    · intro w hSw; (try dsimp only at hSw); go_simp; all_goals (with_reducible rfl)
    try simp only [Act.put, List.setIfInBounds_toArray, List.set_cons_zero, List.set_cons_succ]
    refine wpAnyH_take (i := 4) (v := ?_) (by simp only [List.getElem?_toArray, List.getElem?_cons_succ, List.getElem?_cons_zero]; rfl) (by kernel_rfl) (by kernel_rfl) (by kernel_rfl) (fun _ _ _ h => h) (Or.inl ⟨by rfl, ?_⟩) (by assumption) ?_
    rotate_left 1
    · intro w hSw; (try dsimp only at hSw); go_simp; all_goals (with_reducible rfl)
    try simp only [Act.put, List.setIfInBounds_toArray, List.set_cons_zero, List.set_cons_succ]
    refine wpAnyH_take (i := 6) (v := ?_) (by simp only [List.getElem?_toArray, List.getElem?_cons_succ, List.getElem?_cons_zero]; rfl) (by kernel_rfl) (by kernel_rfl) (by kernel_rfl) (fun _ _ _ h => h) (Or.inl ⟨by rfl, ?_⟩) (by assumption) ?_
    rotate_left 1
    · intro w hSw; (try dsimp only at hSw); go_simp; all_goals (with_reducible rfl)
    try simp only [Act.put, List.setIfInBounds_toArray, List.set_cons_zero, List.set_cons_succ]
    refine wpAnyH_take (i := 7) (v := ?_) (by simp only [List.getElem?_toArray, List.getElem?_cons_succ, List.getElem?_cons_zero]; rfl) (by kernel_rfl) (by kernel_rfl) (by kernel_rfl) (fun _ _ _ h => h) (Or.inl ⟨by rfl, ?_⟩) (by assumption) ?_
    rotate_left 1
    · intro w hSw; (try dsimp only at hSw); go_simp; all_goals (with_reducible rfl)
    try simp only [Act.put, List.setIfInBounds_toArray, List.set_cons_zero, List.set_cons_succ]
    clear hl24 x1 x2 x3 hb1 hb2 hb3
    refine wpAnyH_ready (rs := [2, 10]) (by kernel_rfl) (by simp) ?_
    refine AllReadyH.cons (by simp only [List.getElem?_toArray, List.getElem?_cons_succ, List.getElem?_cons_zero]; rfl) (fun K hK => ?_) (AllReadyH.cons (by simp only [List.getElem?_toArray, List.getElem?_cons_succ, List.getElem?_cons_zero]; rfl) (fun K hK => ?_) AllReadyH.nil)
    · go_simp
      refine (HN1.out _).mono ?_; rintro e w1 ⟨rfl, g1⟩
      replace G := Lib.hid (World.grownBy.trans G.out g1)
      replace B_r := Lib.hid (B_r.out.new g1)
      clear g1
      go_wp2_with fail
      refine hK.out _ _ (trivial) (fun hHeld => ?_)
      clear hK K
      try simp only [Act.put, List.setIfInBounds_toArray, List.set_cons_zero, List.set_cons_succ]
      refine wpAnyH_ready (rs := [5, 10]) (by kernel_rfl) (by simp) ?_
      refine AllReadyH.cons (by simp only [List.getElem?_toArray, List.getElem?_cons_succ, List.getElem?_cons_zero]; rfl) (fun K hK => ?_) (AllReadyH.cons (by simp only [List.getElem?_toArray, List.getElem?_cons_succ, List.getElem?_cons_zero]; rfl) (fun K hK => ?_) AllReadyH.nil)
      · go_simp
        refine (HN2.out _).mono ?_; rintro e w2 ⟨rfl, g1⟩
        replace G := Lib.hid (World.grownBy.trans G.out g1)
        replace B_r := Lib.hid (B_r.out.new g1)
        clear g1
        go_wp2_with fail
        refine hK.out _ _ (trivial) (fun hHeld => ?_)
        clear hK K
        try simp only [Act.put, List.setIfInBounds_toArray, List.set_cons_zero, List.set_cons_succ]
        refine wpAnyH_ready (rs := [8, 10]) (by kernel_rfl) (by simp) ?_
        refine AllReadyH.cons (by simp only [List.getElem?_toArray, List.getElem?_cons_succ, List.getElem?_cons_zero]; rfl) (fun K hK => ?_) (AllReadyH.cons (by simp only [List.getElem?_toArray, List.getElem?_cons_succ, List.getElem?_cons_zero]; rfl) (fun K hK => ?_) AllReadyH.nil)
        · go_simp
          refine (HN3.out _).mono ?_; rintro e w3 ⟨rfl, g1⟩
          replace G := Lib.hid (World.grownBy.trans G.out g1)
          replace B_r := Lib.hid (B_r.out.new g1)
          clear g1
          go_wp2_with fail
          refine hK.out _ _ (trivial) (fun hHeld => ?_)
          clear hK K
          try simp only [Act.put, List.setIfInBounds_toArray, List.set_cons_zero, List.set_cons_succ]
          refine wpAnyH_take (i := 9) (v := ?_) (by simp only [List.getElem?_toArray, List.getElem?_cons_succ, List.getElem?_cons_zero]; rfl) (by kernel_rfl) (by kernel_rfl) (by kernel_rfl) (fun _ _ _ h => h) (Or.inl ⟨by rfl, ?_⟩) (by assumption) ?_
          rotate_left 1
          · intro w hSw; (try dsimp only at hSw); go_simp; all_goals (with_reducible rfl)
          try simp only [Act.put, List.setIfInBounds_toArray, List.set_cons_zero, List.set_cons_succ]
          refine wpAnyH_ready (rs := [10]) (by kernel_rfl) (by simp) ?_
          refine AllReadyH.cons (by simp only [List.getElem?_toArray, List.getElem?_cons_succ, List.getElem?_cons_zero]; rfl) (fun K hK => ?_) AllReadyH.nil
          go_simp
          have hb := Blk.made w3 24 #[.int .i64 0, .int .i64 0, .int .i64 0]
          have ga := World.grownBy_alloc w3 (.cells #[.int .i64 0, .int .i64 0, .int .i64 0] 24) none
          have hle := G.out.size
          have n_r := B_r.out.lt
          replace G := Lib.hid (World.grownBy.trans G.out ga)
          replace B_r := Lib.hid (B_r.out.new ga)
          generalize w3.alloc (.cells #[.int .i64 0, .int .i64 0, .int .i64 0] 24) = w4 at *
          generalize w3.heap.size = K_h at *
          have N_r_h := Lib.hid n_r
          clear n_r
          have B_h := Lib.hid hb
          have E_h := Lib.hid hle
          clear hb ga hle
          refine hK.out _ _ (trivial) (fun hHeld => ?_)
          clear hK K
          try simp only [Act.put, List.setIfInBounds_toArray, List.set_cons_zero, List.set_cons_succ]
          have c_h_0 := B_h.out.cell (i := 0) (x := .int .i64 0) rfl
          have c_h_1 := B_h.out.cell (i := 1) (x := .int .i64 0) rfl
          have c_h_2 := B_h.out.cell (i := 2) (x := .int .i64 0) rfl
          have f_h_0 := B_h.out.frozen 0
          have f_h_1 := B_h.out.frozen 1
          have f_h_2 := B_h.out.frozen 2
          refine wpAnyH_ready (rs := [11]) (by kernel_rfl) (by simp) ?_
          refine AllReadyH.cons (by simp only [List.getElem?_toArray, List.getElem?_cons_succ, List.getElem?_cons_zero]; rfl) (fun K hK => ?_) AllReadyH.nil
          go_simp
          clear c_h_0 c_h_1 c_h_2 f_h_0 f_h_1 f_h_2
          have gs := Lib.grownBy_setB (World.grownBy.refl w4 (some K_h)) 0 (.int .i64 n1)
          replace B_r := Lib.hid (B_r.out.kept gs (by have := N_r_h.out; simp; omega))
          replace B_h := Lib.hid (B_h.out.set 0 (.int .i64 n1))
          simp only [List.setIfInBounds_toArray, List.set_cons_zero] at B_h
          replace G := Lib.hid (grown_own G.out gs (fun n hn => by cases hn; exact E_h.out))
          clear gs
          generalize w4.setCell ⟨K_h, 0, none⟩ (.int .i64 n1) = w5 at *
          have gs := Lib.grownBy_setB (World.grownBy.refl w5 (some K_h)) 1 (.int .i64 n2)
          replace B_r := Lib.hid (B_r.out.kept gs (by have := N_r_h.out; simp; omega))
          replace B_h := Lib.hid (B_h.out.set 1 (.int .i64 n2))
          simp only [List.setIfInBounds_toArray, List.set_cons_succ, List.set_cons_zero] at B_h
          replace G := Lib.hid (grown_own G.out gs (fun n hn => by cases hn; exact E_h.out))
          clear gs
          generalize w5.setCell ⟨K_h, 1, none⟩ (.int .i64 n2) = w6 at *
          have gs := Lib.grownBy_setB (World.grownBy.refl w6 (some K_h)) 2 (.int .i64 n3)
          replace B_r := Lib.hid (B_r.out.kept gs (by have := N_r_h.out; simp; omega))
          replace B_h := Lib.hid (B_h.out.set 2 (.int .i64 n3))
          simp only [List.setIfInBounds_toArray, List.set_cons_succ, List.set_cons_zero] at B_h
          replace G := Lib.hid (grown_own G.out gs (fun n hn => by cases hn; exact E_h.out))
          clear gs
          generalize w6.setCell ⟨K_h, 2, none⟩ (.int .i64 n3) = w7 at *
          refine hK.out _ _ (trivial) (fun hHeld => ?_)
          clear hK K
          try simp only [Act.put, List.setIfInBounds_toArray, List.set_cons_zero, List.set_cons_succ]
          refine wpAnyH_done (by kernel_rfl) ?_ _
          refine NoPanic.normal ?_
          go_wp2_with fail
          go_meet
          exact ⟨K_h, rfl, G, B_r, B_h, N_r_h, E_r⟩
        · go_simp
          have hb := Blk.made w2 24 #[.int .i64 0, .int .i64 0, .int .i64 0]
          have ga := World.grownBy_alloc w2 (.cells #[.int .i64 0, .int .i64 0, .int .i64 0] 24) none
          have hle := G.out.size
          have n_r := B_r.out.lt
          replace G := Lib.hid (World.grownBy.trans G.out ga)
          replace B_r := Lib.hid (B_r.out.new ga)
          generalize w2.alloc (.cells #[.int .i64 0, .int .i64 0, .int .i64 0] 24) = w3 at *
          generalize w2.heap.size = K_h at *
          have N_r_h := Lib.hid n_r
          clear n_r
          have B_h := Lib.hid hb
          have E_h := Lib.hid hle
          clear hb ga hle
          refine hK.out _ _ (trivial) (fun hHeld => ?_)
          clear hK K
          try simp only [Act.put, List.setIfInBounds_toArray, List.set_cons_zero, List.set_cons_succ]
          refine wpAnyH_ready (rs := [8]) (by kernel_rfl) (by simp) ?_
          refine AllReadyH.cons (by simp only [List.getElem?_toArray, List.getElem?_cons_succ, List.getElem?_cons_zero]; rfl) (fun K hK => ?_) AllReadyH.nil
          go_simp
          refine (HN3.out _).mono ?_; rintro e w4 ⟨rfl, g1⟩
          replace G := Lib.hid (World.grownBy.trans G.out g1)
          replace B_r := Lib.hid (B_r.out.new g1)
          replace B_h := Lib.hid (B_h.out.new g1)
          clear g1
          go_wp2_with fail
          refine hK.out _ _ (trivial) (fun hHeld => ?_)
          clear hK K
          try simp only [Act.put, List.setIfInBounds_toArray, List.set_cons_zero, List.set_cons_succ]
          refine wpAnyH_take (i := 9) (v := ?_) (by simp only [List.getElem?_toArray, List.getElem?_cons_succ, List.getElem?_cons_zero]; rfl) (by kernel_rfl) (by kernel_rfl) (by kernel_rfl) (fun _ _ _ h => h) (Or.inl ⟨by rfl, ?_⟩) (by assumption) ?_
          rotate_left 1
          · intro w hSw; (try dsimp only at hSw); go_simp; all_goals (with_reducible rfl)
          try simp only [Act.put, List.setIfInBounds_toArray, List.set_cons_zero, List.set_cons_succ]
          have c_h_0 := B_h.out.cell (i := 0) (x := .int .i64 0) rfl
          have c_h_1 := B_h.out.cell (i := 1) (x := .int .i64 0) rfl
          have c_h_2 := B_h.out.cell (i := 2) (x := .int .i64 0) rfl
          have f_h_0 := B_h.out.frozen 0
          have f_h_1 := B_h.out.frozen 1
          have f_h_2 := B_h.out.frozen 2
          refine wpAnyH_ready (rs := [11]) (by kernel_rfl) (by simp) ?_
          refine AllReadyH.cons (by simp only [List.getElem?_toArray, List.getElem?_cons_succ, List.getElem?_cons_zero]; rfl) (fun K hK => ?_) AllReadyH.nil
          go_simp
          clear c_h_0 c_h_1 c_h_2 f_h_0 f_h_1 f_h_2
          have gs := Lib.grownBy_setB (World.grownBy.refl w4 (some K_h)) 0 (.int .i64 n1)
          replace B_r := Lib.hid (B_r.out.kept gs (by have := N_r_h.out; simp; omega))
          replace B_h := Lib.hid (B_h.out.set 0 (.int .i64 n1))
          simp only [List.setIfInBounds_toArray, List.set_cons_zero] at B_h
          replace G := Lib.hid (grown_own G.out gs (fun n hn => by cases hn; exact E_h.out))
          clear gs
          generalize w4.setCell ⟨K_h, 0, none⟩ (.int .i64 n1) = w5 at *
          have gs := Lib.grownBy_setB (World.grownBy.refl w5 (some K_h)) 1 (.int .i64 n2)
          replace B_r := Lib.hid (B_r.out.kept gs (by have := N_r_h.out; simp; omega))
          replace B_h := Lib.hid (B_h.out.set 1 (.int .i64 n2))
          simp only [List.setIfInBounds_toArray, List.set_cons_succ, List.set_cons_zero] at B_h
          replace G := Lib.hid (grown_own G.out gs (fun n hn => by cases hn; exact E_h.out))
          clear gs
          generalize w5.setCell ⟨K_h, 1, none⟩ (.int .i64 n2) = w6 at *
          have gs := Lib.grownBy_setB (World.grownBy.refl w6 (some K_h)) 2 (.int .i64 n3)
          replace B_r := Lib.hid (B_r.out.kept gs (by have := N_r_h.out; simp; omega))
          replace B_h := Lib.hid (B_h.out.set 2 (.int .i64 n3))
          simp only [List.setIfInBounds_toArray, List.set_cons_succ, List.set_cons_zero] at B_h
          replace G := Lib.hid (grown_own G.out gs (fun n hn => by cases hn; exact E_h.out))
          clear gs
          generalize w6.setCell ⟨K_h, 2, none⟩ (.int .i64 n3) = w7 at *
          refine hK.out _ _ (trivial) (fun hHeld => ?_)
          clear hK K
          try simp only [Act.put, List.setIfInBounds_toArray, List.set_cons_zero, List.set_cons_succ]
          refine wpAnyH_done (by kernel_rfl) ?_ _
          refine NoPanic.normal ?_
          go_wp2_with fail
          go_meet
          exact ⟨K_h, rfl, G, B_r, B_h, N_r_h, E_r⟩
      · go_simp
        have hb := Blk.made w1 24 #[.int .i64 0, .int .i64 0, .int .i64 0]
        have ga := World.grownBy_alloc w1 (.cells #[.int .i64 0, .int .i64 0, .int .i64 0] 24) none
        have hle := G.out.size
        have n_r := B_r.out.lt
        replace G := Lib.hid (World.grownBy.trans G.out ga)
        replace B_r := Lib.hid (B_r.out.new ga)
        generalize w1.alloc (.cells #[.int .i64 0, .int .i64 0, .int .i64 0] 24) = w2 at *
        generalize w1.heap.size = K_h at *
        have N_r_h := Lib.hid n_r
        clear n_r
        have B_h := Lib.hid hb
        have E_h := Lib.hid hle
        clear hb ga hle
        refine hK.out _ _ (trivial) (fun hHeld => ?_)
        clear hK K
        try simp only [Act.put, List.setIfInBounds_toArray, List.set_cons_zero, List.set_cons_succ]
        refine wpAnyH_ready (rs := [5]) (by kernel_rfl) (by simp) ?_
        refine AllReadyH.cons (by simp only [List.getElem?_toArray, List.getElem?_cons_succ, List.getElem?_cons_zero]; rfl) (fun K hK => ?_) AllReadyH.nil
        go_simp
        refine (HN2.out _).mono ?_; rintro e w3 ⟨rfl, g1⟩
        replace G := Lib.hid (World.grownBy.trans G.out g1)
        replace B_r := Lib.hid (B_r.out.new g1)
        replace B_h := Lib.hid (B_h.out.new g1)
        clear g1
        go_wp2_with fail
        refine hK.out _ _ (trivial) (fun hHeld => ?_)
        clear hK K
        try simp only [Act.put, List.setIfInBounds_toArray, List.set_cons_zero, List.set_cons_succ]
        refine wpAnyH_ready (rs := [8]) (by kernel_rfl) (by simp) ?_
        refine AllReadyH.cons (by simp only [List.getElem?_toArray, List.getElem?_cons_succ, List.getElem?_cons_zero]; rfl) (fun K hK => ?_) AllReadyH.nil
        go_simp
        refine (HN3.out _).mono ?_; rintro e w4 ⟨rfl, g1⟩
        replace G := Lib.hid (World.grownBy.trans G.out g1)
        replace B_r := Lib.hid (B_r.out.new g1)
        replace B_h := Lib.hid (B_h.out.new g1)
        clear g1
        go_wp2_with fail
        refine hK.out _ _ (trivial) (fun hHeld => ?_)
        clear hK K
        try simp only [Act.put, List.setIfInBounds_toArray, List.set_cons_zero, List.set_cons_succ]
        refine wpAnyH_take (i := 9) (v := ?_) (by simp only [List.getElem?_toArray, List.getElem?_cons_succ, List.getElem?_cons_zero]; rfl) (by kernel_rfl) (by kernel_rfl) (by kernel_rfl) (fun _ _ _ h => h) (Or.inl ⟨by rfl, ?_⟩) (by assumption) ?_
        rotate_left 1
        · intro w hSw; (try dsimp only at hSw); go_simp; all_goals (with_reducible rfl)
        try simp only [Act.put, List.setIfInBounds_toArray, List.set_cons_zero, List.set_cons_succ]
        have c_h_0 := B_h.out.cell (i := 0) (x := .int .i64 0) rfl
        have c_h_1 := B_h.out.cell (i := 1) (x := .int .i64 0) rfl
        have c_h_2 := B_h.out.cell (i := 2) (x := .int .i64 0) rfl
        have f_h_0 := B_h.out.frozen 0
        have f_h_1 := B_h.out.frozen 1
        have f_h_2 := B_h.out.frozen 2
        refine wpAnyH_ready (rs := [11]) (by kernel_rfl) (by simp) ?_
        refine AllReadyH.cons (by simp only [List.getElem?_toArray, List.getElem?_cons_succ, List.getElem?_cons_zero]; rfl) (fun K hK => ?_) AllReadyH.nil
        go_simp
        clear c_h_0 c_h_1 c_h_2 f_h_0 f_h_1 f_h_2
        have gs := Lib.grownBy_setB (World.grownBy.refl w4 (some K_h)) 0 (.int .i64 n1)
        replace B_r := Lib.hid (B_r.out.kept gs (by have := N_r_h.out; simp; omega))
        replace B_h := Lib.hid (B_h.out.set 0 (.int .i64 n1))
        simp only [List.setIfInBounds_toArray, List.set_cons_zero] at B_h
        replace G := Lib.hid (grown_own G.out gs (fun n hn => by cases hn; exact E_h.out))
        clear gs
        generalize w4.setCell ⟨K_h, 0, none⟩ (.int .i64 n1) = w5 at *
        have gs := Lib.grownBy_setB (World.grownBy.refl w5 (some K_h)) 1 (.int .i64 n2)
        replace B_r := Lib.hid (B_r.out.kept gs (by have := N_r_h.out; simp; omega))
        replace B_h := Lib.hid (B_h.out.set 1 (.int .i64 n2))
        simp only [List.setIfInBounds_toArray, List.set_cons_succ, List.set_cons_zero] at B_h
        replace G := Lib.hid (grown_own G.out gs (fun n hn => by cases hn; exact E_h.out))
        clear gs
        generalize w5.setCell ⟨K_h, 1, none⟩ (.int .i64 n2) = w6 at *
        have gs := Lib.grownBy_setB (World.grownBy.refl w6 (some K_h)) 2 (.int .i64 n3)
        replace B_r := Lib.hid (B_r.out.kept gs (by have := N_r_h.out; simp; omega))
        replace B_h := Lib.hid (B_h.out.set 2 (.int .i64 n3))
        simp only [List.setIfInBounds_toArray, List.set_cons_succ, List.set_cons_zero] at B_h
        replace G := Lib.hid (grown_own G.out gs (fun n hn => by cases hn; exact E_h.out))
        clear gs
        generalize w6.setCell ⟨K_h, 2, none⟩ (.int .i64 n3) = w7 at *
        refine hK.out _ _ (trivial) (fun hHeld => ?_)
        clear hK K
        try simp only [Act.put, List.setIfInBounds_toArray, List.set_cons_zero, List.set_cons_succ]
        refine wpAnyH_done (by kernel_rfl) ?_ _
        refine NoPanic.normal ?_
        go_wp2_with fail
        go_meet
        exact ⟨K_h, rfl, G, B_r, B_h, N_r_h, E_r⟩
    · go_simp
      have hb := Blk.made wd 24 #[.int .i64 0, .int .i64 0, .int .i64 0]
      have ga := World.grownBy_alloc wd (.cells #[.int .i64 0, .int .i64 0, .int .i64 0] 24) none
      have hle := G.out.size
      have n_r := B_r.out.lt
      replace G := Lib.hid (World.grownBy.trans G.out ga)
      replace B_r := Lib.hid (B_r.out.new ga)
      generalize wd.alloc (.cells #[.int .i64 0, .int .i64 0, .int .i64 0] 24) = w1 at *
      generalize wd.heap.size = K_h at *
      have N_r_h := Lib.hid n_r
      clear n_r
      have B_h := Lib.hid hb
      have E_h := Lib.hid hle
      clear hb ga hle
      refine hK.out _ _ (trivial) (fun hHeld => ?_)
      clear hK K
      try simp only [Act.put, List.setIfInBounds_toArray, List.set_cons_zero, List.set_cons_succ]
      refine wpAnyH_ready (rs := [2]) (by kernel_rfl) (by simp) ?_
      refine AllReadyH.cons (by simp only [List.getElem?_toArray, List.getElem?_cons_succ, List.getElem?_cons_zero]; rfl) (fun K hK => ?_) AllReadyH.nil
      go_simp
      refine (HN1.out _).mono ?_; rintro e w2 ⟨rfl, g1⟩
      replace G := Lib.hid (World.grownBy.trans G.out g1)
      replace B_r := Lib.hid (B_r.out.new g1)
      replace B_h := Lib.hid (B_h.out.new g1)
      clear g1
      go_wp2_with fail
      refine hK.out _ _ (trivial) (fun hHeld => ?_)
      clear hK K
      try simp only [Act.put, List.setIfInBounds_toArray, List.set_cons_zero, List.set_cons_succ]
      refine wpAnyH_ready (rs := [5]) (by kernel_rfl) (by simp) ?_
      refine AllReadyH.cons (by simp only [List.getElem?_toArray, List.getElem?_cons_succ, List.getElem?_cons_zero]; rfl) (fun K hK => ?_) AllReadyH.nil
      go_simp
      refine (HN2.out _).mono ?_; rintro e w3 ⟨rfl, g1⟩
      replace G := Lib.hid (World.grownBy.trans G.out g1)
      replace B_r := Lib.hid (B_r.out.new g1)
      replace B_h := Lib.hid (B_h.out.new g1)
      clear g1
      go_wp2_with fail
      refine hK.out _ _ (trivial) (fun hHeld => ?_)
      clear hK K
      try simp only [Act.put, List.setIfInBounds_toArray, List.set_cons_zero, List.set_cons_succ]
      refine wpAnyH_ready (rs := [8]) (by kernel_rfl) (by simp) ?_
      refine AllReadyH.cons (by simp only [List.getElem?_toArray, List.getElem?_cons_succ, List.getElem?_cons_zero]; rfl) (fun K hK => ?_) AllReadyH.nil
      go_simp
      refine (HN3.out _).mono ?_; rintro e w4 ⟨rfl, g1⟩
      replace G := Lib.hid (World.grownBy.trans G.out g1)
      replace B_r := Lib.hid (B_r.out.new g1)
      replace B_h := Lib.hid (B_h.out.new g1)
      clear g1
      go_wp2_with fail
      refine hK.out _ _ (trivial) (fun hHeld => ?_)
      clear hK K
      try simp only [Act.put, List.setIfInBounds_toArray, List.set_cons_zero, List.set_cons_succ]
      refine wpAnyH_take (i := 9) (v := ?_) (by simp only [List.getElem?_toArray, List.getElem?_cons_succ, List.getElem?_cons_zero]; rfl) (by kernel_rfl) (by kernel_rfl) (by kernel_rfl) (fun _ _ _ h => h) (Or.inl ⟨by rfl, ?_⟩) (by assumption) ?_
      rotate_left 1
      · intro w hSw; (try dsimp only at hSw); go_simp; all_goals (with_reducible rfl)
      try simp only [Act.put, List.setIfInBounds_toArray, List.set_cons_zero, List.set_cons_succ]
      have c_h_0 := B_h.out.cell (i := 0) (x := .int .i64 0) rfl
      have c_h_1 := B_h.out.cell (i := 1) (x := .int .i64 0) rfl
      have c_h_2 := B_h.out.cell (i := 2) (x := .int .i64 0) rfl
      have f_h_0 := B_h.out.frozen 0
      have f_h_1 := B_h.out.frozen 1
      have f_h_2 := B_h.out.frozen 2
      refine wpAnyH_ready (rs := [11]) (by kernel_rfl) (by simp) ?_
      refine AllReadyH.cons (by simp only [List.getElem?_toArray, List.getElem?_cons_succ, List.getElem?_cons_zero]; rfl) (fun K hK => ?_) AllReadyH.nil
      go_simp
      clear c_h_0 c_h_1 c_h_2 f_h_0 f_h_1 f_h_2
      have gs := Lib.grownBy_setB (World.grownBy.refl w4 (some K_h)) 0 (.int .i64 n1)
      replace B_r := Lib.hid (B_r.out.kept gs (by have := N_r_h.out; simp; omega))
      replace B_h := Lib.hid (B_h.out.set 0 (.int .i64 n1))
      simp only [List.setIfInBounds_toArray, List.set_cons_zero] at B_h
      replace G := Lib.hid (grown_own G.out gs (fun n hn => by cases hn; exact E_h.out))
      clear gs
      generalize w4.setCell ⟨K_h, 0, none⟩ (.int .i64 n1) = w5 at *
      have gs := Lib.grownBy_setB (World.grownBy.refl w5 (some K_h)) 1 (.int .i64 n2)
      replace B_r := Lib.hid (B_r.out.kept gs (by have := N_r_h.out; simp; omega))
      replace B_h := Lib.hid (B_h.out.set 1 (.int .i64 n2))
      simp only [List.setIfInBounds_toArray, List.set_cons_succ, List.set_cons_zero] at B_h
      replace G := Lib.hid (grown_own G.out gs (fun n hn => by cases hn; exact E_h.out))
      clear gs
      generalize w5.setCell ⟨K_h, 1, none⟩ (.int .i64 n2) = w6 at *
      have gs := Lib.grownBy_setB (World.grownBy.refl w6 (some K_h)) 2 (.int .i64 n3)
      replace B_r := Lib.hid (B_r.out.kept gs (by have := N_r_h.out; simp; omega))
      replace B_h := Lib.hid (B_h.out.set 2 (.int .i64 n3))
      simp only [List.setIfInBounds_toArray, List.set_cons_succ, List.set_cons_zero] at B_h
      replace G := Lib.hid (grown_own G.out gs (fun n hn => by cases hn; exact E_h.out))
      clear gs
      generalize w6.setCell ⟨K_h, 2, none⟩ (.int .i64 n3) = w7 at *
      refine hK.out _ _ (trivial) (fun hHeld => ?_)
      clear hK K
      try simp only [Act.put, List.setIfInBounds_toArray, List.set_cons_zero, List.set_cons_succ]
      refine wpAnyH_done (by kernel_rfl) ?_ _
      refine NoPanic.normal ?_
      go_wp2_with fail
      go_meet
      exact ⟨K_h, rfl, G, B_r, B_h, N_r_h, E_r⟩
  case rest =>
    obtain ⟨H, rfl, G, B_r, B_h, N_r_h, E_r⟩ := hcut
    clear x1 x2 x3 hb1 hb2 hb3 HN1 HN2 HN3
    have B_r2 := B_r
    have c_h_0 := B_h.out.cell (i := 0) (x := .int .i64 n1) rfl
    have c_h_1 := B_h.out.cell (i := 1) (x := .int .i64 n2) rfl
    have c_h_2 := B_h.out.cell (i := 2) (x := .int .i64 n3) rfl
    go_wp2_with fail
    clear B_r2
    clear c_h_0 c_h_1 c_h_2
    refine (HE.out _).mono ?_; rintro e w61 ⟨rfl, g1⟩
    replace G := Lib.hid (World.grownBy.trans G.out g1)
    replace B_h := Lib.hid (B_h.out.new g1)
    replace B_r := Lib.hid (B_r.out.new g1)
    clear g1
    try unfold txt
    have c_h_0 := B_h.out.cell (i := 0) (x := .int .i64 n1) rfl
    have c_h_1 := B_h.out.cell (i := 1) (x := .int .i64 n2) rfl
    have c_h_2 := B_h.out.cell (i := 2) (x := .int .i64 n3) rfl
    have c_r_0 := B_r.out.cell (i := 0) (x := .int .i64 0) rfl
    have c_r_1 := B_r.out.cell (i := 1) (x := .int .i64 0) rfl
    have c_r_2 := B_r.out.cell (i := 2) (x := .int .i64 0) rfl
    have e0 := B_r.out.frozen 0
    have e1 := B_r.out.frozen 1
    have e2 := B_r.out.frozen 2
    rcases HP.out with ⟨q1, rfl⟩ | ⟨rfl, q1, rfl⟩ | ⟨rfl, q1, rfl⟩
    · go_wp2_with fail
      have gs := Lib.grownBy_setB (Lib.grownBy_setB (Lib.grownBy_setB (World.grownBy.refl w61 (some R)) 0 (.int .i64 0)) 1 (.int .i64 0)) 2 (.int .i64 0)
      have hb := ((B_r.out.set 0 (.int .i64 0)).set 1 (.int .i64 0)).set 2 (.int .i64 0)
      have hg := grown_own G.out gs (fun n hn => by cases hn; exact E_r.out)
      clear gs c_h_0 c_h_1 c_h_2 c_r_0 c_r_1 c_r_2 e0 e1 e2 B_r B_h
      generalize World.setCell _ _ _ = wE at *
      have k0 := hb.cell (i := 0) (x := .int .i64 0) rfl
      have k1 := hb.cell (i := 1) (x := .int .i64 0) rfl
      have k2 := hb.cell (i := 2) (x := .int .i64 0) rfl
      exact bodyPost_ret (v := .tuple #[hnV noHn, .int .i64 4]) (by simp [results, Try.results93, go_sem, hnV, noHn, k0, k1, k2]) rfl ⟨rfl, hg⟩
    · go_wp2_with fail
      have gs := Lib.grownBy_setB (Lib.grownBy_setB (Lib.grownBy_setB (World.grownBy.refl w61 (some R)) 0 (.int .i64 0)) 1 (.int .i64 0)) 2 (.int .i64 0)
      have hb := ((B_r.out.set 0 (.int .i64 0)).set 1 (.int .i64 0)).set 2 (.int .i64 0)
      have hg := grown_own G.out gs (fun n hn => by cases hn; exact E_r.out)
      clear gs c_h_0 c_h_1 c_h_2 c_r_0 c_r_1 c_r_2 e0 e1 e2 B_r B_h
      generalize World.setCell _ _ _ = wE at *
      have k0 := hb.cell (i := 0) (x := .int .i64 0) rfl
      have k1 := hb.cell (i := 1) (x := .int .i64 0) rfl
      have k2 := hb.cell (i := 2) (x := .int .i64 0) rfl
      exact bodyPost_ret (v := .tuple #[hnV noHn, .int .i64 4]) (by simp [results, Try.results93, go_sem, hnV, noHn, k0, k1, k2]) rfl ⟨rfl, hg⟩
    · go_wp2_with fail
      have gs := Lib.grownBy_setB (Lib.grownBy_setB (Lib.grownBy_setB (World.grownBy.refl w61 (some R)) 0 (.int .i64 n1)) 1 (.int .i64 n2)) 2 (.int .i64 n3)
      have hb := ((B_r.out.set 0 (.int .i64 n1)).set 1 (.int .i64 n2)).set 2 (.int .i64 n3)
      have hg := grown_own G.out gs (fun n hn => by cases hn; exact E_r.out)
      clear gs c_h_0 c_h_1 c_h_2 c_r_0 c_r_1 c_r_2 e0 e1 e2 B_r B_h
      generalize World.setCell _ _ _ = wE at *
      have k0 := hb.cell (i := 0) (x := .int .i64 n1) rfl
      have k1 := hb.cell (i := 1) (x := .int .i64 n2) rfl
      have k2 := hb.cell (i := 2) (x := .int .i64 n3) rfl
      exact bodyPost_ret (v := .tuple #[hnV ⟨n1, n2, n3⟩, .int .i64 0]) (by simp [results, Try.results93, go_sem, hnV, k0, k1, k2]) rfl ⟨rfl, hg⟩

theorem rDec_any (l : List UInt8) (w : World) (hm : l.length ≤ maxLen) : Calls Try.prog 93 #[.string ⟨l.toArray⟩] w (HT w (hDec fnv l)) := by
  by_cases h : l.length = 24
  · by_cases hM : hMay (said l)
    · refine rdec_on l w h _ (hB fnv (said l)) 0 _ _ _ ⟨rfl, rfl, rfl⟩ (hEnc_of hM) ?_
      unfold hDec
      by_cases hB' : hB fnv (said l) = l
      · exact .inr (.inr ⟨rfl, hB', if_pos ⟨h, hM, hB'⟩⟩)
      · exact .inr (.inl ⟨rfl, beq_eq_false_iff_ne.2 hB', if_neg fun q => hB' q.2.2⟩)
    · refine rdec_on l w h _ [] 4 _ _ _ ⟨rfl, rfl, rfl⟩ (hEnc_not hM) ?_
      unfold hDec
      exact .inl ⟨rfl, if_neg fun q => hM q.2.1⟩
  · have e : hDec fnv l = (noHn, 4) := if_neg fun q => h q.1
    rw [e]
    exact rdec_off l w h hm
end Go.Proofs.Ytpklgcinijlmmaa
