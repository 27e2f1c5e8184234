/- DiskPlays. -/
import Derived.Test.YtnnhnkpbiilooaaDlH
namespace Go.Proofs.Ytnnhnkpbiilooaa
open Go.RowKit Go.Maps

/-- Between the rounds. -/
def PL (W wr : World) (i : Nat) (dv xv : Value) : Prop := ∃ (p q : Nat) (kr : Value) (s : DS), dv = .pointer (some ⟨p, 0, none⟩) ∧ xv = .pointer (some ⟨q, 0, none⟩) ∧ Law W wr [q] [(p, s)] ∧ RkE wr q kr s ∧ s.m ≤ i
theorem eq_self (z : Int) : (z == z) = true := by simp

set_option maxRecDepth 100000 in
set_option maxHeartbeats 16000000 in
theorem plays_main (n : Int) (v : Value) (l : List Stp) (w : World) (hS : Steps w v l) : Calls Try.prog 4 #[.int .i64 n, v] w (Asks w true) := by
  have HLG := Lib.hid (large_any hS)
  have HS := Lib.hid hS
  obtain ⟨a, c, rfl, hl, hat⟩ := hS
  obtain ⟨len, hlen⟩ : ∃ n, l.length = n := ⟨_, rfl⟩
  have HLEN := Lib.hid hlen
  have HAT := Lib.hid hat
  rw [hlen] at hl ⊢ HLG HS
  unfold maxLen at hl
  have z1 : (len : Int) ≤ 9223372036854775807 := by omega
  clear hat hlen
  go_enter Try.func4, Try.ntmps4
  go_wp2_with fail
  refine HLG.out.mono ?_; rintro e w1 ⟨b, rfl, rfl, hb⟩
  cases b
  rotate_left 1
  · go_wp2_with fail
    go_ret
    exact ⟨rfl, World.grownBy.refl _ _⟩
  obtain ⟨hb1, _⟩ := hb rfl
  have HLN : Hid (len ≤ 100) := Lib.hid (by have := HLEN.out; omega)
  clear hb hb1
  by_cases hr : n < 64 ∨ 8192 < n
  · have H1 := Lib.hid (New_off n w hr)
    have H2 := Lib.hid (rNew_off n w hr)
    clear hr
    go_wp2_with fail
    refine H1.out.mono ?_; rintro e w1 ⟨rfl, rfl⟩
    go_wp2_with fail
    refine H2.out.mono ?_; rintro e w1 ⟨rfl, rfl⟩
    go_wp2_with fail
    go_ret
    exact ⟨rfl, World.grownBy.refl _ _⟩
  obtain ⟨nn, rfl⟩ := Int.eq_ofNat_of_zero_le (by omega : 0 ≤ n)
  have HN1 : Hid (64 ≤ nn ∧ nn ≤ 8192) := Lib.hid (by omega)
  have L0 := Lib.hid (Law.start w)
  clear hr
  go_wp2_with fail
  refine (lNew L0.out nn HN1.out.1 HN1.out.2).mono ?_; rintro e w2 ⟨p0, rfl, hl0, hg0⟩
  have L2 := Lib.hid hl0
  clear hl0 hg0
  go_wp2_with fail
  refine (rNew_on nn w2 HN1.out.1 HN1.out.2).mono ?_; rintro e w3 ⟨q0, rfl, hr0, hg0, hq0⟩
  have C0 : Hid (PL w w3 0 (.pointer (some ⟨p0, 0, none⟩)) (.pointer (some ⟨q0, 0, none⟩))) := Lib.hid ⟨p0, q0, _, DS.new nn, rfl, rfl, L2.out.mark hg0 hq0 (by obtain ⟨on, lv, h⟩ := hr0; exact h.blk.lt), hr0, Nat.le_refl _⟩
  clear hr0 hg0 hq0
  unfold dptr
  go_wp2_with fail
  go_loopw [5, 7, 9] (fun dv xv iv wr => ∃ i : Nat, i ≤ len ∧ iv = .int .i64 i ∧ PL w wr i dv xv) (fun _ _ iv _ => len - (intOf iv).toNat)
  case atStart => exact ⟨0, Nat.zero_le _, rfl, C0.out⟩
  case round =>
    obtain ⟨i, hi, rfl, hpl⟩ := hrel
    obtain ⟨p, q, kr, s, rfl, rfl, hlw, hrf, hms⟩ := hpl
    have HL := Lib.hid hlw
    have HR := Lib.hid hrf
    have HMS := Lib.hid hms
    clear hlw hrf hms
    by_cases hlt : i < len
    rotate_left 1
    · obtain rfl : i = len := by omega
      go_wp2_with fail
      go_ret
      exact ⟨rfl, HL.out.grown⟩
    have HM1 : Hid (s.m ≤ 100000) := Lib.hid (by have := HMS.out; have := HLN.out; omega)
    obtain ⟨b, o, rfl, hs⟩ := HAT.out i (by have := HLEN.out; omega)
    generalize l[i]'(by have := HLEN.out; omega) = x at *
    obtain ⟨kd, N, C, kv, ks⟩ := x
    have HX : Hid (∀ w2, w.grownBy w2 none → StpAt w2 b (o + i * 4) ⟨kd, N, C, kv, ks⟩) := Lib.hid (fun w2 hg => hs.new hg)
    obtain ⟨ak, ck, hkv, hkl⟩ := hs.bls.shape
    dsimp only at hkv hkl
    subst hkv
    have HKL : Hid (ks.length ≤ 140737488355328) := Lib.hid hs.hk
    have HNR : Hid (-9223372036854775808 ≤ N ∧ N ≤ 9223372036854775807) := Lib.hid hs.hn
    have HBL := Blk.made wr 4 #[]
    have hg := World.grownBy_alloc wr (.cells #[] 4) none
    have hsr := hs.new HL.out.grown
    have h1 := (hsr.new hg).bls
    dsimp only at h1
    obtain ⟨v', wk, k1, k2, k3, k4, a', n', c', rfl⟩ := Bls.append h1 HKL.out HBL 38
    obtain ⟨a2, c2, e2, _⟩ := k2.bls.shape
    cases e2
    have HRUN := Lib.hid k1
    have HST := Lib.hid (St.begin HL.out HR.out (grown_new hg k3 (Nat.le_refl _)) k2 (fun k hk => by
      rcases k4 k hk with h | h
      · omega
      · have := hg.size; omega))
    have kva := hsr.kv
    have kvb := (hsr.new hg).kv
    dsimp only at kva kvb
    obtain ⟨m, hm⟩ : ∃ m, ks.length = m := ⟨_, rfl⟩
    have HM := Lib.hid hm
    rw [hm] at HRUN HST kva kvb hkl HX
    generalize (Value.slice a' m c').ownBlock.toList = R at HST
    have hu := undBs
    have zm : (m : Int) ≤ 9223372036854775807 := by unfold maxLen at hkl; omega
    clear hs hkl HBL hg hsr h1 k1 k2 k3 k4 hm
    go_upto_region 14 with (at_builtin; refine Lib.wpList_append_run _ rfl _ _ _ _ rfl _ _ rfl rfl _ _ HRUN.out ?_)
    clear kva kvb hu HRUN
    have kc := (HX.out wk HST.out.law.grown).kd
    dsimp only at kc
    have hK0 : 0 ≤ (kd.toNat : Int) := by omega
    generalize (kd.toNat : Int) = K at *
    have HFA := Lib.hid (HST.out.end.form).2
    by_cases h0 : K = 0
    · as_aux_lemma =>
        subst h0
        go_upto_region 21 with fail
        clear kc
        have hdr : wk.grownBy wk.drew none := ⟨rfl, rfl, rfl, Nat.le_refl _, fun _ _ _ => rfl⟩
        have S0 := Lib.hid (HST.out.new hdr)
        clear hdr
        obtain ⟨⟨s2, z⟩, hw⟩ : ∃ r, s.write N (Bk.of C) = r := ⟨_, rfl⟩
        have hm2 := DS.m_write s N (Bk.of C)
        rw [hw] at hm2
        have HM2 : Hid (s2.m ≤ i + 1) := Lib.hid (by have := HMS.out; dsimp only at hm2; omega)
        have HW := Lib.hid hw
        have HE := eq_self z
        clear hw hm2
        refine wp_region_noPanic ?_
        refine wp_region_held_drew (S := fun w' => w'.cell? ⟨b, o + i * 4 + 1, none⟩ = some (.int .i64 N) ∧ w'.cell? ⟨b, o + i * 4 + 2, none⟩ = some (.int .u8 (C.toNat : Int))) (by kernel_rfl) (⟨(HX.out _ S0.out.law.grown).n, (HX.out _ S0.out.law.grown).c⟩) (fun hHeld => ?_)
        generalize wk.drew = wd at *
        refine wpAnyH_take (i := 0) (v := ?_) (by simp only [List.getElem?_toArray, List.getElem?_cons_zero]; rfl) (by kernel_rfl) (by kernel_rfl) (by kernel_rfl) (fun _ _ _ h => h) (Or.inl ⟨by rfl, ?_⟩) (by assumption) ?_
        rotate_left 1
        · intro w hSw; obtain ⟨hS0, hS1⟩ := hSw; go_simp; all_goals (with_reducible rfl)
        try simp only [Act.put, List.setIfInBounds_toArray, List.set_cons_zero, List.set_cons_succ]
        refine wpAnyH_take (i := 1) (v := ?_) (by simp only [List.getElem?_toArray, List.getElem?_cons_succ, List.getElem?_cons_zero]; rfl) (by kernel_rfl) (by kernel_rfl) (by kernel_rfl) (fun _ _ _ h => h) (Or.inl ⟨by rfl, ?_⟩) (by assumption) ?_
        rotate_left 1
        · intro w hSw; obtain ⟨hS0, hS1⟩ := hSw; go_simp; all_goals (with_reducible rfl)
        try simp only [Act.put, List.setIfInBounds_toArray, List.set_cons_zero, List.set_cons_succ]
        refine wpAnyH_take (i := 2) (v := ?_) (by simp only [List.getElem?_toArray, List.getElem?_cons_succ, List.getElem?_cons_zero]; rfl) (by kernel_rfl) (by kernel_rfl) (by kernel_rfl) (fun _ _ _ h => h) (Or.inl ⟨by rfl, ?_⟩) (by assumption) ?_
        rotate_left 1
        · intro w hSw; obtain ⟨hS0, hS1⟩ := hSw; go_simp; all_goals (with_reducible rfl)
        try simp only [Act.put, List.setIfInBounds_toArray, List.set_cons_zero, List.set_cons_succ]
        refine wpAnyH_take (i := 3) (v := ?_) (by simp only [List.getElem?_toArray, List.getElem?_cons_succ, List.getElem?_cons_zero]; rfl) (by kernel_rfl) (by kernel_rfl) (by kernel_rfl) (fun _ _ _ h => h) (Or.inl ⟨by rfl, ?_⟩) (by assumption) ?_
        rotate_left 1
        · intro w hSw; obtain ⟨hS0, hS1⟩ := hSw; go_simp; all_goals (with_reducible rfl)
        try simp only [Act.put, List.setIfInBounds_toArray, List.set_cons_zero, List.set_cons_succ]
        refine wpAnyH_take (i := 4) (v := ?_) (by simp only [List.getElem?_toArray, List.getElem?_cons_succ, List.getElem?_cons_zero]; rfl) (by kernel_rfl) (by kernel_rfl) (by kernel_rfl) (fun _ _ _ h => h) (Or.inl ⟨by rfl, ?_⟩) (by assumption) ?_
        rotate_left 1
        · intro w hSw; obtain ⟨hS0, hS1⟩ := hSw; go_simp; all_goals (with_reducible rfl)
        try simp only [Act.put, List.setIfInBounds_toArray, List.set_cons_zero, List.set_cons_succ]
        refine wpAnyH_take (i := 5) (v := ?_) (by simp only [List.getElem?_toArray, List.getElem?_cons_succ, List.getElem?_cons_zero]; rfl) (by kernel_rfl) (by kernel_rfl) (by kernel_rfl) (fun _ _ _ h => h) (Or.inl ⟨by rfl, ?_⟩) (by assumption) ?_
        rotate_left 1
        · intro w hSw; obtain ⟨hS0, hS1⟩ := hSw; go_simp; all_goals (with_reducible rfl)
        try simp only [Act.put, List.setIfInBounds_toArray, List.set_cons_zero, List.set_cons_succ]
        refine wpAnyH_take (i := 6) (v := ?_) (by simp only [List.getElem?_toArray, List.getElem?_cons_succ, List.getElem?_cons_zero]; rfl) (by kernel_rfl) (by kernel_rfl) (by kernel_rfl) (fun _ _ _ h => h) (Or.inl ⟨by rfl, ?_⟩) (by assumption) ?_
        rotate_left 1
        · intro w hSw; obtain ⟨hS0, hS1⟩ := hSw; go_simp; all_goals (with_reducible rfl)
        try simp only [Act.put, List.setIfInBounds_toArray, List.set_cons_zero, List.set_cons_succ]
        refine wpAnyH_take (i := 7) (v := ?_) (by simp only [List.getElem?_toArray, List.getElem?_cons_succ, List.getElem?_cons_zero]; rfl) (by kernel_rfl) (by kernel_rfl) (by kernel_rfl) (fun _ _ _ h => h) (Or.inl ⟨by rfl, ?_⟩) (by assumption) ?_
        rotate_left 1
        · intro w hSw; obtain ⟨hS0, hS1⟩ := hSw; go_simp; all_goals (with_reducible rfl)
        try simp only [Act.put, List.setIfInBounds_toArray, List.set_cons_zero, List.set_cons_succ]
        refine wpAnyH_take (i := 8) (v := ?_) (by simp only [List.getElem?_toArray, List.getElem?_cons_succ, List.getElem?_cons_zero]; rfl) (by kernel_rfl) (by kernel_rfl) (by kernel_rfl) (fun _ _ _ h => h) (Or.inl ⟨by rfl, ?_⟩) (by assumption) ?_
        rotate_left 1
        · intro w hSw; obtain ⟨hS0, hS1⟩ := hSw; go_simp; all_goals (with_reducible rfl)
        try simp only [Act.put, List.setIfInBounds_toArray, List.set_cons_zero, List.set_cons_succ]
        refine wpAnyH_take (i := 9) (v := ?_) (by simp only [List.getElem?_toArray, List.getElem?_cons_succ, List.getElem?_cons_zero]; rfl) (by kernel_rfl) (by kernel_rfl) (by kernel_rfl) (fun _ _ _ h => h) (Or.inl ⟨by rfl, ?_⟩) (by assumption) ?_
        rotate_left 1
        · intro w hSw; obtain ⟨hS0, hS1⟩ := hSw; go_simp; all_goals (with_reducible rfl)
        try simp only [Act.put, List.setIfInBounds_toArray, List.set_cons_zero, List.set_cons_succ]
        refine wpAnyH_take (i := 10) (v := ?_) (by simp only [List.getElem?_toArray, List.getElem?_cons_succ, List.getElem?_cons_zero]; rfl) (by kernel_rfl) (by kernel_rfl) (by kernel_rfl) (fun _ _ _ h => h) (Or.inl ⟨by rfl, ?_⟩) (by assumption) ?_
        rotate_left 1
        · intro w hSw; obtain ⟨hS0, hS1⟩ := hSw; go_simp; all_goals (with_reducible rfl)
        try simp only [Act.put, List.setIfInBounds_toArray, List.set_cons_zero, List.set_cons_succ]
        refine wpAnyH_take (i := 13) (v := ?_) (by simp only [List.getElem?_toArray, List.getElem?_cons_succ, List.getElem?_cons_zero]; rfl) (by kernel_rfl) (by kernel_rfl) (by kernel_rfl) (fun _ _ _ h => h) (Or.inl ⟨by rfl, ?_⟩) (by assumption) ?_
        rotate_left 1
        · intro w hSw; obtain ⟨hS0, hS1⟩ := hSw; go_simp; all_goals (with_reducible rfl)
        try simp only [Act.put, List.setIfInBounds_toArray, List.set_cons_zero, List.set_cons_succ]
        refine wpAnyH_take (i := 14) (v := ?_) (by simp only [List.getElem?_toArray, List.getElem?_cons_succ, List.getElem?_cons_zero]; rfl) (by kernel_rfl) (by kernel_rfl) (by kernel_rfl) (fun _ _ _ h => h) (Or.inl ⟨by rfl, ?_⟩) (by assumption) ?_
        rotate_left 1
        · intro w hSw; obtain ⟨hS0, hS1⟩ := hSw; go_simp; all_goals (with_reducible rfl)
        try simp only [Act.put, List.setIfInBounds_toArray, List.set_cons_zero, List.set_cons_succ]
        refine wpAnyH_take (i := 15) (v := ?_) (by simp only [List.getElem?_toArray, List.getElem?_cons_succ, List.getElem?_cons_zero]; rfl) (by kernel_rfl) (by kernel_rfl) (by kernel_rfl) (fun _ _ _ h => h) (Or.inl ⟨by rfl, ?_⟩) (by assumption) ?_
        rotate_left 1
        · intro w hSw; obtain ⟨hS0, hS1⟩ := hSw; go_simp; all_goals (with_reducible rfl)
        try simp only [Act.put, List.setIfInBounds_toArray, List.set_cons_zero, List.set_cons_succ]
        refine wpAnyH_take (i := 16) (v := ?_) (by simp only [List.getElem?_toArray, List.getElem?_cons_succ, List.getElem?_cons_zero]; rfl) (by kernel_rfl) (by kernel_rfl) (by kernel_rfl) (fun _ _ _ h => h) (Or.inl ⟨by rfl, ?_⟩) (by assumption) ?_
        rotate_left 1
        · intro w hSw; obtain ⟨hS0, hS1⟩ := hSw; go_simp; all_goals (with_reducible rfl)
        try simp only [Act.put, List.setIfInBounds_toArray, List.set_cons_zero, List.set_cons_succ]
        refine wpAnyH_take (i := 17) (v := ?_) (by simp only [List.getElem?_toArray, List.getElem?_cons_succ, List.getElem?_cons_zero]; rfl) (by kernel_rfl) (by kernel_rfl) (by kernel_rfl) (fun _ _ _ h => h) (Or.inl ⟨by rfl, ?_⟩) (by assumption) ?_
        rotate_left 1
        · intro w hSw; obtain ⟨hS0, hS1⟩ := hSw; go_simp; all_goals (with_reducible rfl)
        try simp only [Act.put, List.setIfInBounds_toArray, List.set_cons_zero, List.set_cons_succ]
        refine wpAnyH_take (i := 18) (v := ?_) (by simp only [List.getElem?_toArray, List.getElem?_cons_succ, List.getElem?_cons_zero]; rfl) (by kernel_rfl) (by kernel_rfl) (by kernel_rfl) (fun _ _ _ h => h) (Or.inl ⟨by rfl, ?_⟩) (by assumption) ?_
        rotate_left 1
        · intro w hSw; obtain ⟨hS0, hS1⟩ := hSw; go_simp; all_goals (with_reducible rfl)
        try simp only [Act.put, List.setIfInBounds_toArray, List.set_cons_zero, List.set_cons_succ]
        refine wpAnyH_take (i := 19) (v := ?_) (by simp only [List.getElem?_toArray, List.getElem?_cons_succ, List.getElem?_cons_zero]; rfl) (by kernel_rfl) (by kernel_rfl) (by kernel_rfl) (fun _ _ _ h => h) (Or.inl ⟨by rfl, ?_⟩) (by assumption) ?_
        rotate_left 1
        · intro w hSw; obtain ⟨hS0, hS1⟩ := hSw; go_simp; all_goals (with_reducible rfl)
        try simp only [Act.put, List.setIfInBounds_toArray, List.set_cons_zero, List.set_cons_succ]
        refine wpAnyH_take (i := 20) (v := ?_) (by simp only [List.getElem?_toArray, List.getElem?_cons_succ, List.getElem?_cons_zero]; rfl) (by kernel_rfl) (by kernel_rfl) (by kernel_rfl) (fun _ _ _ h => h) (Or.inl ⟨by rfl, ?_⟩) (by assumption) ?_
        rotate_left 1
        · intro w hSw; obtain ⟨hS0, hS1⟩ := hSw; go_simp; all_goals (with_reducible rfl)
        try simp only [Act.put, List.setIfInBounds_toArray, List.set_cons_zero, List.set_cons_succ]
        refine wpAnyH_take (i := 21) (v := ?_) (by simp only [List.getElem?_toArray, List.getElem?_cons_succ, List.getElem?_cons_zero]; rfl) (by kernel_rfl) (by kernel_rfl) (by kernel_rfl) (fun _ _ _ h => h) (Or.inl ⟨by rfl, ?_⟩) (by assumption) ?_
        rotate_left 1
        · intro w hSw; obtain ⟨hS0, hS1⟩ := hSw; go_simp; all_goals (with_reducible rfl)
        try simp only [Act.put, List.setIfInBounds_toArray, List.set_cons_zero, List.set_cons_succ]
        refine wpAnyH_take (i := 22) (v := ?_) (by simp only [List.getElem?_toArray, List.getElem?_cons_succ, List.getElem?_cons_zero]; rfl) (by kernel_rfl) (by kernel_rfl) (by kernel_rfl) (fun _ _ _ h => h) (Or.inl ⟨by rfl, ?_⟩) (by assumption) ?_
        rotate_left 1
        · intro w hSw; obtain ⟨hS0, hS1⟩ := hSw; go_simp; all_goals (with_reducible rfl)
        try simp only [Act.put, List.setIfInBounds_toArray, List.set_cons_zero, List.set_cons_succ]
        refine wpAnyH_take (i := 23) (v := ?_) (by simp only [List.getElem?_toArray, List.getElem?_cons_succ, List.getElem?_cons_zero]; rfl) (by kernel_rfl) (by kernel_rfl) (by kernel_rfl) (fun _ _ _ h => h) (Or.inl ⟨by rfl, ?_⟩) (by assumption) ?_
        rotate_left 1
        · intro w hSw; obtain ⟨hS0, hS1⟩ := hSw; go_simp; all_goals (with_reducible rfl)
        try simp only [Act.put, List.setIfInBounds_toArray, List.set_cons_zero, List.set_cons_succ]
        refine wpAnyH_ready (rs := [11]) (by kernel_rfl) (by simp) ?_
        refine AllReadyH.cons (by simp only [List.getElem?_toArray, List.getElem?_cons_succ, List.getElem?_cons_zero]; rfl) (fun K hK => ?_) AllReadyH.nil
        go_simp
        refine (block_any C _).mono ?_; rintro e v1 ⟨rfl, hg⟩
        have S1 := Lib.hid (S0.out.new hg)
        clear hg
        go_wp2_with fail
        refine hK.out _ _ (⟨(HX.out _ S1.out.law.grown).n, (HX.out _ S1.out.law.grown).c⟩) (fun hHeld => ?_)
        clear hK K
        try simp only [Act.put, List.setIfInBounds_toArray, List.set_cons_zero, List.set_cons_succ]
        have hcw := lWrite S1.out.law (i := 0) rfl (by have := HM1.out; omega) N HNR.out (Bk.of C)
        rw [HW.out] at hcw
        unfold dptr at hcw
        refine wpAnyH_ready (rs := [12]) (by kernel_rfl) (by simp) ?_
        refine AllReadyH.cons (by simp only [List.getElem?_toArray, List.getElem?_cons_succ, List.getElem?_cons_zero]; rfl) (fun K hK => ?_) AllReadyH.nil
        go_simp
        refine (hcw).mono ?_; rintro e v2 ⟨rfl, hl2, hk2⟩
        have S2 := Lib.hid (S1.out.code hl2 hk2)
        clear hl2 hk2 hcw
        go_wp2_with fail
        refine hK.out _ _ (⟨(HX.out _ S2.out.law.grown).n, (HX.out _ S2.out.law.grown).c⟩) (fun hHeld => ?_)
        clear hK K
        try simp only [Act.put, List.setIfInBounds_toArray, List.set_cons_zero, List.set_cons_succ]
        refine wpAnyH_ready (rs := [24]) (by kernel_rfl) (by simp) ?_
        refine AllReadyH.cons (by simp only [List.getElem?_toArray, List.getElem?_cons_succ, List.getElem?_cons_zero]; rfl) (fun K hK => ?_) AllReadyH.nil
        go_simp
        refine (block_any C _).mono ?_; rintro e v3 ⟨rfl, hg⟩
        have S3 := Lib.hid (S2.out.new hg)
        clear hg
        go_wp2_with fail
        refine hK.out _ _ (⟨(HX.out _ S3.out.law.grown).n, (HX.out _ S3.out.law.grown).c⟩) (fun hHeld => ?_)
        clear hK K
        try simp only [Act.put, List.setIfInBounds_toArray, List.set_cons_zero, List.set_cons_succ]
        obtain ⟨on, lv, hrk⟩ := S3.out.ref
        have hxw := rWrite_any hrk (by have := HM1.out; omega) N (Bk.of C)
        rw [HW.out] at hxw
        unfold dptr at hxw
        clear hrk
        refine wpAnyH_ready (rs := [25]) (by kernel_rfl) (by simp) ?_
        refine AllReadyH.cons (by simp only [List.getElem?_toArray, List.getElem?_cons_succ, List.getElem?_cons_zero]; rfl) (fun K hK => ?_) AllReadyH.nil
        go_simp
        refine (hxw).mono ?_; rintro e v4 ⟨kr2, rfl, hr2, hk2, hf2⟩
        have S4 := Lib.hid (S3.out.doc hr2 hk2 hf2)
        clear hr2 hk2 hf2 hxw
        go_wp2_with fail
        refine hK.out _ _ (⟨(HX.out _ S4.out.law.grown).n, (HX.out _ S4.out.law.grown).c⟩) (fun hHeld => ?_)
        clear hK K
        try simp only [Act.put, List.setIfInBounds_toArray, List.set_cons_zero, List.set_cons_succ]
        refine wpAnyH_take (i := 26) (v := ?_) (by simp only [List.getElem?_toArray, List.getElem?_cons_succ, List.getElem?_cons_zero]; rfl) (by kernel_rfl) (by kernel_rfl) (by kernel_rfl) (fun _ _ _ h => h) (Or.inl ⟨by rfl, ?_⟩) (by assumption) ?_
        rotate_left 1
        · intro w hSw; obtain ⟨hS0, hS1⟩ := hSw; go_simp; all_goals (with_reducible rfl)
        try simp only [Act.put, List.setIfInBounds_toArray, List.set_cons_zero, List.set_cons_succ]
        refine wpAnyH_take (i := 27) (v := ?_) (by simp only [List.getElem?_toArray, List.getElem?_cons_succ, List.getElem?_cons_zero]; rfl) (by kernel_rfl) (by kernel_rfl) (by kernel_rfl) (fun _ _ _ h => h) (Or.inl ⟨by rfl, ?_⟩) (by assumption) ?_
        rotate_left 1
        · intro w hSw; obtain ⟨hS0, hS1⟩ := hSw; go_simp; all_goals (with_reducible rfl)
        try simp only [Act.put, List.setIfInBounds_toArray, List.set_cons_zero, List.set_cons_succ]
        refine wpAnyH_done (by kernel_rfl) ?_ _
        refine NoPanic.normal ?_
        clear hHeld
        go_wp2_with fail
        have SE := Lib.hid (S4.out.end)
        rw [HM.out] at SE
        go_loopw [21] (fun y wr => ∃ k : Nat, k ≤ m ∧ y = .int .i64 k ∧ St2 w wr R p q s2 _ (.slice a' m c') m) (fun y _ => m - (intOf y).toNat)
        case atStart => exact ⟨0, Nat.zero_le _, rfl, SE.out⟩
        case round =>
          obtain ⟨k, hk, rfl, h2⟩ := hrel
          have H2 := Lib.hid h2
          clear h2
          by_cases hkm : k < m
          · obtain ⟨g, rfl⟩ : ∃ g, a' = some ⟨g, 0, none⟩ := by
              obtain ⟨_, a3, c3, e3, h3⟩ := H2.out.form
              cases e3
              exact h3 (by omega)
            obtain ⟨bk, hb, hf⟩ := H2.out.cell hkm
            go_wp2_with fail
            go_roundw
            case rel => exact ⟨k + 1, by omega, by go_num, H2.out.set k (!bk)⟩
            case measure => (simp [intOf]; try omega)
          · obtain rfl : k = m := by omega
            go_wp2_with fail
            refine (same_any H2.out.law 0 rfl H2.out.ref HS.out).mono ?_; rintro e y ⟨rfl, hgy⟩
            have GY := Lib.hid hgy
            clear hgy
            go_wp2_with fail
            go_roundw
            case rel => exact ⟨i + 1, by omega, by go_num, p, q, _, s2, rfl, rfl, (H2.out.law.new GY.out).sub (by simp), H2.out.ref.new GY.out, HM2.out⟩
            case measure => (simp [intOf]; try omega)
    by_cases h1 : K = 1
    · as_aux_lemma =>
        subst h1
        go_upto_region 23 with fail
        clear kc
        obtain ⟨⟨B, Z⟩, hrd⟩ : ∃ r, s.read N = r := ⟨_, rfl⟩
        have hca := lRead HST.out.law (i := 0) rfl N HNR.out
        have hcb : ∀ w2, wk.grownBy w2 none → Calls Try.prog 27 #[dptr q, .int .i64 N] w2 (Gives w2 (s.read N).1 (s.read N).2) := fun w2 hg2 => by
          obtain ⟨on, lv, h⟩ := HST.out.ref.new hg2
          exact rRead_any h N
        rw [hrd] at hca hcb
        unfold dptr at hca hcb
        have HCA := Lib.hid hca
        have HCB := Lib.hid hcb
        have k1 := (HX.out _ HST.out.law.grown).n
        dsimp only at k1
        clear hrd hca hcb
        go_upto_region 24 with (first
          | (go_at_call 12; refine HCA.out.mono ?_; rintro e w4 ⟨rfl, hg2⟩; have G2 := Lib.hid hg2; clear hg2)
          | (refine wpAllocB rfl rfl ?_; intro g1 w5 hn1; have N1 := Lib.hid hn1; clear hn1)
          | (refine wpStoreB rfl (.tmp 12) (.tmp 113) rfl g1 _ _ rfl rfl N1.out.blk ?_; intro w6 hb4 hg4; have B4 := Lib.hid hb4; have G4 := Lib.hid (grown_new (grown_two G2.out N1.out.grown) hg4 (Nat.le_trans G2.out.size N1.out.ge)); clear hb4 hg4))
        have k1 := (HX.out _ (HST.out.new G4.out).law.grown).n
        dsimp only at k1
        go_upto_region 25 with (first
          | (go_at_call 27; refine (HCB.out _ G4.out).mono ?_; rintro e w7 ⟨rfl, hg5⟩; have G5 := Lib.hid (grown_two G4.out hg5); have B5 := Lib.hid (B4.out.new hg5); clear hg5)
          | (refine wpAllocB rfl rfl ?_; intro g2 w8 hn2; have N2 := Lib.hid hn2; clear hn2)
          | (refine wpStoreB rfl (.tmp 14) (.tmp 123) rfl g2 _ _ rfl rfl N2.out.blk ?_; intro w9 hb7 hg7; have B7 := Lib.hid hb7; have A7 := Lib.hid ((B5.out.new N2.out.grown).kept hg7 (by have := N2.out.ge; have := B5.out.lt; simp; omega)); have G7 := Lib.hid (grown_new (grown_two G5.out N2.out.grown) hg7 (Nat.le_trans G5.out.size N2.out.ge)); clear hb7 hg7))
        have heq : decide (B = B) = true := by simp
        have HE := eq_self Z
        clear k1
        have S4 := Lib.hid (HST.out.new G7.out)
        go_wp2_with (first
          | (refine wpLoadB rfl (.tmp 12) rfl g1 _ rfl A7.out ?_)
          | (refine wpLoadB rfl (.tmp 14) rfl g2 _ rfl B7.out ?_)
          | (refine wpEqlB rfl _ _ _ rfl _ _ rfl rfl ?_; rw [heq]))
        have SE := Lib.hid (S4.out.end)
        rw [HM.out] at SE
        go_loopw [21] (fun y wr => ∃ k : Nat, k ≤ m ∧ y = .int .i64 k ∧ St2 w wr R p q s _ (.slice a' m c') m) (fun y _ => m - (intOf y).toNat)
        case atStart => exact ⟨0, Nat.zero_le _, rfl, SE.out⟩
        case round =>
          obtain ⟨k, hk, rfl, h2⟩ := hrel
          have H2 := Lib.hid h2
          clear h2
          by_cases hkm : k < m
          · obtain ⟨g, rfl⟩ : ∃ g, a' = some ⟨g, 0, none⟩ := by
              obtain ⟨_, a3, c3, e3, h3⟩ := H2.out.form
              cases e3
              exact h3 (by omega)
            obtain ⟨bk, hb, hf⟩ := H2.out.cell hkm
            go_wp2_with fail
            go_roundw
            case rel => exact ⟨k + 1, by omega, by go_num, H2.out.set k (!bk)⟩
            case measure => (simp [intOf]; try omega)
          · obtain rfl : k = m := by omega
            go_wp2_with fail
            refine (same_any H2.out.law 0 rfl H2.out.ref HS.out).mono ?_; rintro e y ⟨rfl, hgy⟩
            have GY := Lib.hid hgy
            clear hgy
            go_wp2_with fail
            go_roundw
            case rel => exact ⟨i + 1, by omega, by go_num, p, q, _, s, rfl, rfl, (H2.out.law.new GY.out).sub (by simp), H2.out.ref.new GY.out, (by have := HMS.out; omega)⟩
            case measure => (simp [intOf]; try omega)
    by_cases h2 : K = 2
    · as_aux_lemma =>
        subst h2
        go_upto_region 27 with fail
        clear kc
        obtain ⟨⟨s2, z⟩, hw⟩ : ∃ r, s.flush = r := ⟨_, rfl⟩
        have hm2 := DS.m_flush s
        rw [hw] at hm2
        have HM2 : Hid (s2.m ≤ i + 1) := Lib.hid (by have := HMS.out; dsimp only at hm2; omega)
        have HE := eq_self z
        have hca := lFlush HST.out.law (i := 0) rfl (by have := HM1.out; omega)
        rw [hw] at hca
        unfold dptr at hca
        have HCA := Lib.hid hca
        have HW := Lib.hid hw
        clear hw hm2 hca
        go_wp2_with (first
          | (go_at_call 18; refine HCA.out.mono ?_; rintro e v1 ⟨rfl, hl2, hk2⟩; have S1 := Lib.hid (HST.out.code hl2 hk2); clear hl2 hk2)
          | (go_at_call 28; obtain ⟨on, lv, hrk⟩ := S1.out.ref; have hxw := rFlush_any hrk (by have := HM1.out; omega); rw [HW.out] at hxw; unfold dptr at hxw; refine hxw.mono ?_; rintro e v2 ⟨kr2, rfl, hr2, hk2, hf2⟩; have S4 := Lib.hid (S1.out.doc hr2 hk2 hf2); clear hr2 hk2 hf2 hxw hrk))
        have SE := Lib.hid (S4.out.end)
        rw [HM.out] at SE
        go_loopw [21] (fun y wr => ∃ k : Nat, k ≤ m ∧ y = .int .i64 k ∧ St2 w wr R p q s2 _ (.slice a' m c') m) (fun y _ => m - (intOf y).toNat)
        case atStart => exact ⟨0, Nat.zero_le _, rfl, SE.out⟩
        case round =>
          obtain ⟨k, hk, rfl, h2⟩ := hrel
          have H2 := Lib.hid h2
          clear h2
          by_cases hkm : k < m
          · obtain ⟨g, rfl⟩ : ∃ g, a' = some ⟨g, 0, none⟩ := by
              obtain ⟨_, a3, c3, e3, h3⟩ := H2.out.form
              cases e3
              exact h3 (by omega)
            obtain ⟨bk, hb, hf⟩ := H2.out.cell hkm
            go_wp2_with fail
            go_roundw
            case rel => exact ⟨k + 1, by omega, by go_num, H2.out.set k (!bk)⟩
            case measure => (simp [intOf]; try omega)
          · obtain rfl : k = m := by omega
            go_wp2_with fail
            refine (same_any H2.out.law 0 rfl H2.out.ref HS.out).mono ?_; rintro e y ⟨rfl, hgy⟩
            have GY := Lib.hid hgy
            clear hgy
            go_wp2_with fail
            go_roundw
            case rel => exact ⟨i + 1, by omega, by go_num, p, q, _, s2, rfl, rfl, (H2.out.law.new GY.out).sub (by simp), H2.out.ref.new GY.out, HM2.out⟩
            case measure => (simp [intOf]; try omega)
    by_cases h3 : K = 3
    · as_aux_lemma =>
        subst h3
        go_upto_region 29 with fail
        clear kc
        have hdr : wk.grownBy wk.drew none := ⟨rfl, rfl, rfl, Nat.le_refl _, fun _ _ _ => rfl⟩
        have S0 := Lib.hid (HST.out.new hdr)
        clear hdr
        obtain ⟨⟨s2, z⟩, hw⟩ : ∃ r, s.cut N ks = r := ⟨_, rfl⟩
        have hm2 := DS.m_cut s N ks
        rw [hw] at hm2
        have HM2 : Hid (s2.m ≤ i + 1) := Lib.hid (by have := HMS.out; dsimp only at hm2; omega)
        have HW := Lib.hid hw
        have HE := eq_self z
        clear hw hm2
        refine wp_region_noPanic ?_
        refine wp_region_held_drew (S := fun w' => w'.cell? ⟨b, o + i * 4 + 1, none⟩ = some (.int .i64 N) ∧ w'.cell? ⟨b, o + i * 4 + 3, none⟩ = some (.slice ak m ck)) (by kernel_rfl) (⟨(HX.out _ S0.out.law.grown).n, (HX.out _ S0.out.law.grown).kv⟩) (fun hHeld => ?_)
        generalize wk.drew = wd at *
        refine wpAnyH_take (i := 0) (v := ?_) (by simp only [List.getElem?_toArray, List.getElem?_cons_zero]; rfl) (by kernel_rfl) (by kernel_rfl) (by kernel_rfl) (fun _ _ _ h => h) (Or.inl ⟨by rfl, ?_⟩) (by assumption) ?_
        rotate_left 1
        · intro w hSw; obtain ⟨hS0, hS1⟩ := hSw; go_simp; all_goals (with_reducible rfl)
        try simp only [Act.put, List.setIfInBounds_toArray, List.set_cons_zero, List.set_cons_succ]
        refine wpAnyH_take (i := 1) (v := ?_) (by simp only [List.getElem?_toArray, List.getElem?_cons_succ, List.getElem?_cons_zero]; rfl) (by kernel_rfl) (by kernel_rfl) (by kernel_rfl) (fun _ _ _ h => h) (Or.inl ⟨by rfl, ?_⟩) (by assumption) ?_
        rotate_left 1
        · intro w hSw; obtain ⟨hS0, hS1⟩ := hSw; go_simp; all_goals (with_reducible rfl)
        try simp only [Act.put, List.setIfInBounds_toArray, List.set_cons_zero, List.set_cons_succ]
        refine wpAnyH_take (i := 2) (v := ?_) (by simp only [List.getElem?_toArray, List.getElem?_cons_succ, List.getElem?_cons_zero]; rfl) (by kernel_rfl) (by kernel_rfl) (by kernel_rfl) (fun _ _ _ h => h) (Or.inl ⟨by rfl, ?_⟩) (by assumption) ?_
        rotate_left 1
        · intro w hSw; obtain ⟨hS0, hS1⟩ := hSw; go_simp; all_goals (with_reducible rfl)
        try simp only [Act.put, List.setIfInBounds_toArray, List.set_cons_zero, List.set_cons_succ]
        refine wpAnyH_take (i := 3) (v := ?_) (by simp only [List.getElem?_toArray, List.getElem?_cons_succ, List.getElem?_cons_zero]; rfl) (by kernel_rfl) (by kernel_rfl) (by kernel_rfl) (fun _ _ _ h => h) (Or.inl ⟨by rfl, ?_⟩) (by assumption) ?_
        rotate_left 1
        · intro w hSw; obtain ⟨hS0, hS1⟩ := hSw; go_simp; all_goals (with_reducible rfl)
        try simp only [Act.put, List.setIfInBounds_toArray, List.set_cons_zero, List.set_cons_succ]
        refine wpAnyH_take (i := 4) (v := ?_) (by simp only [List.getElem?_toArray, List.getElem?_cons_succ, List.getElem?_cons_zero]; rfl) (by kernel_rfl) (by kernel_rfl) (by kernel_rfl) (fun _ _ _ h => h) (Or.inl ⟨by rfl, ?_⟩) (by assumption) ?_
        rotate_left 1
        · intro w hSw; obtain ⟨hS0, hS1⟩ := hSw; go_simp; all_goals (with_reducible rfl)
        try simp only [Act.put, List.setIfInBounds_toArray, List.set_cons_zero, List.set_cons_succ]
        refine wpAnyH_take (i := 5) (v := ?_) (by simp only [List.getElem?_toArray, List.getElem?_cons_succ, List.getElem?_cons_zero]; rfl) (by kernel_rfl) (by kernel_rfl) (by kernel_rfl) (fun _ _ _ h => h) (Or.inl ⟨by rfl, ?_⟩) (by assumption) ?_
        rotate_left 1
        · intro w hSw; obtain ⟨hS0, hS1⟩ := hSw; go_simp; all_goals (with_reducible rfl)
        try simp only [Act.put, List.setIfInBounds_toArray, List.set_cons_zero, List.set_cons_succ]
        refine wpAnyH_take (i := 6) (v := ?_) (by simp only [List.getElem?_toArray, List.getElem?_cons_succ, List.getElem?_cons_zero]; rfl) (by kernel_rfl) (by kernel_rfl) (by kernel_rfl) (fun _ _ _ h => h) (Or.inl ⟨by rfl, ?_⟩) (by assumption) ?_
        rotate_left 1
        · intro w hSw; obtain ⟨hS0, hS1⟩ := hSw; go_simp; all_goals (with_reducible rfl)
        try simp only [Act.put, List.setIfInBounds_toArray, List.set_cons_zero, List.set_cons_succ]
        refine wpAnyH_take (i := 8) (v := ?_) (by simp only [List.getElem?_toArray, List.getElem?_cons_succ, List.getElem?_cons_zero]; rfl) (by kernel_rfl) (by kernel_rfl) (by kernel_rfl) (fun _ _ _ h => h) (Or.inl ⟨by rfl, ?_⟩) (by assumption) ?_
        rotate_left 1
        · intro w hSw; obtain ⟨hS0, hS1⟩ := hSw; go_simp; all_goals (with_reducible rfl)
        try simp only [Act.put, List.setIfInBounds_toArray, List.set_cons_zero, List.set_cons_succ]
        refine wpAnyH_take (i := 9) (v := ?_) (by simp only [List.getElem?_toArray, List.getElem?_cons_succ, List.getElem?_cons_zero]; rfl) (by kernel_rfl) (by kernel_rfl) (by kernel_rfl) (fun _ _ _ h => h) (Or.inl ⟨by rfl, ?_⟩) (by assumption) ?_
        rotate_left 1
        · intro w hSw; obtain ⟨hS0, hS1⟩ := hSw; go_simp; all_goals (with_reducible rfl)
        try simp only [Act.put, List.setIfInBounds_toArray, List.set_cons_zero, List.set_cons_succ]
        refine wpAnyH_take (i := 10) (v := ?_) (by simp only [List.getElem?_toArray, List.getElem?_cons_succ, List.getElem?_cons_zero]; rfl) (by kernel_rfl) (by kernel_rfl) (by kernel_rfl) (fun _ _ _ h => h) (Or.inl ⟨by rfl, ?_⟩) (by assumption) ?_
        rotate_left 1
        · intro w hSw; obtain ⟨hS0, hS1⟩ := hSw; go_simp; all_goals (with_reducible rfl)
        try simp only [Act.put, List.setIfInBounds_toArray, List.set_cons_zero, List.set_cons_succ]
        refine wpAnyH_take (i := 11) (v := ?_) (by simp only [List.getElem?_toArray, List.getElem?_cons_succ, List.getElem?_cons_zero]; rfl) (by kernel_rfl) (by kernel_rfl) (by kernel_rfl) (fun _ _ _ h => h) (Or.inl ⟨by rfl, ?_⟩) (by assumption) ?_
        rotate_left 1
        · intro w hSw; obtain ⟨hS0, hS1⟩ := hSw; go_simp; all_goals (with_reducible rfl)
        try simp only [Act.put, List.setIfInBounds_toArray, List.set_cons_zero, List.set_cons_succ]
        refine wpAnyH_take (i := 12) (v := ?_) (by simp only [List.getElem?_toArray, List.getElem?_cons_succ, List.getElem?_cons_zero]; rfl) (by kernel_rfl) (by kernel_rfl) (by kernel_rfl) (fun _ _ _ h => h) (Or.inl ⟨by rfl, ?_⟩) (by assumption) ?_
        rotate_left 1
        · intro w hSw; obtain ⟨hS0, hS1⟩ := hSw; go_simp; all_goals (with_reducible rfl)
        try simp only [Act.put, List.setIfInBounds_toArray, List.set_cons_zero, List.set_cons_succ]
        refine wpAnyH_take (i := 13) (v := ?_) (by simp only [List.getElem?_toArray, List.getElem?_cons_succ, List.getElem?_cons_zero]; rfl) (by kernel_rfl) (by kernel_rfl) (by kernel_rfl) (fun _ _ _ h => h) (Or.inl ⟨by rfl, ?_⟩) (by assumption) ?_
        rotate_left 1
        · intro w hSw; obtain ⟨hS0, hS1⟩ := hSw; go_simp; all_goals (with_reducible rfl)
        try simp only [Act.put, List.setIfInBounds_toArray, List.set_cons_zero, List.set_cons_succ]
        refine wpAnyH_take (i := 14) (v := ?_) (by simp only [List.getElem?_toArray, List.getElem?_cons_succ, List.getElem?_cons_zero]; rfl) (by kernel_rfl) (by kernel_rfl) (by kernel_rfl) (fun _ _ _ h => h) (Or.inl ⟨by rfl, ?_⟩) (by assumption) ?_
        rotate_left 1
        · intro w hSw; obtain ⟨hS0, hS1⟩ := hSw; go_simp; all_goals (with_reducible rfl)
        try simp only [Act.put, List.setIfInBounds_toArray, List.set_cons_zero, List.set_cons_succ]
        refine wpAnyH_take (i := 15) (v := ?_) (by simp only [List.getElem?_toArray, List.getElem?_cons_succ, List.getElem?_cons_zero]; rfl) (by kernel_rfl) (by kernel_rfl) (by kernel_rfl) (fun _ _ _ h => h) (Or.inl ⟨by rfl, ?_⟩) (by assumption) ?_
        rotate_left 1
        · intro w hSw; obtain ⟨hS0, hS1⟩ := hSw; go_simp; all_goals (with_reducible rfl)
        try simp only [Act.put, List.setIfInBounds_toArray, List.set_cons_zero, List.set_cons_succ]
        refine wpAnyH_take (i := 16) (v := ?_) (by simp only [List.getElem?_toArray, List.getElem?_cons_succ, List.getElem?_cons_zero]; rfl) (by kernel_rfl) (by kernel_rfl) (by kernel_rfl) (fun _ _ _ h => h) (Or.inl ⟨by rfl, ?_⟩) (by assumption) ?_
        rotate_left 1
        · intro w hSw; obtain ⟨hS0, hS1⟩ := hSw; go_simp; all_goals (with_reducible rfl)
        try simp only [Act.put, List.setIfInBounds_toArray, List.set_cons_zero, List.set_cons_succ]
        refine wpAnyH_take (i := 17) (v := ?_) (by simp only [List.getElem?_toArray, List.getElem?_cons_succ, List.getElem?_cons_zero]; rfl) (by kernel_rfl) (by kernel_rfl) (by kernel_rfl) (fun _ _ _ h => h) (Or.inl ⟨by rfl, ?_⟩) (by assumption) ?_
        rotate_left 1
        · intro w hSw; obtain ⟨hS0, hS1⟩ := hSw; go_simp; all_goals (with_reducible rfl)
        try simp only [Act.put, List.setIfInBounds_toArray, List.set_cons_zero, List.set_cons_succ]
        refine wpAnyH_take (i := 18) (v := ?_) (by simp only [List.getElem?_toArray, List.getElem?_cons_succ, List.getElem?_cons_zero]; rfl) (by kernel_rfl) (by kernel_rfl) (by kernel_rfl) (fun _ _ _ h => h) (Or.inl ⟨by rfl, ?_⟩) (by assumption) ?_
        rotate_left 1
        · intro w hSw; obtain ⟨hS0, hS1⟩ := hSw; go_simp; all_goals (with_reducible rfl)
        try simp only [Act.put, List.setIfInBounds_toArray, List.set_cons_zero, List.set_cons_succ]
        have hcw := lCut S0.out.law (i := 0) rfl N HNR.out S0.out.bls HKL.out
        rw [HW.out] at hcw
        unfold dptr at hcw
        refine wpAnyH_ready (rs := [7]) (by kernel_rfl) (by simp) ?_
        refine AllReadyH.cons (by simp only [List.getElem?_toArray, List.getElem?_cons_succ, List.getElem?_cons_zero]; rfl) (fun K hK => ?_) AllReadyH.nil
        go_simp
        refine (hcw).mono ?_; rintro e v2 ⟨rfl, hl2, hk2⟩
        have S2 := Lib.hid (S0.out.code hl2 hk2)
        clear hl2 hk2 hcw
        go_wp2_with fail
        refine hK.out _ _ (⟨(HX.out _ S2.out.law.grown).n, (HX.out _ S2.out.law.grown).kv⟩) (fun hHeld => ?_)
        clear hK K
        try simp only [Act.put, List.setIfInBounds_toArray, List.set_cons_zero, List.set_cons_succ]
        obtain ⟨on, lv, hrk⟩ := S2.out.ref
        have hxw := rCut_any hrk N HNR.out.2 (HX.out _ S2.out.law.grown).bls HKL.out (fun w' hk => (HX.out w' (hk.grown (fun k e => by have := (S2.out.law.2.1 q (by simp)).1; have e : k = q := e; omega) S2.out.law.grown)).bls)
        dsimp only at hxw
        rw [HW.out] at hxw
        unfold dptr at hxw
        clear hrk
        refine wpAnyH_ready (rs := [19]) (by kernel_rfl) (by simp) ?_
        refine AllReadyH.cons (by simp only [List.getElem?_toArray, List.getElem?_cons_succ, List.getElem?_cons_zero]; rfl) (fun K hK => ?_) AllReadyH.nil
        go_simp
        refine (hxw).mono ?_; rintro e v4 ⟨kr2, rfl, hr2, hk2, hf2⟩
        have S4 := Lib.hid (S2.out.doc hr2 hk2 hf2)
        clear hr2 hk2 hf2 hxw
        go_wp2_with fail
        refine hK.out _ _ (⟨(HX.out _ S4.out.law.grown).n, (HX.out _ S4.out.law.grown).kv⟩) (fun hHeld => ?_)
        clear hK K
        try simp only [Act.put, List.setIfInBounds_toArray, List.set_cons_zero, List.set_cons_succ]
        refine wpAnyH_take (i := 20) (v := ?_) (by simp only [List.getElem?_toArray, List.getElem?_cons_succ, List.getElem?_cons_zero]; rfl) (by kernel_rfl) (by kernel_rfl) (by kernel_rfl) (fun _ _ _ h => h) (Or.inl ⟨by rfl, ?_⟩) (by assumption) ?_
        rotate_left 1
        · intro w hSw; obtain ⟨hS0, hS1⟩ := hSw; go_simp; all_goals (with_reducible rfl)
        try simp only [Act.put, List.setIfInBounds_toArray, List.set_cons_zero, List.set_cons_succ]
        refine wpAnyH_take (i := 21) (v := ?_) (by simp only [List.getElem?_toArray, List.getElem?_cons_succ, List.getElem?_cons_zero]; rfl) (by kernel_rfl) (by kernel_rfl) (by kernel_rfl) (fun _ _ _ h => h) (Or.inl ⟨by rfl, ?_⟩) (by assumption) ?_
        rotate_left 1
        · intro w hSw; obtain ⟨hS0, hS1⟩ := hSw; go_simp; all_goals (with_reducible rfl)
        try simp only [Act.put, List.setIfInBounds_toArray, List.set_cons_zero, List.set_cons_succ]
        refine wpAnyH_done (by kernel_rfl) ?_ _
        refine NoPanic.normal ?_
        clear hHeld
        go_wp2_with fail
        have SE := Lib.hid (S4.out.end)
        rw [HM.out] at SE
        go_loopw [21] (fun y wr => ∃ k : Nat, k ≤ m ∧ y = .int .i64 k ∧ St2 w wr R p q s2 _ (.slice a' m c') m) (fun y _ => m - (intOf y).toNat)
        case atStart => exact ⟨0, Nat.zero_le _, rfl, SE.out⟩
        case round =>
          obtain ⟨k, hk, rfl, h2⟩ := hrel
          have H2 := Lib.hid h2
          clear h2
          by_cases hkm : k < m
          · obtain ⟨g, rfl⟩ : ∃ g, a' = some ⟨g, 0, none⟩ := by
              obtain ⟨_, a3, c3, e3, h3⟩ := H2.out.form
              cases e3
              exact h3 (by omega)
            obtain ⟨bk, hb, hf⟩ := H2.out.cell hkm
            go_wp2_with fail
            go_roundw
            case rel => exact ⟨k + 1, by omega, by go_num, H2.out.set k (!bk)⟩
            case measure => (simp [intOf]; try omega)
          · obtain rfl : k = m := by omega
            go_wp2_with fail
            refine (same_any H2.out.law 0 rfl H2.out.ref HS.out).mono ?_; rintro e y ⟨rfl, hgy⟩
            have GY := Lib.hid hgy
            clear hgy
            go_wp2_with fail
            go_roundw
            case rel => exact ⟨i + 1, by omega, by go_num, p, q, _, s2, rfl, rfl, (H2.out.law.new GY.out).sub (by simp), H2.out.ref.new GY.out, HM2.out⟩
            case measure => (simp [intOf]; try omega)
    by_cases h4 : K = 4
    · as_aux_lemma =>
        subst h4
        go_upto_region 31 with fail
        clear kc
        have hdr : wk.grownBy wk.drew none := ⟨rfl, rfl, rfl, Nat.le_refl _, fun _ _ _ => rfl⟩
        have S0 := Lib.hid (HST.out.new hdr)
        clear hdr
        obtain ⟨⟨s2, z⟩, hw⟩ : ∃ r, s.fail ks = r := ⟨_, rfl⟩
        have hm2 := DS.m_fail s ks
        rw [hw] at hm2
        have HM2 : Hid (s2.m ≤ i + 1) := Lib.hid (by have := HMS.out; dsimp only at hm2; omega)
        have HW := Lib.hid hw
        have HE := eq_self z
        clear hw hm2
        refine wp_region_noPanic ?_
        refine wp_region_held_drew (S := fun w' => w'.cell? ⟨b, o + i * 4 + 3, none⟩ = some (.slice ak m ck) ∧ True) (by kernel_rfl) (⟨(HX.out _ S0.out.law.grown).kv, trivial⟩) (fun hHeld => ?_)
        generalize wk.drew = wd at *
        refine wpAnyH_take (i := 0) (v := ?_) (by simp only [List.getElem?_toArray, List.getElem?_cons_zero]; rfl) (by kernel_rfl) (by kernel_rfl) (by kernel_rfl) (fun _ _ _ h => h) (Or.inl ⟨by rfl, ?_⟩) (by assumption) ?_
        rotate_left 1
        · intro w hSw; obtain ⟨hS0, hS1⟩ := hSw; go_simp; all_goals (with_reducible rfl)
        try simp only [Act.put, List.setIfInBounds_toArray, List.set_cons_zero, List.set_cons_succ]
        refine wpAnyH_take (i := 1) (v := ?_) (by simp only [List.getElem?_toArray, List.getElem?_cons_succ, List.getElem?_cons_zero]; rfl) (by kernel_rfl) (by kernel_rfl) (by kernel_rfl) (fun _ _ _ h => h) (Or.inl ⟨by rfl, ?_⟩) (by assumption) ?_
        rotate_left 1
        · intro w hSw; obtain ⟨hS0, hS1⟩ := hSw; go_simp; all_goals (with_reducible rfl)
        try simp only [Act.put, List.setIfInBounds_toArray, List.set_cons_zero, List.set_cons_succ]
        refine wpAnyH_take (i := 3) (v := ?_) (by simp only [List.getElem?_toArray, List.getElem?_cons_succ, List.getElem?_cons_zero]; rfl) (by kernel_rfl) (by kernel_rfl) (by kernel_rfl) (fun _ _ _ h => h) (Or.inl ⟨by rfl, ?_⟩) (by assumption) ?_
        rotate_left 1
        · intro w hSw; obtain ⟨hS0, hS1⟩ := hSw; go_simp; all_goals (with_reducible rfl)
        try simp only [Act.put, List.setIfInBounds_toArray, List.set_cons_zero, List.set_cons_succ]
        refine wpAnyH_take (i := 4) (v := ?_) (by simp only [List.getElem?_toArray, List.getElem?_cons_succ, List.getElem?_cons_zero]; rfl) (by kernel_rfl) (by kernel_rfl) (by kernel_rfl) (fun _ _ _ h => h) (Or.inl ⟨by rfl, ?_⟩) (by assumption) ?_
        rotate_left 1
        · intro w hSw; obtain ⟨hS0, hS1⟩ := hSw; go_simp; all_goals (with_reducible rfl)
        try simp only [Act.put, List.setIfInBounds_toArray, List.set_cons_zero, List.set_cons_succ]
        refine wpAnyH_take (i := 5) (v := ?_) (by simp only [List.getElem?_toArray, List.getElem?_cons_succ, List.getElem?_cons_zero]; rfl) (by kernel_rfl) (by kernel_rfl) (by kernel_rfl) (fun _ _ _ h => h) (Or.inl ⟨by rfl, ?_⟩) (by assumption) ?_
        rotate_left 1
        · intro w hSw; obtain ⟨hS0, hS1⟩ := hSw; go_simp; all_goals (with_reducible rfl)
        try simp only [Act.put, List.setIfInBounds_toArray, List.set_cons_zero, List.set_cons_succ]
        refine wpAnyH_take (i := 6) (v := ?_) (by simp only [List.getElem?_toArray, List.getElem?_cons_succ, List.getElem?_cons_zero]; rfl) (by kernel_rfl) (by kernel_rfl) (by kernel_rfl) (fun _ _ _ h => h) (Or.inl ⟨by rfl, ?_⟩) (by assumption) ?_
        rotate_left 1
        · intro w hSw; obtain ⟨hS0, hS1⟩ := hSw; go_simp; all_goals (with_reducible rfl)
        try simp only [Act.put, List.setIfInBounds_toArray, List.set_cons_zero, List.set_cons_succ]
        refine wpAnyH_take (i := 7) (v := ?_) (by simp only [List.getElem?_toArray, List.getElem?_cons_succ, List.getElem?_cons_zero]; rfl) (by kernel_rfl) (by kernel_rfl) (by kernel_rfl) (fun _ _ _ h => h) (Or.inl ⟨by rfl, ?_⟩) (by assumption) ?_
        rotate_left 1
        · intro w hSw; obtain ⟨hS0, hS1⟩ := hSw; go_simp; all_goals (with_reducible rfl)
        try simp only [Act.put, List.setIfInBounds_toArray, List.set_cons_zero, List.set_cons_succ]
        refine wpAnyH_take (i := 8) (v := ?_) (by simp only [List.getElem?_toArray, List.getElem?_cons_succ, List.getElem?_cons_zero]; rfl) (by kernel_rfl) (by kernel_rfl) (by kernel_rfl) (fun _ _ _ h => h) (Or.inl ⟨by rfl, ?_⟩) (by assumption) ?_
        rotate_left 1
        · intro w hSw; obtain ⟨hS0, hS1⟩ := hSw; go_simp; all_goals (with_reducible rfl)
        try simp only [Act.put, List.setIfInBounds_toArray, List.set_cons_zero, List.set_cons_succ]
        have hcw := lFail S0.out.law (i := 0) rfl (by have := HM1.out; omega) S0.out.bls
        rw [HW.out] at hcw
        unfold dptr at hcw
        refine wpAnyH_ready (rs := [2]) (by kernel_rfl) (by simp) ?_
        refine AllReadyH.cons (by simp only [List.getElem?_toArray, List.getElem?_cons_succ, List.getElem?_cons_zero]; rfl) (fun K hK => ?_) AllReadyH.nil
        go_simp
        refine (hcw).mono ?_; rintro e v2 ⟨rfl, hl2, hk2⟩
        have S2 := Lib.hid (S0.out.code hl2 hk2)
        clear hl2 hk2 hcw
        go_wp2_with fail
        refine hK.out _ _ (⟨(HX.out _ S2.out.law.grown).kv, trivial⟩) (fun hHeld => ?_)
        clear hK K
        try simp only [Act.put, List.setIfInBounds_toArray, List.set_cons_zero, List.set_cons_succ]
        have hxw := rFail_any S2.out.ref (by have := HM1.out; omega) (HX.out _ S2.out.law.grown).bls
        dsimp only at hxw
        rw [HW.out] at hxw
        unfold dptr at hxw
        refine wpAnyH_ready (rs := [9]) (by kernel_rfl) (by simp) ?_
        refine AllReadyH.cons (by simp only [List.getElem?_toArray, List.getElem?_cons_succ, List.getElem?_cons_zero]; rfl) (fun K hK => ?_) AllReadyH.nil
        go_simp
        refine (hxw).mono ?_; rintro e v4 ⟨kr2, rfl, hr2, hk2, hf2⟩
        have S4 := Lib.hid (S2.out.doc hr2 hk2 hf2)
        clear hr2 hk2 hf2 hxw
        go_wp2_with fail
        refine hK.out _ _ (⟨(HX.out _ S4.out.law.grown).kv, trivial⟩) (fun hHeld => ?_)
        clear hK K
        try simp only [Act.put, List.setIfInBounds_toArray, List.set_cons_zero, List.set_cons_succ]
        refine wpAnyH_take (i := 10) (v := ?_) (by simp only [List.getElem?_toArray, List.getElem?_cons_succ, List.getElem?_cons_zero]; rfl) (by kernel_rfl) (by kernel_rfl) (by kernel_rfl) (fun _ _ _ h => h) (Or.inl ⟨by rfl, ?_⟩) (by assumption) ?_
        rotate_left 1
        · intro w hSw; obtain ⟨hS0, hS1⟩ := hSw; go_simp; all_goals (with_reducible rfl)
        try simp only [Act.put, List.setIfInBounds_toArray, List.set_cons_zero, List.set_cons_succ]
        refine wpAnyH_take (i := 11) (v := ?_) (by simp only [List.getElem?_toArray, List.getElem?_cons_succ, List.getElem?_cons_zero]; rfl) (by kernel_rfl) (by kernel_rfl) (by kernel_rfl) (fun _ _ _ h => h) (Or.inl ⟨by rfl, ?_⟩) (by assumption) ?_
        rotate_left 1
        · intro w hSw; obtain ⟨hS0, hS1⟩ := hSw; go_simp; all_goals (with_reducible rfl)
        try simp only [Act.put, List.setIfInBounds_toArray, List.set_cons_zero, List.set_cons_succ]
        refine wpAnyH_done (by kernel_rfl) ?_ _
        refine NoPanic.normal ?_
        clear hHeld
        go_wp2_with fail
        have SE := Lib.hid (S4.out.end)
        rw [HM.out] at SE
        go_loopw [21] (fun y wr => ∃ k : Nat, k ≤ m ∧ y = .int .i64 k ∧ St2 w wr R p q s2 _ (.slice a' m c') m) (fun y _ => m - (intOf y).toNat)
        case atStart => exact ⟨0, Nat.zero_le _, rfl, SE.out⟩
        case round =>
          obtain ⟨k, hk, rfl, h2⟩ := hrel
          have H2 := Lib.hid h2
          clear h2
          by_cases hkm : k < m
          · obtain ⟨g, rfl⟩ : ∃ g, a' = some ⟨g, 0, none⟩ := by
              obtain ⟨_, a3, c3, e3, h3⟩ := H2.out.form
              cases e3
              exact h3 (by omega)
            obtain ⟨bk, hb, hf⟩ := H2.out.cell hkm
            go_wp2_with fail
            go_roundw
            case rel => exact ⟨k + 1, by omega, by go_num, H2.out.set k (!bk)⟩
            case measure => (simp [intOf]; try omega)
          · obtain rfl : k = m := by omega
            go_wp2_with fail
            refine (same_any H2.out.law 0 rfl H2.out.ref HS.out).mono ?_; rintro e y ⟨rfl, hgy⟩
            have GY := Lib.hid hgy
            clear hgy
            go_wp2_with fail
            go_roundw
            case rel => exact ⟨i + 1, by omega, by go_num, p, q, _, s2, rfl, rfl, (H2.out.law.new GY.out).sub (by simp), H2.out.ref.new GY.out, HM2.out⟩
            case measure => (simp [intOf]; try omega)
    by_cases h5 : K = 5
    · as_aux_lemma =>
        subst h5
        go_upto_region 33 with fail
        clear kc
        rcases hd : s.dd with _ | _
        · have hca := lBoot_no HST.out.law (i := 0) rfl hd
          obtain ⟨on, lv, hrk⟩ := HST.out.ref
          have hcb := rBoot_no hrk hd
          unfold dptr at hca hcb
          have HCA := Lib.hid hca
          have HCB := Lib.hid hcb
          clear hca hcb hrk hd
          go_wp2_with (first
            | (go_at_call 11; refine HCA.out.mono ?_; rintro e v1 ⟨rfl, rfl⟩)
            | (go_at_call 31; refine HCB.out.mono ?_; rintro e v2 ⟨rfl, rfl⟩))
          have SE := Lib.hid (HST.out.end)
          rw [HM.out] at SE
          go_loopw [21] (fun y wr => ∃ k : Nat, k ≤ m ∧ y = .int .i64 k ∧ St2 w wr R p q s _ (.slice a' m c') m) (fun y _ => m - (intOf y).toNat)
          case atStart => exact ⟨0, Nat.zero_le _, rfl, SE.out⟩
          case round =>
            obtain ⟨k, hk, rfl, h2⟩ := hrel
            have H2 := Lib.hid h2
            clear h2
            by_cases hkm : k < m
            · obtain ⟨g, rfl⟩ : ∃ g, a' = some ⟨g, 0, none⟩ := by
                obtain ⟨_, a3, c3, e3, h3⟩ := H2.out.form
                cases e3
                exact h3 (by omega)
              obtain ⟨bk, hb, hf⟩ := H2.out.cell hkm
              go_wp2_with fail
              go_roundw
              case rel => exact ⟨k + 1, by omega, by go_num, H2.out.set k (!bk)⟩
              case measure => (simp [intOf]; try omega)
            · obtain rfl : k = m := by omega
              go_wp2_with fail
              refine (same_any H2.out.law 0 rfl H2.out.ref HS.out).mono ?_; rintro e y ⟨rfl, hgy⟩
              have GY := Lib.hid hgy
              clear hgy
              go_wp2_with fail
              go_roundw
              case rel => exact ⟨i + 1, by omega, by go_num, p, q, _, s, rfl, rfl, (H2.out.law.new GY.out).sub (by simp), H2.out.ref.new GY.out, (by have := HMS.out; omega)⟩
              case measure => (simp [intOf]; try omega)
        · have hca := lBoot HST.out.law (i := 0) rfl (by have := HM1.out; omega) hd
          unfold dptr at hca
          have HCA := Lib.hid hca
          have HD := Lib.hid hd
          clear hca hd
          go_wp2_with fail
          refine HCA.out.mono ?_; rintro e v1 ⟨p2, rfl, hl2, hg2⟩
          have LA := Lib.hid hl2
          have S1 := Lib.hid (And.intro (HST.out.ref.new hg2) ((Kept.new (S := fun _ => False) hg2).own HST.out.keep (fun _ _ h => h)))
          clear hl2 hg2
          go_wp2_with fail
          obtain ⟨on, lv, hrk⟩ := S1.out.1
          refine (rBoot_any hrk (by have := HM1.out; omega) HD.out).mono ?_; rintro e v2 ⟨q2, rfl, hr2, hg2, hq2⟩
          have LB := Lib.hid (LA.out.mark hg2 hq2 (by obtain ⟨on, lv, h⟩ := hr2; exact h.blk.lt))
          have RB := Lib.hid hr2
          have S2 := Lib.hid (And.intro (S1.out.1.new hg2) ((Kept.new (S := fun _ => False) hg2).own S1.out.2 (fun _ _ h => h)))
          have hde := lDead LB.out (i := 1) rfl
          rw [HD.out] at hde
          unfold dptr at hde ⊢
          have HDE := Lib.hid hde
          have hsa := same_any LB.out 1 rfl S2.out.1 HS.out
          unfold dptr at hsa
          have HSA := Lib.hid hsa
          clear hr2 hg2 hq2 hrk hde hsa
          go_wp2_with (first
            | (go_at_call 19; refine HDE.out.mono ?_; rintro e v3 ⟨rfl, rfl⟩)
            | (go_at_call 32; refine HSA.out.mono ?_; rintro e v4 ⟨rfl, hg4⟩; have G4 := Lib.hid hg4; clear hg4))
          have S4 : Hid (St w v4 R p2 s.anew q2 s.anew (.slice none 0 0) (.slice a' m c') ks) := Lib.hid ⟨(LB.out.drop2.new G4.out).sub (by intro r hr; simp at hr ⊢; rcases hr with h | h <;> simp [h]), RB.out.new G4.out, (Kept.new (S := fun _ => False) G4.out).own S2.out.2 (fun _ _ h => h), HST.out.own, fun g e => by cases e⟩
          have SE := Lib.hid (S4.out.end)
          rw [HM.out] at SE
          go_loopw [21] (fun y wr => ∃ k : Nat, k ≤ m ∧ y = .int .i64 k ∧ St2 w wr R p2 q2 s.anew _ (.slice a' m c') m) (fun y _ => m - (intOf y).toNat)
          case atStart => exact ⟨0, Nat.zero_le _, rfl, SE.out⟩
          case round =>
            obtain ⟨k, hk, rfl, h2⟩ := hrel
            have H2 := Lib.hid h2
            clear h2
            by_cases hkm : k < m
            · obtain ⟨g, rfl⟩ : ∃ g, a' = some ⟨g, 0, none⟩ := by
                obtain ⟨_, a3, c3, e3, h3⟩ := H2.out.form
                cases e3
                exact h3 (by omega)
              obtain ⟨bk, hb, hf⟩ := H2.out.cell hkm
              go_wp2_with fail
              go_roundw
              case rel => exact ⟨k + 1, by omega, by go_num, H2.out.set k (!bk)⟩
              case measure => (simp [intOf]; try omega)
            · obtain rfl : k = m := by omega
              go_wp2_with fail
              refine (same_any H2.out.law 0 rfl H2.out.ref HS.out).mono ?_; rintro e y ⟨rfl, hgy⟩
              have GY := Lib.hid hgy
              clear hgy
              go_wp2_with fail
              go_roundw
              case rel => exact ⟨i + 1, by omega, by go_num, p2, q2, _, s.anew, rfl, rfl, (H2.out.law.new GY.out).sub (by simp), H2.out.ref.new GY.out, (by have := HMS.out; show s.m ≤ _; omega)⟩
              case measure => (simp [intOf]; try omega)
    as_aux_lemma =>
      have b0 := beq_false_of_ne h0
      have b1 := beq_false_of_ne h1
      have b2 := beq_false_of_ne h2
      have b3 := beq_false_of_ne h3
      have b4 := beq_false_of_ne h4
      have b5 := beq_false_of_ne h5
      go_upto_region 15 with fail
      clear kc b0 b1 b2 b3 b4 b5
      have hca := lCopy HST.out.law (i := 0) rfl (by have := HM1.out; omega)
      unfold dptr at hca
      have HCA := Lib.hid hca
      clear hca
      go_wp2_with fail
      refine HCA.out.mono ?_; rintro e v1 ⟨p2, rfl, hl2, hg2⟩
      have LA := Lib.hid hl2
      have S1 := Lib.hid (And.intro (HST.out.ref.new hg2) ((Kept.new (S := fun _ => False) hg2).own HST.out.keep (fun _ _ h => h)))
      have HB9 : Hid (∀ w, Calls Try.prog 15 #[.int .u8 9] w (Block w (Bk.of 9))) := Lib.hid (fun w => block_any 9 w)
      clear hl2 hg2
      go_wp2_with fail
      refine (HB9.out _).mono ?_; rintro e v2 ⟨rfl, hg2⟩
      have LB := Lib.hid (LA.out.new hg2)
      have S2 := Lib.hid (And.intro (S1.out.1.new hg2) ((Kept.new (S := fun _ => False) hg2).own S1.out.2 (fun _ _ h => h)))
      clear hg2
      have hcw := lWrite LB.out (i := 1) rfl (by have := HM1.out; omega) 0 (by omega) (Bk.of 9)
      have hm2 := DS.m_write s 0 (Bk.of 9)
      obtain ⟨⟨s2, z2⟩, hw⟩ : ∃ r, s.write 0 (Bk.of 9) = r := ⟨_, rfl⟩
      rw [hw] at hcw hm2
      unfold dptr at hcw
      have HCW := Lib.hid hcw
      have HM2 : Hid (s2.m ≤ 1000000) := Lib.hid (by have := HM1.out; dsimp only at hm2; omega)
      clear hcw hm2 hw
      go_wp2_with fail
      refine HCW.out.mono ?_; rintro e v3 ⟨rfl, hl2, hk2⟩
      have LC : Hid (Law w v3 (R ++ [q]) [(p2, s), (p, s2)]) := Lib.hid hl2
      have S3 := Lib.hid (And.intro (S2.out.1.disk hk2) (Kept.own hk2 S2.out.2 (fun k e => BlsT.off (ks := ks) S2.out.2 e)))
      clear hl2 hk2
      have hcw := lFlush LC.out (i := 1) rfl (by have := HM2.out; omega)
      have hm2 := DS.m_flush s2
      obtain ⟨⟨s3, z3⟩, hw⟩ : ∃ r, s2.flush = r := ⟨_, rfl⟩
      rw [hw] at hcw hm2
      unfold dptr at hcw
      have HCF := Lib.hid hcw
      have HM3 : Hid (s3.m ≤ 1000000) := Lib.hid (by have := HM2.out; dsimp only at hm2; omega)
      clear hcw hm2 hw
      go_wp2_with fail
      refine HCF.out.mono ?_; rintro e v4 ⟨rfl, hl2, hk2⟩
      have LD4 : Hid (Law w v4 (R ++ [q]) [(p2, s), (p, s3)]) := Lib.hid hl2
      have S4' := Lib.hid (And.intro (S3.out.1.disk hk2) (Kept.own hk2 S3.out.2 (fun k e => BlsT.off (ks := ks) S3.out.2 e)))
      clear hl2 hk2
      have hcw := lFail LD4.out (i := 1) rfl (by have := HM3.out; omega) (Bls.nil v4)
      obtain ⟨⟨s4, z4⟩, hw⟩ : ∃ r, s3.fail [] = r := ⟨_, rfl⟩
      rw [hw] at hcw
      unfold dptr at hcw
      have HCG := Lib.hid hcw
      clear hcw hw
      go_wp2_with fail
      refine HCG.out.mono ?_; rintro e v5 ⟨rfl, hl2, hk2⟩
      have LE5 : Hid (Law w v5 (R ++ [q]) [(p2, s), (p, s4)]) := Lib.hid hl2
      have S5 : Hid (St w v5 R p2 s q s kr (.slice a' m c') ks) := Lib.hid ⟨LE5.out.drop2, S4'.out.1.disk hk2, Kept.own hk2 S4'.out.2 (fun k e => BlsT.off (ks := ks) S4'.out.2 e), HST.out.own, HST.out.apart⟩
      clear hl2 hk2
      go_wp2_with fail
      have SE := Lib.hid (S5.out.end)
      rw [HM.out] at SE
      go_loopw [21] (fun y wr => ∃ k : Nat, k ≤ m ∧ y = .int .i64 k ∧ St2 w wr R p2 q s _ (.slice a' m c') m) (fun y _ => m - (intOf y).toNat)
      case atStart => exact ⟨0, Nat.zero_le _, rfl, SE.out⟩
      case round =>
        obtain ⟨k, hk, rfl, h2⟩ := hrel
        have H2 := Lib.hid h2
        clear h2
        by_cases hkm : k < m
        · obtain ⟨g, rfl⟩ : ∃ g, a' = some ⟨g, 0, none⟩ := by
            obtain ⟨_, a3, c3, e3, h3⟩ := H2.out.form
            cases e3
            exact h3 (by omega)
          obtain ⟨bk, hb, hf⟩ := H2.out.cell hkm
          go_wp2_with fail
          go_roundw
          case rel => exact ⟨k + 1, by omega, by go_num, H2.out.set k (!bk)⟩
          case measure => (simp [intOf]; try omega)
        · obtain rfl : k = m := by omega
          go_wp2_with fail
          refine (same_any H2.out.law 0 rfl H2.out.ref HS.out).mono ?_; rintro e y ⟨rfl, hgy⟩
          have GY := Lib.hid hgy
          clear hgy
          go_wp2_with fail
          go_roundw
          case rel => exact ⟨i + 1, by omega, by go_num, p2, q, _, s, rfl, rfl, (H2.out.law.new GY.out).sub (by simp), H2.out.ref.new GY.out, (by have := HMS.out; omega)⟩
          case measure => (simp [intOf]; try omega)
end Go.Proofs.Ytnnhnkpbiilooaa
