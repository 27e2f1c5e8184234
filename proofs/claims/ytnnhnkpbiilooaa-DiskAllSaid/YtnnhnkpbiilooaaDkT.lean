/- disk: DiskAll. -/
import Derived.Test.YtnnhnkpbiilooaaDkS
import Derived.Deep.RegionHeld3
namespace Go.Proofs.Ytnnhnkpbiilooaa
open Go.RowKit Go.Maps

set_option maxRecDepth 100000 in
set_option maxHeartbeats 8000000 in
theorem all_main (vf : Value) (fs : List UInt8) (vw : Value) (ws : List UInt8) (w : World) (hvf : Bts w vf fs) (hvw : Bts w vw ws) : Calls Try.prog 8 #[vf, vw] w (Asks w true) := by
  have L0 := Lib.hid (Law.start w)
  obtain ⟨af, cf, rfl, hf1, hf2⟩ := hvf.form
  obtain ⟨aw, cw, rfl, hw1, hw2⟩ := hvw.form
  have HF := Lib.hid hvf
  have HW := Lib.hid hvw
  obtain ⟨nf, hnf⟩ : ∃ n, fs.length = n := ⟨_, rfl⟩
  obtain ⟨nw, hnw⟩ : ∃ n, ws.length = n := ⟨_, rfl⟩
  have HNF := Lib.hid hnf
  have HNW := Lib.hid hnw
  rw [hnf] at hf1 ⊢ HF
  rw [hnw] at hw1 ⊢ HW
  unfold maxLen at hf2 hw2
  have zf : (nf : Int) ≤ 9223372036854775807 := by omega
  have zw : (nw : Int) ≤ 9223372036854775807 := by omega
  clear hvf hvw hnf hnw hf1 hw1 hf2 hw2
  by_cases h1 : 200 < (nf : Int)
  · go_enter Try.func8, Try.ntmps8
    go_wp2_with fail
    refine (lNew L0.out 64 (by omega) (by omega)).mono ?_; rintro e w1 ⟨p, rfl, hl, hg⟩; have L1 := Lib.hid hl; clear hl hg
    go_wp2_with fail
    refine (works_any _).mono ?_; rintro e w2 ⟨rfl, hg⟩; have L2 := Lib.hid (L1.out.new hg); clear hg
    go_wp2_with fail
    refine (works_any _).mono ?_; rintro e w3 ⟨rfl, hg⟩; have L3 := Lib.hid (L2.out.new hg); clear hg
    go_wp2_with fail
    go_ret
    exact ⟨rfl, L3.out.grown⟩
  by_cases h2 : 200 < (nw : Int)
  · go_enter Try.func8, Try.ntmps8
    go_wp2_with fail
    refine (lNew L0.out 64 (by omega) (by omega)).mono ?_; rintro e w1 ⟨p, rfl, hl, hg⟩; have L1 := Lib.hid hl; clear hl hg
    go_wp2_with fail
    refine (works_any _).mono ?_; rintro e w2 ⟨rfl, hg⟩; have L2 := Lib.hid (L1.out.new hg); clear hg
    go_wp2_with fail
    refine (works_any _).mono ?_; rintro e w3 ⟨rfl, hg⟩; have L3 := Lib.hid (L2.out.new hg); clear hg
    go_wp2_with fail
    go_ret
    exact ⟨rfl, L3.out.grown⟩
  have HNF2 : Hid (nf ≤ 200) := Lib.hid (by omega)
  have HNW2 : Hid (nw ≤ 200) := Lib.hid (by omega)
  go_enter Try.func8, Try.ntmps8
  go_wp2_with fail
  refine (lNew L0.out 64 (by omega) (by omega)).mono ?_; rintro e w1 ⟨p, rfl, hl, hg⟩; have L1 := Lib.hid hl; clear hl hg
  go_wp2_with fail
  refine (works_any _).mono ?_; rintro e w2 ⟨rfl, hg⟩; have L2 := Lib.hid (L1.out.new hg); clear hg
  have L3 : Hid (Law w w2 [] [(p, adds (DS.new 64) ((fs.take 0).map (wrOf id)))]) := Lib.hid (by rw [List.take_zero, List.map_nil, adds_nil]; exact L2.out)
  go_wp2_with fail
  go_loopw [7] (fun i wr => ∃ k : Nat, k ≤ nf ∧ i = .int .i64 k ∧ Law w wr [] [(p, adds (DS.new 64) ((fs.take k).map (wrOf id)))]) (fun i _ => nf - (intOf i).toNat)
  case atStart => exact ⟨0, Nat.zero_le _, rfl, L3.out⟩
  case round =>
    obtain ⟨k, hk, rfl, hl⟩ := hrel
    have HL := Lib.hid hl
    clear hl
    by_cases hlt : k < nf
    · obtain ⟨x, hx⟩ : ∃ x, fs[k]'(by have := HNF.out; omega) = x := ⟨_, rfl⟩
      obtain ⟨bf, of, rfl, hcell⟩ := Bts.at' HF.out (by have := HNF.out; omega)
      have hc := HL.out.grown.cell (hcell k (by have := HNF.out; omega)) (by simp)
      have HCW := Lib.hid (hcell k (by have := HNF.out; omega))
      rw [hx] at hc HCW
      have htk : fs.take (k + 1) = fs.take k ++ [x] := by rw [List.take_succ_eq_append_getElem (by have := HNF.out; omega), hx]
      have HTK := Lib.hid htk
      have hx0 : (x.toNat : Int) % 64 = (num x : Int) := num_eq x
      have hx1 : 0 ≤ (x.toNat : Int) := by omega
      have hxt : (x.toNat : Int).tmod 64 = (num x : Int) := by rw [Int.tmod_eq_emod_of_nonneg hx1]; exact hx0
      have hx2 : (x.toNat : Int) ≤ 255 := by have := x.toNat_lt; omega
      have hx3 := num_wrap x
      have HX : Hid (-9223372036854775808 ≤ (num x : Int) ∧ (num x : Int) ≤ 9223372036854775807) := Lib.hid (by have := num_lt x; omega)
      have HBK := Lib.hid (fun w => block_any (x) w)
      clear hcell hx htk
      go_upto_region 7 with fail
      have hdr : wr.grownBy wr.drew none := ⟨rfl, rfl, rfl, Nat.le_refl _, fun _ _ _ => rfl⟩
      have LR := Lib.hid (HL.out.new hdr)
      clear hdr
      refine wp_region_noPanic ?_
      refine wp_region_held_drew (S := fun w' => w'.cell? ⟨bf, of + k, none⟩ = some (.int .u8 (x.toNat : Int))) (by kernel_rfl) ((by simpa using hc)) (fun hHeld => ?_)
      generalize wr.drew = wd at *
      refine wpAnyH_take (i := 0) (v := ?_) (by simp only [List.getElem?_toArray, List.getElem?_cons_zero]; rfl) (by kernel_rfl) (by kernel_rfl) (by kernel_rfl) (fun _ _ _ h => h) (Or.inl ⟨by rfl, ?_⟩) (by assumption) ?_
      rotate_left 1
      · intro w hSw; (try dsimp only at hSw); go_simp; all_goals (with_reducible rfl)
      try simp only [Act.put, List.setIfInBounds_toArray, List.set_cons_zero, List.set_cons_succ]
      refine wpAnyH_take (i := 1) (v := ?_) (by simp only [List.getElem?_toArray, List.getElem?_cons_succ, List.getElem?_cons_zero]; rfl) (by kernel_rfl) (by kernel_rfl) (by kernel_rfl) (fun _ _ _ h => h) (Or.inl ⟨by rfl, ?_⟩) (by assumption) ?_
      rotate_left 1
      · intro w hSw; (try dsimp only at hSw); go_simp; all_goals (with_reducible rfl)
      try simp only [Act.put, List.setIfInBounds_toArray, List.set_cons_zero, List.set_cons_succ]
      refine wpAnyH_take (i := 2) (v := ?_) (by simp only [List.getElem?_toArray, List.getElem?_cons_succ, List.getElem?_cons_zero]; rfl) (by kernel_rfl) (by kernel_rfl) (by kernel_rfl) (fun _ _ _ h => h) (Or.inl ⟨by rfl, ?_⟩) (by assumption) ?_
      rotate_left 1
      · intro w hSw; (try dsimp only at hSw); go_simp; all_goals (with_reducible rfl)
      try simp only [Act.put, List.setIfInBounds_toArray, List.set_cons_zero, List.set_cons_succ]
      refine wpAnyH_take (i := 3) (v := ?_) (by simp only [List.getElem?_toArray, List.getElem?_cons_succ, List.getElem?_cons_zero]; rfl) (by kernel_rfl) (by kernel_rfl) (by kernel_rfl) (fun _ _ _ h => h) (Or.inl ⟨by rfl, ?_⟩) (by assumption) ?_
      rotate_left 1
      · intro w hSw; (try dsimp only at hSw); go_simp; all_goals (with_reducible rfl)
      try simp only [Act.put, List.setIfInBounds_toArray, List.set_cons_zero, List.set_cons_succ]
      refine wpAnyH_take (i := 4) (v := ?_) (by simp only [List.getElem?_toArray, List.getElem?_cons_succ, List.getElem?_cons_zero]; rfl) (by kernel_rfl) (by kernel_rfl) (by kernel_rfl) (fun _ _ _ h => h) (Or.inl ⟨by rfl, ?_⟩) (by assumption) ?_
      rotate_left 1
      · intro w hSw; (try dsimp only at hSw); go_simp; all_goals (with_reducible rfl)
      try simp only [Act.put, List.setIfInBounds_toArray, List.set_cons_zero, List.set_cons_succ]
      refine wpAnyH_take (i := 5) (v := ?_) (by simp only [List.getElem?_toArray, List.getElem?_cons_succ, List.getElem?_cons_zero]; rfl) (by kernel_rfl) (by kernel_rfl) (by kernel_rfl) (fun _ _ _ h => h) (Or.inl ⟨by rfl, ?_⟩) (by assumption) ?_
      rotate_left 1
      · intro w hSw; (try dsimp only at hSw); go_simp; all_goals (with_reducible rfl)
      try simp only [Act.put, List.setIfInBounds_toArray, List.set_cons_zero, List.set_cons_succ]
      refine wpAnyH_take (i := 6) (v := ?_) (by simp only [List.getElem?_toArray, List.getElem?_cons_succ, List.getElem?_cons_zero]; rfl) (by kernel_rfl) (by kernel_rfl) (by kernel_rfl) (fun _ _ _ h => h) (Or.inl ⟨by rfl, ?_⟩) (by assumption) ?_
      rotate_left 1
      · intro w hSw; (try dsimp only at hSw); go_simp; all_goals (with_reducible rfl)
      try simp only [Act.put, List.setIfInBounds_toArray, List.set_cons_zero, List.set_cons_succ]
      refine wpAnyH_take (i := 7) (v := ?_) (by simp only [List.getElem?_toArray, List.getElem?_cons_succ, List.getElem?_cons_zero]; rfl) (by kernel_rfl) (by kernel_rfl) (by kernel_rfl) (fun _ _ _ h => h) (Or.inl ⟨by rfl, ?_⟩) (by assumption) ?_
      rotate_left 1
      · intro w hSw; (try dsimp only at hSw); go_simp; all_goals (with_reducible rfl)
      try simp only [Act.put, List.setIfInBounds_toArray, List.set_cons_zero, List.set_cons_succ]
      refine wpAnyH_take (i := 8) (v := ?_) (by simp only [List.getElem?_toArray, List.getElem?_cons_succ, List.getElem?_cons_zero]; rfl) (by kernel_rfl) (by kernel_rfl) (by kernel_rfl) (fun _ _ _ h => h) (Or.inl ⟨by rfl, ?_⟩) (by assumption) ?_
      rotate_left 1
      · intro w hSw; (try dsimp only at hSw); go_simp; all_goals (with_reducible rfl)
      try simp only [Act.put, List.setIfInBounds_toArray, List.set_cons_zero, List.set_cons_succ]
      refine wpAnyH_take (i := 9) (v := ?_) (by simp only [List.getElem?_toArray, List.getElem?_cons_succ, List.getElem?_cons_zero]; rfl) (by kernel_rfl) (by kernel_rfl) (by kernel_rfl) (fun _ _ _ h => h) (Or.inl ⟨by rfl, ?_⟩) (by assumption) ?_
      rotate_left 1
      · intro w hSw; (try dsimp only at hSw); go_simp; all_goals (with_reducible rfl)
      try simp only [Act.put, List.setIfInBounds_toArray, List.set_cons_zero, List.set_cons_succ]
      refine wpAnyH_take (i := 10) (v := ?_) (by simp only [List.getElem?_toArray, List.getElem?_cons_succ, List.getElem?_cons_zero]; rfl) (by kernel_rfl) (by kernel_rfl) (by kernel_rfl) (fun _ _ _ h => h) (Or.inl ⟨by rfl, ?_⟩) (by assumption) ?_
      rotate_left 1
      · intro w hSw; (try dsimp only at hSw); go_simp; all_goals (with_reducible rfl)
      try simp only [Act.put, List.setIfInBounds_toArray, List.set_cons_zero, List.set_cons_succ]
      clear hxt hx0 hx1 hx2 hx3
      refine wpAnyH_ready (rs := [11]) (by kernel_rfl) (by simp) ?_
      refine AllReadyH.cons (by simp only [List.getElem?_toArray, List.getElem?_cons_succ, List.getElem?_cons_zero]; rfl) (fun K hK => ?_) AllReadyH.nil
      go_simp
      refine (HBK.out _).mono ?_; rintro e v1 ⟨rfl, hg⟩
      have LB := Lib.hid (LR.out.new hg)
      clear hg
      go_wp2_with fail
      refine hK.out _ _ (LB.out.grown.cell HCW.out (by simp)) (fun hHeld => ?_)
      clear hK K
      try simp only [Act.put, List.setIfInBounds_toArray, List.set_cons_zero, List.set_cons_succ]
      refine wpAnyH_ready (rs := [12]) (by kernel_rfl) (by simp) ?_
      refine AllReadyH.cons (by simp only [List.getElem?_toArray, List.getElem?_cons_succ, List.getElem?_cons_zero]; rfl) (fun K hK => ?_) AllReadyH.nil
      go_simp
      refine (dWrite LB.out 0 rfl (adds_m _ _ _ _ (by decide) (by have := HNF2.out; omega)) (num x) HX.out _ (adds_write rfl rfl (Nat.le_refl _) _ x _) rfl).mono ?_; rintro e v2 ⟨rfl, hl, hk⟩
      have LW := Lib.hid hl
      clear hl hk
      go_wp2_with fail
      refine hK.out _ _ (LW.out.grown.cell HCW.out (by simp)) (fun hHeld => ?_)
      clear hK K
      try simp only [Act.put, List.setIfInBounds_toArray, List.set_cons_zero, List.set_cons_succ]
      refine wpAnyH_take (i := 13) (v := ?_) (by simp only [List.getElem?_toArray, List.getElem?_cons_succ, List.getElem?_cons_zero]; rfl) (by kernel_rfl) (by kernel_rfl) (by kernel_rfl) (fun _ _ _ h => h) (Or.inl ⟨by rfl, ?_⟩) (by assumption) ?_
      rotate_left 1
      · intro w hSw; (try dsimp only at hSw); go_simp; all_goals (with_reducible rfl)
      try simp only [Act.put, List.setIfInBounds_toArray, List.set_cons_zero, List.set_cons_succ]
      refine wpAnyH_done (by kernel_rfl) ?_ _
      refine NoPanic.normal ?_
      clear hHeld hc
      go_wp2_with fail
      go_roundw
      case rel => exact ⟨k + 1, by omega, by go_num, by rw [← adds_step _ id HTK.out]; exact LW.out⟩
      case measure => (simp [intOf]; try omega)
    · obtain rfl : k = nf := by omega
      clear hlt
      have htk : fs.take k = fs := List.take_of_length_le (by have := HNF.out; omega)
      have L4 := HL.out
      rw [htk] at L4
      have hml : ((fs.map (wrOf id)).length) ≤ 200 := by rw [List.length_map]; have := HNF.out; have := HNF2.out; omega
      generalize fs.map (wrOf id) = lf at *
      obtain ⟨sF, hsF⟩ : ∃ sF, (adds (DS.new 64) lf).settle = sF := ⟨_, rfl⟩
      have hF := flush_0 (s := adds (DS.new 64) lf) rfl rfl
      rw [hsF] at hF
      have HSF : Hid (sF.dd = false ∧ sF.lf = 0 ∧ sF.n = 64 ∧ sF.m ≤ 200 ∧ sF.wt = []) := Lib.hid (by rw [← hsF]; exact ⟨rfl, rfl, rfl, by show 0 + lf.length ≤ 200; omega, rfl⟩)
      have HFL := Lib.hid hF
      have HM4 : Hid ((adds (DS.new 64) lf).m ≤ 1000000000) := Lib.hid (by show 0 + lf.length ≤ _; omega)
      have HL4 := Lib.hid L4
      clear L4 hF hsF htk hml HL
      go_wp2_with fail
      refine (dFlush HL4.out 0 rfl HM4.out HFL.out rfl).mono ?_; rintro e w5 ⟨rfl, hl, hk⟩; have L5 := Lib.hid hl; clear hl hk
      go_wp2_with fail
      refine (lCopy L5.out (i := 0) rfl (by have := HSF.out; omega)).mono ?_; rintro e w6 ⟨q, rfl, hl, hg⟩; have L6 := Lib.hid hl; clear hl hg
      have hmk := make_bools nw (by have := HNW2.out; omega) w6
      have HO := Lib.hid (Blk.made w6 4 ((List.replicate nw false).map Value.bool).toArray)
      have HLO := Lib.hid (L6.out.mark (World.grownBy_alloc w6 (.cells ((List.replicate nw false).map Value.bool).toArray 4) none) (Nat.le_refl _) (by simp))
      rw [← yes_zero] at hmk HO HLO
      generalize hr : w6.heap.size = r at *
      clear hr
      generalize w6.alloc (.cells ((yes nw 0).map Value.bool).toArray 4) = w7 at *
      go_wp2_with fail
      clear hmk
      have L8 : Hid (Law w w7 [r] [(q, sF), (p, adds sF ((ws.take 0).map (wrOf (· + 1))))]) := Lib.hid (by rw [List.take_zero, List.map_nil, adds_nil]; exact HLO.out)
      go_loopw [10] (fun i wr => ∃ j : Nat, j ≤ nw ∧ i = .int .i64 j ∧ Law w wr [r] [(q, sF), (p, adds sF ((ws.take j).map (wrOf (· + 1))))] ∧ Blk wr r 4 ((yes nw j).map Value.bool).toArray) (fun i _ => nw - (intOf i).toNat)
      case atStart => exact ⟨0, Nat.zero_le _, rfl, L8.out, HO.out⟩
      case round =>
        obtain ⟨k, hk, rfl, hl, hbo⟩ := hrel
        have HL := Lib.hid hl
        have HBO := Lib.hid hbo
        clear hl hbo
        by_cases hlt : k < nw
        · obtain ⟨x, hx⟩ : ∃ x, ws[k]'(by have := HNW.out; omega) = x := ⟨_, rfl⟩
          obtain ⟨bf, of, rfl, hcell⟩ := Bts.at' HW.out (by have := HNW.out; omega)
          have hc := HL.out.grown.cell (hcell k (by have := HNW.out; omega)) (by simp)
          have HCW := Lib.hid (hcell k (by have := HNW.out; omega))
          rw [hx] at hc HCW
          have htk : ws.take (k + 1) = ws.take k ++ [x] := by rw [List.take_succ_eq_append_getElem (by have := HNW.out; omega), hx]
          have HTK := Lib.hid htk
          have hx0 : (x.toNat : Int) % 64 = (num x : Int) := num_eq x
          have hx1 : 0 ≤ (x.toNat : Int) := by omega
          have hxt : (x.toNat : Int).tmod 64 = (num x : Int) := by rw [Int.tmod_eq_emod_of_nonneg hx1]; exact hx0
          have hx2 : (x.toNat : Int) ≤ 255 := by have := x.toNat_lt; omega
          have hx3 := num_wrap x
          have HX : Hid (-9223372036854775808 ≤ (num x : Int) ∧ (num x : Int) ≤ 9223372036854775807) := Lib.hid (by have := num_lt x; omega)
          have HBK := Lib.hid (fun w => block_any (x + 1) w)
          clear hcell hx htk
          go_upto_region 16 with fail
          have hdr : wr.grownBy wr.drew none := ⟨rfl, rfl, rfl, Nat.le_refl _, fun _ _ _ => rfl⟩
          have LR := Lib.hid (HL.out.new hdr)
          have HBD := Lib.hid (HBO.out.new hdr)
          clear hdr
          have hx4 : IntKind.u8.wrap ((x.toNat : Int) + 1) = ((x + 1).toNat : Int) := u8_wrap x 1
          refine wp_region_noPanic ?_
          refine wp_region_held_drew (S := fun w' => w'.cell? ⟨bf, of + k, none⟩ = some (.int .u8 (x.toNat : Int))) (by kernel_rfl) ((by simpa using hc)) (fun hHeld => ?_)
          generalize wr.drew = wd at *
          refine wpAnyH_take (i := 0) (v := ?_) (by simp only [List.getElem?_toArray, List.getElem?_cons_zero]; rfl) (by kernel_rfl) (by kernel_rfl) (by kernel_rfl) (fun _ _ _ h => h) (Or.inl ⟨by rfl, ?_⟩) (by assumption) ?_
          rotate_left 1
          · intro w hSw; (try dsimp only at hSw); go_simp; all_goals (with_reducible rfl)
          try simp only [Act.put, List.setIfInBounds_toArray, List.set_cons_zero, List.set_cons_succ]
          refine wpAnyH_take (i := 1) (v := ?_) (by simp only [List.getElem?_toArray, List.getElem?_cons_succ, List.getElem?_cons_zero]; rfl) (by kernel_rfl) (by kernel_rfl) (by kernel_rfl) (fun _ _ _ h => h) (Or.inl ⟨by rfl, ?_⟩) (by assumption) ?_
          rotate_left 1
          · intro w hSw; (try dsimp only at hSw); go_simp; all_goals (with_reducible rfl)
          try simp only [Act.put, List.setIfInBounds_toArray, List.set_cons_zero, List.set_cons_succ]
          refine wpAnyH_take (i := 2) (v := ?_) (by simp only [List.getElem?_toArray, List.getElem?_cons_succ, List.getElem?_cons_zero]; rfl) (by kernel_rfl) (by kernel_rfl) (by kernel_rfl) (fun _ _ _ h => h) (Or.inl ⟨by rfl, ?_⟩) (by assumption) ?_
          rotate_left 1
          · intro w hSw; (try dsimp only at hSw); go_simp; all_goals (with_reducible rfl)
          try simp only [Act.put, List.setIfInBounds_toArray, List.set_cons_zero, List.set_cons_succ]
          refine wpAnyH_take (i := 3) (v := ?_) (by simp only [List.getElem?_toArray, List.getElem?_cons_succ, List.getElem?_cons_zero]; rfl) (by kernel_rfl) (by kernel_rfl) (by kernel_rfl) (fun _ _ _ h => h) (Or.inl ⟨by rfl, ?_⟩) (by assumption) ?_
          rotate_left 1
          · intro w hSw; (try dsimp only at hSw); go_simp; all_goals (with_reducible rfl)
          try simp only [Act.put, List.setIfInBounds_toArray, List.set_cons_zero, List.set_cons_succ]
          refine wpAnyH_take (i := 4) (v := ?_) (by simp only [List.getElem?_toArray, List.getElem?_cons_succ, List.getElem?_cons_zero]; rfl) (by kernel_rfl) (by kernel_rfl) (by kernel_rfl) (fun _ _ _ h => h) (Or.inl ⟨by rfl, ?_⟩) (by assumption) ?_
          rotate_left 1
          · intro w hSw; (try dsimp only at hSw); go_simp; all_goals (with_reducible rfl)
          try simp only [Act.put, List.setIfInBounds_toArray, List.set_cons_zero, List.set_cons_succ]
          refine wpAnyH_take (i := 5) (v := ?_) (by simp only [List.getElem?_toArray, List.getElem?_cons_succ, List.getElem?_cons_zero]; rfl) (by kernel_rfl) (by kernel_rfl) (by kernel_rfl) (fun _ _ _ h => h) (Or.inl ⟨by rfl, ?_⟩) (by assumption) ?_
          rotate_left 1
          · intro w hSw; (try dsimp only at hSw); go_simp; all_goals (with_reducible rfl)
          try simp only [Act.put, List.setIfInBounds_toArray, List.set_cons_zero, List.set_cons_succ]
          refine wpAnyH_take (i := 6) (v := ?_) (by simp only [List.getElem?_toArray, List.getElem?_cons_succ, List.getElem?_cons_zero]; rfl) (by kernel_rfl) (by kernel_rfl) (by kernel_rfl) (fun _ _ _ h => h) (Or.inl ⟨by rfl, ?_⟩) (by assumption) ?_
          rotate_left 1
          · intro w hSw; (try dsimp only at hSw); go_simp; all_goals (with_reducible rfl)
          try simp only [Act.put, List.setIfInBounds_toArray, List.set_cons_zero, List.set_cons_succ]
          refine wpAnyH_take (i := 7) (v := ?_) (by simp only [List.getElem?_toArray, List.getElem?_cons_succ, List.getElem?_cons_zero]; rfl) (by kernel_rfl) (by kernel_rfl) (by kernel_rfl) (fun _ _ _ h => h) (Or.inl ⟨by rfl, ?_⟩) (by assumption) ?_
          rotate_left 1
          · intro w hSw; (try dsimp only at hSw); go_simp; all_goals (with_reducible rfl)
          try simp only [Act.put, List.setIfInBounds_toArray, List.set_cons_zero, List.set_cons_succ]
          refine wpAnyH_take (i := 8) (v := ?_) (by simp only [List.getElem?_toArray, List.getElem?_cons_succ, List.getElem?_cons_zero]; rfl) (by kernel_rfl) (by kernel_rfl) (by kernel_rfl) (fun _ _ _ h => h) (Or.inl ⟨by rfl, ?_⟩) (by assumption) ?_
          rotate_left 1
          · intro w hSw; (try dsimp only at hSw); go_simp; all_goals (with_reducible rfl)
          try simp only [Act.put, List.setIfInBounds_toArray, List.set_cons_zero, List.set_cons_succ]
          refine wpAnyH_take (i := 9) (v := ?_) (by simp only [List.getElem?_toArray, List.getElem?_cons_succ, List.getElem?_cons_zero]; rfl) (by kernel_rfl) (by kernel_rfl) (by kernel_rfl) (fun _ _ _ h => h) (Or.inl ⟨by rfl, ?_⟩) (by assumption) ?_
          rotate_left 1
          · intro w hSw; (try dsimp only at hSw); go_simp; all_goals (with_reducible rfl)
          try simp only [Act.put, List.setIfInBounds_toArray, List.set_cons_zero, List.set_cons_succ]
          refine wpAnyH_take (i := 10) (v := ?_) (by simp only [List.getElem?_toArray, List.getElem?_cons_succ, List.getElem?_cons_zero]; rfl) (by kernel_rfl) (by kernel_rfl) (by kernel_rfl) (fun _ _ _ h => h) (Or.inl ⟨by rfl, ?_⟩) (by assumption) ?_
          rotate_left 1
          · intro w hSw; (try dsimp only at hSw); go_simp; all_goals (with_reducible rfl)
          try simp only [Act.put, List.setIfInBounds_toArray, List.set_cons_zero, List.set_cons_succ]
          refine wpAnyH_take (i := 11) (v := ?_) (by simp only [List.getElem?_toArray, List.getElem?_cons_succ, List.getElem?_cons_zero]; rfl) (by kernel_rfl) (by kernel_rfl) (by kernel_rfl) (fun _ _ _ h => h) (Or.inl ⟨by rfl, ?_⟩) (by assumption) ?_
          rotate_left 1
          · intro w hSw; (try dsimp only at hSw); go_simp; all_goals (with_reducible rfl)
          try simp only [Act.put, List.setIfInBounds_toArray, List.set_cons_zero, List.set_cons_succ]
          clear hxt hx0 hx1 hx2 hx3 hx4
          refine wpAnyH_ready (rs := [12]) (by kernel_rfl) (by simp) ?_
          refine AllReadyH.cons (by simp only [List.getElem?_toArray, List.getElem?_cons_succ, List.getElem?_cons_zero]; rfl) (fun K hK => ?_) AllReadyH.nil
          go_simp
          refine (HBK.out _).mono ?_; rintro e v1 ⟨rfl, hg⟩
          have LB := Lib.hid (LR.out.new hg)
          have HBB := Lib.hid (HBD.out.new hg)
          clear hg
          go_wp2_with fail
          refine hK.out _ _ (LB.out.grown.cell HCW.out (by simp)) (fun hHeld => ?_)
          clear hK K
          try simp only [Act.put, List.setIfInBounds_toArray, List.set_cons_zero, List.set_cons_succ]
          refine wpAnyH_ready (rs := [13]) (by kernel_rfl) (by simp) ?_
          refine AllReadyH.cons (by simp only [List.getElem?_toArray, List.getElem?_cons_succ, List.getElem?_cons_zero]; rfl) (fun K hK => ?_) AllReadyH.nil
          go_simp
          refine (dWrite LB.out 1 rfl (adds_m _ _ _ _ (by have := HSF.out; omega) (by have := HNW2.out; omega)) (num x) HX.out _ (adds_write HSF.out.1 HSF.out.2.1 (Nat.le_of_eq HSF.out.2.2.1.symm) _ x _) rfl).mono ?_; rintro e v2 ⟨rfl, hl, hk⟩
          have LW := Lib.hid hl
          have HBW := Lib.hid (KeptD.blk hk HBB.out (by decide) (by decide))
          clear hl hk
          go_wp2_with fail
          refine hK.out _ _ (LW.out.grown.cell HCW.out (by simp)) (fun hHeld => ?_)
          clear hK K
          try simp only [Act.put, List.setIfInBounds_toArray, List.set_cons_zero, List.set_cons_succ]
          refine wpAnyH_take (i := 14) (v := ?_) (by simp only [List.getElem?_toArray, List.getElem?_cons_succ, List.getElem?_cons_zero]; rfl) (by kernel_rfl) (by kernel_rfl) (by kernel_rfl) (fun _ _ _ h => h) (Or.inl ⟨by rfl, ?_⟩) (by assumption) ?_
          rotate_left 1
          · intro w hSw; (try dsimp only at hSw); go_simp; all_goals (with_reducible rfl)
          try simp only [Act.put, List.setIfInBounds_toArray, List.set_cons_zero, List.set_cons_succ]
          refine wpAnyH_done (by kernel_rfl) ?_ _
          refine NoPanic.normal ?_
          clear hHeld hc
          have k0 := HBW.out.cell (i := k) (x := .bool false) (yes_at (by omega))
          have f0 := HBW.out.frozen k
          have hb2 := HBW.out.set k (.bool true)
          rw [yes_set (by omega)] at hb2
          have hg2 := HBW.out.setG k (.bool true)
          have LO := Lib.hid (LW.out.own HBW.out (by decide) (by decide) (by simp) hg2)
          have HB2 := Lib.hid hb2
          clear hb2 hg2
          go_wp2_with fail
          clear k0 f0
          go_roundw
          case rel => exact ⟨k + 1, by omega, by go_num, by rw [← adds_step _ (· + 1) HTK.out]; exact LO.out, HB2.out⟩
          case measure => (simp [intOf]; try omega)
        · obtain rfl : k = nw := by omega
          clear hlt
          have htk : ws.take k = ws := List.take_of_length_le (by have := HNW.out; omega)
          have L9 := HL.out
          rw [htk] at L9
          have hlw : ((ws.map (wrOf (· + 1))).length) = k := by rw [List.length_map]; have := HNW.out; omega
          generalize ws.map (wrOf (· + 1)) = lw at *
          obtain ⟨sW, hsW⟩ : ∃ sW, adds sF lw = sW := ⟨_, rfl⟩
          rw [hsW] at L9
          have hd : sW.dd = false := by rw [← hsW]; exact HSF.out.1
          have hlf : sW.lf = 0 := by rw [← hsW]; exact HSF.out.2.1
          have hn : sW.n = 64 := by rw [← hsW]; exact HSF.out.2.2.1
          have hm : sW.m ≤ 100000 := by rw [← hsW]; show sF.m + lw.length ≤ _; have := HSF.out; have := HNW2.out; omega
          have hwt : sW.wt = lw := by rw [← hsW]; show sF.wt ++ lw = lw; rw [HSF.out.2.2.2.2]; rfl
          have hfl : sW.fl = sF.fl := by rw [← hsW]; rfl
          have HWS := Lib.hid (And.intro hd (And.intro hlf (And.intro hn hm)))
          have HWT := Lib.hid hwt
          have HFLS := Lib.hid hfl
          have HLW := Lib.hid hlw
          have HL9 := Lib.hid L9
          have FA := Lib.hid (flush_0 (s := sW) hd hlf)
          have FB := Lib.hid (DS.fail_live (s := sW.settle) hd [])
          have FC := Lib.hid (DS.fail_live (s := sW) hd (yes k k))
          have FD := Lib.hid (DS.fail_live (s := sW) hd [])
          clear L9 hsW htk hlw hd hlf hn hm hwt hfl HL
          go_wp2_with fail
          refine (lCopy HL9.out (i := 1) rfl (by have := HWS.out; omega)).mono ?_; rintro e w10 ⟨q2, rfl, hl, hg⟩; have L10 := Lib.hid hl; have B10 := Lib.hid (HBO.out.new hg); clear hl hg
          go_wp2_with fail
          refine (lCopy L10.out (i := 2) rfl (by have := HWS.out; omega)).mono ?_; rintro e w11 ⟨q3, rfl, hl, hg⟩; have L11 := Lib.hid hl; have B11 := Lib.hid (B10.out.new hg); clear hl hg
          go_wp2_with fail
          refine (dFlush L11.out 3 rfl (by have := HWS.out; omega) FA.out rfl).mono ?_; rintro e w12 ⟨rfl, hl, hk⟩; have L12 := Lib.hid hl; have B12 := Lib.hid (KeptD.blk hk B11.out (by decide) (by decide)); clear hl hk
          go_wp2_with fail
          refine (dFail L12.out 3 rfl (by have := HWS.out; show sW.m ≤ _; omega) (Bls.nil _) FB.out rfl).mono ?_; rintro e w13 ⟨rfl, hl, hk⟩; have L13 := Lib.hid hl; have B13 := Lib.hid (KeptD.blk hk B12.out (by decide) (by decide)); clear hl hk
          have hbl := Blk.bls B13.out (by rw [yes_len (Nat.le_refl _)]; have := HNW2.out; unfold maxLen; omega)
          rw [yes_len (Nat.le_refl _)] at hbl
          have HBL := Lib.hid hbl
          clear hbl
          go_wp2_with fail
          refine (dFail L13.out 0 rfl (by have := HWS.out; omega) HBL.out FC.out rfl).mono ?_; rintro e w14 ⟨rfl, hl, hk⟩; have L14 := Lib.hid hl; clear hl hk
          go_wp2_with fail
          refine (dFail L14.out 1 rfl (by have := HWS.out; omega) (Bls.nil _) FD.out rfl).mono ?_; rintro e w15 ⟨rfl, hl, hk⟩; have L15 := Lib.hid hl; clear hl hk
          go_wp2_with fail
          refine (lBoot L15.out (i := 3) rfl (by have := HWS.out; show sW.m ≤ _; omega) rfl).mono ?_; rintro e w16 ⟨a1, rfl, hl, hg⟩; have L16 := Lib.hid hl; clear hl hg
          go_wp2_with fail
          refine (lBoot L16.out (i := 1) rfl (by have := HWS.out; show sW.m ≤ _; omega) rfl).mono ?_; rintro e w17 ⟨a2, rfl, hl, hg⟩; have L17 := Lib.hid hl; clear hl hg
          go_wp2_with fail
          refine (lBoot L17.out (i := 3) rfl (by have := HWS.out; show sW.m ≤ _; omega) rfl).mono ?_; rintro e w18 ⟨a3, rfl, hl, hg⟩; have L18 := Lib.hid hl; clear hl hg
          obtain ⟨sA, hsA⟩ : ∃ s, (sW.settle.gone []).anew = s := ⟨_, rfl⟩
          obtain ⟨sB, hsB⟩ : ∃ s, (sW.gone (yes k k)).anew = s := ⟨_, rfl⟩
          obtain ⟨sC, hsC⟩ : ∃ s, (sW.gone []).anew = s := ⟨_, rfl⟩
          have hLs := L18.out
          rw [hsA, hsB, hsC] at hLs
          have kA : sA.dd = false ∧ sA.n = 64 := by rw [← hsA]; exact ⟨rfl, HWS.out.2.2.1⟩
          have kB : sB.dd = false ∧ sB.n = 64 := by rw [← hsB]; exact ⟨rfl, HWS.out.2.2.1⟩
          have kC : sC.dd = false ∧ sC.n = 64 := by rw [← hsC]; exact ⟨rfl, HWS.out.2.2.1⟩
          have rAB : ∀ n, sA.at n = sB.at n := by
            intro n
            rw [← hsA, ← hsB]
            show (putL (putL (putL sW.fl sW.wt) (kept [] [])) [] n).getD Bk.zero = (putL (putL sW.fl (kept sW.wt (yes k k))) [] n).getD Bk.zero
            rw [kept_all sW.wt (yes k k) (by rw [HWT.out, HLW.out, yes_len (Nat.le_refl _)]; exact Nat.le_refl _) (fun i hi => yes_all k i (by rw [HWT.out, HLW.out] at hi; exact hi))]
            rfl
          have rCF : ∀ n, sC.at n = sF.at n := by
            intro n
            rw [← hsC]
            show (putL (putL sW.fl (kept sW.wt [])) [] n).getD Bk.zero = (putL sF.fl sF.wt n).getD Bk.zero
            rw [kept_nil, HSF.out.2.2.2.2, HFLS.out]
            rfl
          have KA := Lib.hid kA
          have KB := Lib.hid kB
          have KC := Lib.hid kC
          have RAB := Lib.hid rAB
          have RCF := Lib.hid rCF
          have L19 := Lib.hid hLs
          clear kA kB kC rAB rCF hLs hsA hsB hsC L18
          go_wp2_with fail
          go_loopw [18] (fun i wr => ∃ n : Nat, n ≤ 64 ∧ i = .int .i64 n ∧ Law w wr [r] [(a3, sC), (a2, sB), (a1, sA), (q3, sW.gone (yes k k)), (q2, sW.gone []), (q, sF), (p, sW.settle.gone [])]) (fun i _ => 64 - (intOf i).toNat)
          case atStart => exact ⟨0, Nat.zero_le _, rfl, L19.out⟩
          case round =>
            obtain ⟨n, hn, rfl, hl⟩ := hrel
            have HL := Lib.hid hl
            clear hl
            by_cases hlt : n < 64
            · have N64 : Hid (-9223372036854775808 ≤ (n : Int) ∧ (n : Int) ≤ 9223372036854775807) := Lib.hid (by omega)
              have QA := Lib.hid (read_at KA.out.1 (k := n) (by rw [KA.out.2]; omega))
              have QB := Lib.hid (read_at KB.out.1 (k := n) (by rw [KB.out.2]; omega))
              have QC := Lib.hid (read_at KC.out.1 (k := n) (by rw [KC.out.2]; omega))
              have QF := Lib.hid (read_at HSF.out.1 (k := n) (by rw [HSF.out.2.2.1]; omega))
              have EAB := Lib.hid (RAB.out n)
              have ECF := Lib.hid (RCF.out n)
              rw [EAB.out] at QA
              rw [ECF.out] at QC
              generalize sB.at n = bB at *
              generalize sF.at n = bF at *
              clear EAB ECF
              have hrd := lRead HL.out (i := 2) rfl (n : Int) N64.out
              rw [QA.out] at hrd
              go_wp2_with fail
              refine hrd.mono ?_; clear hrd; rintro e x1 ⟨rfl, hg⟩; have M1 := Lib.hid (HL.out.new hg); clear hg
              go_upto_region 32 with (first
                | (refine wpAllocB rfl rfl ?_; intro g1 y1 hn1; have N1 := Lib.hid hn1; clear hn1)
                | (refine wpStoreB rfl (.tmp 19) (.tmp 156) rfl g1 _ _ rfl rfl N1.out.blk ?_; intro z1 hb1 hgz; have hg := grown_new N1.out.grown hgz N1.out.ge; have B1 := Lib.hid hb1; have P1 := Lib.hid (M1.out.new hg); clear hb1 hgz hg))
              have hrd := lRead P1.out (i := 1) rfl (n : Int) N64.out
              rw [QB.out] at hrd
              go_wp2_with fail
              refine hrd.mono ?_; clear hrd; rintro e x2 ⟨rfl, hg⟩; have M2 := Lib.hid (P1.out.new hg); have B1 := Lib.hid (B1.out.new hg); clear hg
              go_upto_region 33 with (first
                | (refine wpAllocB rfl rfl ?_; intro g2 y2 hn2; have N2 := Lib.hid hn2; clear hn2)
                | (refine wpStoreB rfl (.tmp 21) (.tmp 162) rfl g2 _ _ rfl rfl N2.out.blk ?_; intro z2 hb2 hgz; have hg := grown_new N2.out.grown hgz N2.out.ge; have B2 := Lib.hid hb2; have P2 := Lib.hid (M2.out.new hg); have B1 := Lib.hid (B1.out.new hg); clear hb2 hgz hg))
              have hrd := lRead P2.out (i := 0) rfl (n : Int) N64.out
              rw [QC.out] at hrd
              go_wp2_with fail
              refine hrd.mono ?_; clear hrd; rintro e x3 ⟨rfl, hg⟩; have M3 := Lib.hid (P2.out.new hg); have B1 := Lib.hid (B1.out.new hg); have B2 := Lib.hid (B2.out.new hg); clear hg
              go_upto_region 34 with (first
                | (refine wpAllocB rfl rfl ?_; intro g3 y3 hn3; have N3 := Lib.hid hn3; clear hn3)
                | (refine wpStoreB rfl (.tmp 23) (.tmp 168) rfl g3 _ _ rfl rfl N3.out.blk ?_; intro z3 hb3 hgz; have hg := grown_new N3.out.grown hgz N3.out.ge; have B3 := Lib.hid hb3; have P3 := Lib.hid (M3.out.new hg); have B1 := Lib.hid (B1.out.new hg); have B2 := Lib.hid (B2.out.new hg); clear hb3 hgz hg))
              have hrd := lRead P3.out (i := 5) rfl (n : Int) N64.out
              rw [QF.out] at hrd
              go_wp2_with fail
              refine hrd.mono ?_; clear hrd; rintro e x4 ⟨rfl, hg⟩; have M4 := Lib.hid (P3.out.new hg); have B1 := Lib.hid (B1.out.new hg); have B2 := Lib.hid (B2.out.new hg); have B3 := Lib.hid (B3.out.new hg); clear hg
              go_upto_region 35 with (first
                | (refine wpAllocB rfl rfl ?_; intro g4 y4 hn4; have N4 := Lib.hid hn4; clear hn4)
                | (refine wpStoreB rfl (.tmp 25) (.tmp 174) rfl g4 _ _ rfl rfl N4.out.blk ?_; intro z4 hb4 hgz; have hg := grown_new N4.out.grown hgz N4.out.ge; have B4 := Lib.hid hb4; have P4 := Lib.hid (M4.out.new hg); have B1 := Lib.hid (B1.out.new hg); have B2 := Lib.hid (B2.out.new hg); have B3 := Lib.hid (B3.out.new hg); clear hb4 hgz hg))
              go_wp2_with (first
                | (refine wpLoadB rfl (.tmp 19) rfl g1 _ rfl B1.out ?_)
                | (refine wpLoadB rfl (.tmp 21) rfl g2 _ rfl B2.out ?_)
                | (refine wpLoadB rfl (.tmp 23) rfl g3 _ rfl B3.out ?_)
                | (refine wpLoadB rfl (.tmp 25) rfl g4 _ rfl B4.out ?_)
                | (refine wpNeqB rfl _ _ _ rfl bB bB rfl rfl ?_; rw [show decide (bB ≠ bB) = false by simp])
                | (refine wpNeqB rfl _ _ _ rfl bF bF rfl rfl ?_; rw [show decide (bF ≠ bF) = false by simp]))
              go_roundw
              case rel => exact ⟨n + 1, by omega, by go_num, P4.out⟩
              case measure => (simp [intOf]; try omega)
            · obtain rfl : n = 64 := by omega
              clear hlt
              go_wp2_with fail
              go_ret
              exact ⟨rfl, HL.out.grown⟩
end Go.Proofs.Ytnnhnkpbiilooaa
