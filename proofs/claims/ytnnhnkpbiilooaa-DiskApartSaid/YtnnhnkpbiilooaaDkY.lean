/- disk: DiskApart. -/
import Derived.Test.YtnnhnkpbiilooaaDkX
namespace Go.Proofs.Ytnnhnkpbiilooaa
open Go.RowKit Go.Maps

theorem adds_snoc2 (s : DS) (l : List (Nat × Bk)) (k : Nat) (b : Bk) : (adds s l).add k b = adds s (l ++ [(k, b)]) := adds_snoc s l (k, b)
theorem num_eq64 (x : UInt8) : (num x : Int) * 512 = ((num x * 512 : Nat) : Int) := by omega
/-- The first loop. -/
def A1 (W wr : World) (p r k : Nat) : Prop := ∃ (l : List (Nat × Bk)) (b : Br), l.length = k ∧ Law W wr [r] [(p, adds (DS.new 64) l)] ∧ Blk wr r 57 b.v ∧ Holds b (putL no l)
/-- The second one. -/
def A2 (W wr : World) (p q r : Nat) (sD : DS) (b : Br) (k : Nat) : Prop := ∃ (l : List (Nat × Bk)), l.length = k ∧ Law W wr [r] [(q, adds sD l), (p, sD)] ∧ Blk wr r 57 b.v

set_option maxRecDepth 100000 in
set_option maxHeartbeats 16000000 in
theorem apart_main (va : Value) (fs : List UInt8) (vb : Value) (ws : List UInt8) (fl : Bool) (vk : Value) (ks : List Bool) (w : World) (hvf : Bts w va fs) (hvw : Bts w vb ws) (hvk : Bls w vk ks) : Calls Try.prog 7 #[va, vb, .bool fl, vk] w (Asks w true) := by
  have L0 := Lib.hid (Law.start w)
  obtain ⟨af, cf, rfl, hf1, hf2⟩ := hvf.form
  obtain ⟨aw, cw, rfl, hw1, hw2⟩ := hvw.form
  obtain ⟨ak, ck, rfl, hk2⟩ := hvk.shape
  have HF := Lib.hid hvf
  have HW := Lib.hid hvw
  have HK := Lib.hid hvk
  obtain ⟨nf, hnf⟩ : ∃ n, fs.length = n := ⟨_, rfl⟩
  obtain ⟨nw, hnw⟩ : ∃ n, ws.length = n := ⟨_, rfl⟩
  obtain ⟨nk, hnk⟩ : ∃ n, ks.length = n := ⟨_, rfl⟩
  have HNF := Lib.hid hnf
  have HNW := Lib.hid hnw
  have HNK := Lib.hid hnk
  rw [hnf] at hf1 ⊢ HF
  rw [hnw] at hw1 ⊢ HW
  rw [hnk] at hk2 ⊢ HK
  unfold maxLen at hf2 hw2 hk2
  have zf : (nf : Int) ≤ 9223372036854775807 := by omega
  have zw : (nw : Int) ≤ 9223372036854775807 := by omega
  have zk : (nk : Int) ≤ 9223372036854775807 := by omega
  clear hvf hvw hvk hnf hnw hnk hf1 hw1 hf2 hw2 hk2
  by_cases h1 : 200 < (nf : Int)
  · go_enter Try.func7, Try.ntmps7
    go_wp2_with fail
    refine (lNew L0.out 64 (by omega) (by omega)).mono ?_; rintro e w1 ⟨p, rfl, hl, hg⟩; have L1 := Lib.hid hl; clear hl hg
    go_wp2_with fail
    refine (works_any _).mono ?_; rintro e w2 ⟨rfl, hg⟩; have L2 := Lib.hid (L1.out.new hg); clear hg
    go_wp2_with fail
    refine (works_any _).mono ?_; rintro e w3 ⟨rfl, hg⟩; have L3 := Lib.hid (L2.out.new hg); clear hg
    go_wp2_with fail
    go_ret
    exact ⟨rfl, L3.out.grown⟩
  by_cases h2 : 200 < (nw : Int)
  · go_enter Try.func7, Try.ntmps7
    go_wp2_with fail
    refine (lNew L0.out 64 (by omega) (by omega)).mono ?_; rintro e w1 ⟨p, rfl, hl, hg⟩; have L1 := Lib.hid hl; clear hl hg
    go_wp2_with fail
    refine (works_any _).mono ?_; rintro e w2 ⟨rfl, hg⟩; have L2 := Lib.hid (L1.out.new hg); clear hg
    go_wp2_with fail
    refine (works_any _).mono ?_; rintro e w3 ⟨rfl, hg⟩; have L3 := Lib.hid (L2.out.new hg); clear hg
    go_wp2_with fail
    go_ret
    exact ⟨rfl, L3.out.grown⟩
  by_cases h3 : 400 < (nk : Int)
  · go_enter Try.func7, Try.ntmps7
    go_wp2_with fail
    refine (lNew L0.out 64 (by omega) (by omega)).mono ?_; rintro e w1 ⟨p, rfl, hl, hg⟩; have L1 := Lib.hid hl; clear hl hg
    go_wp2_with fail
    refine (works_any _).mono ?_; rintro e w2 ⟨rfl, hg⟩; have L2 := Lib.hid (L1.out.new hg); clear hg
    go_wp2_with fail
    refine (works_any _).mono ?_; rintro e w3 ⟨rfl, hg⟩; have L3 := Lib.hid (L2.out.new hg); clear hg
    go_wp2_with fail
    go_ret
    exact ⟨rfl, L3.out.grown⟩
  have HNF2 : Hid (nf ≤ 200) := Lib.hid (by omega)
  have HNW2 : Hid (nw ≤ 200) := Lib.hid (by omega)
  have HNK2 : Hid (nk ≤ 400) := Lib.hid (by omega)
  go_enter Try.func7, Try.ntmps7
  go_wp2_with fail
  refine (lNew L0.out 64 (by omega) (by omega)).mono ?_; rintro e w1 ⟨p, rfl, hl, hg⟩; have L1 := Lib.hid hl; clear hl hg
  go_wp2_with fail
  refine (works_any _).mono ?_; rintro e w2 ⟨rfl, hg⟩; have L2 := Lib.hid (L1.out.new hg); clear hg
  go_upto_region 5 with (refine wpAllocT zeroBr rfl rfl ?_; intro r w3 hn1; have NA := Lib.hid hn1; clear hn1)
  have L3 := Lib.hid (L2.out.mark NA.out.grown NA.out.ge NA.out.blk.lt)
  have C0 : Hid (A1 w w3 p r 0) := Lib.hid ⟨[], Br.zero, rfl, by rw [adds_nil]; exact L3.out, NA.out.blk, Holds.zero⟩
  go_wp2_with fail
  go_loopw [12] (fun i wr => ∃ k : Nat, k ≤ nf ∧ i = .int .i64 k ∧ A1 w wr p r k) (fun i _ => nf - (intOf i).toNat)
  case atStart => exact ⟨0, Nat.zero_le _, rfl, C0.out⟩
  case round =>
    obtain ⟨k, hk, rfl, hci⟩ := hrel
    obtain ⟨l, b, hlen, hl, hba, hnm⟩ := hci
    have HL := Lib.hid hl
    have HBA := Lib.hid hba
    have HNM := Lib.hid hnm
    have HLEN := Lib.hid hlen
    clear hl hba hnm hlen
    by_cases hlt : k < nf
    · have HN2K : Hid (k ≤ 200) := Lib.hid (by have := HNF2.out; omega)
      obtain ⟨x, hx⟩ : ∃ x, fs[k]'(by have := HNF.out; omega) = x := ⟨_, rfl⟩
      obtain ⟨bf, of, rfl, hcell⟩ := Bts.at' HF.out (by have := HNF.out; omega)
      have hc := HL.out.grown.cell (hcell k (by have := HNF.out; omega)) (by simp)
      have HCW := Lib.hid (hcell k (by have := HNF.out; omega))
      rw [hx] at hc HCW
      have htk : fs.take (k + 1) = fs.take k ++ [x] := by rw [List.take_succ_eq_append_getElem (by have := HNF.out; omega), hx]
      have HTK := Lib.hid htk
      have hx0 : (x.toNat : Int) % 64 = (num x : Int) := num_eq x
      have hx1 : 0 ≤ (x.toNat : Int) := by omega
      have hxt : (x.toNat : Int).tmod 64 = (num x : Int) := by rw [Int.tmod_eq_emod_of_nonneg hx1]; exact hx0
      have hx2 : (x.toNat : Int) ≤ 255 := by have := x.toNat_lt; omega
      have hx3 := num_wrap x
      have HX : Hid (-9223372036854775808 ≤ (num x : Int) ∧ (num x : Int) ≤ 9223372036854775807) := Lib.hid (by have := num_lt x; omega)
      have HBK := Lib.hid (fun w => block_any (x) w)
      clear hcell hx htk
      have hxl : (num x : Int) < 64 := by have := num_lt x; omega
      clear HTK
      go_upto_region 8 with fail
      have hdr : wr.grownBy wr.drew none := ⟨rfl, rfl, rfl, Nat.le_refl _, fun _ _ _ => rfl⟩
      have LR := Lib.hid (HL.out.new hdr)
      have HBA := Lib.hid (HBA.out.new hdr)
      clear hdr
      refine wp_region_noPanic ?_
      refine wp_region_held_drew (S := fun w' => w'.cell? ⟨bf, of + k, none⟩ = some (.int .u8 (x.toNat : Int))) (by kernel_rfl) ((by simpa using hc)) (fun hHeld => ?_)
      generalize wr.drew = wd at *
      refine wpAnyH_take (i := 0) (v := ?_) (by simp only [List.getElem?_toArray, List.getElem?_cons_zero]; rfl) (by kernel_rfl) (by kernel_rfl) (by kernel_rfl) (fun _ _ _ h => h) (Or.inl ⟨by rfl, ?_⟩) (by assumption) ?_
      rotate_left 1
      · intro w hSw; (try dsimp only at hSw); go_simp; all_goals (with_reducible rfl)
      try simp only [Act.put, List.setIfInBounds_toArray, List.set_cons_zero, List.set_cons_succ]
      refine wpAnyH_take (i := 1) (v := ?_) (by simp only [List.getElem?_toArray, List.getElem?_cons_succ, List.getElem?_cons_zero]; rfl) (by kernel_rfl) (by kernel_rfl) (by kernel_rfl) (fun _ _ _ h => h) (Or.inl ⟨by rfl, ?_⟩) (by assumption) ?_
      rotate_left 1
      · intro w hSw; (try dsimp only at hSw); go_simp; all_goals (with_reducible rfl)
      try simp only [Act.put, List.setIfInBounds_toArray, List.set_cons_zero, List.set_cons_succ]
      refine wpAnyH_take (i := 2) (v := ?_) (by simp only [List.getElem?_toArray, List.getElem?_cons_succ, List.getElem?_cons_zero]; rfl) (by kernel_rfl) (by kernel_rfl) (by kernel_rfl) (fun _ _ _ h => h) (Or.inl ⟨by rfl, ?_⟩) (by assumption) ?_
      rotate_left 1
      · intro w hSw; (try dsimp only at hSw); go_simp; all_goals (with_reducible rfl)
      try simp only [Act.put, List.setIfInBounds_toArray, List.set_cons_zero, List.set_cons_succ]
      refine wpAnyH_take (i := 3) (v := ?_) (by simp only [List.getElem?_toArray, List.getElem?_cons_succ, List.getElem?_cons_zero]; rfl) (by kernel_rfl) (by kernel_rfl) (by kernel_rfl) (fun _ _ _ h => h) (Or.inl ⟨by rfl, ?_⟩) (by assumption) ?_
      rotate_left 1
      · intro w hSw; (try dsimp only at hSw); go_simp; all_goals (with_reducible rfl)
      try simp only [Act.put, List.setIfInBounds_toArray, List.set_cons_zero, List.set_cons_succ]
      refine wpAnyH_take (i := 4) (v := ?_) (by simp only [List.getElem?_toArray, List.getElem?_cons_succ, List.getElem?_cons_zero]; rfl) (by kernel_rfl) (by kernel_rfl) (by kernel_rfl) (fun _ _ _ h => h) (Or.inl ⟨by rfl, ?_⟩) (by assumption) ?_
      rotate_left 1
      · intro w hSw; (try dsimp only at hSw); go_simp; all_goals (with_reducible rfl)
      try simp only [Act.put, List.setIfInBounds_toArray, List.set_cons_zero, List.set_cons_succ]
      refine wpAnyH_take (i := 5) (v := ?_) (by simp only [List.getElem?_toArray, List.getElem?_cons_succ, List.getElem?_cons_zero]; rfl) (by kernel_rfl) (by kernel_rfl) (by kernel_rfl) (fun _ _ _ h => h) (Or.inl ⟨by rfl, ?_⟩) (by assumption) ?_
      rotate_left 1
      · intro w hSw; (try dsimp only at hSw); go_simp; all_goals (with_reducible rfl)
      try simp only [Act.put, List.setIfInBounds_toArray, List.set_cons_zero, List.set_cons_succ]
      refine wpAnyH_take (i := 6) (v := ?_) (by simp only [List.getElem?_toArray, List.getElem?_cons_succ, List.getElem?_cons_zero]; rfl) (by kernel_rfl) (by kernel_rfl) (by kernel_rfl) (fun _ _ _ h => h) (Or.inl ⟨by rfl, ?_⟩) (by assumption) ?_
      rotate_left 1
      · intro w hSw; (try dsimp only at hSw); go_simp; all_goals (with_reducible rfl)
      try simp only [Act.put, List.setIfInBounds_toArray, List.set_cons_zero, List.set_cons_succ]
      refine wpAnyH_take (i := 7) (v := ?_) (by simp only [List.getElem?_toArray, List.getElem?_cons_succ, List.getElem?_cons_zero]; rfl) (by kernel_rfl) (by kernel_rfl) (by kernel_rfl) (fun _ _ _ h => h) (Or.inl ⟨by rfl, ?_⟩) (by assumption) ?_
      rotate_left 1
      · intro w hSw; (try dsimp only at hSw); go_simp; all_goals (with_reducible rfl)
      try simp only [Act.put, List.setIfInBounds_toArray, List.set_cons_zero, List.set_cons_succ]
      refine wpAnyH_take (i := 8) (v := ?_) (by simp only [List.getElem?_toArray, List.getElem?_cons_succ, List.getElem?_cons_zero]; rfl) (by kernel_rfl) (by kernel_rfl) (by kernel_rfl) (fun _ _ _ h => h) (Or.inl ⟨by rfl, ?_⟩) (by assumption) ?_
      rotate_left 1
      · intro w hSw; (try dsimp only at hSw); go_simp; all_goals (with_reducible rfl)
      try simp only [Act.put, List.setIfInBounds_toArray, List.set_cons_zero, List.set_cons_succ]
      refine wpAnyH_take (i := 9) (v := ?_) (by simp only [List.getElem?_toArray, List.getElem?_cons_succ, List.getElem?_cons_zero]; rfl) (by kernel_rfl) (by kernel_rfl) (by kernel_rfl) (fun _ _ _ h => h) (Or.inl ⟨by rfl, ?_⟩) (by assumption) ?_
      rotate_left 1
      · intro w hSw; (try dsimp only at hSw); go_simp; all_goals (with_reducible rfl)
      try simp only [Act.put, List.setIfInBounds_toArray, List.set_cons_zero, List.set_cons_succ]
      refine wpAnyH_take (i := 10) (v := ?_) (by simp only [List.getElem?_toArray, List.getElem?_cons_succ, List.getElem?_cons_zero]; rfl) (by kernel_rfl) (by kernel_rfl) (by kernel_rfl) (fun _ _ _ h => h) (Or.inl ⟨by rfl, ?_⟩) (by assumption) ?_
      rotate_left 1
      · intro w hSw; (try dsimp only at hSw); go_simp; all_goals (with_reducible rfl)
      try simp only [Act.put, List.setIfInBounds_toArray, List.set_cons_zero, List.set_cons_succ]
      refine wpAnyH_ready (rs := [11]) (by kernel_rfl) (by simp) ?_
      refine AllReadyH.cons (by simp only [List.getElem?_toArray, List.getElem?_cons_succ, List.getElem?_cons_zero]; rfl) (fun K hK => ?_) AllReadyH.nil
      go_simp
      refine (HBK.out _).mono ?_; rintro e v1 ⟨rfl, hg⟩
      have LB := Lib.hid (LR.out.new hg)
      have HBA := Lib.hid (HBA.out.new hg)
      clear hg
      go_wp2_with fail
      refine hK.out _ _ (LB.out.grown.cell HCW.out (by simp)) (fun hHeld => ?_)
      clear hK K
      try simp only [Act.put, List.setIfInBounds_toArray, List.set_cons_zero, List.set_cons_succ]
      refine wpAnyH_ready (rs := [12]) (by kernel_rfl) (by simp) ?_
      refine AllReadyH.cons (by simp only [List.getElem?_toArray, List.getElem?_cons_succ, List.getElem?_cons_zero]; rfl) (fun K hK => ?_) AllReadyH.nil
      go_simp
      refine (dWrite LB.out 0 rfl (by show 0 + l.length ≤ _; have := HLEN.out; have := HN2K.out; omega) (num x) HX.out _ (adds_write rfl rfl (Nat.le_refl _) _ x _) rfl).mono ?_; rintro e v2 ⟨rfl, hl, hk⟩
      have LW := Lib.hid hl
      have HBA := Lib.hid (KeptD.blk hk HBA.out (by decide) (by decide))
      clear hl hk
      go_wp2_with fail
      refine hK.out _ _ (LW.out.grown.cell HCW.out (by simp)) (fun hHeld => ?_)
      clear hK K
      try simp only [Act.put, List.setIfInBounds_toArray, List.set_cons_zero, List.set_cons_succ]
      refine wpAnyH_take (i := 13) (v := ?_) (by simp only [List.getElem?_toArray, List.getElem?_cons_succ, List.getElem?_cons_zero]; rfl) (by kernel_rfl) (by kernel_rfl) (by kernel_rfl) (fun _ _ _ h => h) (Or.inl ⟨by rfl, ?_⟩) (by assumption) ?_
      rotate_left 1
      · intro w hSw; (try dsimp only at hSw); go_simp; all_goals (with_reducible rfl)
      try simp only [Act.put, List.setIfInBounds_toArray, List.set_cons_zero, List.set_cons_succ]
      refine wpAnyH_done (by kernel_rfl) ?_ _
      refine NoPanic.normal ?_
      clear hHeld
      clear hc
      have hc := LW.out.grown.cell HCW.out (by simp)
      go_upto_region 10 with fail
      have hdr : v2.grownBy v2.drew none := ⟨rfl, rfl, rfl, Nat.le_refl _, fun _ _ _ => rfl⟩
      have LR2 := Lib.hid (LW.out.new hdr)
      have HBA := Lib.hid (HBA.out.new hdr)
      clear hdr
      refine wp_region_noPanic ?_
      refine wp_region_held_drew (S := fun w' => w'.cell? ⟨bf, of + k, none⟩ = some (.int .u8 (x.toNat : Int))) (by kernel_rfl) ((by simpa using hc)) (fun hHeld => ?_)
      generalize v2.drew = wd2 at *
      refine wpAnyH_take (i := 0) (v := ?_) (by simp only [List.getElem?_toArray, List.getElem?_cons_zero]; rfl) (by kernel_rfl) (by kernel_rfl) (by kernel_rfl) (fun _ _ _ h => h) (Or.inl ⟨by rfl, ?_⟩) (by assumption) ?_
      rotate_left 1
      · intro w hSw; (try dsimp only at hSw); go_simp; all_goals (with_reducible rfl)
      try simp only [Act.put, List.setIfInBounds_toArray, List.set_cons_zero, List.set_cons_succ]
      refine wpAnyH_take (i := 1) (v := ?_) (by simp only [List.getElem?_toArray, List.getElem?_cons_succ, List.getElem?_cons_zero]; rfl) (by kernel_rfl) (by kernel_rfl) (by kernel_rfl) (fun _ _ _ h => h) (Or.inl ⟨by rfl, ?_⟩) (by assumption) ?_
      rotate_left 1
      · intro w hSw; (try dsimp only at hSw); go_simp; all_goals (with_reducible rfl)
      try simp only [Act.put, List.setIfInBounds_toArray, List.set_cons_zero, List.set_cons_succ]
      refine wpAnyH_take (i := 2) (v := ?_) (by simp only [List.getElem?_toArray, List.getElem?_cons_succ, List.getElem?_cons_zero]; rfl) (by kernel_rfl) (by kernel_rfl) (by kernel_rfl) (fun _ _ _ h => h) (Or.inl ⟨by rfl, ?_⟩) (by assumption) ?_
      rotate_left 1
      · intro w hSw; (try dsimp only at hSw); go_simp; all_goals (with_reducible rfl)
      try simp only [Act.put, List.setIfInBounds_toArray, List.set_cons_zero, List.set_cons_succ]
      refine wpAnyH_take (i := 3) (v := ?_) (by simp only [List.getElem?_toArray, List.getElem?_cons_succ, List.getElem?_cons_zero]; rfl) (by kernel_rfl) (by kernel_rfl) (by kernel_rfl) (fun _ _ _ h => h) (Or.inl ⟨by rfl, ?_⟩) (by assumption) ?_
      rotate_left 1
      · intro w hSw; (try dsimp only at hSw); go_simp; all_goals (with_reducible rfl)
      try simp only [Act.put, List.setIfInBounds_toArray, List.set_cons_zero, List.set_cons_succ]
      refine wpAnyH_take (i := 4) (v := ?_) (by simp only [List.getElem?_toArray, List.getElem?_cons_succ, List.getElem?_cons_zero]; rfl) (by kernel_rfl) (by kernel_rfl) (by kernel_rfl) (fun _ _ _ h => h) (Or.inl ⟨by rfl, ?_⟩) (by assumption) ?_
      rotate_left 1
      · intro w hSw; (try dsimp only at hSw); go_simp; all_goals (with_reducible rfl)
      try simp only [Act.put, List.setIfInBounds_toArray, List.set_cons_zero, List.set_cons_succ]
      refine wpAnyH_take (i := 5) (v := ?_) (by simp only [List.getElem?_toArray, List.getElem?_cons_succ, List.getElem?_cons_zero]; rfl) (by kernel_rfl) (by kernel_rfl) (by kernel_rfl) (fun _ _ _ h => h) (Or.inl ⟨by rfl, ?_⟩) (by assumption) ?_
      rotate_left 1
      · intro w hSw; (try dsimp only at hSw); go_simp; all_goals (with_reducible rfl)
      try simp only [Act.put, List.setIfInBounds_toArray, List.set_cons_zero, List.set_cons_succ]
      refine wpAnyH_take (i := 6) (v := ?_) (by simp only [List.getElem?_toArray, List.getElem?_cons_succ, List.getElem?_cons_zero]; rfl) (by kernel_rfl) (by kernel_rfl) (by kernel_rfl) (fun _ _ _ h => h) (Or.inl ⟨by rfl, ?_⟩) (by assumption) ?_
      rotate_left 1
      · intro w hSw; (try dsimp only at hSw); go_simp; all_goals (with_reducible rfl)
      try simp only [Act.put, List.setIfInBounds_toArray, List.set_cons_zero, List.set_cons_succ]
      refine wpAnyH_take (i := 7) (v := ?_) (by simp only [List.getElem?_toArray, List.getElem?_cons_succ, List.getElem?_cons_zero]; rfl) (by kernel_rfl) (by kernel_rfl) (by kernel_rfl) (fun _ _ _ h => h) (Or.inl ⟨by rfl, ?_⟩) (by assumption) ?_
      rotate_left 1
      · intro w hSw; (try dsimp only at hSw); go_simp; all_goals (with_reducible rfl)
      try simp only [Act.put, List.setIfInBounds_toArray, List.set_cons_zero, List.set_cons_succ]
      refine wpAnyH_take (i := 8) (v := ?_) (by simp only [List.getElem?_toArray, List.getElem?_cons_succ, List.getElem?_cons_zero]; rfl) (by kernel_rfl) (by kernel_rfl) (by kernel_rfl) (fun _ _ _ h => h) (Or.inl ⟨by rfl, ?_⟩) (by assumption) ?_
      rotate_left 1
      · intro w hSw; (try dsimp only at hSw); go_simp; all_goals (with_reducible rfl)
      try simp only [Act.put, List.setIfInBounds_toArray, List.set_cons_zero, List.set_cons_succ]
      refine wpAnyH_ready (rs := [9]) (by kernel_rfl) (by simp) ?_
      refine AllReadyH.cons (by simp only [List.getElem?_toArray, List.getElem?_cons_succ, List.getElem?_cons_zero]; rfl) (fun K hK => ?_) AllReadyH.nil
      go_simp
      refine (HBK.out _).mono ?_; rintro e v3 ⟨rfl, hg⟩
      have LB2 := Lib.hid (LR2.out.new hg)
      have HBA := Lib.hid (HBA.out.new hg)
      clear hg
      go_wp2_with fail
      refine hK.out _ _ (LB2.out.grown.cell HCW.out (by simp)) (fun hHeld => ?_)
      clear hK K
      try simp only [Act.put, List.setIfInBounds_toArray, List.set_cons_zero, List.set_cons_succ]
      refine wpAnyH_take (i := 10) (v := ?_) (by simp only [List.getElem?_toArray, List.getElem?_cons_succ, List.getElem?_cons_zero]; rfl) (by kernel_rfl) (by kernel_rfl) (by kernel_rfl) (fun _ _ _ h => h) (Or.inl ⟨by rfl, ?_⟩) (by assumption) ?_
      rotate_left 1
      · intro w hSw; (try dsimp only at hSw); go_simp; all_goals (with_reducible rfl)
      try simp only [Act.put, List.setIfInBounds_toArray, List.set_cons_zero, List.set_cons_succ]
      refine wpAnyH_ready (rs := [11]) (by kernel_rfl) (by simp) ?_
      refine AllReadyH.cons (by simp only [List.getElem?_toArray, List.getElem?_cons_succ, List.getElem?_cons_zero]; rfl) (fun K hK => ?_) AllReadyH.nil
      refine stepStoreMid (by rfl) _ _ (by rfl) r _ (num x) (num_lt x) b (Bk.of x) (by rfl) (by rfl) HBA.out ?_
      intro v4 hb4 hg4
      have LO := Lib.hid (LB2.out.own HBA.out (by decide) (by decide) (by simp) hg4)
      have HB4 := Lib.hid hb4
      clear hb4 hg4
      refine hK.out _ _ (LO.out.grown.cell HCW.out (by simp)) (fun hHeld => ?_)
      clear hK K
      try simp only [Act.put, List.setIfInBounds_toArray, List.set_cons_zero, List.set_cons_succ]
      refine wpAnyH_done (by kernel_rfl) ?_ _
      refine NoPanic.normal ?_
      clear hHeld hc hxt hx0 hx1 hx2 hx3 hxl
      go_wp2_with fail
      go_roundw
      case rel => exact ⟨k + 1, by omega, by go_num, l ++ [(num x, Bk.of x)], b.set (num x) (Bk.of x), by rw [List.length_append, HLEN.out]; rfl, by rw [← adds_snoc2]; exact LO.out, HB4.out, by rw [putL_snoc]; exact HNM.out.put (num_lt x) _⟩
      case measure => (simp [intOf]; try omega)
    · obtain rfl : k = nf := by omega
      clear hlt
      obtain ⟨sD, hsD⟩ : ∃ sD, adds (DS.new 64) l = sD := ⟨_, rfl⟩
      have hl4 := HL.out
      rw [hsD] at hl4
      have HSD : Hid (sD.dd = false ∧ sD.lf = 0 ∧ sD.n = 64 ∧ sD.m ≤ 200 ∧ sD.wt.length = k) := Lib.hid (by rw [← hsD]; exact ⟨rfl, rfl, rfl, by show 0 + l.length ≤ 200; have := HLEN.out; have := HNF2.out; omega, by show ([] ++ l).length = k; rw [List.nil_append]; exact HLEN.out⟩)
      have HHD : Hid (∀ i, i < 64 → sD.at i = b.at i) := Lib.hid (by
        intro i hi
        rw [← hsD]
        show (putL no ([] ++ l) i).getD Bk.zero = b.at i
        rw [List.nil_append]
        exact HNM.out i hi)
      have HL4 := Lib.hid hl4
      clear hl4 hsD HL
      go_wp2_with fail
      refine (lCopy HL4.out (i := 0) rfl (by have := HSD.out; omega)).mono ?_; rintro e w5 ⟨q, rfl, hl, hg⟩; have L5 := Lib.hid hl; have HBA := Lib.hid (HBA.out.new hg); clear hl hg
      have D0 : Hid (A2 w w5 p q r sD b 0) := Lib.hid ⟨[], rfl, by rw [adds_nil]; exact L5.out, HBA.out⟩
      clear L0 L1 L2 L3 NA C0 HNM HLEN HL4
      go_wp2_with fail
      go_loopw [14] (fun i wr => ∃ k : Nat, k ≤ nw ∧ i = .int .i64 k ∧ A2 w wr p q r sD b k) (fun i _ => nw - (intOf i).toNat)
      case atStart => exact ⟨0, Nat.zero_le _, rfl, D0.out⟩
      case round =>
        obtain ⟨k, hk, rfl, hci⟩ := hrel
        obtain ⟨l, hlen, hl, hba⟩ := hci
        have HL := Lib.hid hl
        have HBA := Lib.hid hba
        have HLEN := Lib.hid hlen
        clear hl hba hlen
        by_cases hlt : k < nw
        · have HN2K : Hid (k ≤ 200) := Lib.hid (by have := HNW2.out; omega)
          obtain ⟨x, hx⟩ : ∃ x, ws[k]'(by have := HNW.out; omega) = x := ⟨_, rfl⟩
          obtain ⟨bf, of, rfl, hcell⟩ := Bts.at' HW.out (by have := HNW.out; omega)
          have hc := HL.out.grown.cell (hcell k (by have := HNW.out; omega)) (by simp)
          have HCW := Lib.hid (hcell k (by have := HNW.out; omega))
          rw [hx] at hc HCW
          have htk : ws.take (k + 1) = ws.take k ++ [x] := by rw [List.take_succ_eq_append_getElem (by have := HNW.out; omega), hx]
          have HTK := Lib.hid htk
          have hx0 : (x.toNat : Int) % 64 = (num x : Int) := num_eq x
          have hx1 : 0 ≤ (x.toNat : Int) := by omega
          have hxt : (x.toNat : Int).tmod 64 = (num x : Int) := by rw [Int.tmod_eq_emod_of_nonneg hx1]; exact hx0
          have hx2 : (x.toNat : Int) ≤ 255 := by have := x.toNat_lt; omega
          have hx3 := num_wrap x
          have HX : Hid (-9223372036854775808 ≤ (num x : Int) ∧ (num x : Int) ≤ 9223372036854775807) := Lib.hid (by have := num_lt x; omega)
          have HBK := Lib.hid (fun w => block_any (x + 1) w)
          clear hcell hx htk
          clear HTK
          go_upto_region 15 with fail
          have hdr : wr.grownBy wr.drew none := ⟨rfl, rfl, rfl, Nat.le_refl _, fun _ _ _ => rfl⟩
          have LR := Lib.hid (HL.out.new hdr)
          have HBA := Lib.hid (HBA.out.new hdr)
          clear hdr
          have hx4 : IntKind.u8.wrap ((x.toNat : Int) + 1) = ((x + 1).toNat : Int) := u8_wrap x 1
          refine wp_region_noPanic ?_
          refine wp_region_held_drew (S := fun w' => w'.cell? ⟨bf, of + k, none⟩ = some (.int .u8 (x.toNat : Int))) (by kernel_rfl) ((by simpa using hc)) (fun hHeld => ?_)
          generalize wr.drew = wd at *
          refine wpAnyH_take (i := 0) (v := ?_) (by simp only [List.getElem?_toArray, List.getElem?_cons_zero]; rfl) (by kernel_rfl) (by kernel_rfl) (by kernel_rfl) (fun _ _ _ h => h) (Or.inl ⟨by rfl, ?_⟩) (by assumption) ?_
          rotate_left 1
          · intro w hSw; (try dsimp only at hSw); go_simp; all_goals (with_reducible rfl)
          try simp only [Act.put, List.setIfInBounds_toArray, List.set_cons_zero, List.set_cons_succ]
          refine wpAnyH_take (i := 1) (v := ?_) (by simp only [List.getElem?_toArray, List.getElem?_cons_succ, List.getElem?_cons_zero]; rfl) (by kernel_rfl) (by kernel_rfl) (by kernel_rfl) (fun _ _ _ h => h) (Or.inl ⟨by rfl, ?_⟩) (by assumption) ?_
          rotate_left 1
          · intro w hSw; (try dsimp only at hSw); go_simp; all_goals (with_reducible rfl)
          try simp only [Act.put, List.setIfInBounds_toArray, List.set_cons_zero, List.set_cons_succ]
          refine wpAnyH_take (i := 2) (v := ?_) (by simp only [List.getElem?_toArray, List.getElem?_cons_succ, List.getElem?_cons_zero]; rfl) (by kernel_rfl) (by kernel_rfl) (by kernel_rfl) (fun _ _ _ h => h) (Or.inl ⟨by rfl, ?_⟩) (by assumption) ?_
          rotate_left 1
          · intro w hSw; (try dsimp only at hSw); go_simp; all_goals (with_reducible rfl)
          try simp only [Act.put, List.setIfInBounds_toArray, List.set_cons_zero, List.set_cons_succ]
          refine wpAnyH_take (i := 3) (v := ?_) (by simp only [List.getElem?_toArray, List.getElem?_cons_succ, List.getElem?_cons_zero]; rfl) (by kernel_rfl) (by kernel_rfl) (by kernel_rfl) (fun _ _ _ h => h) (Or.inl ⟨by rfl, ?_⟩) (by assumption) ?_
          rotate_left 1
          · intro w hSw; (try dsimp only at hSw); go_simp; all_goals (with_reducible rfl)
          try simp only [Act.put, List.setIfInBounds_toArray, List.set_cons_zero, List.set_cons_succ]
          refine wpAnyH_take (i := 4) (v := ?_) (by simp only [List.getElem?_toArray, List.getElem?_cons_succ, List.getElem?_cons_zero]; rfl) (by kernel_rfl) (by kernel_rfl) (by kernel_rfl) (fun _ _ _ h => h) (Or.inl ⟨by rfl, ?_⟩) (by assumption) ?_
          rotate_left 1
          · intro w hSw; (try dsimp only at hSw); go_simp; all_goals (with_reducible rfl)
          try simp only [Act.put, List.setIfInBounds_toArray, List.set_cons_zero, List.set_cons_succ]
          refine wpAnyH_take (i := 5) (v := ?_) (by simp only [List.getElem?_toArray, List.getElem?_cons_succ, List.getElem?_cons_zero]; rfl) (by kernel_rfl) (by kernel_rfl) (by kernel_rfl) (fun _ _ _ h => h) (Or.inl ⟨by rfl, ?_⟩) (by assumption) ?_
          rotate_left 1
          · intro w hSw; (try dsimp only at hSw); go_simp; all_goals (with_reducible rfl)
          try simp only [Act.put, List.setIfInBounds_toArray, List.set_cons_zero, List.set_cons_succ]
          refine wpAnyH_take (i := 6) (v := ?_) (by simp only [List.getElem?_toArray, List.getElem?_cons_succ, List.getElem?_cons_zero]; rfl) (by kernel_rfl) (by kernel_rfl) (by kernel_rfl) (fun _ _ _ h => h) (Or.inl ⟨by rfl, ?_⟩) (by assumption) ?_
          rotate_left 1
          · intro w hSw; (try dsimp only at hSw); go_simp; all_goals (with_reducible rfl)
          try simp only [Act.put, List.setIfInBounds_toArray, List.set_cons_zero, List.set_cons_succ]
          refine wpAnyH_take (i := 7) (v := ?_) (by simp only [List.getElem?_toArray, List.getElem?_cons_succ, List.getElem?_cons_zero]; rfl) (by kernel_rfl) (by kernel_rfl) (by kernel_rfl) (fun _ _ _ h => h) (Or.inl ⟨by rfl, ?_⟩) (by assumption) ?_
          rotate_left 1
          · intro w hSw; (try dsimp only at hSw); go_simp; all_goals (with_reducible rfl)
          try simp only [Act.put, List.setIfInBounds_toArray, List.set_cons_zero, List.set_cons_succ]
          refine wpAnyH_take (i := 8) (v := ?_) (by simp only [List.getElem?_toArray, List.getElem?_cons_succ, List.getElem?_cons_zero]; rfl) (by kernel_rfl) (by kernel_rfl) (by kernel_rfl) (fun _ _ _ h => h) (Or.inl ⟨by rfl, ?_⟩) (by assumption) ?_
          rotate_left 1
          · intro w hSw; (try dsimp only at hSw); go_simp; all_goals (with_reducible rfl)
          try simp only [Act.put, List.setIfInBounds_toArray, List.set_cons_zero, List.set_cons_succ]
          refine wpAnyH_take (i := 9) (v := ?_) (by simp only [List.getElem?_toArray, List.getElem?_cons_succ, List.getElem?_cons_zero]; rfl) (by kernel_rfl) (by kernel_rfl) (by kernel_rfl) (fun _ _ _ h => h) (Or.inl ⟨by rfl, ?_⟩) (by assumption) ?_
          rotate_left 1
          · intro w hSw; (try dsimp only at hSw); go_simp; all_goals (with_reducible rfl)
          try simp only [Act.put, List.setIfInBounds_toArray, List.set_cons_zero, List.set_cons_succ]
          refine wpAnyH_take (i := 10) (v := ?_) (by simp only [List.getElem?_toArray, List.getElem?_cons_succ, List.getElem?_cons_zero]; rfl) (by kernel_rfl) (by kernel_rfl) (by kernel_rfl) (fun _ _ _ h => h) (Or.inl ⟨by rfl, ?_⟩) (by assumption) ?_
          rotate_left 1
          · intro w hSw; (try dsimp only at hSw); go_simp; all_goals (with_reducible rfl)
          try simp only [Act.put, List.setIfInBounds_toArray, List.set_cons_zero, List.set_cons_succ]
          refine wpAnyH_take (i := 11) (v := ?_) (by simp only [List.getElem?_toArray, List.getElem?_cons_succ, List.getElem?_cons_zero]; rfl) (by kernel_rfl) (by kernel_rfl) (by kernel_rfl) (fun _ _ _ h => h) (Or.inl ⟨by rfl, ?_⟩) (by assumption) ?_
          rotate_left 1
          · intro w hSw; (try dsimp only at hSw); go_simp; all_goals (with_reducible rfl)
          try simp only [Act.put, List.setIfInBounds_toArray, List.set_cons_zero, List.set_cons_succ]
          refine wpAnyH_ready (rs := [12]) (by kernel_rfl) (by simp) ?_
          refine AllReadyH.cons (by simp only [List.getElem?_toArray, List.getElem?_cons_succ, List.getElem?_cons_zero]; rfl) (fun K hK => ?_) AllReadyH.nil
          go_simp
          refine (HBK.out _).mono ?_; rintro e v1 ⟨rfl, hg⟩
          have LB := Lib.hid (LR.out.new hg)
          have HBA := Lib.hid (HBA.out.new hg)
          clear hg
          go_wp2_with fail
          refine hK.out _ _ (LB.out.grown.cell HCW.out (by simp)) (fun hHeld => ?_)
          clear hK K
          try simp only [Act.put, List.setIfInBounds_toArray, List.set_cons_zero, List.set_cons_succ]
          refine wpAnyH_ready (rs := [13]) (by kernel_rfl) (by simp) ?_
          refine AllReadyH.cons (by simp only [List.getElem?_toArray, List.getElem?_cons_succ, List.getElem?_cons_zero]; rfl) (fun K hK => ?_) AllReadyH.nil
          go_simp
          refine (dWrite LB.out 0 rfl (by show sD.m + l.length ≤ _; have := HLEN.out; have := HN2K.out; have := HSD.out; omega) (num x) HX.out _ (adds_write HSD.out.1 HSD.out.2.1 (Nat.le_of_eq HSD.out.2.2.1.symm) _ x _) rfl).mono ?_; rintro e v2 ⟨rfl, hl, hk⟩
          have LW := Lib.hid hl
          have HBA := Lib.hid (KeptD.blk hk HBA.out (by decide) (by decide))
          clear hl hk
          go_wp2_with fail
          refine hK.out _ _ (LW.out.grown.cell HCW.out (by simp)) (fun hHeld => ?_)
          clear hK K
          try simp only [Act.put, List.setIfInBounds_toArray, List.set_cons_zero, List.set_cons_succ]
          refine wpAnyH_take (i := 14) (v := ?_) (by simp only [List.getElem?_toArray, List.getElem?_cons_succ, List.getElem?_cons_zero]; rfl) (by kernel_rfl) (by kernel_rfl) (by kernel_rfl) (fun _ _ _ h => h) (Or.inl ⟨by rfl, ?_⟩) (by assumption) ?_
          rotate_left 1
          · intro w hSw; (try dsimp only at hSw); go_simp; all_goals (with_reducible rfl)
          try simp only [Act.put, List.setIfInBounds_toArray, List.set_cons_zero, List.set_cons_succ]
          refine wpAnyH_done (by kernel_rfl) ?_ _
          refine NoPanic.normal ?_
          clear hHeld
          clear hc hxt hx0 hx1 hx2 hx3 hx4
          go_wp2_with fail
          go_roundw
          case rel => exact ⟨k + 1, by omega, by go_num, l ++ [(num x, Bk.of (x + 1))], by rw [List.length_append, HLEN.out]; rfl, by rw [← adds_snoc2]; exact LW.out, HBA.out⟩
          case measure => (simp [intOf]; try omega)
        · obtain rfl : k = nw := by omega
          clear hlt
          cases fl
          · have FB := Lib.hid (DS.fail_live (s := adds sD l) HSD.out.1 ks)
            have hkk := Bls.keepNew HK.out HL.out.grown
            have HKK := Lib.hid hkk
            clear hkk
            go_wp2_with fail
            refine (dFail HL.out 0 rfl (by show sD.m + l.length ≤ _; have := HLEN.out; have := HNW2.out; have := HSD.out; omega) HKK.out FB.out rfl).mono ?_; rintro e w7 ⟨rfl, hl, hk⟩; have L7 := Lib.hid hl; have HBA := Lib.hid (KeptD.blk hk HBA.out (by decide) (by decide)); clear hl hk
            obtain ⟨sC, hsC⟩ : ∃ s, (adds sD l).gone ks = s := ⟨_, rfl⟩
            have hl7 := L7.out
            rw [hsC] at hl7
            have L8 := Lib.hid hl7
            have hcd : sC.dd = true := by rw [← hsC]; rfl
            clear hl7 hsC FB L7
            go_wp2_with fail
            refine (lDead L8.out (i := 0) rfl).mono ?_; rintro e w' ⟨rfl, rfl⟩; rw [hcd]
            go_wp2_with fail
            refine (lDead L8.out (i := 1) rfl).mono ?_; rintro e w' ⟨rfl, rfl⟩; rw [HSD.out.1]
            go_wp2_with fail
            refine (lWaiting L8.out (i := 1) rfl).mono ?_; rintro e w' ⟨rfl, rfl⟩; rw [HSD.out.2.2.2.2]
            clear hcd
            go_wp2_with fail
            go_loopw [15] (fun i wr => ∃ n : Nat, n ≤ 64 ∧ i = .int .i64 n ∧ Law w wr [r] [(q, sC), (p, sD)] ∧ Blk wr r 57 b.v) (fun i _ => 64 - (intOf i).toNat)
            case atStart => exact ⟨0, Nat.zero_le _, rfl, L8.out, HBA.out⟩
            case round =>
              obtain ⟨n, hn, rfl, hl, hba⟩ := hrel
              have HL := Lib.hid hl
              have HBA := Lib.hid hba
              clear hl hba
              by_cases hlt : n < 64
              · have N64 : Hid (-9223372036854775808 ≤ (n : Int) ∧ (n : Int) ≤ 9223372036854775807) := Lib.hid (by omega)
                have HN64 : Hid (n < 64) := Lib.hid hlt
                have QA := Lib.hid (read_at HSD.out.1 (k := n) (by rw [HSD.out.2.2.1]; omega))
                have hrg := HHD.out n hlt
                rw [hrg] at QA
                clear hrg
                have hrd := lRead HL.out (i := 1) rfl (n : Int) N64.out
                rw [QA.out] at hrd
                go_wp2_with fail
                refine hrd.mono ?_; clear hrd; rintro e x1 ⟨rfl, hg⟩; have M1 := Lib.hid (HL.out.new hg); have HBA := Lib.hid (HBA.out.new hg); clear hg
                go_upto_region 23 with (first
                  | (refine wpAllocB rfl rfl ?_; intro g1 y1 hn1; have N1 := Lib.hid hn1; clear hn1)
                  | (refine wpStoreB rfl (.tmp 16) (.tmp 134) rfl g1 _ _ rfl rfl N1.out.blk ?_; intro z1 hb1 hgz; have hg := grown_new N1.out.grown hgz N1.out.ge; have B1 := Lib.hid hb1; have P1 := Lib.hid (M1.out.new hg); have HBA := Lib.hid (HBA.out.new hg); clear hb1 hgz hg))
                have hdr : z1.grownBy z1.drew none := ⟨rfl, rfl, rfl, Nat.le_refl _, fun _ _ _ => rfl⟩
                have PR := Lib.hid (P1.out.new hdr)
                have BR1 := Lib.hid (B1.out.new hdr)
                have HBR := Lib.hid (HBA.out.new hdr)
                clear hdr
                refine wp_region_noPanic ?_
                refine wp_region_held_drew (S := fun w' => Blk w' g1 29 (b.at n).v ∧ w'.rangeAt r (n * 512) ((b.at n).l.map u8v)) (by kernel_rfl) (⟨BR1.out, b.range HBR.out n HN64.out⟩) (fun hHeld => ?_)
                generalize z1.drew = zd at *
                refine wpAnyH_take (i := 0) (v := ?_) (by simp only [List.getElem?_toArray, List.getElem?_cons_zero]; rfl) (by kernel_rfl) (by kernel_rfl) (by kernel_rfl) (fun _ _ _ h => h) (Or.inl ⟨by rfl, ?_⟩) (by assumption) ?_
                rotate_left 1
                · intro w hSw; (try dsimp only at hSw); go_simp; all_goals (with_reducible rfl)
                try simp only [Act.put, List.setIfInBounds_toArray, List.set_cons_zero, List.set_cons_succ]
                refine wpAnyH_take (i := 1) (v := ?_) (by simp only [List.getElem?_toArray, List.getElem?_cons_succ, List.getElem?_cons_zero]; rfl) (by kernel_rfl) (by kernel_rfl) (by kernel_rfl) (fun _ _ _ h => h) (Or.inl ⟨by rfl, ?_⟩) (by assumption) ?_
                rotate_left 1
                · intro w hSw; (try dsimp only at hSw); go_simp; all_goals (with_reducible rfl)
                try simp only [Act.put, List.setIfInBounds_toArray, List.set_cons_zero, List.set_cons_succ]
                refine wpAnyH_take (i := 2) (v := ?_) (by simp only [List.getElem?_toArray, List.getElem?_cons_succ, List.getElem?_cons_zero]; rfl) (by kernel_rfl) (by kernel_rfl) (by kernel_rfl) (fun _ _ _ h => h) (Or.inl ⟨by rfl, ?_⟩) (by assumption) ?_
                rotate_left 1
                · intro w hSw; (try dsimp only at hSw); go_simp; all_goals (with_reducible rfl)
                try simp only [Act.put, List.setIfInBounds_toArray, List.set_cons_zero, List.set_cons_succ]
                refine wpAnyH_take (i := 3) (v := .agg (b.at n).v) (by simp only [List.getElem?_toArray, List.getElem?_cons_succ, List.getElem?_cons_zero]; rfl) (by kernel_rfl) (by kernel_rfl) (by kernel_rfl) (fun _ _ _ h => h) (yieldsIf_load_mid (by rfl) _ _ (by rfl) g1 0 (by rfl) ((b.at n).l.map u8v) _ (fun w hw => Blk.range hw.1) undB rfl (by rw [List.length_map, (b.at n).h]; exact infB)) (by assumption) ?_
                try simp only [Act.put, List.setIfInBounds_toArray, List.set_cons_zero, List.set_cons_succ]
                refine wpAnyH_take (i := 4) (v := ?_) (by simp only [List.getElem?_toArray, List.getElem?_cons_succ, List.getElem?_cons_zero]; rfl) (by kernel_rfl) (by kernel_rfl) (by kernel_rfl) (fun _ _ _ h => h) (Or.inl ⟨by rfl, ?_⟩) (by assumption) ?_
                rotate_left 1
                · intro w hSw; (try dsimp only at hSw); go_simp; all_goals (with_reducible rfl)
                try simp only [Act.put, List.setIfInBounds_toArray, List.set_cons_zero, List.set_cons_succ]
                refine wpAnyH_take (i := 5) (v := ?_) (by simp only [List.getElem?_toArray, List.getElem?_cons_succ, List.getElem?_cons_zero]; rfl) (by kernel_rfl) (by kernel_rfl) (by kernel_rfl) (fun _ _ _ h => h) (Or.inl ⟨by rfl, ?_⟩) (by assumption) ?_
                rotate_left 1
                · intro w hSw; (try dsimp only at hSw); go_simp; all_goals (with_reducible rfl)
                try simp only [Act.put, List.setIfInBounds_toArray, List.set_cons_zero, List.set_cons_succ]
                refine wpAnyH_take (i := 6) (v := .agg (b.at n).v) (by simp only [List.getElem?_toArray, List.getElem?_cons_succ, List.getElem?_cons_zero]; rfl) (by kernel_rfl) (by kernel_rfl) (by kernel_rfl) (fun _ _ _ h => h) (yieldsIf_load_mid (by rfl) _ _ (by rfl) r (n * 512) (by rfl) ((b.at n).l.map u8v) _ (fun w hw => hw.2) undB rfl (by rw [List.length_map, (b.at n).h]; exact infB)) (by assumption) ?_
                try simp only [Act.put, List.setIfInBounds_toArray, List.set_cons_zero, List.set_cons_succ]
                refine wpAnyH_take (i := 7) (v := .bool false) (by simp only [List.getElem?_toArray, List.getElem?_cons_succ, List.getElem?_cons_zero]; rfl) (by kernel_rfl) (by kernel_rfl) (by kernel_rfl) (fun _ _ _ h => h) (yieldsNeqB (by rfl) _ _ _ (by rfl) (b.at n) (b.at n) (by rfl) (by rfl) false (by simp)) (by assumption) ?_
                try simp only [Act.put, List.setIfInBounds_toArray, List.set_cons_zero, List.set_cons_succ]
                refine wpAnyH_take (i := 8) (v := ?_) (by simp only [List.getElem?_toArray, List.getElem?_cons_succ, List.getElem?_cons_zero]; rfl) (by kernel_rfl) (by kernel_rfl) (by kernel_rfl) (fun _ _ _ h => h) (Or.inl ⟨by rfl, ?_⟩) (by assumption) ?_
                rotate_left 1
                · intro w hSw; (try dsimp only at hSw); go_simp; all_goals (with_reducible rfl)
                try simp only [Act.put, List.setIfInBounds_toArray, List.set_cons_zero, List.set_cons_succ]
                refine wpAnyH_done (by kernel_rfl) ?_ _
                refine NoPanic.normal ?_
                clear hHeld
                go_wp2_with fail
                go_roundw
                case rel => exact ⟨n + 1, by omega, by go_num, PR.out, HBR.out⟩
                case measure => (simp [intOf]; try omega)
              · obtain rfl : n = 64 := by omega
                clear hlt
                have hbl : (sD.n : Int) = 64 := by rw [HSD.out.2.2.1]; rfl
                go_wp2_with fail
                refine (lBlocks HL.out (i := 1) rfl).mono ?_; rintro e w' ⟨rfl, rfl⟩; rw [hbl]
                clear hbl
                go_wp2_with fail
                go_ret
                exact ⟨rfl, HL.out.grown⟩
          · have FA := Lib.hid (flush_0 (s := adds sD l) HSD.out.1 HSD.out.2.1)
            have FB := Lib.hid (DS.fail_live (s := (adds sD l).settle) HSD.out.1 ks)
            go_wp2_with fail
            refine (dFlush HL.out 0 rfl (by show sD.m + l.length ≤ _; have := HLEN.out; have := HNW2.out; have := HSD.out; omega) FA.out rfl).mono ?_; rintro e w6 ⟨rfl, hl, hk⟩; have L6 := Lib.hid hl; have HBA := Lib.hid (KeptD.blk hk HBA.out (by decide) (by decide)); clear hl hk
            have hkk := Bls.keepNew HK.out L6.out.grown
            have HKK := Lib.hid hkk
            clear hkk
            go_wp2_with fail
            refine (dFail L6.out 0 rfl (by show sD.m + l.length ≤ _; have := HLEN.out; have := HNW2.out; have := HSD.out; omega) HKK.out FB.out rfl).mono ?_; rintro e w7 ⟨rfl, hl, hk⟩; have L7 := Lib.hid hl; have HBA := Lib.hid (KeptD.blk hk HBA.out (by decide) (by decide)); clear hl hk
            obtain ⟨sC, hsC⟩ : ∃ s, (adds sD l).settle.gone ks = s := ⟨_, rfl⟩
            have hl7 := L7.out
            rw [hsC] at hl7
            have L8 := Lib.hid hl7
            have hcd : sC.dd = true := by rw [← hsC]; rfl
            clear hl7 hsC FB L7
            go_wp2_with fail
            refine (lDead L8.out (i := 0) rfl).mono ?_; rintro e w' ⟨rfl, rfl⟩; rw [hcd]
            go_wp2_with fail
            refine (lDead L8.out (i := 1) rfl).mono ?_; rintro e w' ⟨rfl, rfl⟩; rw [HSD.out.1]
            go_wp2_with fail
            refine (lWaiting L8.out (i := 1) rfl).mono ?_; rintro e w' ⟨rfl, rfl⟩; rw [HSD.out.2.2.2.2]
            clear hcd
            go_wp2_with fail
            go_loopw [15] (fun i wr => ∃ n : Nat, n ≤ 64 ∧ i = .int .i64 n ∧ Law w wr [r] [(q, sC), (p, sD)] ∧ Blk wr r 57 b.v) (fun i _ => 64 - (intOf i).toNat)
            case atStart => exact ⟨0, Nat.zero_le _, rfl, L8.out, HBA.out⟩
            case round =>
              obtain ⟨n, hn, rfl, hl, hba⟩ := hrel
              have HL := Lib.hid hl
              have HBA := Lib.hid hba
              clear hl hba
              by_cases hlt : n < 64
              · have N64 : Hid (-9223372036854775808 ≤ (n : Int) ∧ (n : Int) ≤ 9223372036854775807) := Lib.hid (by omega)
                have HN64 : Hid (n < 64) := Lib.hid hlt
                have QA := Lib.hid (read_at HSD.out.1 (k := n) (by rw [HSD.out.2.2.1]; omega))
                have hrg := HHD.out n hlt
                rw [hrg] at QA
                clear hrg
                have hrd := lRead HL.out (i := 1) rfl (n : Int) N64.out
                rw [QA.out] at hrd
                go_wp2_with fail
                refine hrd.mono ?_; clear hrd; rintro e x1 ⟨rfl, hg⟩; have M1 := Lib.hid (HL.out.new hg); have HBA := Lib.hid (HBA.out.new hg); clear hg
                go_upto_region 23 with (first
                  | (refine wpAllocB rfl rfl ?_; intro g1 y1 hn1; have N1 := Lib.hid hn1; clear hn1)
                  | (refine wpStoreB rfl (.tmp 16) (.tmp 134) rfl g1 _ _ rfl rfl N1.out.blk ?_; intro z1 hb1 hgz; have hg := grown_new N1.out.grown hgz N1.out.ge; have B1 := Lib.hid hb1; have P1 := Lib.hid (M1.out.new hg); have HBA := Lib.hid (HBA.out.new hg); clear hb1 hgz hg))
                have hdr : z1.grownBy z1.drew none := ⟨rfl, rfl, rfl, Nat.le_refl _, fun _ _ _ => rfl⟩
                have PR := Lib.hid (P1.out.new hdr)
                have BR1 := Lib.hid (B1.out.new hdr)
                have HBR := Lib.hid (HBA.out.new hdr)
                clear hdr
                refine wp_region_noPanic ?_
                refine wp_region_held_drew (S := fun w' => Blk w' g1 29 (b.at n).v ∧ w'.rangeAt r (n * 512) ((b.at n).l.map u8v)) (by kernel_rfl) (⟨BR1.out, b.range HBR.out n HN64.out⟩) (fun hHeld => ?_)
                generalize z1.drew = zd at *
                refine wpAnyH_take (i := 0) (v := ?_) (by simp only [List.getElem?_toArray, List.getElem?_cons_zero]; rfl) (by kernel_rfl) (by kernel_rfl) (by kernel_rfl) (fun _ _ _ h => h) (Or.inl ⟨by rfl, ?_⟩) (by assumption) ?_
                rotate_left 1
                · intro w hSw; (try dsimp only at hSw); go_simp; all_goals (with_reducible rfl)
                try simp only [Act.put, List.setIfInBounds_toArray, List.set_cons_zero, List.set_cons_succ]
                refine wpAnyH_take (i := 1) (v := ?_) (by simp only [List.getElem?_toArray, List.getElem?_cons_succ, List.getElem?_cons_zero]; rfl) (by kernel_rfl) (by kernel_rfl) (by kernel_rfl) (fun _ _ _ h => h) (Or.inl ⟨by rfl, ?_⟩) (by assumption) ?_
                rotate_left 1
                · intro w hSw; (try dsimp only at hSw); go_simp; all_goals (with_reducible rfl)
                try simp only [Act.put, List.setIfInBounds_toArray, List.set_cons_zero, List.set_cons_succ]
                refine wpAnyH_take (i := 2) (v := ?_) (by simp only [List.getElem?_toArray, List.getElem?_cons_succ, List.getElem?_cons_zero]; rfl) (by kernel_rfl) (by kernel_rfl) (by kernel_rfl) (fun _ _ _ h => h) (Or.inl ⟨by rfl, ?_⟩) (by assumption) ?_
                rotate_left 1
                · intro w hSw; (try dsimp only at hSw); go_simp; all_goals (with_reducible rfl)
                try simp only [Act.put, List.setIfInBounds_toArray, List.set_cons_zero, List.set_cons_succ]
                refine wpAnyH_take (i := 3) (v := .agg (b.at n).v) (by simp only [List.getElem?_toArray, List.getElem?_cons_succ, List.getElem?_cons_zero]; rfl) (by kernel_rfl) (by kernel_rfl) (by kernel_rfl) (fun _ _ _ h => h) (yieldsIf_load_mid (by rfl) _ _ (by rfl) g1 0 (by rfl) ((b.at n).l.map u8v) _ (fun w hw => Blk.range hw.1) undB rfl (by rw [List.length_map, (b.at n).h]; exact infB)) (by assumption) ?_
                try simp only [Act.put, List.setIfInBounds_toArray, List.set_cons_zero, List.set_cons_succ]
                refine wpAnyH_take (i := 4) (v := ?_) (by simp only [List.getElem?_toArray, List.getElem?_cons_succ, List.getElem?_cons_zero]; rfl) (by kernel_rfl) (by kernel_rfl) (by kernel_rfl) (fun _ _ _ h => h) (Or.inl ⟨by rfl, ?_⟩) (by assumption) ?_
                rotate_left 1
                · intro w hSw; (try dsimp only at hSw); go_simp; all_goals (with_reducible rfl)
                try simp only [Act.put, List.setIfInBounds_toArray, List.set_cons_zero, List.set_cons_succ]
                refine wpAnyH_take (i := 5) (v := ?_) (by simp only [List.getElem?_toArray, List.getElem?_cons_succ, List.getElem?_cons_zero]; rfl) (by kernel_rfl) (by kernel_rfl) (by kernel_rfl) (fun _ _ _ h => h) (Or.inl ⟨by rfl, ?_⟩) (by assumption) ?_
                rotate_left 1
                · intro w hSw; (try dsimp only at hSw); go_simp; all_goals (with_reducible rfl)
                try simp only [Act.put, List.setIfInBounds_toArray, List.set_cons_zero, List.set_cons_succ]
                refine wpAnyH_take (i := 6) (v := .agg (b.at n).v) (by simp only [List.getElem?_toArray, List.getElem?_cons_succ, List.getElem?_cons_zero]; rfl) (by kernel_rfl) (by kernel_rfl) (by kernel_rfl) (fun _ _ _ h => h) (yieldsIf_load_mid (by rfl) _ _ (by rfl) r (n * 512) (by rfl) ((b.at n).l.map u8v) _ (fun w hw => hw.2) undB rfl (by rw [List.length_map, (b.at n).h]; exact infB)) (by assumption) ?_
                try simp only [Act.put, List.setIfInBounds_toArray, List.set_cons_zero, List.set_cons_succ]
                refine wpAnyH_take (i := 7) (v := .bool false) (by simp only [List.getElem?_toArray, List.getElem?_cons_succ, List.getElem?_cons_zero]; rfl) (by kernel_rfl) (by kernel_rfl) (by kernel_rfl) (fun _ _ _ h => h) (yieldsNeqB (by rfl) _ _ _ (by rfl) (b.at n) (b.at n) (by rfl) (by rfl) false (by simp)) (by assumption) ?_
                try simp only [Act.put, List.setIfInBounds_toArray, List.set_cons_zero, List.set_cons_succ]
                refine wpAnyH_take (i := 8) (v := ?_) (by simp only [List.getElem?_toArray, List.getElem?_cons_succ, List.getElem?_cons_zero]; rfl) (by kernel_rfl) (by kernel_rfl) (by kernel_rfl) (fun _ _ _ h => h) (Or.inl ⟨by rfl, ?_⟩) (by assumption) ?_
                rotate_left 1
                · intro w hSw; (try dsimp only at hSw); go_simp; all_goals (with_reducible rfl)
                try simp only [Act.put, List.setIfInBounds_toArray, List.set_cons_zero, List.set_cons_succ]
                refine wpAnyH_done (by kernel_rfl) ?_ _
                refine NoPanic.normal ?_
                clear hHeld
                go_wp2_with fail
                go_roundw
                case rel => exact ⟨n + 1, by omega, by go_num, PR.out, HBR.out⟩
                case measure => (simp [intOf]; try omega)
              · obtain rfl : n = 64 := by omega
                clear hlt
                have hbl : (sD.n : Int) = 64 := by rw [HSD.out.2.2.1]; rfl
                go_wp2_with fail
                refine (lBlocks HL.out (i := 1) rfl).mono ?_; rintro e w' ⟨rfl, rfl⟩; rw [hbl]
                clear hbl
                go_wp2_with fail
                go_ret
                exact ⟨rfl, HL.out.grown⟩
end Go.Proofs.Ytnnhnkpbiilooaa
