/- disk: DiskKept. -/
import Derived.Test.YtnnhnkpbiilooaaDkV
namespace Go.Proofs.Ytnnhnkpbiilooaa
open Go.RowKit Go.Maps

theorem kept_snoc (l : List (Nat × Bk)) (x : Nat × Bk) (ks : List Bool) : kept (l ++ [x]) ks = if ks.getD l.length false then kept l ks ++ [x] else kept l ks := by
  have h := kept_step (l ++ [x]) ks l.length (by simp)
  rw [List.take_of_length_le (by simp), List.take_left] at h
  rw [h]
  simp
theorem adds_snoc' (s : DS) (l : List (Nat × Bk)) (k : Nat) (b : Bk) : (adds s l).add k b = adds s (l ++ [(k, b)]) := adds_snoc s l (k, b)
theorem ofNat_toNat {n : Nat} (h : n < 256) : ((UInt8.ofNat n).toNat : Int) = (n : Int) := by
  rw [UInt8.toNat_ofNat', Nat.mod_eq_of_lt h]
theorem ofNat_ne {n : Nat} (h : n < 256) (h0 : n ≠ 0) : UInt8.ofNat n ≠ 0 := fun e => by
  have := ofNat_toNat h
  rw [e] at this
  simp at this
  omega
theorem isB_at {b : Bk} {c : UInt8} (h : b = Bk.want c) : isB (b, 0) c = true := by subst h; simp [isB]
/-- The first loop. -/
def K1 (W wr : World) (p ra k : Nat) : Prop := ∃ (l : List (Nat × Bk)) (b : Ar), l.length = k ∧ Law W wr [ra] [(p, adds (DS.new 64) l)] ∧ Blk wr ra 53 b.v ∧ Names b (putL no l)
/-- The second one. -/
def K2 (W wr : World) (p ra rw rl : Nat) (sF : DS) (bA : Ar) (ks : List Bool) (k : Nat) : Prop := ∃ (l : List (Nat × Bk)) (bw bl : Ar), l.length = k ∧ Law W wr [rl, rw, ra] [(p, adds sF l)] ∧ Blk wr ra 53 bA.v ∧ Blk wr rw 53 bw.v ∧ Blk wr rl 53 bl.v ∧ Names bw (putL sF.fl (kept l ks)) ∧ Names bl (putL sF.fl l)

set_option maxRecDepth 100000 in
set_option maxHeartbeats 16000000 in
theorem kept_main (vf : Value) (fs : List UInt8) (vw : Value) (ws : List UInt8) (vk : Value) (ks : List Bool) (w : World) (hvf : Bts w vf fs) (hvw : Bts w vw ws) (hvk : Bls w vk ks) : Calls Try.prog 5 #[vf, vw, vk] w (Asks w true) := by
  have L0 := Lib.hid (Law.start w)
  obtain ⟨af, cf, rfl, hf1, hf2⟩ := hvf.form
  obtain ⟨aw, cw, rfl, hw1, hw2⟩ := hvw.form
  obtain ⟨ak, ck, rfl, hk2⟩ := hvk.shape
  have HF := Lib.hid hvf
  have HW := Lib.hid hvw
  have HK := Lib.hid hvk
  obtain ⟨nf, hnf⟩ : ∃ n, fs.length = n := ⟨_, rfl⟩
  obtain ⟨nw, hnw⟩ : ∃ n, ws.length = n := ⟨_, rfl⟩
  obtain ⟨nk, hnk⟩ : ∃ n, ks.length = n := ⟨_, rfl⟩
  have HNF := Lib.hid hnf
  have HNW := Lib.hid hnw
  have HNK := Lib.hid hnk
  rw [hnf] at hf1 ⊢ HF
  rw [hnw] at hw1 ⊢ HW
  rw [hnk] at hk2 ⊢ HK
  unfold maxLen at hf2 hw2 hk2
  have zf : (nf : Int) ≤ 9223372036854775807 := by omega
  have zw : (nw : Int) ≤ 9223372036854775807 := by omega
  have zk : (nk : Int) ≤ 9223372036854775807 := by omega
  clear hvf hvw hvk hnf hnw hnk hf1 hw1 hf2 hw2 hk2
  by_cases h1 : 200 < (nf : Int)
  · go_enter Try.func5, Try.ntmps5
    go_wp2_with fail
    refine (works_any _).mono ?_; rintro e w1 ⟨rfl, hg⟩; have L1 := Lib.hid (L0.out.new hg); clear hg
    go_wp2_with fail
    refine (works_any _).mono ?_; rintro e w2 ⟨rfl, hg⟩; have L2 := Lib.hid (L1.out.new hg); clear hg
    go_wp2_with fail
    go_ret
    exact ⟨rfl, L2.out.grown⟩
  by_cases h2 : 200 < (nw : Int)
  · go_enter Try.func5, Try.ntmps5
    go_wp2_with fail
    refine (works_any _).mono ?_; rintro e w1 ⟨rfl, hg⟩; have L1 := Lib.hid (L0.out.new hg); clear hg
    go_wp2_with fail
    refine (works_any _).mono ?_; rintro e w2 ⟨rfl, hg⟩; have L2 := Lib.hid (L1.out.new hg); clear hg
    go_wp2_with fail
    go_ret
    exact ⟨rfl, L2.out.grown⟩
  by_cases h3 : 1000 < (nk : Int)
  · go_enter Try.func5, Try.ntmps5
    go_wp2_with fail
    refine (works_any _).mono ?_; rintro e w1 ⟨rfl, hg⟩; have L1 := Lib.hid (L0.out.new hg); clear hg
    go_wp2_with fail
    refine (works_any _).mono ?_; rintro e w2 ⟨rfl, hg⟩; have L2 := Lib.hid (L1.out.new hg); clear hg
    go_wp2_with fail
    go_ret
    exact ⟨rfl, L2.out.grown⟩
  have HNF2 : Hid (nf ≤ 200) := Lib.hid (by omega)
  have HNW2 : Hid (nw ≤ 200) := Lib.hid (by omega)
  have HNK2 : Hid (nk ≤ 1000) := Lib.hid (by omega)
  go_enter Try.func5, Try.ntmps5
  go_wp2_with fail
  refine (works_any _).mono ?_; rintro e w1 ⟨rfl, hg⟩; have L1 := Lib.hid (L0.out.new hg); clear hg
  go_wp2_with fail
  refine (lNew L1.out 64 (by omega) (by omega)).mono ?_; rintro e w2 ⟨p, rfl, hl, hg⟩; have L2 := Lib.hid hl; clear hl hg
  go_upto_region 7 with (refine wpAllocT zeroA rfl rfl ?_; intro ra w3 hn1; have NA := Lib.hid hn1; clear hn1)
  have L3 := Lib.hid (L2.out.mark NA.out.grown NA.out.ge NA.out.blk.lt)
  have C0 : Hid (K1 w w3 p ra 0) := Lib.hid ⟨[], Ar.zero, rfl, by rw [adds_nil]; exact L3.out, NA.out.blk, Names.zero⟩
  go_wp2_with fail
  go_loopw [10] (fun i wr => ∃ k : Nat, k ≤ nf ∧ i = .int .i64 k ∧ K1 w wr p ra k) (fun i _ => nf - (intOf i).toNat)
  case atStart => exact ⟨0, Nat.zero_le _, rfl, C0.out⟩
  case round =>
    obtain ⟨k, hk, rfl, hci⟩ := hrel
    obtain ⟨l, b, hlen, hl, hba, hnm⟩ := hci
    have HL := Lib.hid hl
    have HBA := Lib.hid hba
    have HNM := Lib.hid hnm
    have HLEN := Lib.hid hlen
    clear hl hba hnm hlen
    by_cases hlt : k < nf
    · have HN2K : Hid (k ≤ 200) := Lib.hid (by have := HNF2.out; omega)
      obtain ⟨x, hx⟩ : ∃ x, fs[k]'(by have := HNF.out; omega) = x := ⟨_, rfl⟩
      obtain ⟨bf, of, rfl, hcell⟩ := Bts.at' HF.out (by have := HNF.out; omega)
      have hc := HL.out.grown.cell (hcell k (by have := HNF.out; omega)) (by simp)
      have HCW := Lib.hid (hcell k (by have := HNF.out; omega))
      rw [hx] at hc HCW
      have htk : fs.take (k + 1) = fs.take k ++ [x] := by rw [List.take_succ_eq_append_getElem (by have := HNF.out; omega), hx]
      have HTK := Lib.hid htk
      have hx0 : (x.toNat : Int) % 64 = (num x : Int) := num_eq x
      have hx1 : 0 ≤ (x.toNat : Int) := by omega
      have hxt : (x.toNat : Int).tmod 64 = (num x : Int) := by rw [Int.tmod_eq_emod_of_nonneg hx1]; exact hx0
      have hx2 : (x.toNat : Int) ≤ 255 := by have := x.toNat_lt; omega
      have hx3 := num_wrap x
      have HX : Hid (-9223372036854775808 ≤ (num x : Int) ∧ (num x : Int) ≤ 9223372036854775807) := Lib.hid (by have := num_lt x; omega)
      clear hcell hx htk
      obtain ⟨q, hq⟩ : ∃ q, k % 100 = q := ⟨_, rfl⟩
      have hq0 : q < 100 := by omega
      have hc0 : IntKind.u8.wrap (k : Int) = (k : Int) := IntWalk.u8_in _ (by have := HN2K.out; omega)
      have hc1 : (k : Int) % 100 = (q : Int) := by omega
      have hc1t : (k : Int).tmod 100 = (q : Int) := by rw [Int.tmod_eq_emod_of_nonneg (by omega)]; omega
      obtain ⟨c, hcc⟩ : ∃ c, UInt8.ofNat (q + 1) = c := ⟨_, rfl⟩
      have hc2 : (q : Int) + 1 = (c.toNat : Int) := by rw [← hcc, ofNat_toNat (by omega)]; omega
      have hc3 : IntKind.u8.wrap (c.toNat : Int) = (c.toNat : Int) := IntWalk.u8_in _ (by have := c.toNat_lt; omega)
      have hcn : c ≠ 0 := by rw [← hcc]; exact ofNat_ne (by omega) (by omega)
      have HCN := Lib.hid hcn
      have hc4 : 0 ≤ (c.toNat : Int) := by omega
      have hc5 : (c.toNat : Int) ≤ 255 := by have := c.toNat_lt; omega
      clear hcc hcn
      have HBK := Lib.hid (fun w => block_any c w)
      have hxl : (num x : Int) < 64 := by have := num_lt x; omega
      clear HTK
      have k0a := HBA.out.cell (i := num x) (b.get (num x) (num_lt x))
      have f0a := HBA.out.frozen (num x)
      go_upto_region 11 with fail
      have hb2 := HBA.out.set (num x) (.int .u8 (c.toNat : Int))
      rw [Ar.put] at hb2
      have hg2 := HBA.out.setG (num x) (.int .u8 (c.toNat : Int))
      have HL2 := Lib.hid (HL.out.own HBA.out (by decide) (by decide) (by simp) hg2)
      have HBA := Lib.hid hb2
      clear hb2 hg2 k0a f0a
      generalize World.setCell _ _ _ = ws1 at *
      have hc := HL2.out.grown.cell HCW.out (by simp)
      have HL := HL2
      have hdr : ws1.grownBy ws1.drew none := ⟨rfl, rfl, rfl, Nat.le_refl _, fun _ _ _ => rfl⟩
      have LR := Lib.hid (HL.out.new hdr)
      have HBA := Lib.hid (HBA.out.new hdr)
      clear hdr
      refine wp_region_noPanic ?_
      refine wp_region_held_drew (S := fun w' => w'.cell? ⟨bf, of + k, none⟩ = some (.int .u8 (x.toNat : Int))) (by kernel_rfl) ((by simpa using hc)) (fun hHeld => ?_)
      generalize ws1.drew = wd at *
      refine wpAnyH_take (i := 0) (v := ?_) (by simp only [List.getElem?_toArray, List.getElem?_cons_zero]; rfl) (by kernel_rfl) (by kernel_rfl) (by kernel_rfl) (fun _ _ _ h => h) (Or.inl ⟨by rfl, ?_⟩) (by assumption) ?_
      rotate_left 1
      · intro w hSw; (try dsimp only at hSw); go_simp; all_goals (with_reducible rfl)
      try simp only [Act.put, List.setIfInBounds_toArray, List.set_cons_zero, List.set_cons_succ]
      refine wpAnyH_take (i := 1) (v := ?_) (by simp only [List.getElem?_toArray, List.getElem?_cons_succ, List.getElem?_cons_zero]; rfl) (by kernel_rfl) (by kernel_rfl) (by kernel_rfl) (fun _ _ _ h => h) (Or.inl ⟨by rfl, ?_⟩) (by assumption) ?_
      rotate_left 1
      · intro w hSw; (try dsimp only at hSw); go_simp; all_goals (with_reducible rfl)
      try simp only [Act.put, List.setIfInBounds_toArray, List.set_cons_zero, List.set_cons_succ]
      refine wpAnyH_take (i := 2) (v := ?_) (by simp only [List.getElem?_toArray, List.getElem?_cons_succ, List.getElem?_cons_zero]; rfl) (by kernel_rfl) (by kernel_rfl) (by kernel_rfl) (fun _ _ _ h => h) (Or.inl ⟨by rfl, ?_⟩) (by assumption) ?_
      rotate_left 1
      · intro w hSw; (try dsimp only at hSw); go_simp; all_goals (with_reducible rfl)
      try simp only [Act.put, List.setIfInBounds_toArray, List.set_cons_zero, List.set_cons_succ]
      refine wpAnyH_take (i := 3) (v := ?_) (by simp only [List.getElem?_toArray, List.getElem?_cons_succ, List.getElem?_cons_zero]; rfl) (by kernel_rfl) (by kernel_rfl) (by kernel_rfl) (fun _ _ _ h => h) (Or.inl ⟨by rfl, ?_⟩) (by assumption) ?_
      rotate_left 1
      · intro w hSw; (try dsimp only at hSw); go_simp; all_goals (with_reducible rfl)
      try simp only [Act.put, List.setIfInBounds_toArray, List.set_cons_zero, List.set_cons_succ]
      refine wpAnyH_take (i := 4) (v := ?_) (by simp only [List.getElem?_toArray, List.getElem?_cons_succ, List.getElem?_cons_zero]; rfl) (by kernel_rfl) (by kernel_rfl) (by kernel_rfl) (fun _ _ _ h => h) (Or.inl ⟨by rfl, ?_⟩) (by assumption) ?_
      rotate_left 1
      · intro w hSw; (try dsimp only at hSw); go_simp; all_goals (with_reducible rfl)
      try simp only [Act.put, List.setIfInBounds_toArray, List.set_cons_zero, List.set_cons_succ]
      refine wpAnyH_take (i := 5) (v := ?_) (by simp only [List.getElem?_toArray, List.getElem?_cons_succ, List.getElem?_cons_zero]; rfl) (by kernel_rfl) (by kernel_rfl) (by kernel_rfl) (fun _ _ _ h => h) (Or.inl ⟨by rfl, ?_⟩) (by assumption) ?_
      rotate_left 1
      · intro w hSw; (try dsimp only at hSw); go_simp; all_goals (with_reducible rfl)
      try simp only [Act.put, List.setIfInBounds_toArray, List.set_cons_zero, List.set_cons_succ]
      refine wpAnyH_take (i := 6) (v := ?_) (by simp only [List.getElem?_toArray, List.getElem?_cons_succ, List.getElem?_cons_zero]; rfl) (by kernel_rfl) (by kernel_rfl) (by kernel_rfl) (fun _ _ _ h => h) (Or.inl ⟨by rfl, ?_⟩) (by assumption) ?_
      rotate_left 1
      · intro w hSw; (try dsimp only at hSw); go_simp; all_goals (with_reducible rfl)
      try simp only [Act.put, List.setIfInBounds_toArray, List.set_cons_zero, List.set_cons_succ]
      refine wpAnyH_take (i := 7) (v := ?_) (by simp only [List.getElem?_toArray, List.getElem?_cons_succ, List.getElem?_cons_zero]; rfl) (by kernel_rfl) (by kernel_rfl) (by kernel_rfl) (fun _ _ _ h => h) (Or.inl ⟨by rfl, ?_⟩) (by assumption) ?_
      rotate_left 1
      · intro w hSw; (try dsimp only at hSw); go_simp; all_goals (with_reducible rfl)
      try simp only [Act.put, List.setIfInBounds_toArray, List.set_cons_zero, List.set_cons_succ]
      refine wpAnyH_take (i := 8) (v := ?_) (by simp only [List.getElem?_toArray, List.getElem?_cons_succ, List.getElem?_cons_zero]; rfl) (by kernel_rfl) (by kernel_rfl) (by kernel_rfl) (fun _ _ _ h => h) (Or.inl ⟨by rfl, ?_⟩) (by assumption) ?_
      rotate_left 1
      · intro w hSw; (try dsimp only at hSw); go_simp; all_goals (with_reducible rfl)
      try simp only [Act.put, List.setIfInBounds_toArray, List.set_cons_zero, List.set_cons_succ]
      refine wpAnyH_take (i := 9) (v := ?_) (by simp only [List.getElem?_toArray, List.getElem?_cons_succ, List.getElem?_cons_zero]; rfl) (by kernel_rfl) (by kernel_rfl) (by kernel_rfl) (fun _ _ _ h => h) (Or.inl ⟨by rfl, ?_⟩) (by assumption) ?_
      rotate_left 1
      · intro w hSw; (try dsimp only at hSw); go_simp; all_goals (with_reducible rfl)
      try simp only [Act.put, List.setIfInBounds_toArray, List.set_cons_zero, List.set_cons_succ]
      refine wpAnyH_take (i := 10) (v := ?_) (by simp only [List.getElem?_toArray, List.getElem?_cons_succ, List.getElem?_cons_zero]; rfl) (by kernel_rfl) (by kernel_rfl) (by kernel_rfl) (fun _ _ _ h => h) (Or.inl ⟨by rfl, ?_⟩) (by assumption) ?_
      rotate_left 1
      · intro w hSw; (try dsimp only at hSw); go_simp; all_goals (with_reducible rfl)
      try simp only [Act.put, List.setIfInBounds_toArray, List.set_cons_zero, List.set_cons_succ]
      refine wpAnyH_ready (rs := [11]) (by kernel_rfl) (by simp) ?_
      refine AllReadyH.cons (by simp only [List.getElem?_toArray, List.getElem?_cons_succ, List.getElem?_cons_zero]; rfl) (fun K hK => ?_) AllReadyH.nil
      go_simp
      refine (HBK.out _).mono ?_; rintro e v1 ⟨rfl, hg⟩
      have LB := Lib.hid (LR.out.new hg)
      have HBA := Lib.hid (HBA.out.new hg)
      clear hg
      go_wp2_with fail
      refine hK.out _ _ (LB.out.grown.cell HCW.out (by simp)) (fun hHeld => ?_)
      clear hK K
      try simp only [Act.put, List.setIfInBounds_toArray, List.set_cons_zero, List.set_cons_succ]
      refine wpAnyH_ready (rs := [12]) (by kernel_rfl) (by simp) ?_
      refine AllReadyH.cons (by simp only [List.getElem?_toArray, List.getElem?_cons_succ, List.getElem?_cons_zero]; rfl) (fun K hK => ?_) AllReadyH.nil
      go_simp
      refine (dWrite LB.out 0 rfl (by show 0 + l.length ≤ _; have := HLEN.out; have := HN2K.out; omega) (num x) HX.out _ (adds_write rfl rfl (Nat.le_refl _) _ x _) rfl).mono ?_; rintro e v2 ⟨rfl, hl, hk⟩
      have LW := Lib.hid hl
      have HBA := Lib.hid (KeptD.blk hk HBA.out (by decide) (by decide))
      clear hl hk
      go_wp2_with fail
      refine hK.out _ _ (LW.out.grown.cell HCW.out (by simp)) (fun hHeld => ?_)
      clear hK K
      try simp only [Act.put, List.setIfInBounds_toArray, List.set_cons_zero, List.set_cons_succ]
      refine wpAnyH_take (i := 13) (v := ?_) (by simp only [List.getElem?_toArray, List.getElem?_cons_succ, List.getElem?_cons_zero]; rfl) (by kernel_rfl) (by kernel_rfl) (by kernel_rfl) (fun _ _ _ h => h) (Or.inl ⟨by rfl, ?_⟩) (by assumption) ?_
      rotate_left 1
      · intro w hSw; (try dsimp only at hSw); go_simp; all_goals (with_reducible rfl)
      try simp only [Act.put, List.setIfInBounds_toArray, List.set_cons_zero, List.set_cons_succ]
      refine wpAnyH_done (by kernel_rfl) ?_ _
      refine NoPanic.normal ?_
      clear hHeld
      clear hc hxt hx0 hx1 hx2 hx3 hc0 hc1 hc1t hc2 hc3 hc4 hc5 hq hq0 hxl
      go_wp2_with fail
      go_roundw
      case rel => exact ⟨k + 1, by omega, by go_num, l ++ [(num x, Bk.of c)], b.set (num x) c, by rw [List.length_append, HLEN.out]; rfl, by rw [← adds_snoc']; exact LW.out, HBA.out, by rw [putL_snoc]; exact HNM.out.put (num_lt x) HCN.out⟩
      case measure => (simp [intOf]; try omega)
    · obtain rfl : k = nf := by omega
      clear hlt
      obtain ⟨sF, hsF⟩ : ∃ sF, (adds (DS.new 64) l).settle = sF := ⟨_, rfl⟩
      have hF := flush_0 (s := adds (DS.new 64) l) rfl rfl
      rw [hsF] at hF
      have HSF : Hid (sF.dd = false ∧ sF.lf = 0 ∧ sF.n = 64 ∧ sF.m ≤ 200 ∧ sF.wt = []) := Lib.hid (by rw [← hsF]; exact ⟨rfl, rfl, rfl, by show 0 + l.length ≤ 200; have := HLEN.out; have := HNF2.out; omega, rfl⟩)
      have HNF3 : Hid (Names b sF.fl) := Lib.hid (by rw [← hsF]; exact HNM.out)
      have HFL := Lib.hid hF
      have HM4 : Hid ((adds (DS.new 64) l).m ≤ 1000000000) := Lib.hid (by show 0 + l.length ≤ _; have := HLEN.out; have := HNF2.out; omega)
      clear hF hsF
      go_wp2_with fail
      refine (dFlush HL.out 0 rfl HM4.out HFL.out rfl).mono ?_; rintro e w5 ⟨rfl, hl, hk⟩; have L5 := Lib.hid hl; have HBA := Lib.hid (KeptD.blk hk HBA.out (by decide) (by decide)); clear hl hk
      have hwl : (sF.wt.length : Int) = 0 := by rw [HSF.out.2.2.2.2]; rfl
      go_wp2_with fail
      refine (lWaiting L5.out (i := 0) rfl).mono ?_; rintro e w' ⟨rfl, rfl⟩; rw [hwl]
      clear hwl
      go_upto_region 16 with (first
        | (refine wpLoadT undA rfl _ rfl ra _ rfl HBA.out (rowA _) ?_)
        | (refine wpAllocT zeroA rfl rfl ?_; intro rw0 w6 hn2; have NW := Lib.hid hn2; clear hn2)
        | (refine wpStoreT rfl (.tmp 11) (.tmp 85) rfl rw0 _ _ rfl rfl NW.out.blk (rowA _) (by rw [Ar.size, Ar.size]) (Ar.one _) ?_; intro w7 hb7 hg7; have B7 := Lib.hid hb7; have G7 := Lib.hid hg7; clear hb7 hg7))
      have L6 := Lib.hid (L5.out.mark NW.out.grown NW.out.ge NW.out.blk.lt)
      have L7 := Lib.hid (L6.out.own NW.out.blk (by decide) (by decide) (by simp) G7.out)
      have NEa : Hid (ra ≠ rw0) := Lib.hid (by have := HBA.out.lt; have := NW.out.ge; omega)
      have HBA := Lib.hid ((HBA.out.new NW.out.grown).kept G7.out (by have := NEa.out; simpa using this))
      go_upto_region 17 with (first
        | (refine wpLoadT undA rfl _ rfl ra _ rfl HBA.out (rowA _) ?_)
        | (refine wpAllocT zeroA rfl rfl ?_; intro rl0 w8 hn3; have NL := Lib.hid hn3; clear hn3)
        | (refine wpStoreT rfl (.tmp 12) (.tmp 86) rfl rl0 _ _ rfl rfl NL.out.blk (rowA _) (by rw [Ar.size, Ar.size]) (Ar.one _) ?_; intro w9 hb9 hg9; have B9 := Lib.hid hb9; have G9 := Lib.hid hg9; clear hb9 hg9))
      have L8 := Lib.hid (L7.out.mark NL.out.grown NL.out.ge NL.out.blk.lt)
      have L9 := Lib.hid (L8.out.own NL.out.blk (by decide) (by decide) (by simp) G9.out)
      have NEb : Hid (ra ≠ rl0) := Lib.hid (by have := HBA.out.lt; have := NL.out.ge; omega)
      have NEc : Hid (rw0 ≠ rl0) := Lib.hid (by have := B7.out.lt; have := NL.out.ge; omega)
      have HBA := Lib.hid ((HBA.out.new NL.out.grown).kept G9.out (by have := NEb.out; simpa using this))
      have HBW := Lib.hid ((B7.out.new NL.out.grown).kept G9.out (by have := NEc.out; simpa using this))
      have D0 : Hid (K2 w w9 p ra rw0 rl0 sF b ks 0) := Lib.hid ⟨[], b, b, rfl, by rw [adds_nil]; exact L9.out, HBA.out, HBW.out, B9.out, HNF3.out, HNF3.out⟩
      clear L0 L1 L2 L3 NA C0 HNM HLEN HFL HM4 L6 L7 L8 NW NL G7 G9 B7 B9 HL
      go_wp2_with fail
      go_loopw [13] (fun i wr => ∃ k : Nat, k ≤ nw ∧ i = .int .i64 k ∧ K2 w wr p ra rw0 rl0 sF b ks k) (fun i _ => nw - (intOf i).toNat)
      case atStart => exact ⟨0, Nat.zero_le _, rfl, D0.out⟩
      case round =>
        obtain ⟨k, hk, rfl, hci⟩ := hrel
        obtain ⟨l, bw, bl, hlen, hl, hba, hbw, hbl, hn1, hn2⟩ := hci
        have HL := Lib.hid hl
        have HBA := Lib.hid hba
        have HBW := Lib.hid hbw
        have HBL := Lib.hid hbl
        have HN1 := Lib.hid hn1
        have HN2 := Lib.hid hn2
        have HLEN := Lib.hid hlen
        clear hl hba hbw hbl hn1 hn2 hlen
        by_cases hlt : k < nw
        · have HN2K : Hid (k ≤ 200) := Lib.hid (by have := HNW2.out; omega)
          obtain ⟨x, hx⟩ : ∃ x, ws[k]'(by have := HNW.out; omega) = x := ⟨_, rfl⟩
          obtain ⟨bf, of, rfl, hcell⟩ := Bts.at' HW.out (by have := HNW.out; omega)
          have hc := HL.out.grown.cell (hcell k (by have := HNW.out; omega)) (by simp)
          have HCW := Lib.hid (hcell k (by have := HNW.out; omega))
          rw [hx] at hc HCW
          have htk : ws.take (k + 1) = ws.take k ++ [x] := by rw [List.take_succ_eq_append_getElem (by have := HNW.out; omega), hx]
          have HTK := Lib.hid htk
          have hx0 : (x.toNat : Int) % 64 = (num x : Int) := num_eq x
          have hx1 : 0 ≤ (x.toNat : Int) := by omega
          have hxt : (x.toNat : Int).tmod 64 = (num x : Int) := by rw [Int.tmod_eq_emod_of_nonneg hx1]; exact hx0
          have hx2 : (x.toNat : Int) ≤ 255 := by have := x.toNat_lt; omega
          have hx3 := num_wrap x
          have HX : Hid (-9223372036854775808 ≤ (num x : Int) ∧ (num x : Int) ≤ 9223372036854775807) := Lib.hid (by have := num_lt x; omega)
          clear hcell hx htk
          obtain ⟨q, hq⟩ : ∃ q, k % 100 = q := ⟨_, rfl⟩
          have hq0 : q < 100 := by omega
          have hc0 : IntKind.u8.wrap (k : Int) = (k : Int) := IntWalk.u8_in _ (by have := HN2K.out; omega)
          have hc1 : (k : Int) % 100 = (q : Int) := by omega
          have hc1t : (k : Int).tmod 100 = (q : Int) := by rw [Int.tmod_eq_emod_of_nonneg (by omega)]; omega
          obtain ⟨c, hcc⟩ : ∃ c, UInt8.ofNat (q + 101) = c := ⟨_, rfl⟩
          have hc2 : (q : Int) + 101 = (c.toNat : Int) := by rw [← hcc, ofNat_toNat (by omega)]; omega
          have hc3 : IntKind.u8.wrap (c.toNat : Int) = (c.toNat : Int) := IntWalk.u8_in _ (by have := c.toNat_lt; omega)
          have hcn : c ≠ 0 := by rw [← hcc]; exact ofNat_ne (by omega) (by omega)
          have HCN := Lib.hid hcn
          have hc4 : 0 ≤ (c.toNat : Int) := by omega
          have hc5 : (c.toNat : Int) ≤ 255 := by have := c.toNat_lt; omega
          clear hcc hcn
          have HBK := Lib.hid (fun w => block_any c w)
          have hxl : (num x : Int) < 64 := by have := num_lt x; omega
          clear HTK
          by_cases hkk : k < nk
          · rcases hkb : ks.getD k false with _ | _
            · obtain ⟨bk0, ok, rfl, hkc⟩ := Bls.cells HK.out (by have := HNK.out; omega)
              have hck0 := hkc k (by have := HNK.out; omega)
              rw [hkb] at hck0
              have HKB := Lib.hid hkb
              have hdk : (k : Int) < (nk : Int) := by omega
              have HCK := Lib.hid hck0
              have hck := HL.out.grown.cell hck0 (by simp)
              clear hkc hck0 hkb
              go_upto_region 21 with fail
              go_upto_region 23 with fail
              have k0l := HBL.out.cell (i := num x) (bl.get (num x) (num_lt x))
              have f0l := HBL.out.frozen (num x)
              go_upto_region 24 with fail
              have hb2 := HBL.out.set (num x) (.int .u8 (c.toNat : Int))
              rw [Ar.put] at hb2
              have hg2 := HBL.out.setG (num x) (.int .u8 (c.toNat : Int))
              have HL3 := Lib.hid (HL.out.own HBL.out (by decide) (by decide) (by simp) hg2)
              have HBA := Lib.hid (HBA.out.kept hg2 (by have := NEb.out; simp; omega))
              have HBW := Lib.hid (HBW.out.kept hg2 (by have := NEc.out; simp; omega))
              have HBL := Lib.hid hb2
              clear hb2 hg2 k0l f0l
              generalize World.setCell _ _ _ = wt2 at *
              have hc := HL3.out.grown.cell HCW.out (by simp)
              have HL := HL3
              clear hck
              have hdr : wt2.grownBy wt2.drew none := ⟨rfl, rfl, rfl, Nat.le_refl _, fun _ _ _ => rfl⟩
              have LR := Lib.hid (HL.out.new hdr)
              have HBA := Lib.hid (HBA.out.new hdr)
              have HBW := Lib.hid (HBW.out.new hdr)
              have HBL := Lib.hid (HBL.out.new hdr)
              clear hdr
              refine wp_region_noPanic ?_
              refine wp_region_held_drew (S := fun w' => w'.cell? ⟨bf, of + k, none⟩ = some (.int .u8 (x.toNat : Int))) (by kernel_rfl) ((by simpa using hc)) (fun hHeld => ?_)
              generalize wt2.drew = wd at *
              refine wpAnyH_take (i := 0) (v := ?_) (by simp only [List.getElem?_toArray, List.getElem?_cons_zero]; rfl) (by kernel_rfl) (by kernel_rfl) (by kernel_rfl) (fun _ _ _ h => h) (Or.inl ⟨by rfl, ?_⟩) (by assumption) ?_
              rotate_left 1
              · intro w hSw; (try dsimp only at hSw); go_simp; all_goals (with_reducible rfl)
              try simp only [Act.put, List.setIfInBounds_toArray, List.set_cons_zero, List.set_cons_succ]
              refine wpAnyH_take (i := 1) (v := ?_) (by simp only [List.getElem?_toArray, List.getElem?_cons_succ, List.getElem?_cons_zero]; rfl) (by kernel_rfl) (by kernel_rfl) (by kernel_rfl) (fun _ _ _ h => h) (Or.inl ⟨by rfl, ?_⟩) (by assumption) ?_
              rotate_left 1
              · intro w hSw; (try dsimp only at hSw); go_simp; all_goals (with_reducible rfl)
              try simp only [Act.put, List.setIfInBounds_toArray, List.set_cons_zero, List.set_cons_succ]
              refine wpAnyH_take (i := 2) (v := ?_) (by simp only [List.getElem?_toArray, List.getElem?_cons_succ, List.getElem?_cons_zero]; rfl) (by kernel_rfl) (by kernel_rfl) (by kernel_rfl) (fun _ _ _ h => h) (Or.inl ⟨by rfl, ?_⟩) (by assumption) ?_
              rotate_left 1
              · intro w hSw; (try dsimp only at hSw); go_simp; all_goals (with_reducible rfl)
              try simp only [Act.put, List.setIfInBounds_toArray, List.set_cons_zero, List.set_cons_succ]
              refine wpAnyH_take (i := 3) (v := ?_) (by simp only [List.getElem?_toArray, List.getElem?_cons_succ, List.getElem?_cons_zero]; rfl) (by kernel_rfl) (by kernel_rfl) (by kernel_rfl) (fun _ _ _ h => h) (Or.inl ⟨by rfl, ?_⟩) (by assumption) ?_
              rotate_left 1
              · intro w hSw; (try dsimp only at hSw); go_simp; all_goals (with_reducible rfl)
              try simp only [Act.put, List.setIfInBounds_toArray, List.set_cons_zero, List.set_cons_succ]
              refine wpAnyH_take (i := 4) (v := ?_) (by simp only [List.getElem?_toArray, List.getElem?_cons_succ, List.getElem?_cons_zero]; rfl) (by kernel_rfl) (by kernel_rfl) (by kernel_rfl) (fun _ _ _ h => h) (Or.inl ⟨by rfl, ?_⟩) (by assumption) ?_
              rotate_left 1
              · intro w hSw; (try dsimp only at hSw); go_simp; all_goals (with_reducible rfl)
              try simp only [Act.put, List.setIfInBounds_toArray, List.set_cons_zero, List.set_cons_succ]
              refine wpAnyH_take (i := 5) (v := ?_) (by simp only [List.getElem?_toArray, List.getElem?_cons_succ, List.getElem?_cons_zero]; rfl) (by kernel_rfl) (by kernel_rfl) (by kernel_rfl) (fun _ _ _ h => h) (Or.inl ⟨by rfl, ?_⟩) (by assumption) ?_
              rotate_left 1
              · intro w hSw; (try dsimp only at hSw); go_simp; all_goals (with_reducible rfl)
              try simp only [Act.put, List.setIfInBounds_toArray, List.set_cons_zero, List.set_cons_succ]
              refine wpAnyH_take (i := 6) (v := ?_) (by simp only [List.getElem?_toArray, List.getElem?_cons_succ, List.getElem?_cons_zero]; rfl) (by kernel_rfl) (by kernel_rfl) (by kernel_rfl) (fun _ _ _ h => h) (Or.inl ⟨by rfl, ?_⟩) (by assumption) ?_
              rotate_left 1
              · intro w hSw; (try dsimp only at hSw); go_simp; all_goals (with_reducible rfl)
              try simp only [Act.put, List.setIfInBounds_toArray, List.set_cons_zero, List.set_cons_succ]
              refine wpAnyH_take (i := 7) (v := ?_) (by simp only [List.getElem?_toArray, List.getElem?_cons_succ, List.getElem?_cons_zero]; rfl) (by kernel_rfl) (by kernel_rfl) (by kernel_rfl) (fun _ _ _ h => h) (Or.inl ⟨by rfl, ?_⟩) (by assumption) ?_
              rotate_left 1
              · intro w hSw; (try dsimp only at hSw); go_simp; all_goals (with_reducible rfl)
              try simp only [Act.put, List.setIfInBounds_toArray, List.set_cons_zero, List.set_cons_succ]
              refine wpAnyH_ready (rs := [8]) (by kernel_rfl) (by simp) ?_
              refine AllReadyH.cons (by simp only [List.getElem?_toArray, List.getElem?_cons_succ, List.getElem?_cons_zero]; rfl) (fun K hK => ?_) AllReadyH.nil
              go_simp
              refine (HBK.out _).mono ?_; rintro e v1 ⟨rfl, hg⟩
              have LB := Lib.hid (LR.out.new hg)
              have HBA := Lib.hid (HBA.out.new hg)
              have HBW := Lib.hid (HBW.out.new hg)
              have HBL := Lib.hid (HBL.out.new hg)
              clear hg
              go_wp2_with fail
              refine hK.out _ _ (LB.out.grown.cell HCW.out (by simp)) (fun hHeld => ?_)
              clear hK K
              try simp only [Act.put, List.setIfInBounds_toArray, List.set_cons_zero, List.set_cons_succ]
              refine wpAnyH_ready (rs := [9]) (by kernel_rfl) (by simp) ?_
              refine AllReadyH.cons (by simp only [List.getElem?_toArray, List.getElem?_cons_succ, List.getElem?_cons_zero]; rfl) (fun K hK => ?_) AllReadyH.nil
              go_simp
              refine (dWrite LB.out 0 rfl (by show sF.m + l.length ≤ _; have := HLEN.out; have := HN2K.out; have := HSF.out; omega) (num x) HX.out _ (adds_write HSF.out.1 HSF.out.2.1 (Nat.le_of_eq HSF.out.2.2.1.symm) _ x _) rfl).mono ?_; rintro e v2 ⟨rfl, hl, hk⟩
              have LW := Lib.hid hl
              have HBA := Lib.hid (KeptD.blk hk HBA.out (by decide) (by decide))
              have HBW := Lib.hid (KeptD.blk hk HBW.out (by decide) (by decide))
              have HBL := Lib.hid (KeptD.blk hk HBL.out (by decide) (by decide))
              clear hl hk
              go_wp2_with fail
              refine hK.out _ _ (LW.out.grown.cell HCW.out (by simp)) (fun hHeld => ?_)
              clear hK K
              try simp only [Act.put, List.setIfInBounds_toArray, List.set_cons_zero, List.set_cons_succ]
              refine wpAnyH_take (i := 10) (v := ?_) (by simp only [List.getElem?_toArray, List.getElem?_cons_succ, List.getElem?_cons_zero]; rfl) (by kernel_rfl) (by kernel_rfl) (by kernel_rfl) (fun _ _ _ h => h) (Or.inl ⟨by rfl, ?_⟩) (by assumption) ?_
              rotate_left 1
              · intro w hSw; (try dsimp only at hSw); go_simp; all_goals (with_reducible rfl)
              try simp only [Act.put, List.setIfInBounds_toArray, List.set_cons_zero, List.set_cons_succ]
              refine wpAnyH_done (by kernel_rfl) ?_ _
              refine NoPanic.normal ?_
              clear hHeld
              clear hc hxt hx0 hx1 hx2 hx3 hc0 hc1 hc1t hc2 hc3 hc4 hc5 hq hq0 hxl hdk
              go_wp2_with fail
              go_roundw
              case rel => exact ⟨k + 1, by omega, by go_num, l ++ [(num x, Bk.of c)], bw, bl.set (num x) c, by rw [List.length_append, HLEN.out]; rfl, by rw [← adds_snoc']; exact LW.out, HBA.out, HBW.out, HBL.out, by rw [kept_snoc, HLEN.out, HKB.out, if_neg (by simp)]; exact HN1.out, by rw [putL_snoc]; exact HN2.out.put (num_lt x) HCN.out⟩
              case measure => (simp [intOf]; try omega)
            · obtain ⟨bk0, ok, rfl, hkc⟩ := Bls.cells HK.out (by have := HNK.out; omega)
              have hck0 := hkc k (by have := HNK.out; omega)
              rw [hkb] at hck0
              have HKB := Lib.hid hkb
              have hdk : (k : Int) < (nk : Int) := by omega
              have HCK := Lib.hid hck0
              have hck := HL.out.grown.cell hck0 (by simp)
              clear hkc hck0 hkb
              go_upto_region 21 with fail
              have k0w := HBW.out.cell (i := num x) (bw.get (num x) (num_lt x))
              have f0w := HBW.out.frozen (num x)
              go_upto_region 23 with fail
              have hb2 := HBW.out.set (num x) (.int .u8 (c.toNat : Int))
              rw [Ar.put] at hb2
              have hg2 := HBW.out.setG (num x) (.int .u8 (c.toNat : Int))
              have HL2 := Lib.hid (HL.out.own HBW.out (by decide) (by decide) (by simp) hg2)
              have HBA := Lib.hid (HBA.out.kept hg2 (by have := NEa.out; simp; omega))
              have HBL := Lib.hid (HBL.out.kept hg2 (by have := NEc.out; simp; omega))
              have HBW := Lib.hid hb2
              clear hb2 hg2 k0w f0w
              generalize World.setCell _ _ _ = wt1 at *
              have HL := HL2
              have hc := HL.out.grown.cell HCW.out (by simp)
              have k0l := HBL.out.cell (i := num x) (bl.get (num x) (num_lt x))
              have f0l := HBL.out.frozen (num x)
              go_upto_region 24 with fail
              have hb2 := HBL.out.set (num x) (.int .u8 (c.toNat : Int))
              rw [Ar.put] at hb2
              have hg2 := HBL.out.setG (num x) (.int .u8 (c.toNat : Int))
              have HL3 := Lib.hid (HL.out.own HBL.out (by decide) (by decide) (by simp) hg2)
              have HBA := Lib.hid (HBA.out.kept hg2 (by have := NEb.out; simp; omega))
              have HBW := Lib.hid (HBW.out.kept hg2 (by have := NEc.out; simp; omega))
              have HBL := Lib.hid hb2
              clear hb2 hg2 k0l f0l
              generalize World.setCell _ _ _ = wt2 at *
              have hc := HL3.out.grown.cell HCW.out (by simp)
              have HL := HL3
              clear hck
              have hdr : wt2.grownBy wt2.drew none := ⟨rfl, rfl, rfl, Nat.le_refl _, fun _ _ _ => rfl⟩
              have LR := Lib.hid (HL.out.new hdr)
              have HBA := Lib.hid (HBA.out.new hdr)
              have HBW := Lib.hid (HBW.out.new hdr)
              have HBL := Lib.hid (HBL.out.new hdr)
              clear hdr
              refine wp_region_noPanic ?_
              refine wp_region_held_drew (S := fun w' => w'.cell? ⟨bf, of + k, none⟩ = some (.int .u8 (x.toNat : Int))) (by kernel_rfl) ((by simpa using hc)) (fun hHeld => ?_)
              generalize wt2.drew = wd at *
              refine wpAnyH_take (i := 0) (v := ?_) (by simp only [List.getElem?_toArray, List.getElem?_cons_zero]; rfl) (by kernel_rfl) (by kernel_rfl) (by kernel_rfl) (fun _ _ _ h => h) (Or.inl ⟨by rfl, ?_⟩) (by assumption) ?_
              rotate_left 1
              · intro w hSw; (try dsimp only at hSw); go_simp; all_goals (with_reducible rfl)
              try simp only [Act.put, List.setIfInBounds_toArray, List.set_cons_zero, List.set_cons_succ]
              refine wpAnyH_take (i := 1) (v := ?_) (by simp only [List.getElem?_toArray, List.getElem?_cons_succ, List.getElem?_cons_zero]; rfl) (by kernel_rfl) (by kernel_rfl) (by kernel_rfl) (fun _ _ _ h => h) (Or.inl ⟨by rfl, ?_⟩) (by assumption) ?_
              rotate_left 1
              · intro w hSw; (try dsimp only at hSw); go_simp; all_goals (with_reducible rfl)
              try simp only [Act.put, List.setIfInBounds_toArray, List.set_cons_zero, List.set_cons_succ]
              refine wpAnyH_take (i := 2) (v := ?_) (by simp only [List.getElem?_toArray, List.getElem?_cons_succ, List.getElem?_cons_zero]; rfl) (by kernel_rfl) (by kernel_rfl) (by kernel_rfl) (fun _ _ _ h => h) (Or.inl ⟨by rfl, ?_⟩) (by assumption) ?_
              rotate_left 1
              · intro w hSw; (try dsimp only at hSw); go_simp; all_goals (with_reducible rfl)
              try simp only [Act.put, List.setIfInBounds_toArray, List.set_cons_zero, List.set_cons_succ]
              refine wpAnyH_take (i := 3) (v := ?_) (by simp only [List.getElem?_toArray, List.getElem?_cons_succ, List.getElem?_cons_zero]; rfl) (by kernel_rfl) (by kernel_rfl) (by kernel_rfl) (fun _ _ _ h => h) (Or.inl ⟨by rfl, ?_⟩) (by assumption) ?_
              rotate_left 1
              · intro w hSw; (try dsimp only at hSw); go_simp; all_goals (with_reducible rfl)
              try simp only [Act.put, List.setIfInBounds_toArray, List.set_cons_zero, List.set_cons_succ]
              refine wpAnyH_take (i := 4) (v := ?_) (by simp only [List.getElem?_toArray, List.getElem?_cons_succ, List.getElem?_cons_zero]; rfl) (by kernel_rfl) (by kernel_rfl) (by kernel_rfl) (fun _ _ _ h => h) (Or.inl ⟨by rfl, ?_⟩) (by assumption) ?_
              rotate_left 1
              · intro w hSw; (try dsimp only at hSw); go_simp; all_goals (with_reducible rfl)
              try simp only [Act.put, List.setIfInBounds_toArray, List.set_cons_zero, List.set_cons_succ]
              refine wpAnyH_take (i := 5) (v := ?_) (by simp only [List.getElem?_toArray, List.getElem?_cons_succ, List.getElem?_cons_zero]; rfl) (by kernel_rfl) (by kernel_rfl) (by kernel_rfl) (fun _ _ _ h => h) (Or.inl ⟨by rfl, ?_⟩) (by assumption) ?_
              rotate_left 1
              · intro w hSw; (try dsimp only at hSw); go_simp; all_goals (with_reducible rfl)
              try simp only [Act.put, List.setIfInBounds_toArray, List.set_cons_zero, List.set_cons_succ]
              refine wpAnyH_take (i := 6) (v := ?_) (by simp only [List.getElem?_toArray, List.getElem?_cons_succ, List.getElem?_cons_zero]; rfl) (by kernel_rfl) (by kernel_rfl) (by kernel_rfl) (fun _ _ _ h => h) (Or.inl ⟨by rfl, ?_⟩) (by assumption) ?_
              rotate_left 1
              · intro w hSw; (try dsimp only at hSw); go_simp; all_goals (with_reducible rfl)
              try simp only [Act.put, List.setIfInBounds_toArray, List.set_cons_zero, List.set_cons_succ]
              refine wpAnyH_take (i := 7) (v := ?_) (by simp only [List.getElem?_toArray, List.getElem?_cons_succ, List.getElem?_cons_zero]; rfl) (by kernel_rfl) (by kernel_rfl) (by kernel_rfl) (fun _ _ _ h => h) (Or.inl ⟨by rfl, ?_⟩) (by assumption) ?_
              rotate_left 1
              · intro w hSw; (try dsimp only at hSw); go_simp; all_goals (with_reducible rfl)
              try simp only [Act.put, List.setIfInBounds_toArray, List.set_cons_zero, List.set_cons_succ]
              refine wpAnyH_ready (rs := [8]) (by kernel_rfl) (by simp) ?_
              refine AllReadyH.cons (by simp only [List.getElem?_toArray, List.getElem?_cons_succ, List.getElem?_cons_zero]; rfl) (fun K hK => ?_) AllReadyH.nil
              go_simp
              refine (HBK.out _).mono ?_; rintro e v1 ⟨rfl, hg⟩
              have LB := Lib.hid (LR.out.new hg)
              have HBA := Lib.hid (HBA.out.new hg)
              have HBW := Lib.hid (HBW.out.new hg)
              have HBL := Lib.hid (HBL.out.new hg)
              clear hg
              go_wp2_with fail
              refine hK.out _ _ (LB.out.grown.cell HCW.out (by simp)) (fun hHeld => ?_)
              clear hK K
              try simp only [Act.put, List.setIfInBounds_toArray, List.set_cons_zero, List.set_cons_succ]
              refine wpAnyH_ready (rs := [9]) (by kernel_rfl) (by simp) ?_
              refine AllReadyH.cons (by simp only [List.getElem?_toArray, List.getElem?_cons_succ, List.getElem?_cons_zero]; rfl) (fun K hK => ?_) AllReadyH.nil
              go_simp
              refine (dWrite LB.out 0 rfl (by show sF.m + l.length ≤ _; have := HLEN.out; have := HN2K.out; have := HSF.out; omega) (num x) HX.out _ (adds_write HSF.out.1 HSF.out.2.1 (Nat.le_of_eq HSF.out.2.2.1.symm) _ x _) rfl).mono ?_; rintro e v2 ⟨rfl, hl, hk⟩
              have LW := Lib.hid hl
              have HBA := Lib.hid (KeptD.blk hk HBA.out (by decide) (by decide))
              have HBW := Lib.hid (KeptD.blk hk HBW.out (by decide) (by decide))
              have HBL := Lib.hid (KeptD.blk hk HBL.out (by decide) (by decide))
              clear hl hk
              go_wp2_with fail
              refine hK.out _ _ (LW.out.grown.cell HCW.out (by simp)) (fun hHeld => ?_)
              clear hK K
              try simp only [Act.put, List.setIfInBounds_toArray, List.set_cons_zero, List.set_cons_succ]
              refine wpAnyH_take (i := 10) (v := ?_) (by simp only [List.getElem?_toArray, List.getElem?_cons_succ, List.getElem?_cons_zero]; rfl) (by kernel_rfl) (by kernel_rfl) (by kernel_rfl) (fun _ _ _ h => h) (Or.inl ⟨by rfl, ?_⟩) (by assumption) ?_
              rotate_left 1
              · intro w hSw; (try dsimp only at hSw); go_simp; all_goals (with_reducible rfl)
              try simp only [Act.put, List.setIfInBounds_toArray, List.set_cons_zero, List.set_cons_succ]
              refine wpAnyH_done (by kernel_rfl) ?_ _
              refine NoPanic.normal ?_
              clear hHeld
              clear hc hxt hx0 hx1 hx2 hx3 hc0 hc1 hc1t hc2 hc3 hc4 hc5 hq hq0 hxl hdk
              go_wp2_with fail
              go_roundw
              case rel => exact ⟨k + 1, by omega, by go_num, l ++ [(num x, Bk.of c)], bw.set (num x) c, bl.set (num x) c, by rw [List.length_append, HLEN.out]; rfl, by rw [← adds_snoc']; exact LW.out, HBA.out, HBW.out, HBL.out, by rw [kept_snoc, HLEN.out, HKB.out, if_pos rfl, putL_snoc]; exact HN1.out.put (num_lt x) HCN.out, by rw [putL_snoc]; exact HN2.out.put (num_lt x) HCN.out⟩
              case measure => (simp [intOf]; try omega)
          · have hdk : decide ((k : Int) < (nk : Int)) = false := by simp; omega
            have hge : (nk : Int) ≤ (k : Int) := by omega
            have HKB : Hid (ks.getD k false = false) := Lib.hid (by rw [List.getD_eq_getElem?_getD, List.getElem?_eq_none (by have := HNK.out; omega)]; rfl)
            go_upto_region 21 with fail
            go_upto_region 23 with fail
            have k0l := HBL.out.cell (i := num x) (bl.get (num x) (num_lt x))
            have f0l := HBL.out.frozen (num x)
            go_upto_region 24 with fail
            have hb2 := HBL.out.set (num x) (.int .u8 (c.toNat : Int))
            rw [Ar.put] at hb2
            have hg2 := HBL.out.setG (num x) (.int .u8 (c.toNat : Int))
            have HL3 := Lib.hid (HL.out.own HBL.out (by decide) (by decide) (by simp) hg2)
            have HBA := Lib.hid (HBA.out.kept hg2 (by have := NEb.out; simp; omega))
            have HBW := Lib.hid (HBW.out.kept hg2 (by have := NEc.out; simp; omega))
            have HBL := Lib.hid hb2
            clear hb2 hg2 k0l f0l
            generalize World.setCell _ _ _ = wt2 at *
            have hc := HL3.out.grown.cell HCW.out (by simp)
            have HL := HL3
            have hdr : wt2.grownBy wt2.drew none := ⟨rfl, rfl, rfl, Nat.le_refl _, fun _ _ _ => rfl⟩
            have LR := Lib.hid (HL.out.new hdr)
            have HBA := Lib.hid (HBA.out.new hdr)
            have HBW := Lib.hid (HBW.out.new hdr)
            have HBL := Lib.hid (HBL.out.new hdr)
            clear hdr
            refine wp_region_noPanic ?_
            refine wp_region_held_drew (S := fun w' => w'.cell? ⟨bf, of + k, none⟩ = some (.int .u8 (x.toNat : Int))) (by kernel_rfl) ((by simpa using hc)) (fun hHeld => ?_)
            generalize wt2.drew = wd at *
            refine wpAnyH_take (i := 0) (v := ?_) (by simp only [List.getElem?_toArray, List.getElem?_cons_zero]; rfl) (by kernel_rfl) (by kernel_rfl) (by kernel_rfl) (fun _ _ _ h => h) (Or.inl ⟨by rfl, ?_⟩) (by assumption) ?_
            rotate_left 1
            · intro w hSw; (try dsimp only at hSw); go_simp; all_goals (with_reducible rfl)
            try simp only [Act.put, List.setIfInBounds_toArray, List.set_cons_zero, List.set_cons_succ]
            refine wpAnyH_take (i := 1) (v := ?_) (by simp only [List.getElem?_toArray, List.getElem?_cons_succ, List.getElem?_cons_zero]; rfl) (by kernel_rfl) (by kernel_rfl) (by kernel_rfl) (fun _ _ _ h => h) (Or.inl ⟨by rfl, ?_⟩) (by assumption) ?_
            rotate_left 1
            · intro w hSw; (try dsimp only at hSw); go_simp; all_goals (with_reducible rfl)
            try simp only [Act.put, List.setIfInBounds_toArray, List.set_cons_zero, List.set_cons_succ]
            refine wpAnyH_take (i := 2) (v := ?_) (by simp only [List.getElem?_toArray, List.getElem?_cons_succ, List.getElem?_cons_zero]; rfl) (by kernel_rfl) (by kernel_rfl) (by kernel_rfl) (fun _ _ _ h => h) (Or.inl ⟨by rfl, ?_⟩) (by assumption) ?_
            rotate_left 1
            · intro w hSw; (try dsimp only at hSw); go_simp; all_goals (with_reducible rfl)
            try simp only [Act.put, List.setIfInBounds_toArray, List.set_cons_zero, List.set_cons_succ]
            refine wpAnyH_take (i := 3) (v := ?_) (by simp only [List.getElem?_toArray, List.getElem?_cons_succ, List.getElem?_cons_zero]; rfl) (by kernel_rfl) (by kernel_rfl) (by kernel_rfl) (fun _ _ _ h => h) (Or.inl ⟨by rfl, ?_⟩) (by assumption) ?_
            rotate_left 1
            · intro w hSw; (try dsimp only at hSw); go_simp; all_goals (with_reducible rfl)
            try simp only [Act.put, List.setIfInBounds_toArray, List.set_cons_zero, List.set_cons_succ]
            refine wpAnyH_take (i := 4) (v := ?_) (by simp only [List.getElem?_toArray, List.getElem?_cons_succ, List.getElem?_cons_zero]; rfl) (by kernel_rfl) (by kernel_rfl) (by kernel_rfl) (fun _ _ _ h => h) (Or.inl ⟨by rfl, ?_⟩) (by assumption) ?_
            rotate_left 1
            · intro w hSw; (try dsimp only at hSw); go_simp; all_goals (with_reducible rfl)
            try simp only [Act.put, List.setIfInBounds_toArray, List.set_cons_zero, List.set_cons_succ]
            refine wpAnyH_take (i := 5) (v := ?_) (by simp only [List.getElem?_toArray, List.getElem?_cons_succ, List.getElem?_cons_zero]; rfl) (by kernel_rfl) (by kernel_rfl) (by kernel_rfl) (fun _ _ _ h => h) (Or.inl ⟨by rfl, ?_⟩) (by assumption) ?_
            rotate_left 1
            · intro w hSw; (try dsimp only at hSw); go_simp; all_goals (with_reducible rfl)
            try simp only [Act.put, List.setIfInBounds_toArray, List.set_cons_zero, List.set_cons_succ]
            refine wpAnyH_take (i := 6) (v := ?_) (by simp only [List.getElem?_toArray, List.getElem?_cons_succ, List.getElem?_cons_zero]; rfl) (by kernel_rfl) (by kernel_rfl) (by kernel_rfl) (fun _ _ _ h => h) (Or.inl ⟨by rfl, ?_⟩) (by assumption) ?_
            rotate_left 1
            · intro w hSw; (try dsimp only at hSw); go_simp; all_goals (with_reducible rfl)
            try simp only [Act.put, List.setIfInBounds_toArray, List.set_cons_zero, List.set_cons_succ]
            refine wpAnyH_take (i := 7) (v := ?_) (by simp only [List.getElem?_toArray, List.getElem?_cons_succ, List.getElem?_cons_zero]; rfl) (by kernel_rfl) (by kernel_rfl) (by kernel_rfl) (fun _ _ _ h => h) (Or.inl ⟨by rfl, ?_⟩) (by assumption) ?_
            rotate_left 1
            · intro w hSw; (try dsimp only at hSw); go_simp; all_goals (with_reducible rfl)
            try simp only [Act.put, List.setIfInBounds_toArray, List.set_cons_zero, List.set_cons_succ]
            refine wpAnyH_ready (rs := [8]) (by kernel_rfl) (by simp) ?_
            refine AllReadyH.cons (by simp only [List.getElem?_toArray, List.getElem?_cons_succ, List.getElem?_cons_zero]; rfl) (fun K hK => ?_) AllReadyH.nil
            go_simp
            refine (HBK.out _).mono ?_; rintro e v1 ⟨rfl, hg⟩
            have LB := Lib.hid (LR.out.new hg)
            have HBA := Lib.hid (HBA.out.new hg)
            have HBW := Lib.hid (HBW.out.new hg)
            have HBL := Lib.hid (HBL.out.new hg)
            clear hg
            go_wp2_with fail
            refine hK.out _ _ (LB.out.grown.cell HCW.out (by simp)) (fun hHeld => ?_)
            clear hK K
            try simp only [Act.put, List.setIfInBounds_toArray, List.set_cons_zero, List.set_cons_succ]
            refine wpAnyH_ready (rs := [9]) (by kernel_rfl) (by simp) ?_
            refine AllReadyH.cons (by simp only [List.getElem?_toArray, List.getElem?_cons_succ, List.getElem?_cons_zero]; rfl) (fun K hK => ?_) AllReadyH.nil
            go_simp
            refine (dWrite LB.out 0 rfl (by show sF.m + l.length ≤ _; have := HLEN.out; have := HN2K.out; have := HSF.out; omega) (num x) HX.out _ (adds_write HSF.out.1 HSF.out.2.1 (Nat.le_of_eq HSF.out.2.2.1.symm) _ x _) rfl).mono ?_; rintro e v2 ⟨rfl, hl, hk⟩
            have LW := Lib.hid hl
            have HBA := Lib.hid (KeptD.blk hk HBA.out (by decide) (by decide))
            have HBW := Lib.hid (KeptD.blk hk HBW.out (by decide) (by decide))
            have HBL := Lib.hid (KeptD.blk hk HBL.out (by decide) (by decide))
            clear hl hk
            go_wp2_with fail
            refine hK.out _ _ (LW.out.grown.cell HCW.out (by simp)) (fun hHeld => ?_)
            clear hK K
            try simp only [Act.put, List.setIfInBounds_toArray, List.set_cons_zero, List.set_cons_succ]
            refine wpAnyH_take (i := 10) (v := ?_) (by simp only [List.getElem?_toArray, List.getElem?_cons_succ, List.getElem?_cons_zero]; rfl) (by kernel_rfl) (by kernel_rfl) (by kernel_rfl) (fun _ _ _ h => h) (Or.inl ⟨by rfl, ?_⟩) (by assumption) ?_
            rotate_left 1
            · intro w hSw; (try dsimp only at hSw); go_simp; all_goals (with_reducible rfl)
            try simp only [Act.put, List.setIfInBounds_toArray, List.set_cons_zero, List.set_cons_succ]
            refine wpAnyH_done (by kernel_rfl) ?_ _
            refine NoPanic.normal ?_
            clear hHeld
            clear hc hxt hx0 hx1 hx2 hx3 hc0 hc1 hc1t hc2 hc3 hc4 hc5 hq hq0 hxl hdk
            go_wp2_with fail
            go_roundw
            case rel => exact ⟨k + 1, by omega, by go_num, l ++ [(num x, Bk.of c)], bw, bl.set (num x) c, by rw [List.length_append, HLEN.out]; rfl, by rw [← adds_snoc']; exact LW.out, HBA.out, HBW.out, HBL.out, by rw [kept_snoc, HLEN.out, HKB.out, if_neg (by simp)]; exact HN1.out, by rw [putL_snoc]; exact HN2.out.put (num_lt x) HCN.out⟩
            case measure => (simp [intOf]; try omega)
        · obtain rfl : k = nw := by omega
          clear hlt
          obtain ⟨sW, hsW⟩ : ∃ sW, adds sF l = sW := ⟨_, rfl⟩
          have L9 := HL.out
          rw [hsW] at L9
          have hd : sW.dd = false := by rw [← hsW]; exact HSF.out.1
          have hlf : sW.lf = 0 := by rw [← hsW]; exact HSF.out.2.1
          have hn : sW.n = 64 := by rw [← hsW]; exact HSF.out.2.2.1
          have hm : sW.m ≤ 100000 := by rw [← hsW]; show sF.m + l.length ≤ _; have := HSF.out; have := HNW2.out; have := HLEN.out; omega
          have hwt : sW.wt = l := by rw [← hsW]; show sF.wt ++ l = l; rw [HSF.out.2.2.2.2]; rfl
          have hfl : sW.fl = sF.fl := by rw [← hsW]; rfl
          have HWS := Lib.hid (And.intro hd (And.intro hlf (And.intro hn hm)))
          have HWT := Lib.hid hwt
          have HFLS := Lib.hid hfl
          have HL9 := Lib.hid L9
          have FA := Lib.hid (DS.fail_live hd ks)
          have FB := Lib.hid (DS.fail_live hd [])
          have FC := Lib.hid (DS.fail_live hd (yes k k))
          clear L9 hsW hd hlf hn hm hwt hfl HL
          obtain ⟨wz, hwz⟩ : ∃ wz, wr = wz := ⟨_, rfl⟩
          have hmk := make_bools k (by have := HNW2.out; omega) wr
          have HO := Lib.hid (Blk.made wr 4 ((List.replicate k false).map Value.bool).toArray)
          have hgm := World.grownBy_alloc wr (.cells ((List.replicate k false).map Value.bool).toArray 4) none
          have HLO := Lib.hid (HL9.out.mark hgm (Nat.le_refl _) (by simp))
          have HBA := Lib.hid (HBA.out.new hgm)
          have HBW := Lib.hid (HBW.out.new hgm)
          have HBL := Lib.hid (HBL.out.new hgm)
          clear hgm hwz
          rw [← yes_zero] at hmk HO HLO HBA HBW HBL
          generalize hr : wr.heap.size = r at *
          clear hr
          generalize wr.alloc (.cells ((yes k 0).map Value.bool).toArray 4) = w7 at *
          go_wp2_with fail
          clear hmk
          have zk3 : (k : Int) ≤ 200 := by have := HNW2.out; omega
          have HZK3 := Lib.hid zk3
          go_loopw [16] (fun i wr => ∃ j : Nat, j ≤ k ∧ i = .int .i64 j ∧ Law w wr [r, rl0, rw0, ra] [(p, sW)] ∧ Blk wr r 4 ((yes k j).map Value.bool).toArray ∧ Blk wr ra 53 b.v ∧ Blk wr rw0 53 bw.v ∧ Blk wr rl0 53 bl.v) (fun i _ => k - (intOf i).toNat)
          case atStart => exact ⟨0, Nat.zero_le _, rfl, HLO.out, HO.out, HBA.out, HBW.out, HBL.out⟩
          case round =>
            obtain ⟨j, hj, rfl, hl, hbo, hba, hbw, hbl⟩ := hrel
            have HL := Lib.hid hl
            have HBO := Lib.hid hbo
            have HBA := Lib.hid hba
            have HBW := Lib.hid hbw
            have HBL := Lib.hid hbl
            clear hl hbo hba hbw hbl
            by_cases hlt : j < k
            · have k0 := HBO.out.cell (i := j) (x := .bool false) (yes_at (by omega))
              have f0 := HBO.out.frozen j
              have hb2 := HBO.out.set j (.bool true)
              rw [yes_set (by omega)] at hb2
              have hg2 := HBO.out.setG j (.bool true)
              have LO := Lib.hid (HL.out.own HBO.out (by decide) (by decide) (by simp) hg2)
              have HBA := Lib.hid (HBA.out.kept hg2 (by have := Blk.ne HBA.out HBO.out (by decide); simpa using this))
              have HBW := Lib.hid (HBW.out.kept hg2 (by have := Blk.ne HBW.out HBO.out (by decide); simpa using this))
              have HBL := Lib.hid (HBL.out.kept hg2 (by have := Blk.ne HBL.out HBO.out (by decide); simpa using this))
              have HB2 := Lib.hid hb2
              clear hb2 hg2
              go_wp2_with fail
              clear k0 f0
              go_roundw
              case rel => exact ⟨j + 1, by omega, by go_num, LO.out, HB2.out, HBA.out, HBW.out, HBL.out⟩
              case measure => (simp [intOf]; try omega)
            · obtain rfl : j = k := by omega
              clear hlt
              go_wp2_with fail
              refine (lCopy HL.out (i := 0) rfl (by have := HWS.out; omega)).mono ?_; rintro e w10 ⟨q2, rfl, hl, hg⟩; have L10 := Lib.hid hl; have B10 := Lib.hid (HBO.out.new hg); have HBA := Lib.hid (HBA.out.new hg); have HBW := Lib.hid (HBW.out.new hg); have HBL := Lib.hid (HBL.out.new hg); clear hl hg
              go_wp2_with fail
              refine (lCopy L10.out (i := 1) rfl (by have := HWS.out; omega)).mono ?_; rintro e w11 ⟨q3, rfl, hl, hg⟩; have L11 := Lib.hid hl; have B11 := Lib.hid (B10.out.new hg); have HBA := Lib.hid (HBA.out.new hg); have HBW := Lib.hid (HBW.out.new hg); have HBL := Lib.hid (HBL.out.new hg); clear hl hg
              have hkk := Bls.keepNew HK.out L11.out.grown
              have HKK := Lib.hid hkk
              clear hkk
              go_wp2_with fail
              refine (dFail L11.out 2 rfl (by have := HWS.out; omega) HKK.out FA.out rfl).mono ?_; rintro e w12 ⟨rfl, hl, hk⟩; have L12 := Lib.hid hl; have B12 := Lib.hid (KeptD.blk hk B11.out (by decide) (by decide)); have HBA := Lib.hid (KeptD.blk hk HBA.out (by decide) (by decide)); have HBW := Lib.hid (KeptD.blk hk HBW.out (by decide) (by decide)); have HBL := Lib.hid (KeptD.blk hk HBL.out (by decide) (by decide)); clear hl hk
              go_wp2_with fail
              refine (dFail L12.out 1 rfl (by have := HWS.out; omega) (Bls.nil _) FB.out rfl).mono ?_; rintro e w13 ⟨rfl, hl, hk⟩; have L13 := Lib.hid hl; have B13 := Lib.hid (KeptD.blk hk B12.out (by decide) (by decide)); have HBA := Lib.hid (KeptD.blk hk HBA.out (by decide) (by decide)); have HBW := Lib.hid (KeptD.blk hk HBW.out (by decide) (by decide)); have HBL := Lib.hid (KeptD.blk hk HBL.out (by decide) (by decide)); clear hl hk
              have hbl := Blk.bls B13.out (by rw [yes_len (Nat.le_refl _)]; have := HZK3.out; unfold maxLen; omega)
              rw [yes_len (Nat.le_refl _)] at hbl
              have HBLS := Lib.hid hbl
              clear hbl
              go_wp2_with fail
              refine (dFail L13.out 0 rfl (by have := HWS.out; omega) HBLS.out FC.out rfl).mono ?_; rintro e w14 ⟨rfl, hl, hk⟩; have L14 := Lib.hid hl; have HBA := Lib.hid (KeptD.blk hk HBA.out (by decide) (by decide)); have HBW := Lib.hid (KeptD.blk hk HBW.out (by decide) (by decide)); have HBL := Lib.hid (KeptD.blk hk HBL.out (by decide) (by decide)); clear hl hk
              go_wp2_with fail
              refine (lBooted L14.out (i := 2) rfl (by have := HWS.out; show sW.m ≤ _; omega) rfl).mono ?_; rintro e w16 ⟨a1, rfl, hl, hg⟩; have L16 := Lib.hid hl; have HBA := Lib.hid (HBA.out.new hg); have HBW := Lib.hid (HBW.out.new hg); have HBL := Lib.hid (HBL.out.new hg); clear hl hg
              go_wp2_with fail
              refine (lBooted L16.out (i := 2) rfl (by have := HWS.out; show sW.m ≤ _; omega) rfl).mono ?_; rintro e w17 ⟨a2, rfl, hl, hg⟩; have L17 := Lib.hid hl; have HBA := Lib.hid (HBA.out.new hg); have HBW := Lib.hid (HBW.out.new hg); have HBL := Lib.hid (HBL.out.new hg); clear hl hg
              go_wp2_with fail
              refine (lBooted L17.out (i := 2) rfl (by have := HWS.out; show sW.m ≤ _; omega) rfl).mono ?_; rintro e w18 ⟨a3, rfl, hl, hg⟩; have L18 := Lib.hid hl; have HBA := Lib.hid (HBA.out.new hg); have HBW := Lib.hid (HBW.out.new hg); have HBL := Lib.hid (HBL.out.new hg); clear hl hg
              obtain ⟨sA, hsA⟩ : ∃ s, (sW.gone ks).anew = s := ⟨_, rfl⟩
              obtain ⟨sB, hsB⟩ : ∃ s, (sW.gone []).anew = s := ⟨_, rfl⟩
              obtain ⟨sC, hsC⟩ : ∃ s, (sW.gone (yes j j)).anew = s := ⟨_, rfl⟩
              have hLs := L18.out
              rw [hsA, hsB, hsC] at hLs
              have kA : sA.dd = false ∧ sA.n = 64 := by rw [← hsA]; exact ⟨rfl, HWS.out.2.2.1⟩
              have kB : sB.dd = false ∧ sB.n = 64 := by rw [← hsB]; exact ⟨rfl, HWS.out.2.2.1⟩
              have kC : sC.dd = false ∧ sC.n = 64 := by rw [← hsC]; exact ⟨rfl, HWS.out.2.2.1⟩
              have nA : Names bw sA.fl := by
                rw [← hsA]
                show Names bw (putL sW.fl (kept sW.wt ks))
                rw [HWT.out, HFLS.out]
                exact HN1.out
              have nB : Names b sB.fl := by
                rw [← hsB]
                show Names b (putL sW.fl (kept sW.wt []))
                rw [kept_nil, HFLS.out]
                exact HNF3.out
              have nC : Names bl sC.fl := by
                rw [← hsC]
                show Names bl (putL sW.fl (kept sW.wt (yes j j)))
                rw [kept_all sW.wt (yes j j) (by rw [HWT.out, HLEN.out, yes_len (Nat.le_refl _)]; exact Nat.le_refl _) (fun i hi => yes_all j i (by rw [HWT.out, HLEN.out] at hi; exact hi)), HWT.out, HFLS.out]
                exact HN2.out
              have wA : sA.wt = [] ∧ sB.wt = [] ∧ sC.wt = [] := by rw [← hsA, ← hsB, ← hsC]; exact ⟨rfl, rfl, rfl⟩
              have KA := Lib.hid (And.intro kA nA)
              have KB := Lib.hid (And.intro kB nB)
              have KC := Lib.hid (And.intro kC nC)
              have WA := Lib.hid wA
              have L19 := Lib.hid hLs
              clear kA kB kC nA nB nC wA hLs hsA hsB hsC L18
              go_wp2_with fail
              go_loopw [22] (fun i wr => ∃ n : Nat, n ≤ 64 ∧ i = .int .i64 n ∧ Law w wr [r, rl0, rw0, ra] [(a3, sC), (a2, sB), (a1, sA), (q3, sW.gone (yes j j)), (q2, sW.gone []), (p, sW.gone ks)] ∧ Blk wr ra 53 b.v ∧ Blk wr rw0 53 bw.v ∧ Blk wr rl0 53 bl.v) (fun i _ => 64 - (intOf i).toNat)
              case atStart => exact ⟨0, Nat.zero_le _, rfl, L19.out, HBA.out, HBW.out, HBL.out⟩
              case round =>
                obtain ⟨n, hn, rfl, hl, hba, hbw, hbl⟩ := hrel
                have HL := Lib.hid hl
                have HBA := Lib.hid hba
                have HBW := Lib.hid hbw
                have HBL := Lib.hid hbl
                clear hl hba hbw hbl
                by_cases hlt : n < 64
                · have N64 : Hid (-9223372036854775808 ≤ (n : Int) ∧ (n : Int) ≤ 9223372036854775807) := Lib.hid (by omega)
                  have hq := read_at KA.out.1.1 (k := n) (by rw [KA.out.1.2]; omega)
                  have hw : DS.at sA n = Bk.want (bw.at n) := by
                    unfold DS.at
                    rw [WA.out.1]
                    exact KA.out.2.want (by omega)
                  have hcell := HBW.out.cell (i := n) (bw.get n (by omega))
                  have hi := dIs HL.out 2 rfl (n : Int) N64.out (bw.at n) ((bw.at n).toNat : Int) rfl _ hq true (isB_at hw)
                  have HI := Lib.hid hi
                  clear hi hw hq
                  go_wp2_with fail
                  refine HI.out.mono ?_; rintro e y1 ⟨rfl, hg⟩; have P1 := Lib.hid (HL.out.new hg); have HBA := Lib.hid (HBA.out.new hg); have HBW := Lib.hid (HBW.out.new hg); have HBL := Lib.hid (HBL.out.new hg); clear hg hcell
                  have hq := read_at KB.out.1.1 (k := n) (by rw [KB.out.1.2]; omega)
                  have hw : DS.at sB n = Bk.want (b.at n) := by
                    unfold DS.at
                    rw [WA.out.2.1]
                    exact KB.out.2.want (by omega)
                  have hcell := HBA.out.cell (i := n) (b.get n (by omega))
                  have hi := dIs P1.out 1 rfl (n : Int) N64.out (b.at n) ((b.at n).toNat : Int) rfl _ hq true (isB_at hw)
                  have HI := Lib.hid hi
                  clear hi hw hq
                  go_wp2_with fail
                  refine HI.out.mono ?_; rintro e y2 ⟨rfl, hg⟩; have P2 := Lib.hid (P1.out.new hg); have HBA := Lib.hid (HBA.out.new hg); have HBW := Lib.hid (HBW.out.new hg); have HBL := Lib.hid (HBL.out.new hg); clear hg hcell
                  have hq := read_at KC.out.1.1 (k := n) (by rw [KC.out.1.2]; omega)
                  have hw : DS.at sC n = Bk.want (bl.at n) := by
                    unfold DS.at
                    rw [WA.out.2.2]
                    exact KC.out.2.want (by omega)
                  have hcell := HBL.out.cell (i := n) (bl.get n (by omega))
                  have hi := dIs P2.out 0 rfl (n : Int) N64.out (bl.at n) ((bl.at n).toNat : Int) rfl _ hq true (isB_at hw)
                  have HI := Lib.hid hi
                  clear hi hw hq
                  go_wp2_with fail
                  refine HI.out.mono ?_; rintro e y3 ⟨rfl, hg⟩; have P3 := Lib.hid (P2.out.new hg); have HBA := Lib.hid (HBA.out.new hg); have HBW := Lib.hid (HBW.out.new hg); have HBL := Lib.hid (HBL.out.new hg); clear hg hcell
                  go_wp2_with fail
                  go_roundw
                  case rel => exact ⟨n + 1, by omega, by go_num, P3.out, HBA.out, HBW.out, HBL.out⟩
                  case measure => (simp [intOf]; try omega)
                · obtain rfl : n = 64 := by omega
                  clear hlt
                  go_wp2_with fail
                  go_ret
                  exact ⟨rfl, HL.out.grown⟩
end Go.Proofs.Ytnnhnkpbiilooaa
