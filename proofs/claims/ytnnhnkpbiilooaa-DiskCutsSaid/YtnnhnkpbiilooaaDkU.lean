/- disk: DiskCuts. -/
import Derived.Test.YtnnhnkpbiilooaaDkS
import Derived.Deep.RegionHeld3
namespace Go.Proofs.Ytnnhnkpbiilooaa
open Go.RowKit Go.Maps

/-- A disk with a cut said. -/
def cutAt (s : DS) (j : Nat) (ks : List Bool) : DS := { s with lf := j, kp := ks }
theorem cut_write {s : DS} (hd : s.dd = false) (j : Nat) (ks : List Bool) {k : Nat} (hk : k < s.n) (b : Bk) : (cutAt s (j + 2) ks).write (k : Int) b = (cutAt (s.add k b) (j + 1) ks, 0) := by
  have h0 : (cutAt s (j + 2) ks).has (k : Int) = 0 := DS.has_on (s := cutAt s (j + 2) ks) hd (by omega) (by show (k : Int) < (s.n : Int); omega)
  rw [DS.write_on h0, DS.count_n (s := (cutAt s (j + 2) ks).add k b) (by show 1 < j + 2; omega)]
  rfl
theorem cut_write1 {s : DS} (hd : s.dd = false) (ks : List Bool) {k : Nat} (hk : k < s.n) (b : Bk) : (cutAt s 1 ks).write (k : Int) b = ((s.add k b).gone ks, 51) := by
  have h0 : (cutAt s 1 ks).has (k : Int) = 0 := DS.has_on (s := cutAt s 1 ks) hd (by omega) (by show (k : Int) < (s.n : Int); omega)
  rw [DS.write_on h0, DS.count_1 (s := (cutAt s 1 ks).add k b) rfl]
  rfl
theorem cut_flush {s : DS} (hd : s.dd = false) (j : Nat) (ks : List Bool) : (cutAt s (j + 2) ks).flush = (cutAt s.settle (j + 1) ks, 0) := by
  rw [DS.flush_n (s := cutAt s (j + 2) ks) hd (by show j + 2 ≠ 1; omega), DS.count_n (s := cutAt s (j + 2) ks) (by show 1 < j + 2; omega)]
  rfl
theorem cut_flush1 {s : DS} (hd : s.dd = false) (ks : List Bool) : (cutAt s 1 ks).flush = (s.gone ks, 51) := by
  rw [DS.flush_1 (s := cutAt s 1 ks) hd rfl]
  rfl
theorem cut_said {s : DS} (hd : s.dd = false) (j : Nat) (ks : List Bool) : s.cut (j : Int) ks = (cutAt s j ks, 0) := by
  unfold DS.cut
  rw [if_neg (by rw [hd]; simp), if_neg (by omega)]
  rfl
/-- The byte of a number. -/
theorem byte_wrap {i : Nat} (h : i < 256) : IntKind.u8.wrap (i : Int) = ((UInt8.ofNat i).toNat : Int) := by
  rw [UInt8.toNat_ofNat', Nat.mod_eq_of_lt h]
  exact IntWalk.u8_in _ (by omega)
theorem cut_at (a : Int) (n : Nat) (h : 0 < n) (hn : n ≤ 200) : ∃ K : Nat, K < n ∧ wrap64 ((IntKind.u64.wrap a).tmod (n : Int)) = (K : Int) := by
  have h0 : 0 ≤ IntKind.u64.wrap a := by
    simp only [IntKind.wrap, IntKind.bits, IntKind.signed]
    simp
    omega
  generalize IntKind.u64.wrap a = b at *
  have h1 := Int.emod_nonneg b (show (n : Int) ≠ 0 by omega)
  have h2 := Int.emod_lt_of_pos b (show (0 : Int) < n by omega)
  refine ⟨(b % (n : Int)).toNat, by omega, ?_⟩
  rw [Int.tmod_eq_emod_of_nonneg h0, IntWalk.wrap64_in _ ⟨by omega, by omega⟩]
  omega
/-- Where the two disks stand, i steps on. -/
def CutIn (W wr : World) (q p : Nat) (K : Nat) (ks : List Bool) (i : Nat) : Prop :=
  ∃ s : DS, s.dd = false ∧ s.lf = 0 ∧ s.n = 64 ∧ s.m ≤ i ∧ ((i ≤ K ∧ Law W wr [] [(q, s), (p, cutAt s (K + 1 - i) ks)]) ∨ (i = K + 1 ∧ Law W wr [] [(q, s), (p, s.gone ks)]))

set_option maxRecDepth 100000 in
set_option maxHeartbeats 8000000 in
theorem cuts_main (vl : Value) (l : List UInt8) (at0 : Int) (hat : -9223372036854775808 ≤ at0 ∧ at0 ≤ 9223372036854775807) (vk : Value) (ks : List Bool) (w : World) (hvl : Bts w vl l) (hvk : Bls w vk ks) : Calls Try.prog 6 #[vl, .int .i64 at0, vk] w (Asks w true) := by
  have L0 := Lib.hid (Law.start w)
  obtain ⟨al, cl, rfl, hl1, hl2⟩ := hvl.form
  obtain ⟨ak, ck, rfl, hk2⟩ := hvk.shape
  have HV := Lib.hid hvl
  have HK := Lib.hid hvk
  obtain ⟨n, hn⟩ : ∃ n, l.length = n := ⟨_, rfl⟩
  obtain ⟨nk, hnk⟩ : ∃ n, ks.length = n := ⟨_, rfl⟩
  have HN := Lib.hid hn
  have HNK := Lib.hid hnk
  rw [hn] at hl1 ⊢ HV
  rw [hnk] at hk2 ⊢ HK
  unfold maxLen at hl2 hk2
  have zf : (n : Int) ≤ 9223372036854775807 := by omega
  have zk : (nk : Int) ≤ 9223372036854775807 := by omega
  obtain ⟨ha1, ha2⟩ := hat
  clear hvl hvk hn hnk hl1 hl2 hk2
  by_cases h1 : 200 < (n : Int)
  · go_enter Try.func6, Try.ntmps6
    go_wp2_with fail
    refine (works_any _).mono ?_; rintro e w1 ⟨rfl, hg⟩; have L1 := Lib.hid (L0.out.new hg); clear hg
    go_wp2_with fail
    refine (works_any _).mono ?_; rintro e w2 ⟨rfl, hg⟩; have L2 := Lib.hid (L1.out.new hg); clear hg
    go_wp2_with fail
    go_ret
    exact ⟨rfl, L2.out.grown⟩
  by_cases h2 : 1000 < (nk : Int)
  · go_enter Try.func6, Try.ntmps6
    go_wp2_with fail
    refine (works_any _).mono ?_; rintro e w1 ⟨rfl, hg⟩; have L1 := Lib.hid (L0.out.new hg); clear hg
    go_wp2_with fail
    refine (works_any _).mono ?_; rintro e w2 ⟨rfl, hg⟩; have L2 := Lib.hid (L1.out.new hg); clear hg
    go_wp2_with fail
    go_ret
    exact ⟨rfl, L2.out.grown⟩
  by_cases h3 : (n : Int) = 0
  · have h3b : ((n : Int) == 0) = true := beq_iff_eq.2 h3
    go_enter Try.func6, Try.ntmps6
    go_wp2_with fail
    refine (works_any _).mono ?_; rintro e w1 ⟨rfl, hg⟩; have L1 := Lib.hid (L0.out.new hg); clear hg
    go_wp2_with fail
    refine (works_any _).mono ?_; rintro e w2 ⟨rfl, hg⟩; have L2 := Lib.hid (L1.out.new hg); clear hg
    go_wp2_with fail
    go_ret
    exact ⟨rfl, L2.out.grown⟩
  have h3b : ((n : Int) == 0) = false := beq_false_of_ne h3
  have h4 : 1 ≤ (n : Int) := by omega
  have HN2 : Hid (n ≤ 200) := Lib.hid (by omega)
  have HNK2 : Hid (nk ≤ 1000) := Lib.hid (by omega)
  go_enter Try.func6, Try.ntmps6
  go_wp2_with fail
  refine (works_any _).mono ?_; rintro e w1 ⟨rfl, hg⟩; have L1 := Lib.hid (L0.out.new hg); clear hg
  go_upto_region 4 with fail
  obtain ⟨K, hK, eK⟩ := cut_at at0 n (by omega) (by have := HN2.out; omega)
  rw [eK]
  clear eK ha1 ha2 h3 h3b h4
  go_wp2_with fail
  refine (lNew L1.out 64 (by omega) (by omega)).mono ?_; rintro e w2 ⟨p, rfl, hl, hg⟩; have L2 := Lib.hid hl; clear hl hg
  go_wp2_with fail
  refine (lNew L2.out 64 (by omega) (by omega)).mono ?_; rintro e w3 ⟨q, rfl, hl, hg⟩; have L3 := Lib.hid hl; clear hl hg
  have hbl := Bls.keepNew HK.out L3.out.grown
  have HBL := Lib.hid hbl
  have HCS := Lib.hid (cut_said (s := DS.new 64) rfl (K + 1) ks)
  rw [show ((K + 1 : Nat) : Int) = (K : Int) + 1 by omega] at HCS
  have HKN := Lib.hid hK
  clear hbl
  go_wp2_with fail
  refine (dCut L3.out 1 rfl ((K : Int) + 1) (by have := HN2.out; have := HKN.out; omega) HBL.out (by have := HNK2.out; have := HNK.out; omega) HCS.out rfl).mono ?_; rintro e w4 ⟨rfl, hl, hk⟩; have L4 := Lib.hid hl; clear hl hk
  go_wp2_with fail
  have C0 : Hid (CutIn w w4 q p K ks 0) := Lib.hid ⟨DS.new 64, rfl, rfl, rfl, Nat.le_refl _, .inl ⟨Nat.zero_le _, L4.out⟩⟩
  clear hK
  go_loopw [12] (fun i wr => ∃ j : Nat, j ≤ K + 1 ∧ i = .int .i64 j ∧ CutIn w wr q p K ks j) (fun i _ => K + 1 - (intOf i).toNat)
  case atStart => exact ⟨0, Nat.zero_le _, rfl, C0.out⟩
  case round =>
    obtain ⟨k, hk, rfl, hci⟩ := hrel
    have HCI := Lib.hid hci
    clear hci
    by_cases hlt : k ≤ K
    · obtain ⟨s, hd, hlf, hn64, hm, ⟨_, hl⟩ | ⟨e, _⟩⟩ := HCI.out
      rotate_left
      · omega
      have HL := Lib.hid hl
      have HS := Lib.hid (And.intro hd (And.intro hlf (And.intro hn64 hm)))
      clear hl hd hlf hn64 hm
      have hkn : k < n := by have := HKN.out; omega
      obtain ⟨x, hx⟩ : ∃ x, l[k]'(by have := HN.out; omega) = x := ⟨_, rfl⟩
      obtain ⟨bf, of, rfl, hcell⟩ := Bts.at' HV.out (by have := HN.out; omega)
      have hc := HL.out.grown.cell (hcell k (by have := HN.out; omega)) (by simp)
      have HCW := Lib.hid (hcell k (by have := HN.out; omega))
      rw [hx] at hc HCW
      have htk : l.take (k + 1) = l.take k ++ [x] := by rw [List.take_succ_eq_append_getElem (by have := HN.out; omega), hx]
      have HTK := Lib.hid htk
      have hx0 : (x.toNat : Int) % 64 = (num x : Int) := num_eq x
      have hx1 : 0 ≤ (x.toNat : Int) := by omega
      have hxt : (x.toNat : Int).tmod 64 = (num x : Int) := by rw [Int.tmod_eq_emod_of_nonneg hx1]; exact hx0
      have hx2 : (x.toNat : Int) ≤ 255 := by have := x.toNat_lt; omega
      have hx3 := num_wrap x
      have HX : Hid (-9223372036854775808 ≤ (num x : Int) ∧ (num x : Int) ≤ 9223372036854775807) := Lib.hid (by have := num_lt x; omega)
      have HBK := Lib.hid (fun w => block_any (UInt8.ofNat k) w)
      clear hcell hx htk
      clear HTK
      have hk255 : k < 256 := by have := HN2.out; omega
      have hx5 := byte_wrap hk255
      have HK8 := Lib.hid hk255
      clear hk255
      by_cases hx255 : (x.toNat : Int) = 255
      · have hxb : ((x.toNat : Int) == 255) = true := beq_iff_eq.2 hx255
        by_cases hlast : k = K
        · obtain rfl : k = K := by omega
          have HF1 := Lib.hid (cut_flush1 HS.out.1 ks)
          have hl2 := HL.out
          rw [show k + 1 - k = 1 by omega] at hl2
          have HL2 := Lib.hid hl2
          clear hl2 hxt hx0 hx1 hx2 hx3 hx5 hx255
          go_wp2_with fail
          refine (dFlush HL2.out 1 rfl (by have := HS.out; have := HK8.out; show s.m ≤ _; omega) HF1.out rfl).mono ?_; rintro e w5 ⟨rfl, hl, hk⟩; have L5 := Lib.hid hl; clear hl hk
          go_wp2_with fail
          go_roundw
          case rel => exact ⟨k + 1, by omega, by go_num, s, HS.out.1, HS.out.2.1, HS.out.2.2.1, by have := HS.out; omega, .inr ⟨rfl, L5.out⟩⟩
          case measure => (simp [intOf]; try omega)
        · have hlt2 : k < K := by omega
          have hjk : ((k : Int) == (K : Int)) = false := beq_false_of_ne (by omega)
          obtain ⟨j, hj⟩ : ∃ j, K + 1 - k = j + 2 := ⟨K - 1 - k, by omega⟩
          have HJ := Lib.hid hj
          have HF1 := Lib.hid (cut_flush HS.out.1 j ks)
          have HF2 := Lib.hid (flush_0 HS.out.1 HS.out.2.1)
          have hl2 := HL.out
          rw [hj] at hl2
          have HL2 := Lib.hid hl2
          clear hl2 hj hxt hx0 hx1 hx2 hx3 hx5 hx255
          go_wp2_with fail
          refine (dFlush HL2.out 1 rfl (by have := HS.out; have := HK8.out; show s.m ≤ _; omega) HF1.out rfl).mono ?_; rintro e w5 ⟨rfl, hl, hk⟩; have L5 := Lib.hid hl; clear hl hk
          go_wp2_with fail
          refine (dFlush L5.out 0 rfl (by have := HS.out; have := HK8.out; omega) HF2.out rfl).mono ?_; rintro e w6 ⟨rfl, hl, hk⟩; have L6 := Lib.hid hl; clear hl hk
          go_wp2_with fail
          go_roundw
          case rel => exact ⟨k + 1, by omega, by go_num, s.settle, HS.out.1, HS.out.2.1, HS.out.2.2.1, by have := HS.out; show s.m ≤ _; omega, .inl ⟨by omega, by rw [show K + 1 - (k + 1) = j + 1 by have := HJ.out; omega]; exact L6.out⟩⟩
          case measure => (simp [intOf]; try omega)
      · have hxb : ((x.toNat : Int) == 255) = false := beq_false_of_ne hx255
        by_cases hlast : k = K
        · obtain rfl : k = K := by omega
          have HF1 := Lib.hid (cut_write1 HS.out.1 ks (k := num x) (by have := num_lt x; have := HS.out; omega) (Bk.of (UInt8.ofNat k)))
          have hl2 := HL.out
          rw [show k + 1 - k = 1 by omega] at hl2
          have HF2 := Lib.hid (write_add HS.out.1 HS.out.2.1 (k := num x) (by have := num_lt x; have := HS.out; omega) (Bk.of (UInt8.ofNat k)))
          have HL := Lib.hid hl2
          clear hl2
          go_upto_region 16 with fail
          have hdr : wr.grownBy wr.drew none := ⟨rfl, rfl, rfl, Nat.le_refl _, fun _ _ _ => rfl⟩
          have LR := Lib.hid (HL.out.new hdr)
          clear hdr
          refine wp_region_noPanic ?_
          refine wp_region_held_drew (S := fun w' => w'.cell? ⟨bf, of + k, none⟩ = some (.int .u8 (x.toNat : Int))) (by kernel_rfl) ((by simpa using hc)) (fun hHeld => ?_)
          generalize wr.drew = wd at *
          refine wpAnyH_take (i := 0) (v := ?_) (by simp only [List.getElem?_toArray, List.getElem?_cons_zero]; rfl) (by kernel_rfl) (by kernel_rfl) (by kernel_rfl) (fun _ _ _ h => h) (Or.inl ⟨by rfl, ?_⟩) (by assumption) ?_
          rotate_left 1
          · intro w hSw; (try dsimp only at hSw); go_simp; all_goals (with_reducible rfl)
          try simp only [Act.put, List.setIfInBounds_toArray, List.set_cons_zero, List.set_cons_succ]
          refine wpAnyH_take (i := 1) (v := ?_) (by simp only [List.getElem?_toArray, List.getElem?_cons_succ, List.getElem?_cons_zero]; rfl) (by kernel_rfl) (by kernel_rfl) (by kernel_rfl) (fun _ _ _ h => h) (Or.inl ⟨by rfl, ?_⟩) (by assumption) ?_
          rotate_left 1
          · intro w hSw; (try dsimp only at hSw); go_simp; all_goals (with_reducible rfl)
          try simp only [Act.put, List.setIfInBounds_toArray, List.set_cons_zero, List.set_cons_succ]
          refine wpAnyH_take (i := 2) (v := ?_) (by simp only [List.getElem?_toArray, List.getElem?_cons_succ, List.getElem?_cons_zero]; rfl) (by kernel_rfl) (by kernel_rfl) (by kernel_rfl) (fun _ _ _ h => h) (Or.inl ⟨by rfl, ?_⟩) (by assumption) ?_
          rotate_left 1
          · intro w hSw; (try dsimp only at hSw); go_simp; all_goals (with_reducible rfl)
          try simp only [Act.put, List.setIfInBounds_toArray, List.set_cons_zero, List.set_cons_succ]
          refine wpAnyH_take (i := 3) (v := ?_) (by simp only [List.getElem?_toArray, List.getElem?_cons_succ, List.getElem?_cons_zero]; rfl) (by kernel_rfl) (by kernel_rfl) (by kernel_rfl) (fun _ _ _ h => h) (Or.inl ⟨by rfl, ?_⟩) (by assumption) ?_
          rotate_left 1
          · intro w hSw; (try dsimp only at hSw); go_simp; all_goals (with_reducible rfl)
          try simp only [Act.put, List.setIfInBounds_toArray, List.set_cons_zero, List.set_cons_succ]
          refine wpAnyH_take (i := 4) (v := ?_) (by simp only [List.getElem?_toArray, List.getElem?_cons_succ, List.getElem?_cons_zero]; rfl) (by kernel_rfl) (by kernel_rfl) (by kernel_rfl) (fun _ _ _ h => h) (Or.inl ⟨by rfl, ?_⟩) (by assumption) ?_
          rotate_left 1
          · intro w hSw; (try dsimp only at hSw); go_simp; all_goals (with_reducible rfl)
          try simp only [Act.put, List.setIfInBounds_toArray, List.set_cons_zero, List.set_cons_succ]
          refine wpAnyH_take (i := 5) (v := ?_) (by simp only [List.getElem?_toArray, List.getElem?_cons_succ, List.getElem?_cons_zero]; rfl) (by kernel_rfl) (by kernel_rfl) (by kernel_rfl) (fun _ _ _ h => h) (Or.inl ⟨by rfl, ?_⟩) (by assumption) ?_
          rotate_left 1
          · intro w hSw; (try dsimp only at hSw); go_simp; all_goals (with_reducible rfl)
          try simp only [Act.put, List.setIfInBounds_toArray, List.set_cons_zero, List.set_cons_succ]
          refine wpAnyH_take (i := 6) (v := ?_) (by simp only [List.getElem?_toArray, List.getElem?_cons_succ, List.getElem?_cons_zero]; rfl) (by kernel_rfl) (by kernel_rfl) (by kernel_rfl) (fun _ _ _ h => h) (Or.inl ⟨by rfl, ?_⟩) (by assumption) ?_
          rotate_left 1
          · intro w hSw; (try dsimp only at hSw); go_simp; all_goals (with_reducible rfl)
          try simp only [Act.put, List.setIfInBounds_toArray, List.set_cons_zero, List.set_cons_succ]
          refine wpAnyH_take (i := 7) (v := ?_) (by simp only [List.getElem?_toArray, List.getElem?_cons_succ, List.getElem?_cons_zero]; rfl) (by kernel_rfl) (by kernel_rfl) (by kernel_rfl) (fun _ _ _ h => h) (Or.inl ⟨by rfl, ?_⟩) (by assumption) ?_
          rotate_left 1
          · intro w hSw; (try dsimp only at hSw); go_simp; all_goals (with_reducible rfl)
          try simp only [Act.put, List.setIfInBounds_toArray, List.set_cons_zero, List.set_cons_succ]
          refine wpAnyH_take (i := 8) (v := ?_) (by simp only [List.getElem?_toArray, List.getElem?_cons_succ, List.getElem?_cons_zero]; rfl) (by kernel_rfl) (by kernel_rfl) (by kernel_rfl) (fun _ _ _ h => h) (Or.inl ⟨by rfl, ?_⟩) (by assumption) ?_
          rotate_left 1
          · intro w hSw; (try dsimp only at hSw); go_simp; all_goals (with_reducible rfl)
          try simp only [Act.put, List.setIfInBounds_toArray, List.set_cons_zero, List.set_cons_succ]
          refine wpAnyH_ready (rs := [9]) (by kernel_rfl) (by simp) ?_
          refine AllReadyH.cons (by simp only [List.getElem?_toArray, List.getElem?_cons_succ, List.getElem?_cons_zero]; rfl) (fun K hK => ?_) AllReadyH.nil
          go_simp
          refine (HBK.out _).mono ?_; rintro e v1 ⟨rfl, hg⟩
          have LB := Lib.hid (LR.out.new hg)
          clear hg
          go_wp2_with fail
          refine hK.out _ _ (LB.out.grown.cell HCW.out (by simp)) (fun hHeld => ?_)
          clear hK K
          try simp only [Act.put, List.setIfInBounds_toArray, List.set_cons_zero, List.set_cons_succ]
          refine wpAnyH_ready (rs := [10]) (by kernel_rfl) (by simp) ?_
          refine AllReadyH.cons (by simp only [List.getElem?_toArray, List.getElem?_cons_succ, List.getElem?_cons_zero]; rfl) (fun K hK => ?_) AllReadyH.nil
          go_simp
          refine (dWrite LB.out 1 rfl (by have := HS.out; have := HK8.out; show s.m ≤ _; omega) (num x) HX.out _ HF1.out rfl).mono ?_; rintro e v2 ⟨rfl, hl, hk⟩
          have LW := Lib.hid hl
          clear hl hk
          go_wp2_with fail
          refine hK.out _ _ (LW.out.grown.cell HCW.out (by simp)) (fun hHeld => ?_)
          clear hK K
          try simp only [Act.put, List.setIfInBounds_toArray, List.set_cons_zero, List.set_cons_succ]
          refine wpAnyH_take (i := 11) (v := ?_) (by simp only [List.getElem?_toArray, List.getElem?_cons_succ, List.getElem?_cons_zero]; rfl) (by kernel_rfl) (by kernel_rfl) (by kernel_rfl) (fun _ _ _ h => h) (Or.inl ⟨by rfl, ?_⟩) (by assumption) ?_
          rotate_left 1
          · intro w hSw; (try dsimp only at hSw); go_simp; all_goals (with_reducible rfl)
          try simp only [Act.put, List.setIfInBounds_toArray, List.set_cons_zero, List.set_cons_succ]
          refine wpAnyH_done (by kernel_rfl) ?_ _
          refine NoPanic.normal ?_
          clear hHeld
          clear hc
          have hc := LW.out.grown.cell HCW.out (by simp)
          have HL := LW
          go_upto_region 17 with fail
          have hdr : v2.grownBy v2.drew none := ⟨rfl, rfl, rfl, Nat.le_refl _, fun _ _ _ => rfl⟩
          have LR2 := Lib.hid (HL.out.new hdr)
          clear hdr
          refine wp_region_noPanic ?_
          refine wp_region_held_drew (S := fun w' => w'.cell? ⟨bf, of + k, none⟩ = some (.int .u8 (x.toNat : Int))) (by kernel_rfl) ((by simpa using hc)) (fun hHeld => ?_)
          generalize v2.drew = wd2 at *
          refine wpAnyH_take (i := 0) (v := ?_) (by simp only [List.getElem?_toArray, List.getElem?_cons_zero]; rfl) (by kernel_rfl) (by kernel_rfl) (by kernel_rfl) (fun _ _ _ h => h) (Or.inl ⟨by rfl, ?_⟩) (by assumption) ?_
          rotate_left 1
          · intro w hSw; (try dsimp only at hSw); go_simp; all_goals (with_reducible rfl)
          try simp only [Act.put, List.setIfInBounds_toArray, List.set_cons_zero, List.set_cons_succ]
          refine wpAnyH_take (i := 1) (v := ?_) (by simp only [List.getElem?_toArray, List.getElem?_cons_succ, List.getElem?_cons_zero]; rfl) (by kernel_rfl) (by kernel_rfl) (by kernel_rfl) (fun _ _ _ h => h) (Or.inl ⟨by rfl, ?_⟩) (by assumption) ?_
          rotate_left 1
          · intro w hSw; (try dsimp only at hSw); go_simp; all_goals (with_reducible rfl)
          try simp only [Act.put, List.setIfInBounds_toArray, List.set_cons_zero, List.set_cons_succ]
          refine wpAnyH_take (i := 2) (v := ?_) (by simp only [List.getElem?_toArray, List.getElem?_cons_succ, List.getElem?_cons_zero]; rfl) (by kernel_rfl) (by kernel_rfl) (by kernel_rfl) (fun _ _ _ h => h) (Or.inl ⟨by rfl, ?_⟩) (by assumption) ?_
          rotate_left 1
          · intro w hSw; (try dsimp only at hSw); go_simp; all_goals (with_reducible rfl)
          try simp only [Act.put, List.setIfInBounds_toArray, List.set_cons_zero, List.set_cons_succ]
          refine wpAnyH_take (i := 3) (v := ?_) (by simp only [List.getElem?_toArray, List.getElem?_cons_succ, List.getElem?_cons_zero]; rfl) (by kernel_rfl) (by kernel_rfl) (by kernel_rfl) (fun _ _ _ h => h) (Or.inl ⟨by rfl, ?_⟩) (by assumption) ?_
          rotate_left 1
          · intro w hSw; (try dsimp only at hSw); go_simp; all_goals (with_reducible rfl)
          try simp only [Act.put, List.setIfInBounds_toArray, List.set_cons_zero, List.set_cons_succ]
          refine wpAnyH_take (i := 4) (v := ?_) (by simp only [List.getElem?_toArray, List.getElem?_cons_succ, List.getElem?_cons_zero]; rfl) (by kernel_rfl) (by kernel_rfl) (by kernel_rfl) (fun _ _ _ h => h) (Or.inl ⟨by rfl, ?_⟩) (by assumption) ?_
          rotate_left 1
          · intro w hSw; (try dsimp only at hSw); go_simp; all_goals (with_reducible rfl)
          try simp only [Act.put, List.setIfInBounds_toArray, List.set_cons_zero, List.set_cons_succ]
          refine wpAnyH_take (i := 5) (v := ?_) (by simp only [List.getElem?_toArray, List.getElem?_cons_succ, List.getElem?_cons_zero]; rfl) (by kernel_rfl) (by kernel_rfl) (by kernel_rfl) (fun _ _ _ h => h) (Or.inl ⟨by rfl, ?_⟩) (by assumption) ?_
          rotate_left 1
          · intro w hSw; (try dsimp only at hSw); go_simp; all_goals (with_reducible rfl)
          try simp only [Act.put, List.setIfInBounds_toArray, List.set_cons_zero, List.set_cons_succ]
          refine wpAnyH_take (i := 6) (v := ?_) (by simp only [List.getElem?_toArray, List.getElem?_cons_succ, List.getElem?_cons_zero]; rfl) (by kernel_rfl) (by kernel_rfl) (by kernel_rfl) (fun _ _ _ h => h) (Or.inl ⟨by rfl, ?_⟩) (by assumption) ?_
          rotate_left 1
          · intro w hSw; (try dsimp only at hSw); go_simp; all_goals (with_reducible rfl)
          try simp only [Act.put, List.setIfInBounds_toArray, List.set_cons_zero, List.set_cons_succ]
          refine wpAnyH_take (i := 7) (v := ?_) (by simp only [List.getElem?_toArray, List.getElem?_cons_succ, List.getElem?_cons_zero]; rfl) (by kernel_rfl) (by kernel_rfl) (by kernel_rfl) (fun _ _ _ h => h) (Or.inl ⟨by rfl, ?_⟩) (by assumption) ?_
          rotate_left 1
          · intro w hSw; (try dsimp only at hSw); go_simp; all_goals (with_reducible rfl)
          try simp only [Act.put, List.setIfInBounds_toArray, List.set_cons_zero, List.set_cons_succ]
          refine wpAnyH_take (i := 8) (v := ?_) (by simp only [List.getElem?_toArray, List.getElem?_cons_succ, List.getElem?_cons_zero]; rfl) (by kernel_rfl) (by kernel_rfl) (by kernel_rfl) (fun _ _ _ h => h) (Or.inl ⟨by rfl, ?_⟩) (by assumption) ?_
          rotate_left 1
          · intro w hSw; (try dsimp only at hSw); go_simp; all_goals (with_reducible rfl)
          try simp only [Act.put, List.setIfInBounds_toArray, List.set_cons_zero, List.set_cons_succ]
          refine wpAnyH_ready (rs := [9]) (by kernel_rfl) (by simp) ?_
          refine AllReadyH.cons (by simp only [List.getElem?_toArray, List.getElem?_cons_succ, List.getElem?_cons_zero]; rfl) (fun K hK => ?_) AllReadyH.nil
          go_simp
          refine (HBK.out _).mono ?_; rintro e v1 ⟨rfl, hg⟩
          have LB2 := Lib.hid (LR2.out.new hg)
          clear hg
          go_wp2_with fail
          refine hK.out _ _ (LB2.out.grown.cell HCW.out (by simp)) (fun hHeld => ?_)
          clear hK K
          try simp only [Act.put, List.setIfInBounds_toArray, List.set_cons_zero, List.set_cons_succ]
          refine wpAnyH_ready (rs := [10]) (by kernel_rfl) (by simp) ?_
          refine AllReadyH.cons (by simp only [List.getElem?_toArray, List.getElem?_cons_succ, List.getElem?_cons_zero]; rfl) (fun K hK => ?_) AllReadyH.nil
          go_simp
          refine (dWrite LB2.out 0 rfl (by have := HS.out; have := HK8.out; omega) (num x) HX.out _ HF2.out rfl).mono ?_; rintro e v2 ⟨rfl, hl, hk⟩
          have LW2 := Lib.hid hl
          clear hl hk
          go_wp2_with fail
          refine hK.out _ _ (LW2.out.grown.cell HCW.out (by simp)) (fun hHeld => ?_)
          clear hK K
          try simp only [Act.put, List.setIfInBounds_toArray, List.set_cons_zero, List.set_cons_succ]
          refine wpAnyH_take (i := 11) (v := ?_) (by simp only [List.getElem?_toArray, List.getElem?_cons_succ, List.getElem?_cons_zero]; rfl) (by kernel_rfl) (by kernel_rfl) (by kernel_rfl) (fun _ _ _ h => h) (Or.inl ⟨by rfl, ?_⟩) (by assumption) ?_
          rotate_left 1
          · intro w hSw; (try dsimp only at hSw); go_simp; all_goals (with_reducible rfl)
          try simp only [Act.put, List.setIfInBounds_toArray, List.set_cons_zero, List.set_cons_succ]
          refine wpAnyH_done (by kernel_rfl) ?_ _
          refine NoPanic.normal ?_
          clear hHeld
          clear hc hxt hx0 hx1 hx2 hx3 hx5 hx255
          go_wp2_with fail
          go_roundw
          case rel => exact ⟨k + 1, by omega, by go_num, s.add (num x) (Bk.of (UInt8.ofNat k)), HS.out.1, HS.out.2.1, HS.out.2.2.1, by have := HS.out; show s.m + 1 ≤ _; omega, .inr ⟨rfl, LW2.out⟩⟩
          case measure => (simp [intOf]; try omega)
        · have hjk : ((k : Int) == (K : Int)) = false := beq_false_of_ne (by omega)
          obtain ⟨j, hj⟩ : ∃ j, K + 1 - k = j + 2 := ⟨K - 1 - k, by omega⟩
          have HJ := Lib.hid hj
          have HF1 := Lib.hid (cut_write HS.out.1 j ks (k := num x) (by have := num_lt x; have := HS.out; omega) (Bk.of (UInt8.ofNat k)))
          have hl2 := HL.out
          rw [hj] at hl2
          clear hj
          have HF2 := Lib.hid (write_add HS.out.1 HS.out.2.1 (k := num x) (by have := num_lt x; have := HS.out; omega) (Bk.of (UInt8.ofNat k)))
          have HL := Lib.hid hl2
          clear hl2
          go_upto_region 16 with fail
          have hdr : wr.grownBy wr.drew none := ⟨rfl, rfl, rfl, Nat.le_refl _, fun _ _ _ => rfl⟩
          have LR := Lib.hid (HL.out.new hdr)
          clear hdr
          refine wp_region_noPanic ?_
          refine wp_region_held_drew (S := fun w' => w'.cell? ⟨bf, of + k, none⟩ = some (.int .u8 (x.toNat : Int))) (by kernel_rfl) ((by simpa using hc)) (fun hHeld => ?_)
          generalize wr.drew = wd at *
          refine wpAnyH_take (i := 0) (v := ?_) (by simp only [List.getElem?_toArray, List.getElem?_cons_zero]; rfl) (by kernel_rfl) (by kernel_rfl) (by kernel_rfl) (fun _ _ _ h => h) (Or.inl ⟨by rfl, ?_⟩) (by assumption) ?_
          rotate_left 1
          · intro w hSw; (try dsimp only at hSw); go_simp; all_goals (with_reducible rfl)
          try simp only [Act.put, List.setIfInBounds_toArray, List.set_cons_zero, List.set_cons_succ]
          refine wpAnyH_take (i := 1) (v := ?_) (by simp only [List.getElem?_toArray, List.getElem?_cons_succ, List.getElem?_cons_zero]; rfl) (by kernel_rfl) (by kernel_rfl) (by kernel_rfl) (fun _ _ _ h => h) (Or.inl ⟨by rfl, ?_⟩) (by assumption) ?_
          rotate_left 1
          · intro w hSw; (try dsimp only at hSw); go_simp; all_goals (with_reducible rfl)
          try simp only [Act.put, List.setIfInBounds_toArray, List.set_cons_zero, List.set_cons_succ]
          refine wpAnyH_take (i := 2) (v := ?_) (by simp only [List.getElem?_toArray, List.getElem?_cons_succ, List.getElem?_cons_zero]; rfl) (by kernel_rfl) (by kernel_rfl) (by kernel_rfl) (fun _ _ _ h => h) (Or.inl ⟨by rfl, ?_⟩) (by assumption) ?_
          rotate_left 1
          · intro w hSw; (try dsimp only at hSw); go_simp; all_goals (with_reducible rfl)
          try simp only [Act.put, List.setIfInBounds_toArray, List.set_cons_zero, List.set_cons_succ]
          refine wpAnyH_take (i := 3) (v := ?_) (by simp only [List.getElem?_toArray, List.getElem?_cons_succ, List.getElem?_cons_zero]; rfl) (by kernel_rfl) (by kernel_rfl) (by kernel_rfl) (fun _ _ _ h => h) (Or.inl ⟨by rfl, ?_⟩) (by assumption) ?_
          rotate_left 1
          · intro w hSw; (try dsimp only at hSw); go_simp; all_goals (with_reducible rfl)
          try simp only [Act.put, List.setIfInBounds_toArray, List.set_cons_zero, List.set_cons_succ]
          refine wpAnyH_take (i := 4) (v := ?_) (by simp only [List.getElem?_toArray, List.getElem?_cons_succ, List.getElem?_cons_zero]; rfl) (by kernel_rfl) (by kernel_rfl) (by kernel_rfl) (fun _ _ _ h => h) (Or.inl ⟨by rfl, ?_⟩) (by assumption) ?_
          rotate_left 1
          · intro w hSw; (try dsimp only at hSw); go_simp; all_goals (with_reducible rfl)
          try simp only [Act.put, List.setIfInBounds_toArray, List.set_cons_zero, List.set_cons_succ]
          refine wpAnyH_take (i := 5) (v := ?_) (by simp only [List.getElem?_toArray, List.getElem?_cons_succ, List.getElem?_cons_zero]; rfl) (by kernel_rfl) (by kernel_rfl) (by kernel_rfl) (fun _ _ _ h => h) (Or.inl ⟨by rfl, ?_⟩) (by assumption) ?_
          rotate_left 1
          · intro w hSw; (try dsimp only at hSw); go_simp; all_goals (with_reducible rfl)
          try simp only [Act.put, List.setIfInBounds_toArray, List.set_cons_zero, List.set_cons_succ]
          refine wpAnyH_take (i := 6) (v := ?_) (by simp only [List.getElem?_toArray, List.getElem?_cons_succ, List.getElem?_cons_zero]; rfl) (by kernel_rfl) (by kernel_rfl) (by kernel_rfl) (fun _ _ _ h => h) (Or.inl ⟨by rfl, ?_⟩) (by assumption) ?_
          rotate_left 1
          · intro w hSw; (try dsimp only at hSw); go_simp; all_goals (with_reducible rfl)
          try simp only [Act.put, List.setIfInBounds_toArray, List.set_cons_zero, List.set_cons_succ]
          refine wpAnyH_take (i := 7) (v := ?_) (by simp only [List.getElem?_toArray, List.getElem?_cons_succ, List.getElem?_cons_zero]; rfl) (by kernel_rfl) (by kernel_rfl) (by kernel_rfl) (fun _ _ _ h => h) (Or.inl ⟨by rfl, ?_⟩) (by assumption) ?_
          rotate_left 1
          · intro w hSw; (try dsimp only at hSw); go_simp; all_goals (with_reducible rfl)
          try simp only [Act.put, List.setIfInBounds_toArray, List.set_cons_zero, List.set_cons_succ]
          refine wpAnyH_take (i := 8) (v := ?_) (by simp only [List.getElem?_toArray, List.getElem?_cons_succ, List.getElem?_cons_zero]; rfl) (by kernel_rfl) (by kernel_rfl) (by kernel_rfl) (fun _ _ _ h => h) (Or.inl ⟨by rfl, ?_⟩) (by assumption) ?_
          rotate_left 1
          · intro w hSw; (try dsimp only at hSw); go_simp; all_goals (with_reducible rfl)
          try simp only [Act.put, List.setIfInBounds_toArray, List.set_cons_zero, List.set_cons_succ]
          refine wpAnyH_ready (rs := [9]) (by kernel_rfl) (by simp) ?_
          refine AllReadyH.cons (by simp only [List.getElem?_toArray, List.getElem?_cons_succ, List.getElem?_cons_zero]; rfl) (fun K hK => ?_) AllReadyH.nil
          go_simp
          refine (HBK.out _).mono ?_; rintro e v1 ⟨rfl, hg⟩
          have LB := Lib.hid (LR.out.new hg)
          clear hg
          go_wp2_with fail
          refine hK.out _ _ (LB.out.grown.cell HCW.out (by simp)) (fun hHeld => ?_)
          clear hK K
          try simp only [Act.put, List.setIfInBounds_toArray, List.set_cons_zero, List.set_cons_succ]
          refine wpAnyH_ready (rs := [10]) (by kernel_rfl) (by simp) ?_
          refine AllReadyH.cons (by simp only [List.getElem?_toArray, List.getElem?_cons_succ, List.getElem?_cons_zero]; rfl) (fun K hK => ?_) AllReadyH.nil
          go_simp
          refine (dWrite LB.out 1 rfl (by have := HS.out; have := HK8.out; show s.m ≤ _; omega) (num x) HX.out _ HF1.out rfl).mono ?_; rintro e v2 ⟨rfl, hl, hk⟩
          have LW := Lib.hid hl
          clear hl hk
          go_wp2_with fail
          refine hK.out _ _ (LW.out.grown.cell HCW.out (by simp)) (fun hHeld => ?_)
          clear hK K
          try simp only [Act.put, List.setIfInBounds_toArray, List.set_cons_zero, List.set_cons_succ]
          refine wpAnyH_take (i := 11) (v := ?_) (by simp only [List.getElem?_toArray, List.getElem?_cons_succ, List.getElem?_cons_zero]; rfl) (by kernel_rfl) (by kernel_rfl) (by kernel_rfl) (fun _ _ _ h => h) (Or.inl ⟨by rfl, ?_⟩) (by assumption) ?_
          rotate_left 1
          · intro w hSw; (try dsimp only at hSw); go_simp; all_goals (with_reducible rfl)
          try simp only [Act.put, List.setIfInBounds_toArray, List.set_cons_zero, List.set_cons_succ]
          refine wpAnyH_done (by kernel_rfl) ?_ _
          refine NoPanic.normal ?_
          clear hHeld
          clear hc
          have hc := LW.out.grown.cell HCW.out (by simp)
          have HL := LW
          go_upto_region 17 with fail
          have hdr : v2.grownBy v2.drew none := ⟨rfl, rfl, rfl, Nat.le_refl _, fun _ _ _ => rfl⟩
          have LR2 := Lib.hid (HL.out.new hdr)
          clear hdr
          refine wp_region_noPanic ?_
          refine wp_region_held_drew (S := fun w' => w'.cell? ⟨bf, of + k, none⟩ = some (.int .u8 (x.toNat : Int))) (by kernel_rfl) ((by simpa using hc)) (fun hHeld => ?_)
          generalize v2.drew = wd2 at *
          refine wpAnyH_take (i := 0) (v := ?_) (by simp only [List.getElem?_toArray, List.getElem?_cons_zero]; rfl) (by kernel_rfl) (by kernel_rfl) (by kernel_rfl) (fun _ _ _ h => h) (Or.inl ⟨by rfl, ?_⟩) (by assumption) ?_
          rotate_left 1
          · intro w hSw; (try dsimp only at hSw); go_simp; all_goals (with_reducible rfl)
          try simp only [Act.put, List.setIfInBounds_toArray, List.set_cons_zero, List.set_cons_succ]
          refine wpAnyH_take (i := 1) (v := ?_) (by simp only [List.getElem?_toArray, List.getElem?_cons_succ, List.getElem?_cons_zero]; rfl) (by kernel_rfl) (by kernel_rfl) (by kernel_rfl) (fun _ _ _ h => h) (Or.inl ⟨by rfl, ?_⟩) (by assumption) ?_
          rotate_left 1
          · intro w hSw; (try dsimp only at hSw); go_simp; all_goals (with_reducible rfl)
          try simp only [Act.put, List.setIfInBounds_toArray, List.set_cons_zero, List.set_cons_succ]
          refine wpAnyH_take (i := 2) (v := ?_) (by simp only [List.getElem?_toArray, List.getElem?_cons_succ, List.getElem?_cons_zero]; rfl) (by kernel_rfl) (by kernel_rfl) (by kernel_rfl) (fun _ _ _ h => h) (Or.inl ⟨by rfl, ?_⟩) (by assumption) ?_
          rotate_left 1
          · intro w hSw; (try dsimp only at hSw); go_simp; all_goals (with_reducible rfl)
          try simp only [Act.put, List.setIfInBounds_toArray, List.set_cons_zero, List.set_cons_succ]
          refine wpAnyH_take (i := 3) (v := ?_) (by simp only [List.getElem?_toArray, List.getElem?_cons_succ, List.getElem?_cons_zero]; rfl) (by kernel_rfl) (by kernel_rfl) (by kernel_rfl) (fun _ _ _ h => h) (Or.inl ⟨by rfl, ?_⟩) (by assumption) ?_
          rotate_left 1
          · intro w hSw; (try dsimp only at hSw); go_simp; all_goals (with_reducible rfl)
          try simp only [Act.put, List.setIfInBounds_toArray, List.set_cons_zero, List.set_cons_succ]
          refine wpAnyH_take (i := 4) (v := ?_) (by simp only [List.getElem?_toArray, List.getElem?_cons_succ, List.getElem?_cons_zero]; rfl) (by kernel_rfl) (by kernel_rfl) (by kernel_rfl) (fun _ _ _ h => h) (Or.inl ⟨by rfl, ?_⟩) (by assumption) ?_
          rotate_left 1
          · intro w hSw; (try dsimp only at hSw); go_simp; all_goals (with_reducible rfl)
          try simp only [Act.put, List.setIfInBounds_toArray, List.set_cons_zero, List.set_cons_succ]
          refine wpAnyH_take (i := 5) (v := ?_) (by simp only [List.getElem?_toArray, List.getElem?_cons_succ, List.getElem?_cons_zero]; rfl) (by kernel_rfl) (by kernel_rfl) (by kernel_rfl) (fun _ _ _ h => h) (Or.inl ⟨by rfl, ?_⟩) (by assumption) ?_
          rotate_left 1
          · intro w hSw; (try dsimp only at hSw); go_simp; all_goals (with_reducible rfl)
          try simp only [Act.put, List.setIfInBounds_toArray, List.set_cons_zero, List.set_cons_succ]
          refine wpAnyH_take (i := 6) (v := ?_) (by simp only [List.getElem?_toArray, List.getElem?_cons_succ, List.getElem?_cons_zero]; rfl) (by kernel_rfl) (by kernel_rfl) (by kernel_rfl) (fun _ _ _ h => h) (Or.inl ⟨by rfl, ?_⟩) (by assumption) ?_
          rotate_left 1
          · intro w hSw; (try dsimp only at hSw); go_simp; all_goals (with_reducible rfl)
          try simp only [Act.put, List.setIfInBounds_toArray, List.set_cons_zero, List.set_cons_succ]
          refine wpAnyH_take (i := 7) (v := ?_) (by simp only [List.getElem?_toArray, List.getElem?_cons_succ, List.getElem?_cons_zero]; rfl) (by kernel_rfl) (by kernel_rfl) (by kernel_rfl) (fun _ _ _ h => h) (Or.inl ⟨by rfl, ?_⟩) (by assumption) ?_
          rotate_left 1
          · intro w hSw; (try dsimp only at hSw); go_simp; all_goals (with_reducible rfl)
          try simp only [Act.put, List.setIfInBounds_toArray, List.set_cons_zero, List.set_cons_succ]
          refine wpAnyH_take (i := 8) (v := ?_) (by simp only [List.getElem?_toArray, List.getElem?_cons_succ, List.getElem?_cons_zero]; rfl) (by kernel_rfl) (by kernel_rfl) (by kernel_rfl) (fun _ _ _ h => h) (Or.inl ⟨by rfl, ?_⟩) (by assumption) ?_
          rotate_left 1
          · intro w hSw; (try dsimp only at hSw); go_simp; all_goals (with_reducible rfl)
          try simp only [Act.put, List.setIfInBounds_toArray, List.set_cons_zero, List.set_cons_succ]
          refine wpAnyH_ready (rs := [9]) (by kernel_rfl) (by simp) ?_
          refine AllReadyH.cons (by simp only [List.getElem?_toArray, List.getElem?_cons_succ, List.getElem?_cons_zero]; rfl) (fun K hK => ?_) AllReadyH.nil
          go_simp
          refine (HBK.out _).mono ?_; rintro e v1 ⟨rfl, hg⟩
          have LB2 := Lib.hid (LR2.out.new hg)
          clear hg
          go_wp2_with fail
          refine hK.out _ _ (LB2.out.grown.cell HCW.out (by simp)) (fun hHeld => ?_)
          clear hK K
          try simp only [Act.put, List.setIfInBounds_toArray, List.set_cons_zero, List.set_cons_succ]
          refine wpAnyH_ready (rs := [10]) (by kernel_rfl) (by simp) ?_
          refine AllReadyH.cons (by simp only [List.getElem?_toArray, List.getElem?_cons_succ, List.getElem?_cons_zero]; rfl) (fun K hK => ?_) AllReadyH.nil
          go_simp
          refine (dWrite LB2.out 0 rfl (by have := HS.out; have := HK8.out; omega) (num x) HX.out _ HF2.out rfl).mono ?_; rintro e v2 ⟨rfl, hl, hk⟩
          have LW2 := Lib.hid hl
          clear hl hk
          go_wp2_with fail
          refine hK.out _ _ (LW2.out.grown.cell HCW.out (by simp)) (fun hHeld => ?_)
          clear hK K
          try simp only [Act.put, List.setIfInBounds_toArray, List.set_cons_zero, List.set_cons_succ]
          refine wpAnyH_take (i := 11) (v := ?_) (by simp only [List.getElem?_toArray, List.getElem?_cons_succ, List.getElem?_cons_zero]; rfl) (by kernel_rfl) (by kernel_rfl) (by kernel_rfl) (fun _ _ _ h => h) (Or.inl ⟨by rfl, ?_⟩) (by assumption) ?_
          rotate_left 1
          · intro w hSw; (try dsimp only at hSw); go_simp; all_goals (with_reducible rfl)
          try simp only [Act.put, List.setIfInBounds_toArray, List.set_cons_zero, List.set_cons_succ]
          refine wpAnyH_done (by kernel_rfl) ?_ _
          refine NoPanic.normal ?_
          clear hHeld
          clear hc hxt hx0 hx1 hx2 hx3 hx5 hx255
          go_wp2_with fail
          go_roundw
          case rel => exact ⟨k + 1, by omega, by go_num, s.add (num x) (Bk.of (UInt8.ofNat k)), HS.out.1, HS.out.2.1, HS.out.2.2.1, by have := HS.out; show s.m + 1 ≤ _; omega, .inl ⟨by omega, by rw [show K + 1 - (k + 1) = j + 1 by have := HJ.out; omega]; exact LW2.out⟩⟩
          case measure => (simp [intOf]; try omega)
    · obtain rfl : k = K + 1 := by omega
      clear hlt
      obtain ⟨s, hd, hlf, hn64, hm, ⟨h, _⟩ | ⟨_, hl⟩⟩ := HCI.out
      · omega
      have HL := Lib.hid hl
      have HS := Lib.hid (And.intro hd (And.intro hlf (And.intro hn64 hm)))
      have FD := Lib.hid (DS.fail_live hd ks)
      clear hl hd hlf hn64 hm
      have hbl2 := Bls.keepNew HK.out HL.out.grown
      have HBL2 := Lib.hid hbl2
      clear hbl2
      go_wp2_with fail
      refine (dFail HL.out 0 rfl (by have := HS.out; have := HKN.out; have := HN2.out; omega) HBL2.out FD.out rfl).mono ?_; rintro e w5 ⟨rfl, hl, hk⟩; have L5 := Lib.hid hl; clear hl hk
      go_wp2_with fail
      refine (lDead L5.out (i := 1) rfl).mono ?_; rintro e w' ⟨rfl, rfl⟩; rw [show (s.gone ks).dd = true from rfl]
      go_wp2_with fail
      refine (lBooted L5.out (i := 1) rfl (by have := HS.out; have := HKN.out; have := HN2.out; show s.m ≤ _; omega) rfl).mono ?_; rintro e w6 ⟨a1, rfl, hl, hg⟩; have L6 := Lib.hid hl; clear hl hg
      go_wp2_with fail
      refine (lBooted L6.out (i := 1) rfl (by have := HS.out; have := HKN.out; have := HN2.out; show s.m ≤ _; omega) rfl).mono ?_; rintro e w7 ⟨a2, rfl, hl, hg⟩; have L7 := Lib.hid hl; clear hl hg
      obtain ⟨sA, hsA⟩ : ∃ t, (s.gone ks).anew = t := ⟨_, rfl⟩
      have hLs := L7.out
      rw [hsA] at hLs
      have kA : sA.dd = false ∧ sA.n = 64 := by rw [← hsA]; exact ⟨rfl, HS.out.2.2.1⟩
      have KA := Lib.hid kA
      have L8 := Lib.hid hLs
      clear kA hLs hsA L7
      go_wp2_with fail
      go_loopw [16] (fun i wr => ∃ n : Nat, n ≤ 64 ∧ i = .int .i64 n ∧ Law w wr [] [(a2, sA), (a1, sA), (q, s.gone ks), (p, s.gone ks)]) (fun i _ => 64 - (intOf i).toNat)
      case atStart => exact ⟨0, Nat.zero_le _, rfl, L8.out⟩
      case round =>
        obtain ⟨m, hm, rfl, hl⟩ := hrel
        have HL := Lib.hid hl
        clear hl
        by_cases hlt : m < 64
        · have N64 : Hid (-9223372036854775808 ≤ (m : Int) ∧ (m : Int) ≤ 9223372036854775807) := Lib.hid (by omega)
          have QA := Lib.hid (read_at KA.out.1 (k := m) (by rw [KA.out.2]; omega))
          generalize sA.at m = bA at *
          have hrd := lRead HL.out (i := 1) rfl (m : Int) N64.out
          rw [QA.out] at hrd
          go_wp2_with fail
          refine hrd.mono ?_; clear hrd; rintro e x1 ⟨rfl, hg⟩; have M1 := Lib.hid (HL.out.new hg); clear hg
          go_upto_region 29 with (first
            | (refine wpAllocB rfl rfl ?_; intro g1 y1 hn1; have N1 := Lib.hid hn1; clear hn1)
            | (refine wpStoreB rfl (.tmp 17) (.tmp 146) rfl g1 _ _ rfl rfl N1.out.blk ?_; intro z1 hb1 hgz; have hg := grown_new N1.out.grown hgz N1.out.ge; have B1 := Lib.hid hb1; have P1 := Lib.hid (M1.out.new hg); clear hb1 hgz hg))
          have hrd := lRead P1.out (i := 0) rfl (m : Int) N64.out
          rw [QA.out] at hrd
          go_wp2_with fail
          refine hrd.mono ?_; clear hrd; rintro e x2 ⟨rfl, hg⟩; have M2 := Lib.hid (P1.out.new hg); have B1 := Lib.hid (B1.out.new hg); clear hg
          go_upto_region 30 with (first
            | (refine wpAllocB rfl rfl ?_; intro g2 y2 hn2; have N2 := Lib.hid hn2; clear hn2)
            | (refine wpStoreB rfl (.tmp 19) (.tmp 152) rfl g2 _ _ rfl rfl N2.out.blk ?_; intro z2 hb2 hgz; have hg := grown_new N2.out.grown hgz N2.out.ge; have B2 := Lib.hid hb2; have P2 := Lib.hid (M2.out.new hg); have B1 := Lib.hid (B1.out.new hg); clear hb2 hgz hg))
          go_wp2_with (first
            | (refine wpLoadB rfl (.tmp 17) rfl g1 _ rfl B1.out ?_)
            | (refine wpLoadB rfl (.tmp 19) rfl g2 _ rfl B2.out ?_)
            | (refine wpNeqB rfl _ _ _ rfl bA bA rfl rfl ?_; rw [show decide (bA ≠ bA) = false by simp]))
          go_roundw
          case rel => exact ⟨m + 1, by omega, by go_num, P2.out⟩
          case measure => (simp [intOf]; try omega)
        · obtain rfl : m = 64 := by omega
          clear hlt
          go_wp2_with fail
          go_ret
          exact ⟨rfl, HL.out.grown⟩
end Go.Proofs.Ytnnhnkpbiilooaa
