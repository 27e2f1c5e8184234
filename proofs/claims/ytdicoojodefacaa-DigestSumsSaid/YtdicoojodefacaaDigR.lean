/- The document's sums, texts, and sums of texts. -/
import Derived.Test.YtdicoojodefacaaDigW
namespace Go.Proofs.Ytdicoojodefacaa
open Go.RowKit

set_option maxRecDepth 20000 in
set_option maxHeartbeats 400000 in
theorem ron_any (u : Nat) (x : UInt8) (w : World) (hu : u < fnvM) : Calls Try.prog 31 #[.int .u64 (u : Int), .int .u8 (x.toNat : Int)] w (U64 w (sumStep fnvM fnvP u x)) := by
  unfold fnvM at hu
  have HV := Lib.hid (dstep u x hu)
  obtain ⟨z, hz⟩ : ∃ z, sumStep fnvM fnvP u x = z := ⟨_, rfl⟩
  rw [hz] at HV ⊢
  clear hz hu
  go_enter Try.func31, Try.ntmps31
  go_wp2_with fail
  go_ret
  exact ⟨congrArg (fun z => Ending.returned (Value.int IntKind.u64 z)) HV.out, World.grownBy.refl _ _⟩

set_option maxRecDepth 20000 in
set_option maxHeartbeats 1000000 in
theorem rfrom_any (u : Nat) (l : List UInt8) (w : World) (hu : u < fnvM) (hl : l.length ≤ 140737488355328) :
    Calls Try.prog 26 #[.int .u64 (u : Int), .string ⟨l.toArray⟩] w (U64 w (sumOn fnvM fnvP u l)) := by
  have hm : (l.length : Int) ≤ 140737488355328 := by omega
  have HU := Lib.hid hu
  have HO := Lib.hid (fun u x w hu => ron_any u x w hu)
  obtain ⟨F, hF⟩ : ∃ F, sumOn fnvM fnvP u l = F := ⟨_, rfl⟩
  have HF := Lib.hid hF
  rw [hF]
  clear hl hF hu
  go_enter Try.func26, Try.ntmps26
  go_wp2_with fail
  go_loopw [0, 5] (fun u' i w' => ∃ k : Nat, k ≤ l.length ∧ i = .int .i64 k ∧ u' = .int .u64 ((sumOn fnvM fnvP u (l.take k) : Nat) : Int) ∧ w.grownBy w' none) (fun _ i _ => l.length - (intOf i).toNat)
  case atStart => exact ⟨0, Nat.zero_le _, rfl, rfl, World.grownBy.refl _ _⟩
  case round =>
    obtain ⟨k, hk, rfl, rfl, hg⟩ := hrel
    have HG := Lib.hid hg
    clear hg
    by_cases hlt : k < l.length
    · have hu := sumOn_lt (m := fnvM) (p := fnvP) fnvM_pos (l.take k) u HU.out
      have hstep := sumOn_take u l k hlt
      generalize sumOn fnvM fnvP u (l.take k) = v at *
      have HC := Lib.hid (fun w => HO.out v l[k] w hu)
      rw [← hstep] at HC
      obtain ⟨z, hz⟩ : ∃ z, sumOn fnvM fnvP u (l.take (k + 1)) = z := ⟨_, rfl⟩
      rw [hz] at HC
      have HZ := Lib.hid hz
      have hlt2 : (k : Int) < l.length := by omega
      clear hu hstep hz
      go_wp2_with fail
      refine (HC.out _).mono ?_; rintro e w1 ⟨rfl, h1⟩
      have HG1 := Lib.hid (World.grownBy.trans HG.out h1)
      clear h1
      go_wp2_with fail
      go_roundw
      case rel => exact ⟨k + 1, by omega, by go_num, by rw [HZ.out], HG1.out⟩
      case measure => simp [intOf]; omega
    · have hE : l.take k = l := List.take_of_length_le (by omega)
      rw [hE, HF.out]
      have hlt2 : ¬ (k : Int) < l.length := by omega
      clear hE hk
      go_wp2_with fail
      go_ret
      exact ⟨rfl, HG.out⟩

set_option maxRecDepth 20000 in
set_option maxHeartbeats 400000 in
theorem rsum_any (l : List UInt8) (w : World) (hl : l.length ≤ 140737488355328) :
    Calls Try.prog 15 #[.string ⟨l.toArray⟩] w (U64 w (fnv l)) := by
  have HA := Lib.hid (fun w => rfrom_any fnv0 l w fnv0_lt hl)
  have e : ((fnv0 : Nat) : Int) = 14695981039346656037 := rfl
  rw [e] at HA
  obtain ⟨F, hF⟩ : ∃ F, fnv l = F := ⟨_, rfl⟩
  have hF2 : sumOn fnvM fnvP fnv0 l = F := hF
  rw [hF2] at HA
  rw [hF]
  clear hF hF2 e hl
  go_enter Try.func15, Try.ntmps15
  go_wp2_with fail
  refine (HA.out _).mono ?_; rintro e w1 ⟨rfl, h1⟩; have H1 := Lib.hid h1; clear h1
  go_wp2_with fail
  go_ret
  exact ⟨rfl, H1.out⟩

/-- The bytes of a number behind k rounds, from the left. -/
def longK (n : Nat) : Nat → List UInt8
  | 0 => List.replicate 8 0
  | k + 1 => (longK n k).set k (UInt8.ofNat (n / 2 ^ (56 - 8 * k)))
theorem longK_len (n k : Nat) : (longK n k).length = 8 := by
  induction k with
  | zero => rfl
  | succ k ih => unfold longK; rw [List.length_set, ih]
theorem longK_all (n : Nat) : longK n 8 = word8 n := by
  simp [longK, word8, List.replicate, List.set]

set_option maxRecDepth 20000 in
set_option maxHeartbeats 1000000 in
theorem rlong_any (n : Nat) (w : World) (hn : n < fnvM) :
    Calls Try.prog 29 #[.int .u64 (n : Int)] w (TX w (word8 n)) := by
  have hm : (Instr.makeSlice 35 (.int .i64 8) (.int .i64 8)).run Try.prog w = .ok (.slice (some ⟨w.heap.size, 0, none⟩) 8 8) (w.alloc (.cells ((List.replicate 8 (0 : UInt8)).map u8v).toArray 5)) := make_run 8 (by decide) w
  have hb := Blk.made w 5 ((List.replicate 8 (0 : UInt8)).map u8v).toArray
  generalize hW : w.alloc (.cells ((List.replicate 8 (0 : UInt8)).map u8v).toArray 5) = w1 at *
  have HB := Lib.hid hb
  have HW := Lib.hid hW
  unfold fnvM at hn
  have hn2 : (n : Int) < 18446744073709551616 := by omega
  have HN := Lib.hid hn
  have HGR : Hid (∀ w', w1.grownBy w' (some w.heap.size) → w.grownBy w' none) := Lib.hid (fun w' h => by rw [← HW.out] at h; exact blk_grown h rfl)
  generalize w.heap.size = r at *
  clear hW hb hn HW
  go_enter Try.func29, Try.ntmps29
  go_wp2_with fail
  go_loopw [4] (fun i w' => ∃ k : Nat, k ≤ 8 ∧ i = .int .i64 k ∧ w1.grownBy w' (some r) ∧ Blk w' r 5 ((longK n k).map u8v).toArray) (fun i w' => 8 - (intOf i).toNat)
  case atStart => exact ⟨0, Nat.zero_le _, rfl, World.grownBy.refl _ _, HB.out⟩
  case round =>
    obtain ⟨k, hk1, rfl, hg, hb⟩ := hrel
    by_cases hlt : k < 8
    · have h1 := longK_len n k
      have hp : (((longK n k).map u8v).toArray)[k]? = some (u8v ((longK n k)[k]'(by omega))) := by simp [List.getElem?_eq_getElem (show k < (longK n k).length by omega)]
      obtain ⟨y, hc⟩ : ∃ y, wr.cell? ⟨r, k, none⟩ = some y := ⟨_, hb.cell hp⟩
      have hf := hb.frozen k
      have hWK : longK n (k + 1) = (longK n k).set k (UInt8.ofNat (n / 2 ^ (56 - 8 * k))) := rfl
      have HG := Lib.hid hg
      have HB := Lib.hid hb
      have HWK := Lib.hid hWK
      have hlt2 : (k : Int) < 8 := by omega
      have hw1 : IntKind.u64.wrap (k : Int) = (k : Int) := by rw [IntKind.wrap_u64]; omega
      have hw2 : IntKind.u64.wrap (8 * (k : Int)) = 8 * (k : Int) := by rw [IntKind.wrap_u64]; omega
      have hw3 : IntKind.u64.wrap (56 - 8 * (k : Int)) = 56 - 8 * (k : Int) := by rw [IntKind.wrap_u64]; omega
      clear hg hb hp h1 hWK
      go_wp2_with fail
      have hv : Value.int IntKind.u8 ((n : Int) / 2 ^ (56 - 8 * k) % 256) = u8v (UInt8.ofNat (n / 2 ^ (56 - 8 * k))) := by
        unfold u8v
        rw [UInt8.toNat_ofNat']
        congr 1
      rw [hv]
      have hb2 := HB.out.set k (u8v (UInt8.ofNat (n / 2 ^ (56 - 8 * k))))
      rw [cells_set, ← HWK.out] at hb2
      have HB2 := Lib.hid hb2
      clear hb2 hv
      go_roundw
      case rel => exact ⟨k + 1, by omega, by go_num, Lib.grownBy_setB HG.out k _, HB2.out⟩
      case measure => simp [intOf]; omega
    · obtain rfl : k = 8 := by omega
      have hbt := blk_bts hb (by rw [longK_len]; decide)
      rw [longK_len, longK_all] at hbt
      have hst := hbt.str und22 und5 und9
      have HG := Lib.hid hg
      generalize word8 n = z at *
      clear hlt hg hb hbt
      go_wp2_with fail
      go_ret
      exact ⟨rfl, HGR.out _ HG.out⟩


set_option maxRecDepth 20000 in
set_option maxHeartbeats 1000000 in
theorem rof_none (a : Option Addr) (w : World) : Calls Try.prog 17 #[.slice a 0 0] w (U64 w (dOf [])) := by
  have e : ((dOf [] : Nat) : Int) = 14695981039346656037 := rfl
  unfold U64
  rw [e]
  go_enter Try.func17, Try.ntmps17
  go_wp2_with fail
  go_loop [3, 4] (fun u' i => i = .int .i64 0 ∧ u' = .int .u64 14695981039346656037) (fun _ _ => 0)
  case atStart => exact ⟨rfl, rfl⟩
  case round =>
    obtain ⟨rfl, rfl⟩ := hrel
    go_wp2_with fail
    go_ret
    exact ⟨rfl, World.grownBy.refl _ _⟩

set_option maxRecDepth 10000 in
set_option maxHeartbeats 2000000 in
theorem rof_some (b off c : Nat) (ps : List (List UInt8)) (w : World) (hc : ∀ i (h : i < ps.length), w.cell? ⟨b, off + i, none⟩ = some (.string ⟨ps[i].toArray⟩)) (hl : ps.length ≤ 140737488355328) (hp : ∀ p ∈ ps, p.length ≤ 140737488355328) :
    Calls Try.prog 17 #[.slice (some ⟨b, off, none⟩) ps.length c] w (U64 w (dOf ps)) := by
  have HC := Lib.hid hc
  have HP := Lib.hid hp
  have hm : (ps.length : Int) ≤ 140737488355328 := by omega
  obtain ⟨F, hF⟩ : ∃ F, dOf ps = F := ⟨_, rfl⟩
  have HF := Lib.hid hF
  rw [hF]
  obtain ⟨n, hn⟩ : ∃ n, n = ps.length := ⟨_, rfl⟩
  have HN := Lib.hid hn
  rw [← hn] at hm ⊢
  clear hl hn hF hp hc
  go_enter Try.func17, Try.ntmps17
  go_wp2_with fail
  go_loopw [3, 4] (fun u' i w' => ∃ k : Nat, k ≤ n ∧ i = .int .i64 k ∧ u' = .int .u64 ((dOf (ps.take k) : Nat) : Int) ∧ w.grownBy w' none) (fun _ i w' => n - (intOf i).toNat)
  case atStart => exact ⟨0, Nat.zero_le _, rfl, rfl, World.grownBy.refl _ _⟩
  case round =>
    obtain ⟨k, hk, rfl, rfl, hg⟩ := hrel
    by_cases hlt : k < n
    · have hkl : k < ps.length := by rw [← HN.out]; exact hlt
      have hstep := dOf_take ps k hkl
      have hv := dOf_lt (ps.take k)
      have hpl := HP.out _ (List.getElem_mem hkl)
      have HCELL := Lib.hid (HC.out k hkl)
      generalize ps[k] = p at *
      generalize dOf (ps.take k) = v at *
      have HW := Lib.hid (fun w => rlong_any p.length w (by unfold fnvM; omega))
      have HA := Lib.hid (fun w => rfrom_any v (word8 p.length) w hv (by show 8 ≤ _; omega))
      have HS := Lib.hid (fun w => rfrom_any (sumOn fnvM fnvP v (word8 p.length)) p w (sumOn_lt fnvM_pos _ _ hv) hpl)
      rw [← hstep] at HS
      obtain ⟨z, hz⟩ : ∃ z, dOf (ps.take (k + 1)) = z := ⟨_, rfl⟩
      rw [hz] at HS
      have HZ := Lib.hid hz
      have HWP : Hid (IntKind.u64.wrap (p.length : Int) = (p.length : Int)) := Lib.hid (by rw [IntKind.wrap_u64]; omega)
      generalize sumOn fnvM fnvP v (word8 p.length) = y at *
      generalize word8 p.length = e8 at *
      have hlt2 : (k : Int) < n := by omega
      have HG0 := Lib.hid hg
      have KEEP : Hid (∀ w', wr.grownBy w' none → w'.cell? ⟨b, off + k, none⟩ = some (.string ⟨p.toArray⟩)) := Lib.hid (fun w' hg' => hg'.cell (HG0.out.cell HCELL.out (by simp)) (by simp))
      clear hstep hv hpl hg hz
      go_wp2_with fail
      refine wp_region_noPanic ?_
      refine wp_region_held_drew (S := fun w' => w'.cell? ⟨b, off + k, none⟩ = some (.string ⟨p.toArray⟩)) (by kernel_rfl) (KEEP.out _ (drew_grown _ _)) (fun hHeld => ?_)
      have HG : Hid (wr.grownBy wr.drew none) := Lib.hid (drew_grown _ _)
      refine wpAnyH_take (i := 1) (v := ?_) (by simp only [List.getElem?_toArray, List.getElem?_cons_succ, List.getElem?_cons_zero]; rfl) (by kernel_rfl) (by kernel_rfl) (by kernel_rfl) (fun _ _ _ h => h) (Or.inl ⟨by rfl, ?_⟩) (by assumption) ?_
      rotate_left 1
      · intro w hSw; (try dsimp only at hSw); go_simp; all_goals (with_reducible rfl)
      try simp only [Act.put, List.setIfInBounds_toArray, List.set_cons_zero, List.set_cons_succ]
      refine wpAnyH_take (i := 2) (v := ?_) (by simp only [List.getElem?_toArray, List.getElem?_cons_succ, List.getElem?_cons_zero]; rfl) (by kernel_rfl) (by kernel_rfl) (by kernel_rfl) (fun _ _ _ h => h) (Or.inl ⟨by rfl, ?_⟩) (by assumption) ?_
      rotate_left 1
      · intro w hSw; (try dsimp only at hSw); go_simp; all_goals (with_reducible rfl)
      try simp only [Act.put, List.setIfInBounds_toArray, List.set_cons_zero, List.set_cons_succ]
      refine wpAnyH_take (i := 3) (v := ?_) (by simp only [List.getElem?_toArray, List.getElem?_cons_succ, List.getElem?_cons_zero]; rfl) (by kernel_rfl) (by kernel_rfl) (by kernel_rfl) (fun _ _ _ h => h) (Or.inl ⟨by rfl, ?_⟩) (by assumption) ?_
      rotate_left 1
      · intro w hSw; (try dsimp only at hSw); go_simp; all_goals (with_reducible rfl)
      try simp only [Act.put, List.setIfInBounds_toArray, List.set_cons_zero, List.set_cons_succ]
      refine wpAnyH_take (i := 4) (v := ?_) (by simp only [List.getElem?_toArray, List.getElem?_cons_succ, List.getElem?_cons_zero]; rfl) (by kernel_rfl) (by kernel_rfl) (by kernel_rfl) (fun _ _ _ h => h) (Or.inl ⟨by rfl, ?_⟩) (by assumption) ?_
      rotate_left 1
      · intro w hSw; (try dsimp only at hSw); go_simp; all_goals (with_reducible rfl)
      try simp only [Act.put, List.setIfInBounds_toArray, List.set_cons_zero, List.set_cons_succ]
      refine wpAnyH_take (i := 5) (v := ?_) (by simp only [List.getElem?_toArray, List.getElem?_cons_succ, List.getElem?_cons_zero]; rfl) (by kernel_rfl) (by kernel_rfl) (by kernel_rfl) (fun _ _ _ h => h) (Or.inl ⟨by rfl, ?_⟩) (by assumption) ?_
      rotate_left 1
      · intro w hSw; (try dsimp only at hSw); go_simp; all_goals (with_reducible rfl)
      try simp only [Act.put, List.setIfInBounds_toArray, List.set_cons_zero, List.set_cons_succ]
      refine wpAnyH_take (i := 6) (v := ?_) (by simp only [List.getElem?_toArray, List.getElem?_cons_succ, List.getElem?_cons_zero]; rfl) (by kernel_rfl) (by kernel_rfl) (by kernel_rfl) (fun _ _ _ h => h) (Or.inl ⟨by rfl, ?_⟩) (by assumption) ?_
      rotate_left 1
      · intro w hSw; (try dsimp only at hSw); go_simp; all_goals (with_reducible rfl)
      try simp only [Act.put, List.setIfInBounds_toArray, List.set_cons_zero, List.set_cons_succ]
      rw [HWP.out]
      refine wpAnyH_take (i := 9) (v := ?_) (by simp only [List.getElem?_toArray, List.getElem?_cons_succ, List.getElem?_cons_zero]; rfl) (by kernel_rfl) (by kernel_rfl) (by kernel_rfl) (fun _ _ _ h => h) (Or.inl ⟨by rfl, ?_⟩) (by assumption) ?_
      rotate_left 1
      · intro w hSw; (try dsimp only at hSw); go_simp; all_goals (with_reducible rfl)
      try simp only [Act.put, List.setIfInBounds_toArray, List.set_cons_zero, List.set_cons_succ]
      refine wpAnyH_take (i := 10) (v := ?_) (by simp only [List.getElem?_toArray, List.getElem?_cons_succ, List.getElem?_cons_zero]; rfl) (by kernel_rfl) (by kernel_rfl) (by kernel_rfl) (fun _ _ _ h => h) (Or.inl ⟨by rfl, ?_⟩) (by assumption) ?_
      rotate_left 1
      · intro w hSw; (try dsimp only at hSw); go_simp; all_goals (with_reducible rfl)
      try simp only [Act.put, List.setIfInBounds_toArray, List.set_cons_zero, List.set_cons_succ]
      refine wpAnyH_take (i := 11) (v := ?_) (by simp only [List.getElem?_toArray, List.getElem?_cons_succ, List.getElem?_cons_zero]; rfl) (by kernel_rfl) (by kernel_rfl) (by kernel_rfl) (fun _ _ _ h => h) (Or.inl ⟨by rfl, ?_⟩) (by assumption) ?_
      rotate_left 1
      · intro w hSw; (try dsimp only at hSw); go_simp; all_goals (with_reducible rfl)
      try simp only [Act.put, List.setIfInBounds_toArray, List.set_cons_zero, List.set_cons_succ]
      refine wpAnyH_take (i := 12) (v := ?_) (by simp only [List.getElem?_toArray, List.getElem?_cons_succ, List.getElem?_cons_zero]; rfl) (by kernel_rfl) (by kernel_rfl) (by kernel_rfl) (fun _ _ _ h => h) (Or.inl ⟨by rfl, ?_⟩) (by assumption) ?_
      rotate_left 1
      · intro w hSw; (try dsimp only at hSw); go_simp; all_goals (with_reducible rfl)
      try simp only [Act.put, List.setIfInBounds_toArray, List.set_cons_zero, List.set_cons_succ]
      refine wpAnyH_take (i := 0) (v := ?_) (by simp only [List.getElem?_toArray, List.getElem?_cons_zero]; rfl) (by kernel_rfl) (by kernel_rfl) (by kernel_rfl) (fun _ _ _ h => h) (Or.inl ⟨by rfl, ?_⟩) (by assumption) ?_
      rotate_left 1
      · intro w hSw; (try dsimp only at hSw); go_simp; all_goals (with_reducible rfl)
      try simp only [Act.put, List.setIfInBounds_toArray, List.set_cons_zero, List.set_cons_succ]
      refine wpAnyH_ready (rs := [7]) (by kernel_rfl) (by simp) ?_
      refine AllReadyH.cons (by simp only [List.getElem?_toArray, List.getElem?_cons_succ, List.getElem?_cons_zero]; rfl) (fun K hK => ?_) AllReadyH.nil
      go_simp
      refine (HW.out _).mono ?_; rintro e wn0 ⟨rfl, hg⟩
      clear hHeld
      replace HG := Lib.hid (World.grownBy.trans HG.out hg)
      clear hg
      go_wp2_with fail
      refine hK.out _ _ (KEEP.out _ HG.out) (fun hHeld => ?_)
      clear hK K
      try simp only [Act.put, List.setIfInBounds_toArray, List.set_cons_zero, List.set_cons_succ]
      refine wpAnyH_ready (rs := [8]) (by kernel_rfl) (by simp) ?_
      refine AllReadyH.cons (by simp only [List.getElem?_toArray, List.getElem?_cons_succ, List.getElem?_cons_zero]; rfl) (fun K hK => ?_) AllReadyH.nil
      go_simp
      refine (HA.out _).mono ?_; rintro e wn1 ⟨rfl, hg⟩
      clear hHeld
      replace HG := Lib.hid (World.grownBy.trans HG.out hg)
      clear hg
      go_wp2_with fail
      refine hK.out _ _ (KEEP.out _ HG.out) (fun hHeld => ?_)
      clear hK K
      try simp only [Act.put, List.setIfInBounds_toArray, List.set_cons_zero, List.set_cons_succ]
      refine wpAnyH_ready (rs := [13]) (by kernel_rfl) (by simp) ?_
      refine AllReadyH.cons (by simp only [List.getElem?_toArray, List.getElem?_cons_succ, List.getElem?_cons_zero]; rfl) (fun K hK => ?_) AllReadyH.nil
      go_simp
      refine (HS.out _).mono ?_; rintro e wn2 ⟨rfl, hg⟩
      clear hHeld
      replace HG := Lib.hid (World.grownBy.trans HG.out hg)
      clear hg
      go_wp2_with fail
      refine hK.out _ _ (KEEP.out _ HG.out) (fun hHeld => ?_)
      clear hK K
      try simp only [Act.put, List.setIfInBounds_toArray, List.set_cons_zero, List.set_cons_succ]
      refine wpAnyH_ready (rs := [14]) (by kernel_rfl) (by simp) ?_
      refine AllReadyH.cons (by simp only [List.getElem?_toArray, List.getElem?_cons_succ, List.getElem?_cons_zero]; rfl) (fun K hK => ?_) AllReadyH.nil
      go_simp
      refine hK.out _ _ (KEEP.out _ HG.out) (fun hHeld => ?_)
      clear hK K
      try simp only [Act.put, List.setIfInBounds_toArray, List.set_cons_zero, List.set_cons_succ]
      refine wpAnyH_done (by kernel_rfl) ?_ _
      refine NoPanic.normal ?_
      go_wp2_with fail
      go_roundw
      case rel => exact ⟨k + 1, by omega, by go_num, by rw [HZ.out], World.grownBy.trans HG0.out HG.out⟩
      case measure => simp [intOf]; omega
    · obtain rfl : k = n := by omega
      have hE : ps.take k = ps := List.take_of_length_le (by have := HN.out; omega)
      rw [hE, HF.out]
      have HG := Lib.hid hg
      clear hE hlt hk hg
      go_wp2_with fail
      go_ret
      exact ⟨rfl, HG.out⟩

theorem rof_any (ps : List (List UInt8)) (v : Value) (w : World) (hv : Strs w v ps) (hp : ∀ p ∈ ps, p.length ≤ 140737488355328) (hl : ps.length ≤ 140737488355328) : Calls Try.prog 17 #[v] w (U64 w (dOf ps)) := by
  rcases hv with ⟨rfl, rfl⟩ | ⟨b, o, c, rfl, h1, h2, h3⟩ | ⟨a, rfl, rfl⟩
  · exact rof_none none w
  · exact rof_some b o c ps w h3 hl hp
  · exact rof_none (some a) w

theorem and15 (m : Nat) (h : m < 18446744073709551616) : bits BinOp.and IntKind.u64 (m : Int) 15 = (m : Int) % 16 := by
  have h1 : (BitVec.ofInt 64 (m : Int)).toNat = m := by rw [BitVec.toNat_ofInt]; omega
  have h2 : (BitVec.ofInt 64 15).toNat = 15 := by decide
  show IntKind.u64.wrap ((BitVec.ofInt 64 (m : Int) &&& BitVec.ofInt 64 15).toNat : Int) = _
  rw [BitVec.toNat_and, h1, h2, show (15 : Nat) = 2 ^ 4 - 1 from rfl, Nat.and_two_pow_sub_one_eq_mod, IntKind.wrap_u64]
  omega
theorem str_app (x y : List UInt8) : ((⟨x.toArray⟩ : ByteArray) ++ ⟨y.toArray⟩) = ⟨(x ++ y).toArray⟩ := by
  apply ByteArray.ext
  simp
theorem digs_next (u k : Nat) : digs u (k + 1) = hexd (u / 16 ^ k % 16) :: digs u k := rfl

set_option maxRecDepth 20000 in
set_option maxHeartbeats 2000000 in
theorem rtext_any (n : Nat) (w : World) (hn : n < fnvM) :
    Calls Try.prog 19 #[.int .u64 (n : Int)] w (TX w (dText n)) := by
  unfold fnvM at hn
  have HN := Lib.hid hn
  clear hn
  have HT : Hid (digs n 16 = dText n) := Lib.hid rfl
  generalize dText n = F at *
  go_enter Try.func19, Try.ntmps19
  go_wp2_with fail
  go_loopw [0, 3, 4] (fun x s i w' => ∃ k : Nat, k ≤ 16 ∧ i = .int .i64 k ∧ x = .int .u64 ((n / 16 ^ k : Nat) : Int) ∧ s = .string ⟨(digs n k).toArray⟩ ∧ w.grownBy w' none) (fun _ _ i w' => 16 - (intOf i).toNat)
  case atStart => exact ⟨0, Nat.zero_le _, rfl, by rw [Nat.pow_zero, Nat.div_one], rfl, World.grownBy.refl _ _⟩
  case round =>
    obtain ⟨k, hk1, rfl, rfl, rfl, hg⟩ := hrel
    by_cases hlt : k < 16
    · have hle : n / 16 ^ k < 18446744073709551616 := Nat.lt_of_le_of_lt (Nat.div_le_self _ _) HN.out
      have hS : n / 16 ^ (k + 1) = n / 16 ^ k / 16 := by rw [Nat.pow_succ, Nat.div_div_eq_div_mul]
      have hD := digs_next n k
      have hl := digs_len n k
      have HG := Lib.hid hg
      have HS := Lib.hid hS
      generalize n / 16 ^ k = m at *
      generalize digs n k = t at *
      have hnl : ¬ (9223372036854775807 < 1 + t.length) := by omega
      have hlt2 : (k : Int) < 16 := by omega
      have happ := str_app [hexd (m % 16)] t
      rw [List.singleton_append, ← hD] at happ
      have HD := Lib.hid happ
      have ha := and15 m hle
      have hq2 : m % 16 < 16 := Nat.mod_lt _ (by decide)
      have hst0 := (one_bts wr (hexd (m % 16))).str und22 und5 und9
      by_cases h9 : (9 : Int) < (m : Int) % 16
      · have hx : u8v (hexd (m % 16)) = Value.int .u8 (97 + (m : Int) % 16 - 10) := by
          unfold u8v hexd; rw [if_neg (by omega), UInt8.toNat_ofNat']; congr 1; omega
        rw [hx] at hst0
        clear hS hle hD hl hx happ hq2
        go_wp2_with fail
        go_roundw
        case rel => exact ⟨k + 1, by omega, by go_num, by rw [HS.out]; rfl, by rw [← HD.out], World.grownBy.trans HG.out (World.grownBy_alloc _ _ _)⟩
        case measure => simp [intOf]; omega
      · have hx : u8v (hexd (m % 16)) = Value.int .u8 (48 + (m : Int) % 16) := by
          unfold u8v hexd; rw [if_pos (by omega), UInt8.toNat_ofNat']; congr 1; omega
        rw [hx] at hst0
        clear hS hle hD hl hx happ hq2
        go_wp2_with fail
        go_roundw
        case rel => exact ⟨k + 1, by omega, by go_num, by rw [HS.out]; rfl, by rw [← HD.out], World.grownBy.trans HG.out (World.grownBy_alloc _ _ _)⟩
        case measure => simp [intOf]; omega
    · obtain rfl : k = 16 := by omega
      rw [HT.out]
      have HG := Lib.hid hg
      clear hlt hg
      go_wp2_with fail
      go_ret
      exact ⟨rfl, HG.out⟩

set_option maxRecDepth 20000 in
set_option maxHeartbeats 400000 in
theorem rparse_long (l : List UInt8) (w : World) (hl : l.length ≤ maxLen) (h : l.length ≠ 16) : Calls Try.prog 13 #[.string ⟨l.toArray⟩] w (NE w (0, 4)) := by
  have hm : (l.length : Int) ≤ 9223372036854775807 := by unfold maxLen at hl; omega
  have h1 : ((l.length : Int) == 16) = false := by simp; omega
  have h2 : ((l.length : Int) != 16) = true := by simp; omega
  clear hl h
  go_enter Try.func13, Try.ntmps13
  go_wp2_with fail
  go_ret2
  exact ⟨rfl, World.grownBy.refl _ _⟩

set_option maxRecDepth 10000 in
set_option maxHeartbeats 2000000 in
theorem rparse_16 (l : List UInt8) (w : World) (hl : l.length = 16) : Calls Try.prog 13 #[.string ⟨l.toArray⟩] w (NE w (dParse l)) := by
  have HL := Lib.hid hl
  have hm : ((l.length : Nat) : Int) = 16 := by omega
  clear hl
  go_enter Try.func13, Try.ntmps13
  go_wp2_with fail
  go_loop [4, 5] (fun u' i => ∃ k x : Nat, k ≤ 16 ∧ i = .int .i64 k ∧ u' = .int .u64 (x : Int) ∧ pOf (l.take k) = some x) (fun _ i => 16 - (intOf i).toNat)
  case atStart => exact ⟨0, 0, Nat.zero_le _, rfl, rfl, rfl⟩
  case round =>
    obtain ⟨k, x, hk, rfl, rfl, hx⟩ := hrel
    by_cases hlt : k < 16
    · have hkl : k < l.length := by rw [HL.out]; exact hlt
      have hstep := pOf_take l k hkl
      rw [hx, pOn_some] at hstep
      have hlt2 : (k : Int) < 16 := by omega
      have hx2 : x < 1152921504606846976 := by
        have h := pOf_lt hx
        rw [List.length_take, Nat.min_eq_left (by omega)] at h
        exact Nat.lt_of_lt_of_le h (Nat.pow_le_pow_right (n := 16) (by omega) (show k ≤ 15 by omega))
      have hget : ((⟨l.toArray⟩ : ByteArray)[k]'(by show k < l.length; exact hkl)).toNat = l[k].toNat := rfl
      have hq := l[k].toNat_lt
      have hx3 : (x : Int) * 16 < 18446744073709551616 ∧ (x : Int) * 16 ≤ 18446744073709551615 := by omega
      obtain ⟨q, hqe⟩ : ∃ q, l[k].toNat = q := ⟨_, rfl⟩
      rw [hqe] at hget hq
      have HQ := Lib.hid hqe
      have HGET := Lib.hid hget
      have hcell : (Value.int IntKind.u8 ((((⟨l.toArray⟩ : ByteArray)[k]'(by show k < l.length; exact hkl)).toNat : Nat) : Int)) = .int .u8 (q : Int) := by rw [hget]
      by_cases c1 : 48 ≤ q ∧ q ≤ 57
      · obtain ⟨d, hdq⟩ : ∃ d, d = q - 48 := ⟨_, rfl⟩
        have hd : dval l[k] = some d := by unfold dval; rw [hqe, if_pos c1, hdq]
        have hde : ((d : Nat) : Int) = (q : Int) - 48 := by omega
        have g1 : (48 : Int) ≤ (q : Int) := by omega
        have g2 : (q : Int) ≤ 57 := by omega

        have hS : pOf (l.take (k + 1)) = some (x * 16 + d) := by rw [hstep, hd]; rfl
        have HS := Lib.hid hS
        have HV := Lib.hid (or_dig x d hx2 (by omega))
        rw [hde] at HV
        clear hstep hx hx2 hd hS
        go_wp2_with fail
        go_round
        case rel => exact ⟨k + 1, x * 16 + d, by omega, by go_num, congrArg (Value.int IntKind.u64) HV.out, HS.out⟩
        case measure => simp [intOf]; omega
      · by_cases c2 : 97 ≤ q ∧ q ≤ 102
        · obtain ⟨d, hdq⟩ : ∃ d, d = q - 87 := ⟨_, rfl⟩
          have hd : dval l[k] = some d := by unfold dval; rw [hqe, if_neg c1, if_pos c2, hdq]
          have hde : ((d : Nat) : Int) = (q : Int) - 97 + 10 := by omega
          have g1 : (97 : Int) ≤ (q : Int) := by omega
          have g2 : (q : Int) ≤ 102 := by omega
          have hS : pOf (l.take (k + 1)) = some (x * 16 + d) := by rw [hstep, hd]; rfl
          have HS := Lib.hid hS
          have HV := Lib.hid (or_dig x d hx2 (by omega))
          rw [hde] at HV
          have g3 : (48 : Int) ≤ (q : Int) := by omega
          have g4 : ¬ (q : Int) ≤ 57 := by omega
          clear hstep hx hx2 hd hS c1
          go_wp2_with fail
          go_round
          case rel => exact ⟨k + 1, x * 16 + d, by omega, by go_num, congrArg (Value.int IntKind.u64) HV.out, HS.out⟩
          case measure => simp [intOf]; omega
        · have hd : dval l[k] = none := by unfold dval; rw [hqe, if_neg c1, if_neg c2]
          have HE : Hid (dParse l = (0, 4)) := Lib.hid (dParse_none HL.out (pOf_short (k := k + 1) (by rw [hstep, hd]; rfl)))
          clear hstep hx hx2 hd
          by_cases g1 : (48 : Int) ≤ (q : Int)
          · have g2 : ¬ (q : Int) ≤ 57 := by omega
            by_cases g3 : (97 : Int) ≤ (q : Int)
            · have g4 : ¬ (q : Int) ≤ 102 := by omega
              clear c1 c2
              go_wp2_with fail
              go_ret2
              rw [HE.out]
              exact ⟨rfl, World.grownBy.refl _ _⟩
            · clear c1 c2
              go_wp2_with fail
              go_ret2
              rw [HE.out]
              exact ⟨rfl, World.grownBy.refl _ _⟩
          · have g3 : ¬ (97 : Int) ≤ (q : Int) := by omega
            clear c1 c2
            go_wp2_with fail
            go_ret2
            rw [HE.out]
            exact ⟨rfl, World.grownBy.refl _ _⟩
    · obtain rfl : k = 16 := by omega
      rw [List.take_of_length_le (by rw [HL.out]; exact Nat.le_refl _)] at hx
      have HE := Lib.hid (dParse_some HL.out hx)
      clear hlt hk hx
      go_wp2_with fail
      go_ret2
      rw [HE.out]
      exact ⟨rfl, World.grownBy.refl _ _⟩

theorem rparse_any (l : List UInt8) (w : World) (hl : l.length ≤ maxLen) : Calls Try.prog 13 #[.string ⟨l.toArray⟩] w (NE w (dParse l)) := by
  by_cases h : l.length = 16
  · exact rparse_16 l w h
  · rw [dParse_long h]; exact rparse_long l w hl h
end Go.Proofs.Ytdicoojodefacaa
