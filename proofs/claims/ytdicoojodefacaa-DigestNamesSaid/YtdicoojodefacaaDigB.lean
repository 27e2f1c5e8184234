/- The code's sum of parts, texts of sums, and hashes. -/
import Derived.Test.YtdicoojodefacaaDigA
import Derived.Test.YtdicoojodefacaaStrs
import Derived.Deep.RegionHeld3
import Derived.Lib.Bytealg
namespace Go.Proofs.Ytdicoojodefacaa
open Go.RowKit

set_option maxRecDepth 20000 in
set_option maxHeartbeats 1000000 in
theorem of_none (a : Option Addr) (w : World) : Calls Try.prog 16 #[.slice a 0 0] w (U64 w (dOf [])) := by
  have e : ((dOf [] : Nat) : Int) = 14695981039346656037 := rfl
  unfold U64
  rw [e]
  go_enter Try.func16, Try.ntmps16
  go_wp2_with fail
  go_loop [3, 7] (fun u' i => i = .int .i64 0 ∧ u' = .int .u64 14695981039346656037) (fun _ _ => 0)
  case atStart => exact ⟨rfl, rfl⟩
  case round =>
    obtain ⟨rfl, rfl⟩ := hrel
    go_wp2_with fail
    go_ret
    exact ⟨rfl, World.grownBy.refl _ _⟩

theorem dOf_take (ps : List (List UInt8)) (k : Nat) (h : k < ps.length) : dOf (ps.take (k + 1)) = sumOn fnvM fnvP (sumOn fnvM fnvP (dOf (ps.take k)) (word8 ps[k].length)) ps[k] := by
  rw [List.take_succ_eq_append_getElem h, dOf_snoc]

set_option maxRecDepth 10000 in
set_option maxHeartbeats 2000000 in
theorem of_some (b off c : Nat) (ps : List (List UInt8)) (w : World) (hc : ∀ i (h : i < ps.length), w.cell? ⟨b, off + i, none⟩ = some (.string ⟨ps[i].toArray⟩)) (hl : ps.length ≤ 140737488355328) (hp : ∀ p ∈ ps, p.length ≤ 140737488355328) :
    Calls Try.prog 16 #[.slice (some ⟨b, off, none⟩) ps.length c] w (U64 w (dOf ps)) := by
  have HC := Lib.hid hc
  have HP := Lib.hid hp
  have hm : (ps.length : Int) ≤ 140737488355328 := by omega
  obtain ⟨F, hF⟩ : ∃ F, dOf ps = F := ⟨_, rfl⟩
  have HF := Lib.hid hF
  rw [hF]
  obtain ⟨n, hn⟩ : ∃ n, n = ps.length := ⟨_, rfl⟩
  have HN := Lib.hid hn
  rw [← hn] at hm ⊢
  clear hl hn hF hp hc
  go_enter Try.func16, Try.ntmps16
  go_wp2_with fail
  go_loopw [3, 7] (fun u' i w' => ∃ k : Nat, k ≤ n ∧ i = .int .i64 k ∧ u' = .int .u64 ((dOf (ps.take k) : Nat) : Int) ∧ w.grownBy w' none) (fun _ i w' => n - (intOf i).toNat)
  case atStart => exact ⟨0, Nat.zero_le _, rfl, rfl, World.grownBy.refl _ _⟩
  case round =>
    obtain ⟨k, hk, rfl, rfl, hg⟩ := hrel
    by_cases hlt : k < n
    · have hkl : k < ps.length := by rw [← HN.out]; exact hlt
      have hstep := dOf_take ps k hkl
      have hv := dOf_lt (ps.take k)
      have hpl := HP.out _ (List.getElem_mem hkl)
      have HCELL := Lib.hid (HC.out k hkl)
      generalize ps[k] = p at *
      generalize dOf (ps.take k) = v at *
      have HW := Lib.hid (fun w => word_any p.length w hpl)
      have HA := Lib.hid (fun x w (hx : Bts w x (word8 p.length)) => add_bts v (word8 p.length) x w hv (by show 8 ≤ _; omega) hx)
      have HS := Lib.hid (fun w => add_str (sumOn fnvM fnvP v (word8 p.length)) p w (sumOn_lt fnvM_pos _ _ hv) hpl)
      rw [← hstep] at HS
      obtain ⟨z, hz⟩ : ∃ z, dOf (ps.take (k + 1)) = z := ⟨_, rfl⟩
      rw [hz] at HS
      have HZ := Lib.hid hz
      generalize sumOn fnvM fnvP v (word8 p.length) = y at *
      have hsz : ((⟨p.toArray⟩ : ByteArray).size : Int) = p.length := rfl
      have hlt2 : (k : Int) < n := by omega
      have HG0 := Lib.hid hg
      have KEEP : Hid (∀ w', wr.grownBy w' none → w'.cell? ⟨b, off + k, none⟩ = some (.string ⟨p.toArray⟩)) := Lib.hid (fun w' hg' => hg'.cell (HG0.out.cell HCELL.out (by simp)) (by simp))
      clear hstep hv hpl hg hz
      go_wp2_with fail
      refine wp_region_noPanic ?_
      refine wp_region_held_drew (S := fun w' => w'.cell? ⟨b, off + k, none⟩ = some (.string ⟨p.toArray⟩)) (by kernel_rfl) (KEEP.out _ (drew_grown _ _)) (fun hHeld => ?_)
      have HG : Hid (wr.grownBy wr.drew none) := Lib.hid (drew_grown _ _)
      refine wpAnyH_take (i := 1) (v := ?_) (by simp only [List.getElem?_toArray, List.getElem?_cons_succ, List.getElem?_cons_zero]; rfl) (by kernel_rfl) (by kernel_rfl) (by kernel_rfl) (fun _ _ _ h => h) (Or.inl ⟨by rfl, ?_⟩) (by assumption) ?_
      rotate_left 1
      · intro w hSw; (try dsimp only at hSw); go_simp; all_goals (with_reducible rfl)
      try simp only [Act.put, List.setIfInBounds_toArray, List.set_cons_zero, List.set_cons_succ]
      refine wpAnyH_take (i := 2) (v := ?_) (by simp only [List.getElem?_toArray, List.getElem?_cons_succ, List.getElem?_cons_zero]; rfl) (by kernel_rfl) (by kernel_rfl) (by kernel_rfl) (fun _ _ _ h => h) (Or.inl ⟨by rfl, ?_⟩) (by assumption) ?_
      rotate_left 1
      · intro w hSw; (try dsimp only at hSw); go_simp; all_goals (with_reducible rfl)
      try simp only [Act.put, List.setIfInBounds_toArray, List.set_cons_zero, List.set_cons_succ]
      refine wpAnyH_take (i := 3) (v := ?_) (by simp only [List.getElem?_toArray, List.getElem?_cons_succ, List.getElem?_cons_zero]; rfl) (by kernel_rfl) (by kernel_rfl) (by kernel_rfl) (fun _ _ _ h => h) (Or.inl ⟨by rfl, ?_⟩) (by assumption) ?_
      rotate_left 1
      · intro w hSw; (try dsimp only at hSw); go_simp; all_goals (with_reducible rfl)
      try simp only [Act.put, List.setIfInBounds_toArray, List.set_cons_zero, List.set_cons_succ]
      refine wpAnyH_take (i := 4) (v := ?_) (by simp only [List.getElem?_toArray, List.getElem?_cons_succ, List.getElem?_cons_zero]; rfl) (by kernel_rfl) (by kernel_rfl) (by kernel_rfl) (fun _ _ _ h => h) (Or.inl ⟨by rfl, ?_⟩) (by assumption) ?_
      rotate_left 1
      · intro w hSw; (try dsimp only at hSw); go_simp; all_goals (with_reducible rfl)
      try simp only [Act.put, List.setIfInBounds_toArray, List.set_cons_zero, List.set_cons_succ]
      refine wpAnyH_take (i := 5) (v := ?_) (by simp only [List.getElem?_toArray, List.getElem?_cons_succ, List.getElem?_cons_zero]; rfl) (by kernel_rfl) (by kernel_rfl) (by kernel_rfl) (fun _ _ _ h => h) (Or.inl ⟨by rfl, ?_⟩) (by assumption) ?_
      rotate_left 1
      · intro w hSw; (try dsimp only at hSw); go_simp; all_goals (with_reducible rfl)
      try simp only [Act.put, List.setIfInBounds_toArray, List.set_cons_zero, List.set_cons_succ]
      refine wpAnyH_take (i := 8) (v := ?_) (by simp only [List.getElem?_toArray, List.getElem?_cons_succ, List.getElem?_cons_zero]; rfl) (by kernel_rfl) (by kernel_rfl) (by kernel_rfl) (fun _ _ _ h => h) (Or.inl ⟨by rfl, ?_⟩) (by assumption) ?_
      rotate_left 1
      · intro w hSw; (try dsimp only at hSw); go_simp; all_goals (with_reducible rfl)
      try simp only [Act.put, List.setIfInBounds_toArray, List.set_cons_zero, List.set_cons_succ]
      refine wpAnyH_take (i := 9) (v := ?_) (by simp only [List.getElem?_toArray, List.getElem?_cons_succ, List.getElem?_cons_zero]; rfl) (by kernel_rfl) (by kernel_rfl) (by kernel_rfl) (fun _ _ _ h => h) (Or.inl ⟨by rfl, ?_⟩) (by assumption) ?_
      rotate_left 1
      · intro w hSw; (try dsimp only at hSw); go_simp; all_goals (with_reducible rfl)
      try simp only [Act.put, List.setIfInBounds_toArray, List.set_cons_zero, List.set_cons_succ]
      refine wpAnyH_take (i := 10) (v := ?_) (by simp only [List.getElem?_toArray, List.getElem?_cons_succ, List.getElem?_cons_zero]; rfl) (by kernel_rfl) (by kernel_rfl) (by kernel_rfl) (fun _ _ _ h => h) (Or.inl ⟨by rfl, ?_⟩) (by assumption) ?_
      rotate_left 1
      · intro w hSw; (try dsimp only at hSw); go_simp; all_goals (with_reducible rfl)
      try simp only [Act.put, List.setIfInBounds_toArray, List.set_cons_zero, List.set_cons_succ]
      refine wpAnyH_take (i := 11) (v := ?_) (by simp only [List.getElem?_toArray, List.getElem?_cons_succ, List.getElem?_cons_zero]; rfl) (by kernel_rfl) (by kernel_rfl) (by kernel_rfl) (fun _ _ _ h => h) (Or.inl ⟨by rfl, ?_⟩) (by assumption) ?_
      rotate_left 1
      · intro w hSw; (try dsimp only at hSw); go_simp; all_goals (with_reducible rfl)
      try simp only [Act.put, List.setIfInBounds_toArray, List.set_cons_zero, List.set_cons_succ]
      refine wpAnyH_take (i := 0) (v := ?_) (by simp only [List.getElem?_toArray, List.getElem?_cons_zero]; rfl) (by kernel_rfl) (by kernel_rfl) (by kernel_rfl) (fun _ _ _ h => h) (Or.inl ⟨by rfl, ?_⟩) (by assumption) ?_
      rotate_left 1
      · intro w hSw; (try dsimp only at hSw); go_simp; all_goals (with_reducible rfl)
      try simp only [Act.put, List.setIfInBounds_toArray, List.set_cons_zero, List.set_cons_succ]
      refine wpAnyH_ready (rs := [6]) (by kernel_rfl) (by simp) ?_
      refine AllReadyH.cons (by simp only [List.getElem?_toArray, List.getElem?_cons_succ, List.getElem?_cons_zero]; rfl) (fun K hK => ?_) AllReadyH.nil
      go_simp
      refine (HW.out _).mono ?_; rintro e wn0 ⟨x, rfl, hx, hg⟩
      obtain ⟨xa, xn, xc, rfl⟩ := hx.shape
      have HX := Lib.hid hx
      clear hHeld hx
      replace HG := Lib.hid (World.grownBy.trans HG.out hg)
      clear hg
      go_wp2_with fail
      refine hK.out _ _ (KEEP.out _ HG.out) (fun hHeld => ?_)
      clear hK K
      try simp only [Act.put, List.setIfInBounds_toArray, List.set_cons_zero, List.set_cons_succ]
      refine wpAnyH_ready (rs := [7]) (by kernel_rfl) (by simp) ?_
      refine AllReadyH.cons (by simp only [List.getElem?_toArray, List.getElem?_cons_succ, List.getElem?_cons_zero]; rfl) (fun K hK => ?_) AllReadyH.nil
      go_simp
      refine (HA.out _ _ HX.out).mono ?_; rintro e wn1 ⟨rfl, hg⟩
      clear hHeld
      replace HG := Lib.hid (World.grownBy.trans HG.out hg)
      clear hg HX
      go_wp2_with fail
      refine hK.out _ _ (KEEP.out _ HG.out) (fun hHeld => ?_)
      clear hK K
      try simp only [Act.put, List.setIfInBounds_toArray, List.set_cons_zero, List.set_cons_succ]
      refine wpAnyH_ready (rs := [12]) (by kernel_rfl) (by simp) ?_
      refine AllReadyH.cons (by simp only [List.getElem?_toArray, List.getElem?_cons_succ, List.getElem?_cons_zero]; rfl) (fun K hK => ?_) AllReadyH.nil
      go_simp
      refine (HS.out _).mono ?_; rintro e wn2 ⟨rfl, hg⟩
      clear hHeld
      replace HG := Lib.hid (World.grownBy.trans HG.out hg)
      clear hg
      go_wp2_with fail
      refine hK.out _ _ (KEEP.out _ HG.out) (fun hHeld => ?_)
      clear hK K
      try simp only [Act.put, List.setIfInBounds_toArray, List.set_cons_zero, List.set_cons_succ]
      refine wpAnyH_ready (rs := [13]) (by kernel_rfl) (by simp) ?_
      refine AllReadyH.cons (by simp only [List.getElem?_toArray, List.getElem?_cons_succ, List.getElem?_cons_zero]; rfl) (fun K hK => ?_) AllReadyH.nil
      go_simp
      refine hK.out _ _ (KEEP.out _ HG.out) (fun hHeld => ?_)
      clear hK K
      try simp only [Act.put, List.setIfInBounds_toArray, List.set_cons_zero, List.set_cons_succ]
      refine wpAnyH_done (by kernel_rfl) ?_ _
      refine NoPanic.normal ?_
      go_wp2_with fail
      go_roundw
      case rel => exact ⟨k + 1, by omega, by go_num, by rw [HZ.out], World.grownBy.trans HG0.out HG.out⟩
      case measure => simp [intOf]; omega
    · obtain rfl : k = n := by omega
      have hE : ps.take k = ps := List.take_of_length_le (by have := HN.out; omega)
      rw [hE, HF.out]
      have HG := Lib.hid hg
      clear hE hlt hk hg
      go_wp2_with fail
      go_ret
      exact ⟨rfl, HG.out⟩

theorem of_any (ps : List (List UInt8)) (v : Value) (w : World) (hv : Strs w v ps) (hp : ∀ p ∈ ps, p.length ≤ 140737488355328) (hl : ps.length ≤ 140737488355328) : Calls Try.prog 16 #[v] w (U64 w (dOf ps)) := by
  rcases hv with ⟨rfl, rfl⟩ | ⟨b, o, c, rfl, h1, h2, h3⟩ | ⟨a, rfl, rfl⟩
  · exact of_none none w
  · exact of_some b o c ps w h3 hl hp
  · exact of_none (some a) w
end Go.Proofs.Ytdicoojodefacaa
