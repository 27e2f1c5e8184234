/- The document's Encode. -/
import Derived.Test.YtpklgcinijlmmaaHanS
import Derived.Laws.BitsAllLaws
import Derived.Deep.RegionHeld3
import Derived.LoopTactic
namespace Go.Proofs.Ytpklgcinijlmmaa
open Go.RowKit

theorem drew_grown (w : World) (row : Option Nat) : w.grownBy w.drew row := ⟨rfl, rfl, rfl, Nat.le_refl _, fun _ _ _ => rfl⟩
theorem str_app (x y : List UInt8) : ((⟨x.toArray⟩ : ByteArray) ++ ⟨y.toArray⟩) = ⟨(x ++ y).toArray⟩ := by
  apply ByteArray.ext
  simp

theorem step_value (u : Nat) (x : UInt8) (hu : u < 18446744073709551616) : IntKind.u64.wrap (bits BinOp.xor IntKind.u64 (u : Int) (IntKind.u64.wrap (x.toNat : Int)) * 1099511628211) = ((sumStep fnvM fnvP u x : Nat) : Int) := by
  have hx := x.toNat_lt
  rw [show IntKind.u64.wrap (x.toNat : Int) = (x.toNat : Int) by rw [IntKind.wrap_u64]; omega, u64_xor_nat u x.toNat hu (by omega), IntKind.wrap_u64]
  unfold sumStep fnvM fnvP
  generalize u ^^^ x.toNat = m
  omega

set_option maxRecDepth 20000 in
set_option maxHeartbeats 1000000 in
theorem renc_bad (h : Hn) (w : World) (hm : ¬ hMay h) : Calls Try.prog 45 #[hnV h] w (TE w ([], 4)) := by
  have HM := Lib.hid (fun w => rmay_any h w)
  rw [decide_eq_false hm] at HM
  clear hm
  unfold hnV at *
  go_enter Try.func45, Try.ntmps45
  go_wp2_with fail
  refine (HM.out _).mono ?_; rintro e w' ⟨rfl, h2⟩; have H2 := Lib.hid h2; clear h2
  go_wp2_with fail
  go_ret2
  exact ⟨rfl, World.grownBy.trans (World.grownBy_alloc _ _ _) H2.out⟩

set_option maxRecDepth 10000 in
set_option maxHeartbeats 4000000 in
theorem renc_ok (s i g : Nat) (w : World) (hm : hMay ⟨s, i, g⟩) : Calls Try.prog 45 #[hnV ⟨s, i, g⟩] w (TE w (hB fnv ⟨s, i, g⟩, 0)) := by
  have HM := Lib.hid (fun w => rmay_any ⟨s, i, g⟩ w)
  rw [decide_eq_true hm] at HM
  have bs : s < 4294967296 := by have := hm.1; unfold isC at this; dsimp at this; omega
  have bi : i < 4294967296 := by have := hm.2.1; unfold isC at this; dsimp at this; omega
  have bg : g < 4294967296 := by have := hm.2.2.2; unfold isC at this; dsimp at this; omega
  have HW1 := Lib.hid (fun w => rword4_any 1 w (by decide))
  have HWs := Lib.hid (fun w => rword4_any s w bs)
  have HWi := Lib.hid (fun w => rword4_any i w bi)
  have HWg := Lib.hid (fun w => rword4_any g w bg)
  obtain ⟨T, hT⟩ : ∃ T, hB fnv ⟨s, i, g⟩ = T := ⟨_, rfl⟩
  rw [hT]
  obtain ⟨l, hl⟩ : ∃ l, h16 ⟨s, i, g⟩ = l := ⟨_, rfl⟩
  have HT : Hid (l ++ sum8 (fnv l) = T) := Lib.hid (by rw [← hl, ← hT]; rfl)
  have HLEN : Hid (l.length = 16) := Lib.hid (by rw [← hl]; rfl)
  have hl4 : word4 1 ++ word4 s ++ word4 i ++ word4 g = l := by rw [← hl]; rfl
  have e1 := str_app (word4 1) (word4 s)
  have e2 := str_app (word4 1 ++ word4 s) (word4 i)
  have e3 := str_app (word4 1 ++ word4 s ++ word4 i) (word4 g)
  rw [hl4] at e3
  have E := Lib.hid (And.intro e1 (And.intro e2 e3))
  have l1 : (word4 1).length = 4 := rfl
  have ls : (word4 s).length = 4 := rfl
  have li : (word4 i).length = 4 := rfl
  have lg : (word4 g).length = 4 := rfl
  have n1 : ¬ 9223372036854775807 < (word4 1).length + (word4 s).length := by omega
  have n2 : ¬ 9223372036854775807 < (word4 1).length + (word4 s).length + (word4 i).length := by omega
  have n3 : ¬ 9223372036854775807 < (word4 1).length + (word4 s).length + (word4 i).length + (word4 g).length := by omega
  have NN := Lib.hid (And.intro n1 (And.intro n2 n3))
  clear e1 e2 e3 l1 ls li lg n1 n2 n3 hl4 hT hl bs bi bg hm
  unfold hnV at *
  generalize word4 1 = A at *
  generalize word4 s = B at *
  generalize word4 i = C at *
  generalize word4 g = D at *
  go_enter Try.func45, Try.ntmps45
  go_wp2_with fail
  refine (HM.out _).mono ?_; rintro e w1 ⟨rfl, h2⟩
  have hblk := (Blk.made w 24 #[.int .i64 s, .int .i64 i, .int .i64 g]).new h2
  have HB := Lib.hid hblk
  have G := Lib.hid (World.grownBy.trans (World.grownBy_alloc w (.cells #[.int .i64 s, .int .i64 i, .int .i64 g] 24) none) h2)
  clear hblk h2 HM
  generalize w.heap.size = K at *
  go_wp2_with fail
  have KEEP : Hid (∀ w', w1.grownBy w' none → (w'.cell? ⟨K, 0, none⟩ = some (.int .i64 s) ∧ w'.cell? ⟨K, 1, none⟩ = some (.int .i64 i) ∧ w'.cell? ⟨K, 2, none⟩ = some (.int .i64 g))) := Lib.hid (fun w' hg => ⟨(HB.out.new hg).cell (i := 0) rfl, (HB.out.new hg).cell (i := 1) rfl, (HB.out.new hg).cell (i := 2) rfl⟩)
  refine wp_region_noPanic ?_
  refine wp_region_held_drew (S := fun w' => w'.cell? ⟨K, 0, none⟩ = some (.int .i64 s) ∧ w'.cell? ⟨K, 1, none⟩ = some (.int .i64 i) ∧ w'.cell? ⟨K, 2, none⟩ = some (.int .i64 g)) (by kernel_rfl) (KEEP.out _ (drew_grown _ _)) (fun hHeld => ?_)
  have HG : Hid (w1.grownBy w1.drew none) := Lib.hid (drew_grown _ _)
  refine wpAnyH_take (i := 1) (v := ?_) (by simp only [List.getElem?_toArray, List.getElem?_cons_succ, List.getElem?_cons_zero]; rfl) (by kernel_rfl) (by kernel_rfl) (by kernel_rfl) (fun _ _ _ h => h) (Or.inl ⟨by rfl, ?_⟩) (by assumption) ?_
  rotate_left 1
  · intro w hSw; (try dsimp only at hSw); go_simp; all_goals (with_reducible rfl)
  try simp only [Act.put, List.setIfInBounds_toArray, List.set_cons_zero, List.set_cons_succ]
  refine wpAnyH_take (i := 2) (v := ?_) (by simp only [List.getElem?_toArray, List.getElem?_cons_succ, List.getElem?_cons_zero]; rfl) (by kernel_rfl) (by kernel_rfl) (by kernel_rfl) (fun _ _ _ h => h) (Or.inl ⟨by rfl, ?_⟩) (by assumption) ?_
  rotate_left 1
  · intro w hSw; (try dsimp only at hSw); go_simp; all_goals (with_reducible rfl)
  try simp only [Act.put, List.setIfInBounds_toArray, List.set_cons_zero, List.set_cons_succ]
  refine wpAnyH_take (i := 5) (v := ?_) (by simp only [List.getElem?_toArray, List.getElem?_cons_succ, List.getElem?_cons_zero]; rfl) (by kernel_rfl) (by kernel_rfl) (by kernel_rfl) (fun _ _ _ h => h) (Or.inl ⟨by rfl, ?_⟩) (by assumption) ?_
  rotate_left 1
  · intro w hSw; (try dsimp only at hSw); go_simp; all_goals (with_reducible rfl)
  try simp only [Act.put, List.setIfInBounds_toArray, List.set_cons_zero, List.set_cons_succ]
  refine wpAnyH_take (i := 6) (v := ?_) (by simp only [List.getElem?_toArray, List.getElem?_cons_succ, List.getElem?_cons_zero]; rfl) (by kernel_rfl) (by kernel_rfl) (by kernel_rfl) (fun _ _ _ h => h) (Or.inl ⟨by rfl, ?_⟩) (by assumption) ?_
  rotate_left 1
  · intro w hSw; (try dsimp only at hSw); go_simp; all_goals (with_reducible rfl)
  try simp only [Act.put, List.setIfInBounds_toArray, List.set_cons_zero, List.set_cons_succ]
  refine wpAnyH_take (i := 9) (v := ?_) (by simp only [List.getElem?_toArray, List.getElem?_cons_succ, List.getElem?_cons_zero]; rfl) (by kernel_rfl) (by kernel_rfl) (by kernel_rfl) (fun _ _ _ h => h) (Or.inl ⟨by rfl, ?_⟩) (by assumption) ?_
  rotate_left 1
  · intro w hSw; (try dsimp only at hSw); go_simp; all_goals (with_reducible rfl)
  try simp only [Act.put, List.setIfInBounds_toArray, List.set_cons_zero, List.set_cons_succ]
  refine wpAnyH_take (i := 10) (v := ?_) (by simp only [List.getElem?_toArray, List.getElem?_cons_succ, List.getElem?_cons_zero]; rfl) (by kernel_rfl) (by kernel_rfl) (by kernel_rfl) (fun _ _ _ h => h) (Or.inl ⟨by rfl, ?_⟩) (by assumption) ?_
  rotate_left 1
  · intro w hSw; (try dsimp only at hSw); go_simp; all_goals (with_reducible rfl)
  try simp only [Act.put, List.setIfInBounds_toArray, List.set_cons_zero, List.set_cons_succ]
  refine wpAnyH_ready (rs := [0]) (by kernel_rfl) (by simp) ?_
  refine AllReadyH.cons (by simp only [List.getElem?_toArray, List.getElem?_cons_zero]; rfl) (fun K hK => ?_) AllReadyH.nil
  go_simp
  refine (HW1.out _).mono ?_; rintro e wn0 ⟨rfl, hg⟩
  clear hHeld
  replace HG := Lib.hid (World.grownBy.trans HG.out hg)
  clear hg
  go_wp2_with fail
  refine hK.out _ _ (KEEP.out _ HG.out) (fun hHeld => ?_)
  clear hK K
  try simp only [Act.put, List.setIfInBounds_toArray, List.set_cons_zero, List.set_cons_succ]
  refine wpAnyH_ready (rs := [3]) (by kernel_rfl) (by simp) ?_
  refine AllReadyH.cons (by simp only [List.getElem?_toArray, List.getElem?_cons_succ, List.getElem?_cons_zero]; rfl) (fun K hK => ?_) AllReadyH.nil
  go_simp
  refine (HWs.out _).mono ?_; rintro e wn1 ⟨rfl, hg⟩
  clear hHeld
  replace HG := Lib.hid (World.grownBy.trans HG.out hg)
  clear hg
  go_wp2_with fail
  refine hK.out _ _ (KEEP.out _ HG.out) (fun hHeld => ?_)
  clear hK K
  try simp only [Act.put, List.setIfInBounds_toArray, List.set_cons_zero, List.set_cons_succ]
  have nn := NN.out.1
  refine wpAnyH_take (i := 4) (v := ?_) (by simp only [List.getElem?_toArray, List.getElem?_cons_succ, List.getElem?_cons_zero]; rfl) (by kernel_rfl) (by kernel_rfl) (by kernel_rfl) (fun _ _ _ h => h) (Or.inl ⟨by rfl, ?_⟩) (by assumption) ?_
  rotate_left 1
  · intro w hSw; (try dsimp only at hSw); go_simp; all_goals (with_reducible rfl)
  try simp only [Act.put, List.setIfInBounds_toArray, List.set_cons_zero, List.set_cons_succ]
  clear nn
  refine wpAnyH_ready (rs := [7]) (by kernel_rfl) (by simp) ?_
  refine AllReadyH.cons (by simp only [List.getElem?_toArray, List.getElem?_cons_succ, List.getElem?_cons_zero]; rfl) (fun K hK => ?_) AllReadyH.nil
  go_simp
  refine (HWi.out _).mono ?_; rintro e wn2 ⟨rfl, hg⟩
  clear hHeld
  replace HG := Lib.hid (World.grownBy.trans HG.out hg)
  clear hg
  go_wp2_with fail
  refine hK.out _ _ (KEEP.out _ HG.out) (fun hHeld => ?_)
  clear hK K
  try simp only [Act.put, List.setIfInBounds_toArray, List.set_cons_zero, List.set_cons_succ]
  have nn := NN.out.2.1
  refine wpAnyH_take (i := 8) (v := ?_) (by simp only [List.getElem?_toArray, List.getElem?_cons_succ, List.getElem?_cons_zero]; rfl) (by kernel_rfl) (by kernel_rfl) (by kernel_rfl) (fun _ _ _ h => h) (Or.inl ⟨by rfl, ?_⟩) (by assumption) ?_
  rotate_left 1
  · intro w hSw; (try dsimp only at hSw); go_simp; all_goals (with_reducible rfl)
  try simp only [Act.put, List.setIfInBounds_toArray, List.set_cons_zero, List.set_cons_succ]
  clear nn
  refine wpAnyH_ready (rs := [11]) (by kernel_rfl) (by simp) ?_
  refine AllReadyH.cons (by simp only [List.getElem?_toArray, List.getElem?_cons_succ, List.getElem?_cons_zero]; rfl) (fun K hK => ?_) AllReadyH.nil
  go_simp
  refine (HWg.out _).mono ?_; rintro e wn3 ⟨rfl, hg⟩
  clear hHeld
  replace HG := Lib.hid (World.grownBy.trans HG.out hg)
  clear hg
  go_wp2_with fail
  refine hK.out _ _ (KEEP.out _ HG.out) (fun hHeld => ?_)
  clear hK K
  try simp only [Act.put, List.setIfInBounds_toArray, List.set_cons_zero, List.set_cons_succ]
  have nn := NN.out.2.2
  refine wpAnyH_take (i := 12) (v := ?_) (by simp only [List.getElem?_toArray, List.getElem?_cons_succ, List.getElem?_cons_zero]; rfl) (by kernel_rfl) (by kernel_rfl) (by kernel_rfl) (fun _ _ _ h => h) (Or.inl ⟨by rfl, ?_⟩) (by assumption) ?_
  rotate_left 1
  · intro w hSw; (try dsimp only at hSw); go_simp; all_goals (with_reducible rfl)
  try simp only [Act.put, List.setIfInBounds_toArray, List.set_cons_zero, List.set_cons_succ]
  clear nn
  refine wpAnyH_ready (rs := [13]) (by kernel_rfl) (by simp) ?_
  refine AllReadyH.cons (by simp only [List.getElem?_toArray, List.getElem?_cons_succ, List.getElem?_cons_zero]; rfl) (fun K hK => ?_) AllReadyH.nil
  go_simp
  refine hK.out _ _ (KEEP.out _ HG.out) (fun hHeld => ?_)
  clear hK K
  try simp only [Act.put, List.setIfInBounds_toArray, List.set_cons_zero, List.set_cons_succ]
  refine wpAnyH_done (by kernel_rfl) ?_ _
  refine NoPanic.normal ?_
  replace G := Lib.hid (World.grownBy.trans G.out HG.out)
  clear HG KEEP HB hHeld NN HW1 HWs HWi HWg
  rw [E.out.1, E.out.2.1, E.out.2.2]
  clear E
  go_wp2_with fail
  have hl16 : ((l.length : Nat) : Int) = 16 := by have := HLEN.out; omega
  go_loop [5, 6] (fun u i => ∃ k : Nat, k ≤ 16 ∧ i = .int .i64 k ∧ u = .int .u64 (sumOn fnvM fnvP fnv0 (l.take k) : Int)) (fun _ i => 16 - (intOf i).toNat)
  case atStart => exact ⟨0, Nat.zero_le _, rfl, rfl⟩
  case round =>
    obtain ⟨k, hk, rfl, rfl⟩ := hrel
    by_cases hlt : k < 16
    · have hkl : k < l.length := by have := HLEN.out; omega
      have hu := sumOn_lt fnvM_pos (p := fnvP) (l.take k) fnv0 fnv0_lt
      have hstep : sumOn fnvM fnvP fnv0 (l.take (k + 1)) = sumStep fnvM fnvP (sumOn fnvM fnvP fnv0 (l.take k)) l[k] := by
        rw [List.take_succ_eq_append_getElem hkl, sumOn_append, sumOn_one]
      generalize sumOn fnvM fnvP fnv0 (l.take k) = u at *
      unfold fnvM at hu
      have HV := Lib.hid (step_value u l[k] hu)
      rw [← hstep] at HV
      have hk16 : (k : Int) < 16 := by omega
      clear hu hstep
      go_wp2_with fail
      go_round
      case rel => exact ⟨k + 1, by omega, by go_num, congrArg (Value.int IntKind.u64) HV.out⟩
      case measure => simp [intOf]; omega
    · obtain rfl : k = 16 := by omega
      have hE : l.take 16 = l := List.take_of_length_le (by have := HLEN.out; omega)
      rw [hE]
      have hF : sumOn fnvM fnvP fnv0 l = fnv l := rfl
      rw [hF]
      have hu := fnv_lt l
      unfold fnvM at hu
      clear hF hE hlt hk
      generalize fnv l = u at *
      have HWa := Lib.hid (fun w => rword4_any (u / 4294967296) w (by omega))
      have HWb := Lib.hid (fun w => rword4_any (u % 4294967296) w (by omega))
      rw [show ((u / 4294967296 : Nat) : Int) = (u : Int) / 4294967296 by omega] at HWa
      rw [show ((u % 4294967296 : Nat) : Int) = (u : Int) % 4294967296 by omega] at HWb
      have hu2 : (u : Int) ≤ 18446744073709551615 := by omega
      have HU := Lib.hid (show sum8 u = word4 (u / 4294967296) ++ word4 (u % 4294967296) from rfl)
      have la : (((word4 (u / 4294967296)).length : Nat) : Int) = 4 := rfl
      have lb : (((word4 (u % 4294967296)).length : Nat) : Int) = 4 := rfl
      have HSA := Lib.hid (str_app l (word4 (u / 4294967296)))
      have HSB := Lib.hid (str_app (l ++ word4 (u / 4294967296)) (word4 (u % 4294967296)))
      generalize word4 (u / 4294967296) = P at *
      generalize word4 (u % 4294967296) = Q at *
      clear hu
      go_wp2_with fail
      refine (HWa.out _).mono ?_; rintro e v1 ⟨rfl, g1⟩
      replace G := Lib.hid (World.grownBy.trans G.out g1); clear g1
      go_wp2_with fail
      refine (HWb.out _).mono ?_; rintro e v2 ⟨rfl, g1⟩
      replace G := Lib.hid (World.grownBy.trans G.out g1); clear g1
      go_wp2_with fail
      go_ret2
      refine ⟨?_, G.out⟩
      have e : ((⟨l.toArray⟩ : ByteArray) ++ ⟨P.toArray⟩ ++ ⟨Q.toArray⟩) = ⟨T.toArray⟩ := by rw [HSA.out, HSB.out, List.append_assoc, ← HU.out, HT.out]
      exact congrArg (fun z => Ending.returned (.tuple #[Value.string z, .int .i64 0])) e

theorem rEnc_any (h : Hn) (w : World) : Calls Try.prog 45 #[hnV h] w (TE w (hEnc fnv h)) := by
  by_cases hm : hMay h
  · rw [hEnc_of hm]
    obtain ⟨s, i, g⟩ := h
    have h1 := hm
    obtain ⟨h1, h2, _, h3⟩ := h1
    unfold isC at h1 h2 h3
    dsimp only at h1 h2 h3
    obtain ⟨s, rfl⟩ := Int.eq_ofNat_of_zero_le h1.1
    obtain ⟨i, rfl⟩ := Int.eq_ofNat_of_zero_le h2.1
    obtain ⟨g, rfl⟩ := Int.eq_ofNat_of_zero_le h3.1
    exact renc_ok s i g w hm
  · rw [hEnc_not hm]
    exact renc_bad h w hm
end Go.Proofs.Ytpklgcinijlmmaa
