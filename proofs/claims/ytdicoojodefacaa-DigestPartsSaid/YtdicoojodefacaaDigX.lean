/- DigestParts, call by call. -/
import Derived.Test.YtdicoojodefacaaDigT
import Derived.Deep.RegionHeld3
namespace Go.Proofs.Ytdicoojodefacaa
open Go.RowKit

section
variable {P : Program} {t e : TypeId}
theorem Bts.cut_to (ht : P.underlying t = some (.slice e)) (hz : ∀ w, (Go.sizeOf e).run P w = .ok 1 w) {w : World} {v : Value} {bs : List UInt8} (h : Bts w v bs) (k : Nat) (hk : k ≤ bs.length) :
    ∃ v', (∀ w, (Instr.slice t v none (some (.int .i64 (k : Int))) none).run P w = .ok v' w) ∧ Bts w v' (bs.take k) := by
  rcases h with ⟨rfl, rfl⟩ | ⟨b, o, c, rfl, h1, h2, h3⟩ | ⟨a, rfl, rfl⟩
  · obtain rfl : k = 0 := by simpa using hk
    refine ⟨.slice none 0 0, fun w => ?_, .inl ⟨rfl, rfl⟩⟩
    simp [Instr.slice, Instr.sliceBounds, Instr.sliceBound, run_underlying ht, hz, asIntOf, go_sem]
  · refine ⟨.slice (some ⟨b, o, none⟩) k c, fun w => ?_, .inr (.inl ⟨b, o, c, by rw [List.length_take, Nat.min_eq_left hk], by rw [List.length_take]; omega, h2, h3.take k⟩)⟩
    have hkc : ¬ c < k := by omega
    simp [Instr.slice, Instr.sliceBounds, Instr.sliceBound, run_underlying ht, hz, asIntOf, go_sem, hkc, Addr.add]
  · obtain rfl : k = 0 := by simpa using hk
    refine ⟨.slice (some a) 0 0, fun w => ?_, .inr (.inr ⟨a, rfl, rfl⟩)⟩
    simp [Instr.slice, Instr.sliceBounds, Instr.sliceBound, run_underlying ht, hz, asIntOf, go_sem, Addr.add]

theorem Bts.cut_mid (ht : P.underlying t = some (.slice e)) (hz : ∀ w, (Go.sizeOf e).run P w = .ok 1 w) {w : World} {v : Value} {bs : List UInt8} (h : Bts w v bs) (j k : Nat) (hj : j ≤ k) (hk : k ≤ bs.length) :
    ∃ v', (∀ w, (Instr.slice t v (some (.int .i64 (j : Int))) (some (.int .i64 (k : Int))) none).run P w = .ok v' w) ∧ Bts w v' ((bs.take k).drop j) := by
  rcases h with ⟨rfl, rfl⟩ | ⟨b, o, c, rfl, h1, h2, h3⟩ | ⟨a, rfl, rfl⟩
  · obtain rfl : k = 0 := by simpa using hk
    obtain rfl : j = 0 := by omega
    refine ⟨.slice none 0 0, fun w => ?_, .inl ⟨rfl, rfl⟩⟩
    simp [Instr.slice, Instr.sliceBounds, Instr.sliceBound, run_underlying ht, hz, asIntOf, go_sem]
  · have hkc : ¬ c < k := by omega
    have hjk : ¬ k < j := by omega
    by_cases hc : c = j
    · subst hc
      obtain rfl : k = c := by omega
      refine ⟨.slice (some ⟨b, o, none⟩) 0 0, fun w => ?_, .inr (.inl ⟨b, o, 0, by simp, by simp, by omega, fun i hi => ?_⟩)⟩
      · simp [Instr.slice, Instr.sliceBounds, Instr.sliceBound, run_underlying ht, hz, asIntOf, go_sem]
      · simp only [List.length_drop, List.length_take] at hi; omega
    · refine ⟨.slice (some ⟨b, o + j, none⟩) (k - j) (c - j), fun w => ?_, .inr (.inl ⟨b, o + j, c - j, by rw [List.length_drop, List.length_take, Nat.min_eq_left hk], by rw [List.length_drop, List.length_take]; omega, by omega, (h3.take k).drop j⟩)⟩
      simp [Instr.slice, Instr.sliceBounds, Instr.sliceBound, run_underlying ht, hz, asIntOf, go_sem, hc, Addr.add]
      rw [if_pos (show k ≤ c by omega), if_pos hj]
      by_cases h0 : j = 0 <;> simp [h0]
  · obtain rfl : k = 0 := by simpa using hk
    obtain rfl : j = 0 := by omega
    refine ⟨.slice (some a) 0 0, fun w => ?_, .inr (.inr ⟨a, rfl, rfl⟩)⟩
    simp [Instr.slice, Instr.sliceBounds, Instr.sliceBound, run_underlying ht, hz, asIntOf, go_sem, Addr.add]

theorem Bts.cut_from (ht : P.underlying t = some (.slice e)) (hz : ∀ w, (Go.sizeOf e).run P w = .ok 1 w) {w : World} {v : Value} {bs : List UInt8} (h : Bts w v bs) (k : Nat) (hk : k ≤ bs.length) :
    ∃ v', (∀ w, (Instr.slice t v (some (.int .i64 (k : Int))) none none).run P w = .ok v' w) ∧ Bts w v' (bs.drop k) := by
  rcases h with ⟨rfl, rfl⟩ | ⟨b, o, c, rfl, h1, h2, h3⟩ | ⟨a, rfl, rfl⟩
  rotate_left 2
  · obtain rfl : k = 0 := by simpa using hk
    refine ⟨.slice (some a) 0 0, fun w => ?_, .inr (.inr ⟨a, rfl, rfl⟩)⟩
    simp [Instr.slice, Instr.sliceBounds, Instr.sliceBound, run_underlying ht, hz, asIntOf, go_sem, Addr.add]
  · obtain rfl : k = 0 := by simpa using hk
    refine ⟨.slice none 0 0, fun w => ?_, .inl ⟨rfl, rfl⟩⟩
    simp [Instr.slice, Instr.sliceBounds, Instr.sliceBound, run_underlying ht, hz, asIntOf, go_sem]
  · have hkc : ¬ bs.length < k := by omega
    by_cases hc : c = k
    · subst hc
      have hl : bs.length = c := by omega
      refine ⟨.slice (some ⟨b, o, none⟩) 0 0, fun w => ?_, .inr (.inl ⟨b, o, 0, by rw [List.length_drop, hl, Nat.sub_self], by rw [List.length_drop]; omega, by omega, fun i hi => ?_⟩)⟩
      · simp [Instr.slice, Instr.sliceBounds, Instr.sliceBound, run_underlying ht, hz, asIntOf, go_sem, hl]
      · rw [List.length_drop] at hi; omega
    · refine ⟨.slice (some ⟨b, o + k, none⟩) (bs.length - k) (c - k), fun w => ?_, .inr (.inl ⟨b, o + k, c - k, by rw [List.length_drop], by rw [List.length_drop]; omega, by omega, h3.drop k⟩)⟩
      simp [Instr.slice, Instr.sliceBounds, Instr.sliceBound, run_underlying ht, hz, asIntOf, go_sem, hc, Addr.add]
      rw [if_pos hk]
      by_cases h0 : k = 0 <;> simp [h0]
end

theorem Bts.at {w : World} {v : Value} {bs : List UInt8} (h : Bts w v bs) (k : Nat) (hk : k < bs.length) : ∃ b o c, v = .slice (some ⟨b, o, none⟩) bs.length c ∧ w.cell? ⟨b, o + k, none⟩ = some (.int .u8 (bs[k].toNat : Int)) := by
  rcases h with ⟨rfl, rfl⟩ | ⟨b, o, c, rfl, h1, h2, h3⟩ | ⟨a, rfl, rfl⟩
  · exact absurd hk (by simp)
  · exact ⟨b, o, c, rfl, h3 k hk⟩
  · exact absurd hk (by simp)
theorem fnv_cut (bs : List UInt8) (j k : Nat) (hj : j ≤ k) (_ : k ≤ bs.length) : sumOn fnvM fnvP (fnv (bs.take j)) ((bs.take k).drop j) = fnv (bs.take k) := by
  have h : bs.take k = bs.take j ++ (bs.take k).drop j := by
    have := (List.take_append_drop j (bs.take k)).symm
    rw [List.take_take, Nat.min_eq_left hj] at this
    exact this
  conv => rhs; rw [h, fnv_app]
theorem fnv_rest (bs : List UInt8) (j : Nat) : sumOn fnvM fnvP (fnv (bs.take j)) (bs.drop j) = fnv bs := by
  conv => rhs; rw [← List.take_append_drop j bs, fnv_app]

set_option maxRecDepth 20000 in
set_option maxHeartbeats 400000 in
theorem parts_long (v u : Value) (bs cs : List UInt8) (w : World) (hv : Bts w v bs) (hu : Bts w u cs) (h : 5000 < bs.length) : Calls Try.prog 5 #[v, u] w (OK w) := by
  have HW := Lib.hid (fun w => awake_any w)
  obtain ⟨a, c, rfl, h1, h2⟩ := hv.form
  obtain ⟨a2, n2, c2, rfl⟩ := hu.shape
  have q1 : (bs.length : Int) ≤ 9223372036854775807 := by unfold maxLen at h2; omega
  have k : decide (5000 < (bs.length : Int)) = true := by simp; omega
  clear h hv hu h1 h2
  go_enter Try.func5, Try.ntmps5
  go_wp2_with fail
  refine (HW.out _).mono ?_; rintro e u1 ⟨rfl, hg⟩
  have G := Lib.hid hg
  clear hg
  go_wp2_with fail
  go_ret
  exact ⟨rfl, G.out⟩


set_option maxRecDepth 10000 in
set_option maxHeartbeats 4000000 in
theorem parts_short (v u : Value) (bs cs : List UInt8) (w : World) (hv : Bts w v bs) (hu : Bts w u cs) (h : bs.length ≤ 5000) : Calls Try.prog 5 #[v, u] w (OK w) := by
  have HW := Lib.hid (fun w => awake_any w)
  have HU0 := Lib.hid hu
  have HB0 := Lib.hid hv
  obtain ⟨ua, uc, rfl, hu1, hu2⟩ := hu.form
  obtain ⟨va, vc, rfl, hv1, hv2⟩ := hv.form
  have H5 := Lib.hid h
  have q1 : (bs.length : Int) ≤ 5000 := by omega
  have q2 : (cs.length : Int) ≤ 9223372036854775807 := by unfold maxLen at hu2; omega
  have k : decide (5000 < (bs.length : Int)) = false := by simp; omega
  obtain ⟨vn, hvn⟩ : ∃ vn, vn = bs.length := ⟨_, rfl⟩
  have HVN := Lib.hid hvn
  obtain ⟨un, hun⟩ : ∃ un, un = cs.length := ⟨_, rfl⟩
  have HUN := Lib.hid hun
  rw [← hvn] at q1 k HB0 ⊢
  rw [← hun] at q2 HU0 ⊢
  clear hv hu h hv1 hv2 hu1 hu2 hvn hun
  go_enter Try.func5, Try.ntmps5
  go_wp2_with fail
  refine (HW.out _).mono ?_; rintro e u1 ⟨rfl, hg⟩
  have G1 := Lib.hid hg
  clear hg
  go_wp2_with fail
  refine (new_any u1).mono ?_; rintro e u2 ⟨rfl, hh, hg⟩
  have HR : Hid (w.heap.size ≤ u1.heap.size) := Lib.hid G1.out.size
  have HG2 := Lib.hid (World.grownBy.trans G1.out hg)
  have HH2 := Lib.hid hh
  generalize u1.heap.size = r at *
  clear hh hg G1 HW
  go_wp2_with fail
  go_loopw [6, 7] (fun a i w' => ∃ at_ k : Nat, k ≤ un ∧ i = .int .i64 k ∧ at_ ≤ vn ∧ a = .int .i64 at_ ∧ w.grownBy w' none ∧ Hsh w' r (fnv (bs.take at_))) (fun _ i w' => un - (intOf i).toNat)
  case atStart => exact ⟨0, 0, Nat.zero_le _, rfl, Nat.zero_le _, rfl, HG2.out, HH2.out⟩
  case round =>
    obtain ⟨at_, k, hk, rfl, hat, rfl, hg, hh⟩ := hrel
    have HG := Lib.hid hg
    have HH := Lib.hid hh
    have HB := Lib.hid (HB0.out.new hg)
    have HU := Lib.hid (HU0.out.new hg)
    have hat' : (at_ : Int) ≤ vn := by omega
    rw [HVN.out] at hat
    clear hg hh
    by_cases c1 : (k : Int) < un
    · by_cases c2 : (at_ : Int) < vn
      · by_cases c3 : (k : Int) < 200
        · have hkl : k < cs.length := by rw [← HUN.out]; omega
          obtain ⟨cb, co, cc, hue, hcell⟩ := (HUN.out ▸ HU.out : Bts wr (.slice ua un uc) cs).at k hkl
          injection hue with hue1 hue2 hue3
          subst hue1 hue3
          clear hue2
          have hcut := cs[k].toNat_lt
          have HCELL := Lib.hid hcell
          generalize cs[k].toNat = d at *
          have hd2 : (d : Int) < 256 ∧ (0 : Int) ≤ d := by omega
          have HCUT := Lib.hid hcut
          clear hcut
          rcases Int.lt_trichotomy ((at_ : Int) + d) vn with hmin | hmin | hmin
          · skip
            obtain ⟨to, hto⟩ : ∃ to : Nat, to = (at_ + d) := ⟨_, rfl⟩
            have htoI : (at_ : Int) + d = (to : Int) := by rw [hto]; omega
            have hle : at_ ≤ to := by omega
            have hto2 : to ≤ bs.length := by rw [← HVN.out]; omega
            obtain ⟨x1, hx1, hb1⟩ := (HVN.out ▸ HB0.out : Bts w (.slice va bs.length vc) bs).cut_mid und22 siz5 at_ to hle hto2
            obtain ⟨x2, hx2, hb2⟩ := (HVN.out ▸ HB0.out : Bts w (.slice va bs.length vc) bs).cut_to und22 siz5 to hto2
            obtain ⟨x3, hx3, hb3⟩ := (HVN.out ▸ HB0.out : Bts w (.slice va bs.length vc) bs).cut_to und22 siz5 at_ hat
            rw [← HVN.out] at hx1 hx2 hx3
            obtain ⟨xa, xn, xc, rfl⟩ := hb1.shape
            obtain ⟨ya, yn, yc, rfl⟩ := hb2.shape
            obtain ⟨za, zn, zc, rfl⟩ := hb3.shape
            have X1 := Lib.hid hb1
            have X2 := Lib.hid hb2
            have X3 := Lib.hid hb3
            have HS2 := Lib.hid (fun w => sum_any (bs.take to) w (by have := H5.out; rw [List.length_take]; omega))
            have HS3 := Lib.hid (fun w => sum_any (bs.take at_) w (by have := H5.out; rw [List.length_take]; omega))
            have HF := Lib.hid (fnv_cut bs at_ to hle hto2)
            rw [← htoI] at hx1 hx2
            have HTO := Lib.hid (And.intro htoI hto2)
            clear htoI hle hto2 hb1 hb2 hb3 hto hat
            go_wp2_with fail
            refine (hcopy_any r _ wr HH.out).mono ?_; rintro e w2 ⟨rfl, hq, hg⟩
            have hlt := HH.out.lt
            have H2 := Lib.hid (HH.out.new hg)
            have Q2 := Lib.hid hq
            have G2 := Lib.hid (World.grownBy.trans HG.out hg)
            have HNE : Hid (wr.heap.size ≠ r) := Lib.hid (by omega)
            generalize wr.heap.size = q at *
            clear hq hg hlt
            go_wp2_with fail
            refine (hwrite_any r _ _ _ w2 H2.out (fnv_lt _) (X1.out.new G2.out) (by have := H5.out; rw [List.length_drop, List.length_take]; omega)).mono ?_; rintro e w3 ⟨rfl, hh, hg⟩
            rw [HF.out] at hh
            have H3 := Lib.hid hh
            have Q3 := Lib.hid (Q2.out.kept hg HNE.out)
            have G3 := Lib.hid (grown_own (w := w) G2.out hg (fun n hn => by cases hn; exact HR.out))
            clear hh hg Q2 H2 G2 HF
            obtain ⟨bt, hbt⟩ : ∃ bt, bt = bs.take to := ⟨_, rfl⟩
            obtain ⟨ba, hba⟩ : ∃ ba, ba = bs.take at_ := ⟨_, rfl⟩
            have HBT := Lib.hid hbt
            have KEEP : Hid (∀ w', w3.grownBy w' none → (convert 35 9 (.slice ya yn yc)).run Try.prog w' = .ok (.string ⟨(bs.take to).toArray⟩) w' ∧ (convert 35 9 (.slice za zn zc)).run Try.prog w' = .ok (.string ⟨(bs.take at_).toArray⟩) w') := Lib.hid (fun w' hg' => ⟨(X2.out.new (World.grownBy.trans G3.out hg')).str und22 und5 und9, (X3.out.new (World.grownBy.trans G3.out hg')).str und22 und5 und9⟩)
            rw [← hbt, ← hba] at KEEP
            rw [← hbt] at HS2 H3
            rw [← hba] at HS3 Q3
            clear hbt hba X1 X2 X3
            obtain ⟨fb, hfb⟩ : ∃ fb, fb = fnv bt := ⟨_, rfl⟩
            rw [← hfb] at HS2 H3
            have HFB := Lib.hid hfb
            obtain ⟨fa, hfa⟩ : ∃ fa, fa = fnv ba := ⟨_, rfl⟩
            rw [← hfa] at HS3 Q3
            clear hfb hfa
            go_wp2_with fail
            refine wp_region_noPanic ?_
            refine wp_region_held_drew (S := fun w' => (convert 35 9 (.slice ya yn yc)).run Try.prog w' = .ok (.string ⟨bt.toArray⟩) w' ∧ (convert 35 9 (.slice za zn zc)).run Try.prog w' = .ok (.string ⟨ba.toArray⟩) w') (by kernel_rfl) (KEEP.out _ (drew_grown _ _)) (fun hHeld => ?_)
            have HG3 : Hid (w3.grownBy w3.drew none) := Lib.hid (drew_grown _ _)
            refine wpAnyH_take (i := 0) (v := ?_) (by simp only [List.getElem?_toArray, List.getElem?_cons_zero]; rfl) (by kernel_rfl) (by kernel_rfl) (by kernel_rfl) (fun _ _ _ h => h) (Or.inl ⟨by rfl, ?_⟩) (by assumption) ?_
            rotate_left 1
            · intro w hSw; (try dsimp only at hSw); go_simp; all_goals (with_reducible rfl)
            try simp only [Act.put, List.setIfInBounds_toArray, List.set_cons_zero, List.set_cons_succ]
            refine wpAnyH_take (i := 2) (v := ?_) (by simp only [List.getElem?_toArray, List.getElem?_cons_succ, List.getElem?_cons_zero]; rfl) (by kernel_rfl) (by kernel_rfl) (by kernel_rfl) (fun _ _ _ h => h) (Or.inl ⟨by rfl, ?_⟩) (by assumption) ?_
            rotate_left 1
            · intro w hSw; (try dsimp only at hSw); go_simp; all_goals (with_reducible rfl)
            try simp only [Act.put, List.setIfInBounds_toArray, List.set_cons_zero, List.set_cons_succ]
            refine wpAnyH_take (i := 3) (v := ?_) (by simp only [List.getElem?_toArray, List.getElem?_cons_succ, List.getElem?_cons_zero]; rfl) (by kernel_rfl) (by kernel_rfl) (by kernel_rfl) (fun _ _ _ h => h) (Or.inl ⟨by rfl, ?_⟩) (by assumption) ?_
            rotate_left 1
            · intro w hSw; (try dsimp only at hSw); go_simp; all_goals (with_reducible rfl)
            try simp only [Act.put, List.setIfInBounds_toArray, List.set_cons_zero, List.set_cons_succ]
            refine wpAnyH_take (i := 4) (v := ?_) (by simp only [List.getElem?_toArray, List.getElem?_cons_succ, List.getElem?_cons_zero]; rfl) (by kernel_rfl) (by kernel_rfl) (by kernel_rfl) (fun _ _ _ h => h) (Or.inl ⟨by rfl, ?_⟩) (by assumption) ?_
            rotate_left 1
            · intro w hSw; (try dsimp only at hSw); go_simp; all_goals (with_reducible rfl)
            try simp only [Act.put, List.setIfInBounds_toArray, List.set_cons_zero, List.set_cons_succ]
            refine wpAnyH_take (i := 5) (v := ?_) (by simp only [List.getElem?_toArray, List.getElem?_cons_succ, List.getElem?_cons_zero]; rfl) (by kernel_rfl) (by kernel_rfl) (by kernel_rfl) (fun _ _ _ h => h) (Or.inl ⟨by rfl, ?_⟩) (by assumption) ?_
            rotate_left 1
            · intro w hSw; (try dsimp only at hSw); go_simp; all_goals (with_reducible rfl)
            try simp only [Act.put, List.setIfInBounds_toArray, List.set_cons_zero, List.set_cons_succ]
            refine wpAnyH_ready (rs := [1]) (by kernel_rfl) (by simp) ?_
            refine AllReadyH.cons (by simp only [List.getElem?_toArray, List.getElem?_cons_succ, List.getElem?_cons_zero]; rfl) (fun K hK => ?_) AllReadyH.nil
            go_simp
            refine (hsum_any r _ _ (H3.out.new HG3.out)).mono ?_; rintro e wn ⟨rfl, hg⟩
            clear hHeld
            replace HG3 := Lib.hid (World.grownBy.trans HG3.out hg)
            clear hg
            go_wp2_with fail
            refine hK.out _ _ (KEEP.out _ HG3.out) (fun hHeld => ?_)
            clear hK K
            try simp only [Act.put, List.setIfInBounds_toArray, List.set_cons_zero, List.set_cons_succ]
            refine wpAnyH_ready (rs := [6]) (by kernel_rfl) (by simp) ?_
            refine AllReadyH.cons (by simp only [List.getElem?_toArray, List.getElem?_cons_succ, List.getElem?_cons_zero]; rfl) (fun K hK => ?_) AllReadyH.nil
            go_simp
            refine (HS2.out _).mono ?_; rintro e wn ⟨rfl, hg⟩
            clear hHeld
            replace HG3 := Lib.hid (World.grownBy.trans HG3.out hg)
            clear hg
            go_wp2_with fail
            refine hK.out _ _ (KEEP.out _ HG3.out) (fun hHeld => ?_)
            clear hK K
            try simp only [Act.put, List.setIfInBounds_toArray, List.set_cons_zero, List.set_cons_succ]
            refine wpAnyH_take (i := 7) (v := ?_) (by simp only [List.getElem?_toArray, List.getElem?_cons_succ, List.getElem?_cons_zero]; rfl) (by kernel_rfl) (by kernel_rfl) (by kernel_rfl) (fun _ _ _ h => h) (Or.inl ⟨by rfl, ?_⟩) (by assumption) ?_
            rotate_left 1
            · intro w hSw; (try dsimp only at hSw); go_simp; all_goals (with_reducible rfl)
            try simp only [Act.put, List.setIfInBounds_toArray, List.set_cons_zero, List.set_cons_succ]
            refine wpAnyH_take (i := 8) (v := ?_) (by simp only [List.getElem?_toArray, List.getElem?_cons_succ, List.getElem?_cons_zero]; rfl) (by kernel_rfl) (by kernel_rfl) (by kernel_rfl) (fun _ _ _ h => h) (Or.inl ⟨by rfl, ?_⟩) (by assumption) ?_
            rotate_left 1
            · intro w hSw; (try dsimp only at hSw); go_simp; all_goals (with_reducible rfl)
            try simp only [Act.put, List.setIfInBounds_toArray, List.set_cons_zero, List.set_cons_succ]
            refine wpAnyH_take (i := 9) (v := ?_) (by simp only [List.getElem?_toArray, List.getElem?_cons_succ, List.getElem?_cons_zero]; rfl) (by kernel_rfl) (by kernel_rfl) (by kernel_rfl) (fun _ _ _ h => h) (Or.inl ⟨by rfl, ?_⟩) (by assumption) ?_
            rotate_left 1
            · intro w hSw; (try dsimp only at hSw); go_simp; all_goals (with_reducible rfl)
            try simp only [Act.put, List.setIfInBounds_toArray, List.set_cons_zero, List.set_cons_succ]
            refine wpAnyH_take (i := 11) (v := ?_) (by simp only [List.getElem?_toArray, List.getElem?_cons_succ, List.getElem?_cons_zero]; rfl) (by kernel_rfl) (by kernel_rfl) (by kernel_rfl) (fun _ _ _ h => h) (Or.inl ⟨by rfl, ?_⟩) (by assumption) ?_
            rotate_left 1
            · intro w hSw; (try dsimp only at hSw); go_simp; all_goals (with_reducible rfl)
            try simp only [Act.put, List.setIfInBounds_toArray, List.set_cons_zero, List.set_cons_succ]
            refine wpAnyH_take (i := 12) (v := ?_) (by simp only [List.getElem?_toArray, List.getElem?_cons_succ, List.getElem?_cons_zero]; rfl) (by kernel_rfl) (by kernel_rfl) (by kernel_rfl) (fun _ _ _ h => h) (Or.inl ⟨by rfl, ?_⟩) (by assumption) ?_
            rotate_left 1
            · intro w hSw; (try dsimp only at hSw); go_simp; all_goals (with_reducible rfl)
            try simp only [Act.put, List.setIfInBounds_toArray, List.set_cons_zero, List.set_cons_succ]
            refine wpAnyH_take (i := 13) (v := ?_) (by simp only [List.getElem?_toArray, List.getElem?_cons_succ, List.getElem?_cons_zero]; rfl) (by kernel_rfl) (by kernel_rfl) (by kernel_rfl) (fun _ _ _ h => h) (Or.inl ⟨by rfl, ?_⟩) (by assumption) ?_
            rotate_left 1
            · intro w hSw; (try dsimp only at hSw); go_simp; all_goals (with_reducible rfl)
            try simp only [Act.put, List.setIfInBounds_toArray, List.set_cons_zero, List.set_cons_succ]
            refine wpAnyH_take (i := 14) (v := ?_) (by simp only [List.getElem?_toArray, List.getElem?_cons_succ, List.getElem?_cons_zero]; rfl) (by kernel_rfl) (by kernel_rfl) (by kernel_rfl) (fun _ _ _ h => h) (Or.inl ⟨by rfl, ?_⟩) (by assumption) ?_
            rotate_left 1
            · intro w hSw; (try dsimp only at hSw); go_simp; all_goals (with_reducible rfl)
            try simp only [Act.put, List.setIfInBounds_toArray, List.set_cons_zero, List.set_cons_succ]
            refine wpAnyH_ready (rs := [10]) (by kernel_rfl) (by simp) ?_
            refine AllReadyH.cons (by simp only [List.getElem?_toArray, List.getElem?_cons_succ, List.getElem?_cons_zero]; rfl) (fun K hK => ?_) AllReadyH.nil
            go_simp
            refine (hsum_any q _ _ (Q3.out.new HG3.out)).mono ?_; rintro e wn ⟨rfl, hg⟩
            clear hHeld
            replace HG3 := Lib.hid (World.grownBy.trans HG3.out hg)
            clear hg
            go_wp2_with fail
            refine hK.out _ _ (KEEP.out _ HG3.out) (fun hHeld => ?_)
            clear hK K
            try simp only [Act.put, List.setIfInBounds_toArray, List.set_cons_zero, List.set_cons_succ]
            refine wpAnyH_ready (rs := [15]) (by kernel_rfl) (by simp) ?_
            refine AllReadyH.cons (by simp only [List.getElem?_toArray, List.getElem?_cons_succ, List.getElem?_cons_zero]; rfl) (fun K hK => ?_) AllReadyH.nil
            go_simp
            refine (HS3.out _).mono ?_; rintro e wn ⟨rfl, hg⟩
            clear hHeld
            replace HG3 := Lib.hid (World.grownBy.trans HG3.out hg)
            clear hg
            go_wp2_with fail
            refine hK.out _ _ (KEEP.out _ HG3.out) (fun hHeld => ?_)
            clear hK K
            try simp only [Act.put, List.setIfInBounds_toArray, List.set_cons_zero, List.set_cons_succ]
            refine wpAnyH_take (i := 16) (v := ?_) (by simp only [List.getElem?_toArray, List.getElem?_cons_succ, List.getElem?_cons_zero]; rfl) (by kernel_rfl) (by kernel_rfl) (by kernel_rfl) (fun _ _ _ h => h) (Or.inl ⟨by rfl, ?_⟩) (by assumption) ?_
            rotate_left 1
            · intro w hSw; (try dsimp only at hSw); go_simp; all_goals (with_reducible rfl)
            try simp only [Act.put, List.setIfInBounds_toArray, List.set_cons_zero, List.set_cons_succ]
            refine wpAnyH_take (i := 17) (v := ?_) (by simp only [List.getElem?_toArray, List.getElem?_cons_succ, List.getElem?_cons_zero]; rfl) (by kernel_rfl) (by kernel_rfl) (by kernel_rfl) (fun _ _ _ h => h) (Or.inl ⟨by rfl, ?_⟩) (by assumption) ?_
            rotate_left 1
            · intro w hSw; (try dsimp only at hSw); go_simp; all_goals (with_reducible rfl)
            try simp only [Act.put, List.setIfInBounds_toArray, List.set_cons_zero, List.set_cons_succ]
            refine wpAnyH_done (by kernel_rfl) ?_ _
            refine NoPanic.normal ?_
            go_wp2_with fail
            go_roundw
            case rel => exact ⟨to, k + 1, by omega, by go_num, by rw [HVN.out]; exact HTO.out.2, by rw [HTO.out.1], World.grownBy.trans G3.out HG3.out, by rw [← HBT.out, ← HFB.out]; exact H3.out.new HG3.out⟩
            case measure => simp [intOf]; omega
          · skip
            have m1 : ¬ ((at_ : Int) + d < vn) := by omega
            have m2 : ¬ ((vn : Int) < (at_ : Int) + d) := by omega
            have hmin2 : at_ + d ≤ vn := by omega
            clear hmin
            obtain ⟨to, hto⟩ : ∃ to : Nat, to = (at_ + d) := ⟨_, rfl⟩
            have htoI : (at_ : Int) + d = (to : Int) := by rw [hto]; omega
            have hle : at_ ≤ to := by omega
            have hto2 : to ≤ bs.length := by rw [← HVN.out]; omega
            obtain ⟨x1, hx1, hb1⟩ := (HVN.out ▸ HB0.out : Bts w (.slice va bs.length vc) bs).cut_mid und22 siz5 at_ to hle hto2
            obtain ⟨x2, hx2, hb2⟩ := (HVN.out ▸ HB0.out : Bts w (.slice va bs.length vc) bs).cut_to und22 siz5 to hto2
            obtain ⟨x3, hx3, hb3⟩ := (HVN.out ▸ HB0.out : Bts w (.slice va bs.length vc) bs).cut_to und22 siz5 at_ hat
            rw [← HVN.out] at hx1 hx2 hx3
            obtain ⟨xa, xn, xc, rfl⟩ := hb1.shape
            obtain ⟨ya, yn, yc, rfl⟩ := hb2.shape
            obtain ⟨za, zn, zc, rfl⟩ := hb3.shape
            have X1 := Lib.hid hb1
            have X2 := Lib.hid hb2
            have X3 := Lib.hid hb3
            have HS2 := Lib.hid (fun w => sum_any (bs.take to) w (by have := H5.out; rw [List.length_take]; omega))
            have HS3 := Lib.hid (fun w => sum_any (bs.take at_) w (by have := H5.out; rw [List.length_take]; omega))
            have HF := Lib.hid (fnv_cut bs at_ to hle hto2)
            rw [← htoI] at hx1 hx2
            have HTO := Lib.hid (And.intro htoI hto2)
            clear htoI hle hto2 hb1 hb2 hb3 hto hat
            go_wp2_with fail
            refine (hcopy_any r _ wr HH.out).mono ?_; rintro e w2 ⟨rfl, hq, hg⟩
            have hlt := HH.out.lt
            have H2 := Lib.hid (HH.out.new hg)
            have Q2 := Lib.hid hq
            have G2 := Lib.hid (World.grownBy.trans HG.out hg)
            have HNE : Hid (wr.heap.size ≠ r) := Lib.hid (by omega)
            generalize wr.heap.size = q at *
            clear hq hg hlt
            go_wp2_with fail
            refine (hwrite_any r _ _ _ w2 H2.out (fnv_lt _) (X1.out.new G2.out) (by have := H5.out; rw [List.length_drop, List.length_take]; omega)).mono ?_; rintro e w3 ⟨rfl, hh, hg⟩
            rw [HF.out] at hh
            have H3 := Lib.hid hh
            have Q3 := Lib.hid (Q2.out.kept hg HNE.out)
            have G3 := Lib.hid (grown_own (w := w) G2.out hg (fun n hn => by cases hn; exact HR.out))
            clear hh hg Q2 H2 G2 HF
            obtain ⟨bt, hbt⟩ : ∃ bt, bt = bs.take to := ⟨_, rfl⟩
            obtain ⟨ba, hba⟩ : ∃ ba, ba = bs.take at_ := ⟨_, rfl⟩
            have HBT := Lib.hid hbt
            have KEEP : Hid (∀ w', w3.grownBy w' none → (convert 35 9 (.slice ya yn yc)).run Try.prog w' = .ok (.string ⟨(bs.take to).toArray⟩) w' ∧ (convert 35 9 (.slice za zn zc)).run Try.prog w' = .ok (.string ⟨(bs.take at_).toArray⟩) w') := Lib.hid (fun w' hg' => ⟨(X2.out.new (World.grownBy.trans G3.out hg')).str und22 und5 und9, (X3.out.new (World.grownBy.trans G3.out hg')).str und22 und5 und9⟩)
            rw [← hbt, ← hba] at KEEP
            rw [← hbt] at HS2 H3
            rw [← hba] at HS3 Q3
            clear hbt hba X1 X2 X3
            obtain ⟨fb, hfb⟩ : ∃ fb, fb = fnv bt := ⟨_, rfl⟩
            rw [← hfb] at HS2 H3
            have HFB := Lib.hid hfb
            obtain ⟨fa, hfa⟩ : ∃ fa, fa = fnv ba := ⟨_, rfl⟩
            rw [← hfa] at HS3 Q3
            clear hfb hfa
            go_wp2_with fail
            refine wp_region_noPanic ?_
            refine wp_region_held_drew (S := fun w' => (convert 35 9 (.slice ya yn yc)).run Try.prog w' = .ok (.string ⟨bt.toArray⟩) w' ∧ (convert 35 9 (.slice za zn zc)).run Try.prog w' = .ok (.string ⟨ba.toArray⟩) w') (by kernel_rfl) (KEEP.out _ (drew_grown _ _)) (fun hHeld => ?_)
            have HG3 : Hid (w3.grownBy w3.drew none) := Lib.hid (drew_grown _ _)
            refine wpAnyH_take (i := 0) (v := ?_) (by simp only [List.getElem?_toArray, List.getElem?_cons_zero]; rfl) (by kernel_rfl) (by kernel_rfl) (by kernel_rfl) (fun _ _ _ h => h) (Or.inl ⟨by rfl, ?_⟩) (by assumption) ?_
            rotate_left 1
            · intro w hSw; (try dsimp only at hSw); go_simp; all_goals (with_reducible rfl)
            try simp only [Act.put, List.setIfInBounds_toArray, List.set_cons_zero, List.set_cons_succ]
            refine wpAnyH_take (i := 2) (v := ?_) (by simp only [List.getElem?_toArray, List.getElem?_cons_succ, List.getElem?_cons_zero]; rfl) (by kernel_rfl) (by kernel_rfl) (by kernel_rfl) (fun _ _ _ h => h) (Or.inl ⟨by rfl, ?_⟩) (by assumption) ?_
            rotate_left 1
            · intro w hSw; (try dsimp only at hSw); go_simp; all_goals (with_reducible rfl)
            try simp only [Act.put, List.setIfInBounds_toArray, List.set_cons_zero, List.set_cons_succ]
            refine wpAnyH_take (i := 3) (v := ?_) (by simp only [List.getElem?_toArray, List.getElem?_cons_succ, List.getElem?_cons_zero]; rfl) (by kernel_rfl) (by kernel_rfl) (by kernel_rfl) (fun _ _ _ h => h) (Or.inl ⟨by rfl, ?_⟩) (by assumption) ?_
            rotate_left 1
            · intro w hSw; (try dsimp only at hSw); go_simp; all_goals (with_reducible rfl)
            try simp only [Act.put, List.setIfInBounds_toArray, List.set_cons_zero, List.set_cons_succ]
            refine wpAnyH_take (i := 4) (v := ?_) (by simp only [List.getElem?_toArray, List.getElem?_cons_succ, List.getElem?_cons_zero]; rfl) (by kernel_rfl) (by kernel_rfl) (by kernel_rfl) (fun _ _ _ h => h) (Or.inl ⟨by rfl, ?_⟩) (by assumption) ?_
            rotate_left 1
            · intro w hSw; (try dsimp only at hSw); go_simp; all_goals (with_reducible rfl)
            try simp only [Act.put, List.setIfInBounds_toArray, List.set_cons_zero, List.set_cons_succ]
            refine wpAnyH_take (i := 5) (v := ?_) (by simp only [List.getElem?_toArray, List.getElem?_cons_succ, List.getElem?_cons_zero]; rfl) (by kernel_rfl) (by kernel_rfl) (by kernel_rfl) (fun _ _ _ h => h) (Or.inl ⟨by rfl, ?_⟩) (by assumption) ?_
            rotate_left 1
            · intro w hSw; (try dsimp only at hSw); go_simp; all_goals (with_reducible rfl)
            try simp only [Act.put, List.setIfInBounds_toArray, List.set_cons_zero, List.set_cons_succ]
            refine wpAnyH_ready (rs := [1]) (by kernel_rfl) (by simp) ?_
            refine AllReadyH.cons (by simp only [List.getElem?_toArray, List.getElem?_cons_succ, List.getElem?_cons_zero]; rfl) (fun K hK => ?_) AllReadyH.nil
            go_simp
            refine (hsum_any r _ _ (H3.out.new HG3.out)).mono ?_; rintro e wn ⟨rfl, hg⟩
            clear hHeld
            replace HG3 := Lib.hid (World.grownBy.trans HG3.out hg)
            clear hg
            go_wp2_with fail
            refine hK.out _ _ (KEEP.out _ HG3.out) (fun hHeld => ?_)
            clear hK K
            try simp only [Act.put, List.setIfInBounds_toArray, List.set_cons_zero, List.set_cons_succ]
            refine wpAnyH_ready (rs := [6]) (by kernel_rfl) (by simp) ?_
            refine AllReadyH.cons (by simp only [List.getElem?_toArray, List.getElem?_cons_succ, List.getElem?_cons_zero]; rfl) (fun K hK => ?_) AllReadyH.nil
            go_simp
            refine (HS2.out _).mono ?_; rintro e wn ⟨rfl, hg⟩
            clear hHeld
            replace HG3 := Lib.hid (World.grownBy.trans HG3.out hg)
            clear hg
            go_wp2_with fail
            refine hK.out _ _ (KEEP.out _ HG3.out) (fun hHeld => ?_)
            clear hK K
            try simp only [Act.put, List.setIfInBounds_toArray, List.set_cons_zero, List.set_cons_succ]
            refine wpAnyH_take (i := 7) (v := ?_) (by simp only [List.getElem?_toArray, List.getElem?_cons_succ, List.getElem?_cons_zero]; rfl) (by kernel_rfl) (by kernel_rfl) (by kernel_rfl) (fun _ _ _ h => h) (Or.inl ⟨by rfl, ?_⟩) (by assumption) ?_
            rotate_left 1
            · intro w hSw; (try dsimp only at hSw); go_simp; all_goals (with_reducible rfl)
            try simp only [Act.put, List.setIfInBounds_toArray, List.set_cons_zero, List.set_cons_succ]
            refine wpAnyH_take (i := 8) (v := ?_) (by simp only [List.getElem?_toArray, List.getElem?_cons_succ, List.getElem?_cons_zero]; rfl) (by kernel_rfl) (by kernel_rfl) (by kernel_rfl) (fun _ _ _ h => h) (Or.inl ⟨by rfl, ?_⟩) (by assumption) ?_
            rotate_left 1
            · intro w hSw; (try dsimp only at hSw); go_simp; all_goals (with_reducible rfl)
            try simp only [Act.put, List.setIfInBounds_toArray, List.set_cons_zero, List.set_cons_succ]
            refine wpAnyH_take (i := 9) (v := ?_) (by simp only [List.getElem?_toArray, List.getElem?_cons_succ, List.getElem?_cons_zero]; rfl) (by kernel_rfl) (by kernel_rfl) (by kernel_rfl) (fun _ _ _ h => h) (Or.inl ⟨by rfl, ?_⟩) (by assumption) ?_
            rotate_left 1
            · intro w hSw; (try dsimp only at hSw); go_simp; all_goals (with_reducible rfl)
            try simp only [Act.put, List.setIfInBounds_toArray, List.set_cons_zero, List.set_cons_succ]
            refine wpAnyH_take (i := 11) (v := ?_) (by simp only [List.getElem?_toArray, List.getElem?_cons_succ, List.getElem?_cons_zero]; rfl) (by kernel_rfl) (by kernel_rfl) (by kernel_rfl) (fun _ _ _ h => h) (Or.inl ⟨by rfl, ?_⟩) (by assumption) ?_
            rotate_left 1
            · intro w hSw; (try dsimp only at hSw); go_simp; all_goals (with_reducible rfl)
            try simp only [Act.put, List.setIfInBounds_toArray, List.set_cons_zero, List.set_cons_succ]
            refine wpAnyH_take (i := 12) (v := ?_) (by simp only [List.getElem?_toArray, List.getElem?_cons_succ, List.getElem?_cons_zero]; rfl) (by kernel_rfl) (by kernel_rfl) (by kernel_rfl) (fun _ _ _ h => h) (Or.inl ⟨by rfl, ?_⟩) (by assumption) ?_
            rotate_left 1
            · intro w hSw; (try dsimp only at hSw); go_simp; all_goals (with_reducible rfl)
            try simp only [Act.put, List.setIfInBounds_toArray, List.set_cons_zero, List.set_cons_succ]
            refine wpAnyH_take (i := 13) (v := ?_) (by simp only [List.getElem?_toArray, List.getElem?_cons_succ, List.getElem?_cons_zero]; rfl) (by kernel_rfl) (by kernel_rfl) (by kernel_rfl) (fun _ _ _ h => h) (Or.inl ⟨by rfl, ?_⟩) (by assumption) ?_
            rotate_left 1
            · intro w hSw; (try dsimp only at hSw); go_simp; all_goals (with_reducible rfl)
            try simp only [Act.put, List.setIfInBounds_toArray, List.set_cons_zero, List.set_cons_succ]
            refine wpAnyH_take (i := 14) (v := ?_) (by simp only [List.getElem?_toArray, List.getElem?_cons_succ, List.getElem?_cons_zero]; rfl) (by kernel_rfl) (by kernel_rfl) (by kernel_rfl) (fun _ _ _ h => h) (Or.inl ⟨by rfl, ?_⟩) (by assumption) ?_
            rotate_left 1
            · intro w hSw; (try dsimp only at hSw); go_simp; all_goals (with_reducible rfl)
            try simp only [Act.put, List.setIfInBounds_toArray, List.set_cons_zero, List.set_cons_succ]
            refine wpAnyH_ready (rs := [10]) (by kernel_rfl) (by simp) ?_
            refine AllReadyH.cons (by simp only [List.getElem?_toArray, List.getElem?_cons_succ, List.getElem?_cons_zero]; rfl) (fun K hK => ?_) AllReadyH.nil
            go_simp
            refine (hsum_any q _ _ (Q3.out.new HG3.out)).mono ?_; rintro e wn ⟨rfl, hg⟩
            clear hHeld
            replace HG3 := Lib.hid (World.grownBy.trans HG3.out hg)
            clear hg
            go_wp2_with fail
            refine hK.out _ _ (KEEP.out _ HG3.out) (fun hHeld => ?_)
            clear hK K
            try simp only [Act.put, List.setIfInBounds_toArray, List.set_cons_zero, List.set_cons_succ]
            refine wpAnyH_ready (rs := [15]) (by kernel_rfl) (by simp) ?_
            refine AllReadyH.cons (by simp only [List.getElem?_toArray, List.getElem?_cons_succ, List.getElem?_cons_zero]; rfl) (fun K hK => ?_) AllReadyH.nil
            go_simp
            refine (HS3.out _).mono ?_; rintro e wn ⟨rfl, hg⟩
            clear hHeld
            replace HG3 := Lib.hid (World.grownBy.trans HG3.out hg)
            clear hg
            go_wp2_with fail
            refine hK.out _ _ (KEEP.out _ HG3.out) (fun hHeld => ?_)
            clear hK K
            try simp only [Act.put, List.setIfInBounds_toArray, List.set_cons_zero, List.set_cons_succ]
            refine wpAnyH_take (i := 16) (v := ?_) (by simp only [List.getElem?_toArray, List.getElem?_cons_succ, List.getElem?_cons_zero]; rfl) (by kernel_rfl) (by kernel_rfl) (by kernel_rfl) (fun _ _ _ h => h) (Or.inl ⟨by rfl, ?_⟩) (by assumption) ?_
            rotate_left 1
            · intro w hSw; (try dsimp only at hSw); go_simp; all_goals (with_reducible rfl)
            try simp only [Act.put, List.setIfInBounds_toArray, List.set_cons_zero, List.set_cons_succ]
            refine wpAnyH_take (i := 17) (v := ?_) (by simp only [List.getElem?_toArray, List.getElem?_cons_succ, List.getElem?_cons_zero]; rfl) (by kernel_rfl) (by kernel_rfl) (by kernel_rfl) (fun _ _ _ h => h) (Or.inl ⟨by rfl, ?_⟩) (by assumption) ?_
            rotate_left 1
            · intro w hSw; (try dsimp only at hSw); go_simp; all_goals (with_reducible rfl)
            try simp only [Act.put, List.setIfInBounds_toArray, List.set_cons_zero, List.set_cons_succ]
            refine wpAnyH_done (by kernel_rfl) ?_ _
            refine NoPanic.normal ?_
            go_wp2_with fail
            go_roundw
            case rel => exact ⟨to, k + 1, by omega, by go_num, by rw [HVN.out]; exact HTO.out.2, by rw [HTO.out.1], World.grownBy.trans G3.out HG3.out, by rw [← HBT.out, ← HFB.out]; exact H3.out.new HG3.out⟩
            case measure => simp [intOf]; omega
          · skip
            obtain ⟨to, hto⟩ : ∃ to : Nat, to = vn := ⟨_, rfl⟩
            have htoI : vn = (to : Int) := by rw [hto]
            have hle : at_ ≤ to := by omega
            have hto2 : to ≤ bs.length := by rw [← HVN.out]; omega
            obtain ⟨x1, hx1, hb1⟩ := (HVN.out ▸ HB0.out : Bts w (.slice va bs.length vc) bs).cut_mid und22 siz5 at_ to hle hto2
            obtain ⟨x2, hx2, hb2⟩ := (HVN.out ▸ HB0.out : Bts w (.slice va bs.length vc) bs).cut_to und22 siz5 to hto2
            obtain ⟨x3, hx3, hb3⟩ := (HVN.out ▸ HB0.out : Bts w (.slice va bs.length vc) bs).cut_to und22 siz5 at_ hat
            rw [← HVN.out] at hx1 hx2 hx3
            obtain ⟨xa, xn, xc, rfl⟩ := hb1.shape
            obtain ⟨ya, yn, yc, rfl⟩ := hb2.shape
            obtain ⟨za, zn, zc, rfl⟩ := hb3.shape
            have X1 := Lib.hid hb1
            have X2 := Lib.hid hb2
            have X3 := Lib.hid hb3
            have HS2 := Lib.hid (fun w => sum_any (bs.take to) w (by have := H5.out; rw [List.length_take]; omega))
            have HS3 := Lib.hid (fun w => sum_any (bs.take at_) w (by have := H5.out; rw [List.length_take]; omega))
            have HF := Lib.hid (fnv_cut bs at_ to hle hto2)
            rw [← htoI] at hx1 hx2
            have HTO := Lib.hid (And.intro htoI hto2)
            clear htoI hle hto2 hb1 hb2 hb3 hto hat
            go_wp2_with fail
            refine (hcopy_any r _ wr HH.out).mono ?_; rintro e w2 ⟨rfl, hq, hg⟩
            have hlt := HH.out.lt
            have H2 := Lib.hid (HH.out.new hg)
            have Q2 := Lib.hid hq
            have G2 := Lib.hid (World.grownBy.trans HG.out hg)
            have HNE : Hid (wr.heap.size ≠ r) := Lib.hid (by omega)
            generalize wr.heap.size = q at *
            clear hq hg hlt
            go_wp2_with fail
            refine (hwrite_any r _ _ _ w2 H2.out (fnv_lt _) (X1.out.new G2.out) (by have := H5.out; rw [List.length_drop, List.length_take]; omega)).mono ?_; rintro e w3 ⟨rfl, hh, hg⟩
            rw [HF.out] at hh
            have H3 := Lib.hid hh
            have Q3 := Lib.hid (Q2.out.kept hg HNE.out)
            have G3 := Lib.hid (grown_own (w := w) G2.out hg (fun n hn => by cases hn; exact HR.out))
            clear hh hg Q2 H2 G2 HF
            obtain ⟨bt, hbt⟩ : ∃ bt, bt = bs.take to := ⟨_, rfl⟩
            obtain ⟨ba, hba⟩ : ∃ ba, ba = bs.take at_ := ⟨_, rfl⟩
            have HBT := Lib.hid hbt
            have KEEP : Hid (∀ w', w3.grownBy w' none → (convert 35 9 (.slice ya yn yc)).run Try.prog w' = .ok (.string ⟨(bs.take to).toArray⟩) w' ∧ (convert 35 9 (.slice za zn zc)).run Try.prog w' = .ok (.string ⟨(bs.take at_).toArray⟩) w') := Lib.hid (fun w' hg' => ⟨(X2.out.new (World.grownBy.trans G3.out hg')).str und22 und5 und9, (X3.out.new (World.grownBy.trans G3.out hg')).str und22 und5 und9⟩)
            rw [← hbt, ← hba] at KEEP
            rw [← hbt] at HS2 H3
            rw [← hba] at HS3 Q3
            clear hbt hba X1 X2 X3
            obtain ⟨fb, hfb⟩ : ∃ fb, fb = fnv bt := ⟨_, rfl⟩
            rw [← hfb] at HS2 H3
            have HFB := Lib.hid hfb
            obtain ⟨fa, hfa⟩ : ∃ fa, fa = fnv ba := ⟨_, rfl⟩
            rw [← hfa] at HS3 Q3
            clear hfb hfa
            go_wp2_with fail
            refine wp_region_noPanic ?_
            refine wp_region_held_drew (S := fun w' => (convert 35 9 (.slice ya yn yc)).run Try.prog w' = .ok (.string ⟨bt.toArray⟩) w' ∧ (convert 35 9 (.slice za zn zc)).run Try.prog w' = .ok (.string ⟨ba.toArray⟩) w') (by kernel_rfl) (KEEP.out _ (drew_grown _ _)) (fun hHeld => ?_)
            have HG3 : Hid (w3.grownBy w3.drew none) := Lib.hid (drew_grown _ _)
            refine wpAnyH_take (i := 0) (v := ?_) (by simp only [List.getElem?_toArray, List.getElem?_cons_zero]; rfl) (by kernel_rfl) (by kernel_rfl) (by kernel_rfl) (fun _ _ _ h => h) (Or.inl ⟨by rfl, ?_⟩) (by assumption) ?_
            rotate_left 1
            · intro w hSw; (try dsimp only at hSw); go_simp; all_goals (with_reducible rfl)
            try simp only [Act.put, List.setIfInBounds_toArray, List.set_cons_zero, List.set_cons_succ]
            refine wpAnyH_take (i := 2) (v := ?_) (by simp only [List.getElem?_toArray, List.getElem?_cons_succ, List.getElem?_cons_zero]; rfl) (by kernel_rfl) (by kernel_rfl) (by kernel_rfl) (fun _ _ _ h => h) (Or.inl ⟨by rfl, ?_⟩) (by assumption) ?_
            rotate_left 1
            · intro w hSw; (try dsimp only at hSw); go_simp; all_goals (with_reducible rfl)
            try simp only [Act.put, List.setIfInBounds_toArray, List.set_cons_zero, List.set_cons_succ]
            refine wpAnyH_take (i := 3) (v := ?_) (by simp only [List.getElem?_toArray, List.getElem?_cons_succ, List.getElem?_cons_zero]; rfl) (by kernel_rfl) (by kernel_rfl) (by kernel_rfl) (fun _ _ _ h => h) (Or.inl ⟨by rfl, ?_⟩) (by assumption) ?_
            rotate_left 1
            · intro w hSw; (try dsimp only at hSw); go_simp; all_goals (with_reducible rfl)
            try simp only [Act.put, List.setIfInBounds_toArray, List.set_cons_zero, List.set_cons_succ]
            refine wpAnyH_take (i := 4) (v := ?_) (by simp only [List.getElem?_toArray, List.getElem?_cons_succ, List.getElem?_cons_zero]; rfl) (by kernel_rfl) (by kernel_rfl) (by kernel_rfl) (fun _ _ _ h => h) (Or.inl ⟨by rfl, ?_⟩) (by assumption) ?_
            rotate_left 1
            · intro w hSw; (try dsimp only at hSw); go_simp; all_goals (with_reducible rfl)
            try simp only [Act.put, List.setIfInBounds_toArray, List.set_cons_zero, List.set_cons_succ]
            refine wpAnyH_take (i := 5) (v := ?_) (by simp only [List.getElem?_toArray, List.getElem?_cons_succ, List.getElem?_cons_zero]; rfl) (by kernel_rfl) (by kernel_rfl) (by kernel_rfl) (fun _ _ _ h => h) (Or.inl ⟨by rfl, ?_⟩) (by assumption) ?_
            rotate_left 1
            · intro w hSw; (try dsimp only at hSw); go_simp; all_goals (with_reducible rfl)
            try simp only [Act.put, List.setIfInBounds_toArray, List.set_cons_zero, List.set_cons_succ]
            refine wpAnyH_ready (rs := [1]) (by kernel_rfl) (by simp) ?_
            refine AllReadyH.cons (by simp only [List.getElem?_toArray, List.getElem?_cons_succ, List.getElem?_cons_zero]; rfl) (fun K hK => ?_) AllReadyH.nil
            go_simp
            refine (hsum_any r _ _ (H3.out.new HG3.out)).mono ?_; rintro e wn ⟨rfl, hg⟩
            clear hHeld
            replace HG3 := Lib.hid (World.grownBy.trans HG3.out hg)
            clear hg
            go_wp2_with fail
            refine hK.out _ _ (KEEP.out _ HG3.out) (fun hHeld => ?_)
            clear hK K
            try simp only [Act.put, List.setIfInBounds_toArray, List.set_cons_zero, List.set_cons_succ]
            refine wpAnyH_ready (rs := [6]) (by kernel_rfl) (by simp) ?_
            refine AllReadyH.cons (by simp only [List.getElem?_toArray, List.getElem?_cons_succ, List.getElem?_cons_zero]; rfl) (fun K hK => ?_) AllReadyH.nil
            go_simp
            refine (HS2.out _).mono ?_; rintro e wn ⟨rfl, hg⟩
            clear hHeld
            replace HG3 := Lib.hid (World.grownBy.trans HG3.out hg)
            clear hg
            go_wp2_with fail
            refine hK.out _ _ (KEEP.out _ HG3.out) (fun hHeld => ?_)
            clear hK K
            try simp only [Act.put, List.setIfInBounds_toArray, List.set_cons_zero, List.set_cons_succ]
            refine wpAnyH_take (i := 7) (v := ?_) (by simp only [List.getElem?_toArray, List.getElem?_cons_succ, List.getElem?_cons_zero]; rfl) (by kernel_rfl) (by kernel_rfl) (by kernel_rfl) (fun _ _ _ h => h) (Or.inl ⟨by rfl, ?_⟩) (by assumption) ?_
            rotate_left 1
            · intro w hSw; (try dsimp only at hSw); go_simp; all_goals (with_reducible rfl)
            try simp only [Act.put, List.setIfInBounds_toArray, List.set_cons_zero, List.set_cons_succ]
            refine wpAnyH_take (i := 8) (v := ?_) (by simp only [List.getElem?_toArray, List.getElem?_cons_succ, List.getElem?_cons_zero]; rfl) (by kernel_rfl) (by kernel_rfl) (by kernel_rfl) (fun _ _ _ h => h) (Or.inl ⟨by rfl, ?_⟩) (by assumption) ?_
            rotate_left 1
            · intro w hSw; (try dsimp only at hSw); go_simp; all_goals (with_reducible rfl)
            try simp only [Act.put, List.setIfInBounds_toArray, List.set_cons_zero, List.set_cons_succ]
            refine wpAnyH_take (i := 9) (v := ?_) (by simp only [List.getElem?_toArray, List.getElem?_cons_succ, List.getElem?_cons_zero]; rfl) (by kernel_rfl) (by kernel_rfl) (by kernel_rfl) (fun _ _ _ h => h) (Or.inl ⟨by rfl, ?_⟩) (by assumption) ?_
            rotate_left 1
            · intro w hSw; (try dsimp only at hSw); go_simp; all_goals (with_reducible rfl)
            try simp only [Act.put, List.setIfInBounds_toArray, List.set_cons_zero, List.set_cons_succ]
            refine wpAnyH_take (i := 11) (v := ?_) (by simp only [List.getElem?_toArray, List.getElem?_cons_succ, List.getElem?_cons_zero]; rfl) (by kernel_rfl) (by kernel_rfl) (by kernel_rfl) (fun _ _ _ h => h) (Or.inl ⟨by rfl, ?_⟩) (by assumption) ?_
            rotate_left 1
            · intro w hSw; (try dsimp only at hSw); go_simp; all_goals (with_reducible rfl)
            try simp only [Act.put, List.setIfInBounds_toArray, List.set_cons_zero, List.set_cons_succ]
            refine wpAnyH_take (i := 12) (v := ?_) (by simp only [List.getElem?_toArray, List.getElem?_cons_succ, List.getElem?_cons_zero]; rfl) (by kernel_rfl) (by kernel_rfl) (by kernel_rfl) (fun _ _ _ h => h) (Or.inl ⟨by rfl, ?_⟩) (by assumption) ?_
            rotate_left 1
            · intro w hSw; (try dsimp only at hSw); go_simp; all_goals (with_reducible rfl)
            try simp only [Act.put, List.setIfInBounds_toArray, List.set_cons_zero, List.set_cons_succ]
            refine wpAnyH_take (i := 13) (v := ?_) (by simp only [List.getElem?_toArray, List.getElem?_cons_succ, List.getElem?_cons_zero]; rfl) (by kernel_rfl) (by kernel_rfl) (by kernel_rfl) (fun _ _ _ h => h) (Or.inl ⟨by rfl, ?_⟩) (by assumption) ?_
            rotate_left 1
            · intro w hSw; (try dsimp only at hSw); go_simp; all_goals (with_reducible rfl)
            try simp only [Act.put, List.setIfInBounds_toArray, List.set_cons_zero, List.set_cons_succ]
            refine wpAnyH_take (i := 14) (v := ?_) (by simp only [List.getElem?_toArray, List.getElem?_cons_succ, List.getElem?_cons_zero]; rfl) (by kernel_rfl) (by kernel_rfl) (by kernel_rfl) (fun _ _ _ h => h) (Or.inl ⟨by rfl, ?_⟩) (by assumption) ?_
            rotate_left 1
            · intro w hSw; (try dsimp only at hSw); go_simp; all_goals (with_reducible rfl)
            try simp only [Act.put, List.setIfInBounds_toArray, List.set_cons_zero, List.set_cons_succ]
            refine wpAnyH_ready (rs := [10]) (by kernel_rfl) (by simp) ?_
            refine AllReadyH.cons (by simp only [List.getElem?_toArray, List.getElem?_cons_succ, List.getElem?_cons_zero]; rfl) (fun K hK => ?_) AllReadyH.nil
            go_simp
            refine (hsum_any q _ _ (Q3.out.new HG3.out)).mono ?_; rintro e wn ⟨rfl, hg⟩
            clear hHeld
            replace HG3 := Lib.hid (World.grownBy.trans HG3.out hg)
            clear hg
            go_wp2_with fail
            refine hK.out _ _ (KEEP.out _ HG3.out) (fun hHeld => ?_)
            clear hK K
            try simp only [Act.put, List.setIfInBounds_toArray, List.set_cons_zero, List.set_cons_succ]
            refine wpAnyH_ready (rs := [15]) (by kernel_rfl) (by simp) ?_
            refine AllReadyH.cons (by simp only [List.getElem?_toArray, List.getElem?_cons_succ, List.getElem?_cons_zero]; rfl) (fun K hK => ?_) AllReadyH.nil
            go_simp
            refine (HS3.out _).mono ?_; rintro e wn ⟨rfl, hg⟩
            clear hHeld
            replace HG3 := Lib.hid (World.grownBy.trans HG3.out hg)
            clear hg
            go_wp2_with fail
            refine hK.out _ _ (KEEP.out _ HG3.out) (fun hHeld => ?_)
            clear hK K
            try simp only [Act.put, List.setIfInBounds_toArray, List.set_cons_zero, List.set_cons_succ]
            refine wpAnyH_take (i := 16) (v := ?_) (by simp only [List.getElem?_toArray, List.getElem?_cons_succ, List.getElem?_cons_zero]; rfl) (by kernel_rfl) (by kernel_rfl) (by kernel_rfl) (fun _ _ _ h => h) (Or.inl ⟨by rfl, ?_⟩) (by assumption) ?_
            rotate_left 1
            · intro w hSw; (try dsimp only at hSw); go_simp; all_goals (with_reducible rfl)
            try simp only [Act.put, List.setIfInBounds_toArray, List.set_cons_zero, List.set_cons_succ]
            refine wpAnyH_take (i := 17) (v := ?_) (by simp only [List.getElem?_toArray, List.getElem?_cons_succ, List.getElem?_cons_zero]; rfl) (by kernel_rfl) (by kernel_rfl) (by kernel_rfl) (fun _ _ _ h => h) (Or.inl ⟨by rfl, ?_⟩) (by assumption) ?_
            rotate_left 1
            · intro w hSw; (try dsimp only at hSw); go_simp; all_goals (with_reducible rfl)
            try simp only [Act.put, List.setIfInBounds_toArray, List.set_cons_zero, List.set_cons_succ]
            refine wpAnyH_done (by kernel_rfl) ?_ _
            refine NoPanic.normal ?_
            go_wp2_with fail
            go_roundw
            case rel => exact ⟨to, k + 1, by omega, by go_num, by rw [HVN.out]; exact HTO.out.2, by rw [HTO.out.1], World.grownBy.trans G3.out HG3.out, by rw [← HBT.out, ← HFB.out]; exact H3.out.new HG3.out⟩
            case measure => simp [intOf]; omega
        · skip
          obtain ⟨x1, hx1, hb1⟩ := HB.out.cut_from und22 siz5 at_ hat
          obtain ⟨xa, xn, xc, rfl⟩ := hb1.shape
          have HX1 := Lib.hid hb1
          clear hb1
          go_wp2_with fail
          refine (hwrite_any r _ _ _ wr HH.out (fnv_lt _) HX1.out (by rw [List.length_drop]; have := H5.out; omega)).mono ?_; rintro e w2 ⟨rfl, hh, hg⟩
          rw [fnv_rest] at hh
          have G2 := Lib.hid (grown_own HG.out hg (fun n hn => by cases hn; exact HR.out))
          have H2 := Lib.hid hh
          have B2 := Lib.hid (HB0.out.new G2.out)
          have HS := Lib.hid (fun w => sum_any bs w (by have := H5.out; omega))
          generalize fnv bs = F at *
          clear hh hg HH HG HB HX1 hx1
          go_wp2_with fail
          have KEEP : Hid (∀ w', w2.grownBy w' none → (convert 35 9 (.slice va vn vc)).run Try.prog w' = .ok (.string ⟨bs.toArray⟩) w') := Lib.hid (fun w' hg' => (B2.out.new hg').str und22 und5 und9)
          refine wp_region_noPanic ?_
          refine wp_region_held_drew (S := fun w' => (convert 35 9 (.slice va vn vc)).run Try.prog w' = .ok (.string ⟨bs.toArray⟩) w') (by kernel_rfl) (KEEP.out _ (drew_grown _ _)) (fun hHeld => ?_)
          have HG3 : Hid (w2.grownBy w2.drew none) := Lib.hid (drew_grown _ _)
          refine wpAnyH_take (i := 0) (v := ?_) (by simp only [List.getElem?_toArray, List.getElem?_cons_zero]; rfl) (by kernel_rfl) (by kernel_rfl) (by kernel_rfl) (fun _ _ _ h => h) (Or.inl ⟨by rfl, ?_⟩) (by assumption) ?_
          rotate_left 1
          · intro w hSw; (try dsimp only at hSw); go_simp; all_goals (with_reducible rfl)
          try simp only [Act.put, List.setIfInBounds_toArray, List.set_cons_zero, List.set_cons_succ]
          refine wpAnyH_take (i := 2) (v := ?_) (by simp only [List.getElem?_toArray, List.getElem?_cons_succ, List.getElem?_cons_zero]; rfl) (by kernel_rfl) (by kernel_rfl) (by kernel_rfl) (fun _ _ _ h => h) (Or.inl ⟨by rfl, ?_⟩) (by assumption) ?_
          rotate_left 1
          · intro w hSw; (try dsimp only at hSw); go_simp; all_goals (with_reducible rfl)
          try simp only [Act.put, List.setIfInBounds_toArray, List.set_cons_zero, List.set_cons_succ]
          refine wpAnyH_take (i := 3) (v := ?_) (by simp only [List.getElem?_toArray, List.getElem?_cons_succ, List.getElem?_cons_zero]; rfl) (by kernel_rfl) (by kernel_rfl) (by kernel_rfl) (fun _ _ _ h => h) (Or.inl ⟨by rfl, ?_⟩) (by assumption) ?_
          rotate_left 1
          · intro w hSw; (try dsimp only at hSw); go_simp; all_goals (with_reducible rfl)
          try simp only [Act.put, List.setIfInBounds_toArray, List.set_cons_zero, List.set_cons_succ]
          refine wpAnyH_ready (rs := [1]) (by kernel_rfl) (by simp) ?_
          refine AllReadyH.cons (by simp only [List.getElem?_toArray, List.getElem?_cons_succ, List.getElem?_cons_zero]; rfl) (fun K hK => ?_) AllReadyH.nil
          go_simp
          refine (hsum_any r _ _ (H2.out.new HG3.out)).mono ?_; rintro e wn0 ⟨rfl, hg⟩
          clear hHeld
          replace HG3 := Lib.hid (World.grownBy.trans HG3.out hg)
          clear hg
          go_wp2_with fail
          refine hK.out _ _ (KEEP.out _ HG3.out) (fun hHeld => ?_)
          clear hK K
          try simp only [Act.put, List.setIfInBounds_toArray, List.set_cons_zero, List.set_cons_succ]
          refine wpAnyH_ready (rs := [4]) (by kernel_rfl) (by simp) ?_
          refine AllReadyH.cons (by simp only [List.getElem?_toArray, List.getElem?_cons_succ, List.getElem?_cons_zero]; rfl) (fun K hK => ?_) AllReadyH.nil
          go_simp
          refine (HS.out _).mono ?_; rintro e wn1 ⟨rfl, hg⟩
          clear hHeld
          replace HG3 := Lib.hid (World.grownBy.trans HG3.out hg)
          clear hg
          go_wp2_with fail
          refine hK.out _ _ (KEEP.out _ HG3.out) (fun hHeld => ?_)
          clear hK K
          try simp only [Act.put, List.setIfInBounds_toArray, List.set_cons_zero, List.set_cons_succ]
          refine wpAnyH_take (i := 5) (v := ?_) (by simp only [List.getElem?_toArray, List.getElem?_cons_succ, List.getElem?_cons_zero]; rfl) (by kernel_rfl) (by kernel_rfl) (by kernel_rfl) (fun _ _ _ h => h) (Or.inl ⟨by rfl, ?_⟩) (by assumption) ?_
          rotate_left 1
          · intro w hSw; (try dsimp only at hSw); go_simp; all_goals (with_reducible rfl)
          try simp only [Act.put, List.setIfInBounds_toArray, List.set_cons_zero, List.set_cons_succ]
          refine wpAnyH_ready (rs := [6]) (by kernel_rfl) (by simp) ?_
          refine AllReadyH.cons (by simp only [List.getElem?_toArray, List.getElem?_cons_succ, List.getElem?_cons_zero]; rfl) (fun K hK => ?_) AllReadyH.nil
          go_simp
          refine hK.out _ _ (KEEP.out _ HG3.out) (fun hHeld => ?_)
          clear hK K
          try simp only [Act.put, List.setIfInBounds_toArray, List.set_cons_zero, List.set_cons_succ]
          refine wpAnyH_done (by kernel_rfl) ?_ _
          refine NoPanic.normal ?_
          go_wp2_with fail
          go_ret
          exact ⟨rfl, World.grownBy.trans G2.out HG3.out⟩
      · skip
        obtain ⟨x1, hx1, hb1⟩ := HB.out.cut_from und22 siz5 at_ hat
        obtain ⟨xa, xn, xc, rfl⟩ := hb1.shape
        have HX1 := Lib.hid hb1
        clear hb1
        go_wp2_with fail
        refine (hwrite_any r _ _ _ wr HH.out (fnv_lt _) HX1.out (by rw [List.length_drop]; have := H5.out; omega)).mono ?_; rintro e w2 ⟨rfl, hh, hg⟩
        rw [fnv_rest] at hh
        have G2 := Lib.hid (grown_own HG.out hg (fun n hn => by cases hn; exact HR.out))
        have H2 := Lib.hid hh
        have B2 := Lib.hid (HB0.out.new G2.out)
        have HS := Lib.hid (fun w => sum_any bs w (by have := H5.out; omega))
        generalize fnv bs = F at *
        clear hh hg HH HG HB HX1 hx1
        go_wp2_with fail
        have KEEP : Hid (∀ w', w2.grownBy w' none → (convert 35 9 (.slice va vn vc)).run Try.prog w' = .ok (.string ⟨bs.toArray⟩) w') := Lib.hid (fun w' hg' => (B2.out.new hg').str und22 und5 und9)
        refine wp_region_noPanic ?_
        refine wp_region_held_drew (S := fun w' => (convert 35 9 (.slice va vn vc)).run Try.prog w' = .ok (.string ⟨bs.toArray⟩) w') (by kernel_rfl) (KEEP.out _ (drew_grown _ _)) (fun hHeld => ?_)
        have HG3 : Hid (w2.grownBy w2.drew none) := Lib.hid (drew_grown _ _)
        refine wpAnyH_take (i := 0) (v := ?_) (by simp only [List.getElem?_toArray, List.getElem?_cons_zero]; rfl) (by kernel_rfl) (by kernel_rfl) (by kernel_rfl) (fun _ _ _ h => h) (Or.inl ⟨by rfl, ?_⟩) (by assumption) ?_
        rotate_left 1
        · intro w hSw; (try dsimp only at hSw); go_simp; all_goals (with_reducible rfl)
        try simp only [Act.put, List.setIfInBounds_toArray, List.set_cons_zero, List.set_cons_succ]
        refine wpAnyH_take (i := 2) (v := ?_) (by simp only [List.getElem?_toArray, List.getElem?_cons_succ, List.getElem?_cons_zero]; rfl) (by kernel_rfl) (by kernel_rfl) (by kernel_rfl) (fun _ _ _ h => h) (Or.inl ⟨by rfl, ?_⟩) (by assumption) ?_
        rotate_left 1
        · intro w hSw; (try dsimp only at hSw); go_simp; all_goals (with_reducible rfl)
        try simp only [Act.put, List.setIfInBounds_toArray, List.set_cons_zero, List.set_cons_succ]
        refine wpAnyH_take (i := 3) (v := ?_) (by simp only [List.getElem?_toArray, List.getElem?_cons_succ, List.getElem?_cons_zero]; rfl) (by kernel_rfl) (by kernel_rfl) (by kernel_rfl) (fun _ _ _ h => h) (Or.inl ⟨by rfl, ?_⟩) (by assumption) ?_
        rotate_left 1
        · intro w hSw; (try dsimp only at hSw); go_simp; all_goals (with_reducible rfl)
        try simp only [Act.put, List.setIfInBounds_toArray, List.set_cons_zero, List.set_cons_succ]
        refine wpAnyH_ready (rs := [1]) (by kernel_rfl) (by simp) ?_
        refine AllReadyH.cons (by simp only [List.getElem?_toArray, List.getElem?_cons_succ, List.getElem?_cons_zero]; rfl) (fun K hK => ?_) AllReadyH.nil
        go_simp
        refine (hsum_any r _ _ (H2.out.new HG3.out)).mono ?_; rintro e wn0 ⟨rfl, hg⟩
        clear hHeld
        replace HG3 := Lib.hid (World.grownBy.trans HG3.out hg)
        clear hg
        go_wp2_with fail
        refine hK.out _ _ (KEEP.out _ HG3.out) (fun hHeld => ?_)
        clear hK K
        try simp only [Act.put, List.setIfInBounds_toArray, List.set_cons_zero, List.set_cons_succ]
        refine wpAnyH_ready (rs := [4]) (by kernel_rfl) (by simp) ?_
        refine AllReadyH.cons (by simp only [List.getElem?_toArray, List.getElem?_cons_succ, List.getElem?_cons_zero]; rfl) (fun K hK => ?_) AllReadyH.nil
        go_simp
        refine (HS.out _).mono ?_; rintro e wn1 ⟨rfl, hg⟩
        clear hHeld
        replace HG3 := Lib.hid (World.grownBy.trans HG3.out hg)
        clear hg
        go_wp2_with fail
        refine hK.out _ _ (KEEP.out _ HG3.out) (fun hHeld => ?_)
        clear hK K
        try simp only [Act.put, List.setIfInBounds_toArray, List.set_cons_zero, List.set_cons_succ]
        refine wpAnyH_take (i := 5) (v := ?_) (by simp only [List.getElem?_toArray, List.getElem?_cons_succ, List.getElem?_cons_zero]; rfl) (by kernel_rfl) (by kernel_rfl) (by kernel_rfl) (fun _ _ _ h => h) (Or.inl ⟨by rfl, ?_⟩) (by assumption) ?_
        rotate_left 1
        · intro w hSw; (try dsimp only at hSw); go_simp; all_goals (with_reducible rfl)
        try simp only [Act.put, List.setIfInBounds_toArray, List.set_cons_zero, List.set_cons_succ]
        refine wpAnyH_ready (rs := [6]) (by kernel_rfl) (by simp) ?_
        refine AllReadyH.cons (by simp only [List.getElem?_toArray, List.getElem?_cons_succ, List.getElem?_cons_zero]; rfl) (fun K hK => ?_) AllReadyH.nil
        go_simp
        refine hK.out _ _ (KEEP.out _ HG3.out) (fun hHeld => ?_)
        clear hK K
        try simp only [Act.put, List.setIfInBounds_toArray, List.set_cons_zero, List.set_cons_succ]
        refine wpAnyH_done (by kernel_rfl) ?_ _
        refine NoPanic.normal ?_
        go_wp2_with fail
        go_ret
        exact ⟨rfl, World.grownBy.trans G2.out HG3.out⟩
    · skip
      obtain ⟨x1, hx1, hb1⟩ := HB.out.cut_from und22 siz5 at_ hat
      obtain ⟨xa, xn, xc, rfl⟩ := hb1.shape
      have HX1 := Lib.hid hb1
      clear hb1
      go_wp2_with fail
      refine (hwrite_any r _ _ _ wr HH.out (fnv_lt _) HX1.out (by rw [List.length_drop]; have := H5.out; omega)).mono ?_; rintro e w2 ⟨rfl, hh, hg⟩
      rw [fnv_rest] at hh
      have G2 := Lib.hid (grown_own HG.out hg (fun n hn => by cases hn; exact HR.out))
      have H2 := Lib.hid hh
      have B2 := Lib.hid (HB0.out.new G2.out)
      have HS := Lib.hid (fun w => sum_any bs w (by have := H5.out; omega))
      generalize fnv bs = F at *
      clear hh hg HH HG HB HX1 hx1
      go_wp2_with fail
      have KEEP : Hid (∀ w', w2.grownBy w' none → (convert 35 9 (.slice va vn vc)).run Try.prog w' = .ok (.string ⟨bs.toArray⟩) w') := Lib.hid (fun w' hg' => (B2.out.new hg').str und22 und5 und9)
      refine wp_region_noPanic ?_
      refine wp_region_held_drew (S := fun w' => (convert 35 9 (.slice va vn vc)).run Try.prog w' = .ok (.string ⟨bs.toArray⟩) w') (by kernel_rfl) (KEEP.out _ (drew_grown _ _)) (fun hHeld => ?_)
      have HG3 : Hid (w2.grownBy w2.drew none) := Lib.hid (drew_grown _ _)
      refine wpAnyH_take (i := 0) (v := ?_) (by simp only [List.getElem?_toArray, List.getElem?_cons_zero]; rfl) (by kernel_rfl) (by kernel_rfl) (by kernel_rfl) (fun _ _ _ h => h) (Or.inl ⟨by rfl, ?_⟩) (by assumption) ?_
      rotate_left 1
      · intro w hSw; (try dsimp only at hSw); go_simp; all_goals (with_reducible rfl)
      try simp only [Act.put, List.setIfInBounds_toArray, List.set_cons_zero, List.set_cons_succ]
      refine wpAnyH_take (i := 2) (v := ?_) (by simp only [List.getElem?_toArray, List.getElem?_cons_succ, List.getElem?_cons_zero]; rfl) (by kernel_rfl) (by kernel_rfl) (by kernel_rfl) (fun _ _ _ h => h) (Or.inl ⟨by rfl, ?_⟩) (by assumption) ?_
      rotate_left 1
      · intro w hSw; (try dsimp only at hSw); go_simp; all_goals (with_reducible rfl)
      try simp only [Act.put, List.setIfInBounds_toArray, List.set_cons_zero, List.set_cons_succ]
      refine wpAnyH_take (i := 3) (v := ?_) (by simp only [List.getElem?_toArray, List.getElem?_cons_succ, List.getElem?_cons_zero]; rfl) (by kernel_rfl) (by kernel_rfl) (by kernel_rfl) (fun _ _ _ h => h) (Or.inl ⟨by rfl, ?_⟩) (by assumption) ?_
      rotate_left 1
      · intro w hSw; (try dsimp only at hSw); go_simp; all_goals (with_reducible rfl)
      try simp only [Act.put, List.setIfInBounds_toArray, List.set_cons_zero, List.set_cons_succ]
      refine wpAnyH_ready (rs := [1]) (by kernel_rfl) (by simp) ?_
      refine AllReadyH.cons (by simp only [List.getElem?_toArray, List.getElem?_cons_succ, List.getElem?_cons_zero]; rfl) (fun K hK => ?_) AllReadyH.nil
      go_simp
      refine (hsum_any r _ _ (H2.out.new HG3.out)).mono ?_; rintro e wn0 ⟨rfl, hg⟩
      clear hHeld
      replace HG3 := Lib.hid (World.grownBy.trans HG3.out hg)
      clear hg
      go_wp2_with fail
      refine hK.out _ _ (KEEP.out _ HG3.out) (fun hHeld => ?_)
      clear hK K
      try simp only [Act.put, List.setIfInBounds_toArray, List.set_cons_zero, List.set_cons_succ]
      refine wpAnyH_ready (rs := [4]) (by kernel_rfl) (by simp) ?_
      refine AllReadyH.cons (by simp only [List.getElem?_toArray, List.getElem?_cons_succ, List.getElem?_cons_zero]; rfl) (fun K hK => ?_) AllReadyH.nil
      go_simp
      refine (HS.out _).mono ?_; rintro e wn1 ⟨rfl, hg⟩
      clear hHeld
      replace HG3 := Lib.hid (World.grownBy.trans HG3.out hg)
      clear hg
      go_wp2_with fail
      refine hK.out _ _ (KEEP.out _ HG3.out) (fun hHeld => ?_)
      clear hK K
      try simp only [Act.put, List.setIfInBounds_toArray, List.set_cons_zero, List.set_cons_succ]
      refine wpAnyH_take (i := 5) (v := ?_) (by simp only [List.getElem?_toArray, List.getElem?_cons_succ, List.getElem?_cons_zero]; rfl) (by kernel_rfl) (by kernel_rfl) (by kernel_rfl) (fun _ _ _ h => h) (Or.inl ⟨by rfl, ?_⟩) (by assumption) ?_
      rotate_left 1
      · intro w hSw; (try dsimp only at hSw); go_simp; all_goals (with_reducible rfl)
      try simp only [Act.put, List.setIfInBounds_toArray, List.set_cons_zero, List.set_cons_succ]
      refine wpAnyH_ready (rs := [6]) (by kernel_rfl) (by simp) ?_
      refine AllReadyH.cons (by simp only [List.getElem?_toArray, List.getElem?_cons_succ, List.getElem?_cons_zero]; rfl) (fun K hK => ?_) AllReadyH.nil
      go_simp
      refine hK.out _ _ (KEEP.out _ HG3.out) (fun hHeld => ?_)
      clear hK K
      try simp only [Act.put, List.setIfInBounds_toArray, List.set_cons_zero, List.set_cons_succ]
      refine wpAnyH_done (by kernel_rfl) ?_ _
      refine NoPanic.normal ?_
      go_wp2_with fail
      go_ret
      exact ⟨rfl, World.grownBy.trans G2.out HG3.out⟩

theorem parts_walk (v : Value) (bs : List UInt8) (u : Value) (cs : List UInt8) (w : World) (hv : Bts w v bs) (hu : Bts w u cs) : Calls Try.prog 5 #[v, u] w (OK w) := by
  by_cases h : 5000 < bs.length
  · exact parts_long v u bs cs w hv hu h
  · exact parts_short v u bs cs w hv hu (by omega)
end Go.Proofs.Ytdicoojodefacaa
