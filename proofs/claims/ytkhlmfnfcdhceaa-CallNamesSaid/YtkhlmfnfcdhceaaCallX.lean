/- The document's Tell. -/
import Derived.Test.YtkhlmfnfcdhceaaCallU
import Derived.Deep.RegionHeld3
namespace Go.Proofs.Ytkhlmfnfcdhceaa
open Go.RowKit

set_option maxHeartbeats 1000000 in
theorem rtell_bad (x f : Int) (b : List UInt8) (w : World) (hb : b.length ≤ maxLen) (h : ¬ anMay ⟨x, f, b⟩) :
    Calls Try.prog 17 #[anV ⟨x, f, b⟩] w (TE w ([], 1)) := by
  have HM := Lib.hid (fun w => may_any x f b w hb)
  rw [decide_eq_false h] at HM
  clear h hb
  unfold anV txt at *
  go_enter Try.func17, Try.ntmps17
  go_wp2_with (first
    | (go_at_call 33; refine (HM.out _).mono ?_; rintro e w' ⟨rfl, h2⟩; have H2 := Lib.hid h2; clear h2))
  go_ret2
  exact ⟨rfl, World.grownBy.trans (World.grownBy_alloc _ _ _) H2.out⟩

set_option maxHeartbeats 2000000 in
theorem rtell_ok (x f : Nat) (b : List UInt8) (w : World) (h : anMay ⟨x, f, b⟩) (hb : b.length ≤ 1000000000) :
    Calls Try.prog 17 #[anV ⟨x, f, b⟩] w (TE w (anB ⟨x, f, b⟩, 0)) := by
  have HM := Lib.hid (fun w => may_any x f b w (by unfold maxLen; omega))
  rw [decide_eq_true h] at HM
  have hx : x < 4294967296 := by have := h.2.1; unfold isW at this; dsimp at this; omega
  have hf : f < 4294967296 := by have := h.1; dsimp at this; omega
  have HE := Lib.hid (anB_cat x f b h.2.2)
  rw [fixedB_whole h.2.2] at HE
  have HW1 := Lib.hid (fun w => refWord_any _ [] x w (Bts.nil w) (by simp) hx)
  have hx2 : (x : Int) < 4294967296 := by omega
  have hf2 : (f : Int) < 4294967296 := by omega
  have HF := Lib.hid hf
  have HLB : Hid ((b.length : Int) ≤ 1000000000) := Lib.hid (by omega)
  clear h hb hx hf
  unfold anV txt at *
  go_enter Try.func17, Try.ntmps17
  go_wp2_with fail
  refine (HM.out _).mono ?_; rintro e w1 ⟨rfl, h2⟩; have H2 := Lib.hid h2; clear h2
  go_wp2_with fail
  have hblk := (Blk.made w 43 #[Value.int IntKind.i64 ↑x, Value.int IntKind.i64 ↑f, Value.string ⟨b.toArray⟩]).new H2.out
  have c0 := hblk.cell (i := 0) rfl
  have c1 := hblk.cell (i := 1) rfl
  have HB := Lib.hid hblk
  clear hblk
  have KEEP : Hid (∀ w', w1.grownBy w' none → (w'.cell? ⟨w.heap.size, 0, none⟩ = some (.int .i64 x) ∧ w'.cell? ⟨w.heap.size, 1, none⟩ = some (.int .i64 f))) := Lib.hid (fun w' hg => ⟨hg.cell c0 (by simp), hg.cell c1 (by simp)⟩)
  clear c0 c1
  refine wp_region_noPanic ?_
  refine wp_region_held_drew (S := fun w' => w'.cell? ⟨w.heap.size, 0, none⟩ = some (.int .i64 x) ∧ w'.cell? ⟨w.heap.size, 1, none⟩ = some (.int .i64 f)) (by kernel_rfl) (KEEP.out _ (drew_grown _ _)) (fun hHeld => ?_)
  have HG : Hid (w1.grownBy w1.drew none) := Lib.hid (drew_grown _ _)
  refine wpAnyH_take (i := 0) (v := ?_) (by simp only [List.getElem?_toArray, List.getElem?_cons_zero]; rfl) (by kernel_rfl) (by kernel_rfl) (by kernel_rfl) (fun _ _ _ h => h) (Or.inl ⟨by rfl, ?_⟩) (by assumption) ?_
  rotate_left 1
  · intro w hSw; (try dsimp only at hSw); go_simp; all_goals (with_reducible rfl)
  try simp only [Act.put, List.setIfInBounds_toArray, List.set_cons_zero, List.set_cons_succ]
  refine wpAnyH_take (i := 1) (v := ?_) (by simp only [List.getElem?_toArray, List.getElem?_cons_succ, List.getElem?_cons_zero]; rfl) (by kernel_rfl) (by kernel_rfl) (by kernel_rfl) (fun _ _ _ h => h) (Or.inl ⟨by rfl, ?_⟩) (by assumption) ?_
  rotate_left 1
  · intro w hSw; (try dsimp only at hSw); go_simp; all_goals (with_reducible rfl)
  try simp only [Act.put, List.setIfInBounds_toArray, List.set_cons_zero, List.set_cons_succ]
  refine wpAnyH_take (i := 2) (v := ?_) (by simp only [List.getElem?_toArray, List.getElem?_cons_succ, List.getElem?_cons_zero]; rfl) (by kernel_rfl) (by kernel_rfl) (by kernel_rfl) (fun _ _ _ h => h) (Or.inl ⟨by rfl, ?_⟩) (by assumption) ?_
  rotate_left 1
  · intro w hSw; (try dsimp only at hSw); go_simp; all_goals (with_reducible rfl)
  try simp only [Act.put, List.setIfInBounds_toArray, List.set_cons_zero, List.set_cons_succ]
  refine wpAnyH_take (i := 5) (v := ?_) (by simp only [List.getElem?_toArray, List.getElem?_cons_succ, List.getElem?_cons_zero]; rfl) (by kernel_rfl) (by kernel_rfl) (by kernel_rfl) (fun _ _ _ h => h) (Or.inl ⟨by rfl, ?_⟩) (by assumption) ?_
  rotate_left 1
  · intro w hSw; (try dsimp only at hSw); go_simp; all_goals (with_reducible rfl)
  try simp only [Act.put, List.setIfInBounds_toArray, List.set_cons_zero, List.set_cons_succ]
  refine wpAnyH_take (i := 6) (v := ?_) (by simp only [List.getElem?_toArray, List.getElem?_cons_succ, List.getElem?_cons_zero]; rfl) (by kernel_rfl) (by kernel_rfl) (by kernel_rfl) (fun _ _ _ h => h) (Or.inl ⟨by rfl, ?_⟩) (by assumption) ?_
  rotate_left 1
  · intro w hSw; (try dsimp only at hSw); go_simp; all_goals (with_reducible rfl)
  try simp only [Act.put, List.setIfInBounds_toArray, List.set_cons_zero, List.set_cons_succ]
  refine wpAnyH_take (i := 7) (v := ?_) (by simp only [List.getElem?_toArray, List.getElem?_cons_succ, List.getElem?_cons_zero]; rfl) (by kernel_rfl) (by kernel_rfl) (by kernel_rfl) (fun _ _ _ h => h) (Or.inl ⟨by rfl, ?_⟩) (by assumption) ?_
  rotate_left 1
  · intro w hSw; (try dsimp only at hSw); go_simp; all_goals (with_reducible rfl)
  try simp only [Act.put, List.setIfInBounds_toArray, List.set_cons_zero, List.set_cons_succ]
  refine wpAnyH_ready (rs := [3]) (by kernel_rfl) (by simp) ?_
  refine AllReadyH.cons (by simp only [List.getElem?_toArray, List.getElem?_cons_succ, List.getElem?_cons_zero]; rfl) (fun K hK => ?_) AllReadyH.nil
  go_simp
  rw [show IntKind.u32.wrap (x : Int) = x by rw [IntKind.wrap_u32]; omega]
  refine (HW1.out _).mono ?_
  rintro e wn1 ⟨vn1, rfl, hb, hg⟩
  obtain ⟨an1, nn1, cn1, rfl⟩ := hb.bts.shape
  clear hHeld
  have B1 := Lib.hid hb.bts
  replace HG := Lib.hid (World.grownBy.trans HG.out hg)
  clear hb hg
  go_wp2_with fail
  refine hK.out _ _ (KEEP.out _ HG.out) (fun hHeld => ?_)
  clear hK K
  try simp only [Act.put, List.setIfInBounds_toArray, List.set_cons_zero, List.set_cons_succ]
  refine wpAnyH_ready (rs := [4]) (by kernel_rfl) (by simp) ?_
  refine AllReadyH.cons (by simp only [List.getElem?_toArray, List.getElem?_cons_succ, List.getElem?_cons_zero]; rfl) (fun K hK => ?_) AllReadyH.nil
  go_simp
  refine (refWord_any _ _ 1 _ B1.out (by simp [word4]) (by omega)).mono ?_
  rintro e wn2 ⟨vn2, rfl, hb, hg⟩
  obtain ⟨an2, nn2, cn2, rfl⟩ := hb.bts.shape
  clear hHeld
  have B2 := Lib.hid hb.bts
  replace HG := Lib.hid (World.grownBy.trans HG.out hg)
  clear hb hg
  go_wp2_with fail
  refine hK.out _ _ (KEEP.out _ HG.out) (fun hHeld => ?_)
  clear hK K
  try simp only [Act.put, List.setIfInBounds_toArray, List.set_cons_zero, List.set_cons_succ]
  refine wpAnyH_ready (rs := [8]) (by kernel_rfl) (by simp) ?_
  refine AllReadyH.cons (by simp only [List.getElem?_toArray, List.getElem?_cons_succ, List.getElem?_cons_zero]; rfl) (fun K hK => ?_) AllReadyH.nil
  go_simp
  rw [show IntKind.u32.wrap (f : Int) = f by rw [IntKind.wrap_u32]; omega]
  refine (refWord_any _ _ f _ B2.out (by simp [word4]) HF.out).mono ?_
  rintro e wn3 ⟨vn3, rfl, hb, hg⟩
  obtain ⟨an3, nn3, cn3, rfl⟩ := hb.bts.shape
  clear hHeld
  have B3 := Lib.hid hb.bts
  replace HG := Lib.hid (World.grownBy.trans HG.out hg)
  clear hb hg
  go_wp2_with fail
  refine hK.out _ _ (KEEP.out _ HG.out) (fun hHeld => ?_)
  clear hK K
  try simp only [Act.put, List.setIfInBounds_toArray, List.set_cons_zero, List.set_cons_succ]
  refine wpAnyH_ready (rs := [9]) (by kernel_rfl) (by simp) ?_
  refine AllReadyH.cons (by simp only [List.getElem?_toArray, List.getElem?_cons_succ, List.getElem?_cons_zero]; rfl) (fun K hK => ?_) AllReadyH.nil
  go_simp
  refine hK.out _ _ (KEEP.out _ HG.out) (fun hHeld => ?_)
  clear hK K
  try simp only [Act.put, List.setIfInBounds_toArray, List.set_cons_zero, List.set_cons_succ]
  refine wpAnyH_done (by kernel_rfl) ?_ _
  refine NoPanic.normal ?_
  have hE : [] ++ word4 x ++ word4 1 ++ word4 f = cat [x, 1, f] := by simp [cat]
  have b3 := B3.out
  rw [hE] at b3
  have hst := b3.str und22 und5 und9
  have hcl : (((cat [x, 1, f]).length : Nat) : Int) = 12 := by rw [cat_len]; rfl
  have hl := HLB.out
  have c2 := (HB.out.new HG.out).cell (i := 2) rfl
  have HS := Lib.hid (str_app (cat [x, 1, f]) b)
  rw [HE.out] at HS
  have HG3 := Lib.hid (World.grownBy.trans (World.grownBy.trans (World.grownBy_alloc _ _ _) H2.out) HG.out)
  clear hx2 hf2 b3 hE B1 B2 B3 HG H2 HB KEEP hHeld
  generalize w.heap.size = B at *
  generalize cat [x, 1, f] = out at *
  go_wp2_with fail
  go_ret2
  exact ⟨congrArg (fun z => Ending.returned (.tuple #[Value.string z, .int .i64 0])) HS.out, HG3.out⟩

theorem rTell_any (a : An) (w : World) (hb : a.b.length ≤ 1000000000) : Calls Try.prog 17 #[anV a] w (TE w (cTell a)) := by
  obtain ⟨x, f, b⟩ := a
  by_cases h1 : anMay ⟨x, f, b⟩
  · have e : cTell ⟨x, f, b⟩ = (anB ⟨x, f, b⟩, 0) := if_pos h1
    rw [e]
    have h2 := h1.1
    have h3 := h1.2.1
    dsimp at h2 h3
    obtain ⟨x, rfl⟩ := Int.eq_ofNat_of_zero_le h3.1
    obtain ⟨f, rfl⟩ := Int.eq_ofNat_of_zero_le (show 0 ≤ f by omega)
    exact rtell_ok x f b w h1 hb
  · have e : cTell ⟨x, f, b⟩ = ([], 1) := if_neg h1
    rw [e]
    exact rtell_bad x f b w (by show b.length ≤ _; unfold maxLen; dsimp at hb; omega) h1

theorem rWrite_any (h : Hd) (w : World) (hb : h.b.length ≤ 1000000000) : Calls Try.prog 16 #[hdV h] w (TE w (cWrite h)) := by
  obtain ⟨c, x, p, b⟩ := h
  dsimp at hb
  by_cases h1 : (1 ≤ c ∧ c ≤ 16) ∧ isW x ∧ isW p ∧ b.length % 4 = 0
  · obtain ⟨h1, h2, h3, h4⟩ := h1
    have e : cWrite ⟨c, x, p, b⟩ = if 4072 < b.length then ([], 40) else (hdB ⟨c, x, p, b⟩, 0) := by
      unfold cWrite
      rw [if_neg (by rintro (q | q | q | q | q) <;> first | (exact q h2) | (exact q h3) | (exact q h4) | (dsimp at q; omega))]
    rw [e]
    obtain ⟨c, rfl⟩ := Int.eq_ofNat_of_zero_le (show 0 ≤ c by omega)
    obtain ⟨x, rfl⟩ := Int.eq_ofNat_of_zero_le h2.1
    obtain ⟨p, rfl⟩ := Int.eq_ofNat_of_zero_le h3.1
    unfold isW at h2 h3
    refine rwrite_ok c x p b w (by omega) (by omega) (by omega) h4 hb _ ?_
    by_cases h5 : 4072 < b.length
    · exact .inl ⟨h5, if_pos h5⟩
    · exact .inr ⟨by omega, if_neg h5⟩
  · have e : cWrite ⟨c, x, p, b⟩ = ([], 1) := by
      unfold cWrite
      rw [if_pos]
      dsimp only
      by_cases q1 : 1 ≤ c ∧ c ≤ 16
      · by_cases q2 : isW x
        · by_cases q3 : isW p
          · exact .inr (.inr (.inr (.inr fun q => h1 ⟨q1, q2, q3, q⟩)))
          · exact .inr (.inr (.inr (.inl q3)))
        · exact .inr (.inr (.inl q2))
      · omega
    rw [e]
    exact rwrite_bad c x p b w (by unfold maxLen; omega) h1
end Go.Proofs.Ytkhlmfnfcdhceaa
