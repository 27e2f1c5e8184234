/- The document's disk: Flush, SayCut, Boot. -/
import Derived.Test.YtnnhnkpbiilooaaDlC
namespace Go.Proofs.Ytnnhnkpbiilooaa
open Go.RowKit Go.Maps

theorem rows_get {on wt : List (Nat × Bk)} {i : Nat} (h : i < on.length + wt.length) : ((rows on wt).getD i R3.zero).1 = (on ++ wt).getD i (0, Bk.zero) := by
  have h1 : i < (rows on wt).length := by rw [rows_len]; exact h
  have h2 : i < (on ++ wt).length := by rw [List.length_append]; exact h
  have e1 : (rows on wt).getD i R3.zero = (rows on wt)[i] := by simp [List.getD, h1]
  have e2 : (on ++ wt).getD i (0, Bk.zero) = (on ++ wt)[i] := by simp only [List.getD, List.getElem?_eq_getElem h2, Option.getD_some]
  rw [e1, e2]
  have := rows_fst on wt
  rw [← List.getElem_map (f := fun x : R3 => x.1) (h := by simpa using h1)]
  simp only [this]
theorem DS.count_lf {s : DS} (h : s.lf ≠ 1) : s.count = ({ s with lf := s.lf - 1 }, 0) := by
  rcases Nat.lt_trichotomy s.lf 1 with hl | hl | hl
  · have hl : s.lf = 0 := by omega
    rw [DS.count_0 hl]
    obtain ⟨n, fl, wt, lf, kp, dd, m⟩ := s
    dsimp only at *
    subst hl
    rfl
  · exact absurd hl h
  · exact DS.count_n hl
theorem DoesR.after {w w1 : World} {q : Nat} {kv : Value} {s : DS} {z : Int} {e : Ending} {w' : World} (hk : Kept (· = q) w w1) (h : DoesR w1 q kv s z e w') : DoesR w q kv s z e w' := by
  obtain ⟨kv', h1, h2, h3, h4⟩ := h
  exact ⟨kv', h1, h2, hk.trans h3, fun k e => (h4 k e).imp id (fun h => Nat.le_trans hk.size h)⟩

section
variable {w : World} {q : Nat} {kv : Value} {s : DS} {on : List (Nat × Bk)} {lv : Value}
set_option maxRecDepth 100000 in
set_option maxHeartbeats 4000000 in
theorem rFlush_any (h : Rk w q kv s on lv) (hm : s.m ≤ 1000000000) : Calls Try.prog 28 #[dptr q] w (DoesR w q kv s.flush.1 s.flush.2) := by
  have H := Lib.hid h
  have HM := Lib.hid hm
  have c4 := h.blk.cell (i := 4) (x := .bool s.dd) rfl
  rcases hd : s.dd with _ | _
  rotate_left 1
  · rw [DS.flush_dead hd]
    rw [hd] at c4
    clear h hm hd
    unfold dptr
    go_enter Try.func28, Try.ntmps28
    go_wp2_with fail
    go_ret
    exact RkE.does ⟨on, lv, H.out⟩ 51
  rw [hd] at c4
  have HF := Lib.hid (fails_any h)
  have HD := Lib.hid hd
  by_cases hl : s.lf = 1
  · rw [DS.flush_1 hd hl]
    rw [decide_eq_true hl] at HF
    clear h hm hd hl
    unfold dptr at *
    go_enter Try.func28, Try.ntmps28
    go_upto_region 3 with fail
    clear c4
    go_wp2_with fail
    refine HF.out.mono ?_; rintro e w1 ⟨rfl, hr1, hk1⟩
    obtain ⟨ak, nk, ck, hkv⟩ : ∃ a n c, kv = .slice a n c := by
      obtain ⟨a, c, e, _⟩ := hr1.kp.bls.shape
      exact ⟨_, _, _, e⟩
    have R1 := Lib.hid hr1
    have K1 := Lib.hid hk1
    have c3 := hr1.blk.cell (i := 3) (x := kv) rfl
    rw [hkv] at c3
    have hls := rFail_live hr1 HM.out HD.out hr1.kp.bls
    rw [hkv] at hls
    have HFL := Lib.hid hls
    have HKV := Lib.hid hkv
    unfold dptr at HFL
    clear hr1 hk1 hls hkv
    go_wp2_with fail
    refine HFL.out.mono ?_; rintro e w2 ⟨kv2, rfl, hr2, hk2, hn2⟩
    have E2 := Lib.hid (And.intro hr2 (And.intro hk2 hn2))
    clear hr2 hk2 hn2
    go_wp2_with fail
    go_ret
    obtain ⟨hr2, hk2, hn2⟩ := E2.out
    exact DoesR.after K1.out ⟨kv2, rfl, hr2, hk2, by rw [HKV.out]; exact hn2⟩
  · rw [DS.flush_n hd hl, DS.count_lf hl]
    rw [decide_eq_false hl] at HF
    clear h hm hd hl
    unfold dptr at *
    go_enter Try.func28, Try.ntmps28
    go_upto_region 3 with fail
    clear c4
    go_wp2_with fail
    refine HF.out.mono ?_; rintro e w1 ⟨rfl, h, hk1⟩
    have K1 := Lib.hid hk1
    have hrow := h.row
    have hb := h.blk
    obtain ⟨a, c, rfl, hl, ha⟩ := hrow.form
    have H := Lib.hid h
    obtain ⟨len, hlen⟩ : ∃ n, on.length + s.wt.length = n := ⟨_, rfl⟩
    have hle : (rows on s.wt).length = len := by rw [rows_len]; exact hlen
    dsimp only at hrow hb hl ha
    rw [hle] at hrow hb hl ha
    have HLEN := Lib.hid hlen
    have HROW := Lib.hid hrow
    have HB := Lib.hid hb
    have HA := Lib.hid ha
    have HQLT : Hid (q < w1.heap.size) := Lib.hid hb.lt
    unfold maxLen at hl
    have z1 : (len : Int) ≤ 9223372036854775807 := by omega
    have HCNT : Hid (len ≤ 1000000000) := Lib.hid (by have := h.cnt; have := HM.out; dsimp only at *; omega)
    clear hrow hb ha hlen hl h hk1 hle
    go_wp2_with fail
    go_loopw [3, 4] (fun x z wr => ∃ i : Nat, i ≤ len ∧ z = .int .i64 i ∧ Rr wr w1.heap.size x (((on ++ s.wt).take i).map (fun y => (y, true))) ∧ w1.grownBy wr none) (fun _ z _ => len - (intOf z).toNat)
    case atStart => exact ⟨0, Nat.zero_le _, rfl, by simpa using Rr.nil _ _, World.grownBy.refl _ _⟩
    case round =>
      obtain ⟨i, hi, rfl, hrr, hgr⟩ := hrel
      obtain ⟨ax, cx, hx, _, _⟩ := hrr.form
      subst hx
      have HRR := Lib.hid hrr
      have HGR := Lib.hid hgr
      have hbr := HB.out.new hgr
      have HBR := Lib.hid hbr
      have c1 := hbr.cell (i := 1) (x := .slice a len c) rfl
      obtain ⟨nx, hnx⟩ : ∃ n, (((on ++ s.wt).take i).map (fun y => (y, true))).length = n := ⟨_, rfl⟩
      have HNX : Hid (nx ≤ 10000000000) := Lib.hid (by
        have h2 := HCNT.out
        rw [List.length_map, List.length_take] at hnx
        omega)
      have HNE := Lib.hid hnx
      rw [hnx] at HRR ⊢
      clear hrr hgr hbr hnx
      by_cases hlt : i < len
      · obtain ⟨g, rfl⟩ := HA.out (by omega)
        have HGLT : Hid (g < w1.heap.size) := Lib.hid (Rr.lt HROW.out rfl).2
        obtain ⟨r1, r2, _⟩ := Rr.at HROW.out i (by rw [rows_len, HLEN.out]; exact hlt)
        rw [rows_get (by rw [HLEN.out]; exact hlt)] at r1 r2
        have r1 := HGR.out.cell r1 (by simp)
        have r2 : wr.rangeAt g (i * 514 + 1) _ := fun j v hj => HGR.out.cell (r2 j v hj) (by simp)
        obtain ⟨⟨xk, xb⟩, hx⟩ : ∃ x, (on ++ s.wt).getD i (0, Bk.zero) = x := ⟨_, rfl⟩
        rw [hx] at r1 r2
        have HX := Lib.hid hx
        dsimp only at r1 r2
        clear hx
        have HC1 := Lib.hid c1
        have C1 : Hid (wr.drew.cell? ⟨q, 1, none⟩ = some (.slice (some ⟨g, 0, none⟩) len c)) := Lib.hid c1
        have R1 : Hid (wr.drew.cell? ⟨g, i * 514, none⟩ = some (.int .i64 (xk : Int))) := Lib.hid r1
        have R2 : Hid (wr.drew.rangeAt g (i * 514 + 1) (xb.l.map u8v)) := Lib.hid r2
        clear r1 r2
        go_upto_region 10 with fail
        have hdr : wr.grownBy wr.drew none := ⟨rfl, rfl, rfl, Nat.le_refl _, fun _ _ _ => rfl⟩
        have DR := Lib.hid hdr
        have HQ : Hid (wr.drew.cell? ⟨q, 1, none⟩ = some (.slice (some ⟨g, 0, none⟩) len c) ∧ wr.drew.cell? ⟨g, i * 514, none⟩ = some (.int .i64 (xk : Int)) ∧ wr.drew.rangeAt g (i * 514 + 1) (xb.l.map u8v)) := Lib.hid ⟨C1.out, R1.out, R2.out⟩
        clear hdr
        refine wp_region_noPanic ?_
        refine wp_region_held_drew (S := fun w' => w'.cell? ⟨q, 1, none⟩ = some (.slice (some ⟨g, 0, none⟩) len c) ∧ w'.cell? ⟨g, i * 514, none⟩ = some (.int .i64 (xk : Int)) ∧ w'.rangeAt g (i * 514 + 1) (xb.l.map u8v)) (by kernel_rfl) (HQ.out) (fun hHeld => ?_)
        generalize wr.drew = wd at *
        refine wpAnyH_take (i := 0) (v := ?_) (by simp only [List.getElem?_toArray, List.getElem?_cons_zero]; rfl) (by kernel_rfl) (by kernel_rfl) (by kernel_rfl) (fun _ _ _ h => h) (Or.inl ⟨by rfl, ?_⟩) (by assumption) ?_
        rotate_left 1
        · intro w hSw; obtain ⟨hS0, hS1, hS2⟩ := hSw; go_simp; all_goals (with_reducible rfl)
        try simp only [Act.put, List.setIfInBounds_toArray, List.set_cons_zero, List.set_cons_succ]
        refine wpAnyH_take (i := 1) (v := ?_) (by simp only [List.getElem?_toArray, List.getElem?_cons_succ, List.getElem?_cons_zero]; rfl) (by kernel_rfl) (by kernel_rfl) (by kernel_rfl) (fun _ _ _ h => h) (Or.inl ⟨by rfl, ?_⟩) (by assumption) ?_
        rotate_left 1
        · intro w hSw; obtain ⟨hS0, hS1, hS2⟩ := hSw; go_simp; all_goals (with_reducible rfl)
        try simp only [Act.put, List.setIfInBounds_toArray, List.set_cons_zero, List.set_cons_succ]
        refine wpAnyH_take (i := 2) (v := ?_) (by simp only [List.getElem?_toArray, List.getElem?_cons_succ, List.getElem?_cons_zero]; rfl) (by kernel_rfl) (by kernel_rfl) (by kernel_rfl) (fun _ _ _ h => h) (Or.inl ⟨by rfl, ?_⟩) (by assumption) ?_
        rotate_left 1
        · intro w hSw; obtain ⟨hS0, hS1, hS2⟩ := hSw; go_simp; all_goals (with_reducible rfl)
        try simp only [Act.put, List.setIfInBounds_toArray, List.set_cons_zero, List.set_cons_succ]
        refine wpAnyH_take (i := 3) (v := ?_) (by simp only [List.getElem?_toArray, List.getElem?_cons_succ, List.getElem?_cons_zero]; rfl) (by kernel_rfl) (by kernel_rfl) (by kernel_rfl) (fun _ _ _ h => h) (Or.inl ⟨by rfl, ?_⟩) (by assumption) ?_
        rotate_left 1
        · intro w hSw; obtain ⟨hS0, hS1, hS2⟩ := hSw; go_simp; all_goals (with_reducible rfl)
        try simp only [Act.put, List.setIfInBounds_toArray, List.set_cons_zero, List.set_cons_succ]
        refine wpAnyH_take (i := 4) (v := ?_) (by simp only [List.getElem?_toArray, List.getElem?_cons_succ, List.getElem?_cons_zero]; rfl) (by kernel_rfl) (by kernel_rfl) (by kernel_rfl) (fun _ _ _ h => h) (Or.inl ⟨by rfl, ?_⟩) (by assumption) ?_
        rotate_left 1
        · intro w hSw; obtain ⟨hS0, hS1, hS2⟩ := hSw; go_simp; all_goals (with_reducible rfl)
        try simp only [Act.put, List.setIfInBounds_toArray, List.set_cons_zero, List.set_cons_succ]
        refine wpAnyH_take (i := 5) (v := ?_) (by simp only [List.getElem?_toArray, List.getElem?_cons_succ, List.getElem?_cons_zero]; rfl) (by kernel_rfl) (by kernel_rfl) (by kernel_rfl) (fun _ _ _ h => h) (Or.inl ⟨by rfl, ?_⟩) (by assumption) ?_
        rotate_left 1
        · intro w hSw; obtain ⟨hS0, hS1, hS2⟩ := hSw; go_simp; all_goals (with_reducible rfl)
        try simp only [Act.put, List.setIfInBounds_toArray, List.set_cons_zero, List.set_cons_succ]
        refine wpAnyH_take (i := 6) (v := ?_) (by simp only [List.getElem?_toArray, List.getElem?_cons_succ, List.getElem?_cons_zero]; rfl) (by kernel_rfl) (by kernel_rfl) (by kernel_rfl) (fun _ _ _ h => h) (Or.inl ⟨by rfl, ?_⟩) (by assumption) ?_
        rotate_left 1
        · intro w hSw; obtain ⟨hS0, hS1, hS2⟩ := hSw; go_simp; all_goals (with_reducible rfl)
        try simp only [Act.put, List.setIfInBounds_toArray, List.set_cons_zero, List.set_cons_succ]
        refine wpAnyH_take (i := 7) (v := ?_) (by simp only [List.getElem?_toArray, List.getElem?_cons_succ, List.getElem?_cons_zero]; rfl) (by kernel_rfl) (by kernel_rfl) (by kernel_rfl) (fun _ _ _ h => h) (Or.inl ⟨by rfl, ?_⟩) (by assumption) ?_
        rotate_left 1
        · intro w hSw; obtain ⟨hS0, hS1, hS2⟩ := hSw; go_simp; all_goals (with_reducible rfl)
        try simp only [Act.put, List.setIfInBounds_toArray, List.set_cons_zero, List.set_cons_succ]
        refine wpAnyH_take (i := 8) (v := ?_) (by simp only [List.getElem?_toArray, List.getElem?_cons_succ, List.getElem?_cons_zero]; rfl) (by kernel_rfl) (by kernel_rfl) (by kernel_rfl) (fun _ _ _ h => h) (Or.inl ⟨by rfl, ?_⟩) (by assumption) ?_
        rotate_left 1
        · intro w hSw; obtain ⟨hS0, hS1, hS2⟩ := hSw; go_simp; all_goals (with_reducible rfl)
        try simp only [Act.put, List.setIfInBounds_toArray, List.set_cons_zero, List.set_cons_succ]
        refine wpAnyH_take (i := 9) (v := ?_) (by simp only [List.getElem?_toArray, List.getElem?_cons_succ, List.getElem?_cons_zero]; rfl) (by kernel_rfl) (by kernel_rfl) (by kernel_rfl) (fun _ _ _ h => h) (Or.inl ⟨by rfl, ?_⟩) (by assumption) ?_
        rotate_left 1
        · intro w hSw; obtain ⟨hS0, hS1, hS2⟩ := hSw; go_simp; all_goals (with_reducible rfl)
        try simp only [Act.put, List.setIfInBounds_toArray, List.set_cons_zero, List.set_cons_succ]
        refine wpAnyH_take (i := 10) (v := ?_) (by simp only [List.getElem?_toArray, List.getElem?_cons_succ, List.getElem?_cons_zero]; rfl) (by kernel_rfl) (by kernel_rfl) (by kernel_rfl) (fun _ _ _ h => h) (Or.inl ⟨by rfl, ?_⟩) (by assumption) ?_
        rotate_left 1
        · intro w hSw; obtain ⟨hS0, hS1, hS2⟩ := hSw; go_simp; all_goals (with_reducible rfl)
        try simp only [Act.put, List.setIfInBounds_toArray, List.set_cons_zero, List.set_cons_succ]
        refine wpAnyH_take (i := 11) (v := ?_) (by simp only [List.getElem?_toArray, List.getElem?_cons_succ, List.getElem?_cons_zero]; rfl) (by kernel_rfl) (by kernel_rfl) (by kernel_rfl) (fun _ _ _ h => h) (Or.inl ⟨by rfl, ?_⟩) (by assumption) ?_
        rotate_left 1
        · intro w hSw; obtain ⟨hS0, hS1, hS2⟩ := hSw; go_simp; all_goals (with_reducible rfl)
        try simp only [Act.put, List.setIfInBounds_toArray, List.set_cons_zero, List.set_cons_succ]
        refine wpAnyH_take (i := 12) (v := ?_) (by simp only [List.getElem?_toArray, List.getElem?_cons_succ, List.getElem?_cons_zero]; rfl) (by kernel_rfl) (by kernel_rfl) (by kernel_rfl) (fun _ _ _ h => h) (Or.inl ⟨by rfl, ?_⟩) (by assumption) ?_
        rotate_left 1
        · intro w hSw; obtain ⟨hS0, hS1, hS2⟩ := hSw; go_simp; all_goals (with_reducible rfl)
        try simp only [Act.put, List.setIfInBounds_toArray, List.set_cons_zero, List.set_cons_succ]
        refine wpAnyH_take (i := 13) (v := ?_) (by simp only [List.getElem?_toArray, List.getElem?_cons_succ, List.getElem?_cons_zero]; rfl) (by kernel_rfl) (by kernel_rfl) (by kernel_rfl) (fun _ _ _ h => h) (Or.inl ⟨by rfl, ?_⟩) (by assumption) ?_
        rotate_left 1
        · intro w hSw; obtain ⟨hS0, hS1, hS2⟩ := hSw; go_simp; all_goals (with_reducible rfl)
        try simp only [Act.put, List.setIfInBounds_toArray, List.set_cons_zero, List.set_cons_succ]
        refine wpAnyH_take (i := 14) (v := ?_) (by simp only [List.getElem?_toArray, List.getElem?_cons_succ, List.getElem?_cons_zero]; rfl) (by kernel_rfl) (by kernel_rfl) (by kernel_rfl) (fun _ _ _ h => h) (Or.inl ⟨by rfl, ?_⟩) (by assumption) ?_
        rotate_left 1
        · intro w hSw; obtain ⟨hS0, hS1, hS2⟩ := hSw; go_simp; all_goals (with_reducible rfl)
        try simp only [Act.put, List.setIfInBounds_toArray, List.set_cons_zero, List.set_cons_succ]
        refine wpAnyH_take (i := 15) (v := ?_) (by simp only [List.getElem?_toArray, List.getElem?_cons_succ, List.getElem?_cons_zero]; rfl) (by kernel_rfl) (by kernel_rfl) (by kernel_rfl) (fun _ _ _ h => h) (Or.inl ⟨by rfl, ?_⟩) (by assumption) ?_
        rotate_left 1
        · intro w hSw; obtain ⟨hS0, hS1, hS2⟩ := hSw; go_simp; all_goals (with_reducible rfl)
        try simp only [Act.put, List.setIfInBounds_toArray, List.set_cons_zero, List.set_cons_succ]
        refine wpAnyH_take (i := 16) (v := .agg xb.v) (by simp only [List.getElem?_toArray, List.getElem?_cons_succ, List.getElem?_cons_zero]; rfl) (by kernel_rfl) (by kernel_rfl) (by kernel_rfl) (fun _ _ _ h => h) (yieldsIf_load_mid (by rfl) _ _ (by rfl) g (i * 514 + 1) (by rfl) (xb.l.map u8v) _ (fun w hw => hw.2.2) undB rfl (by rw [List.length_map, xb.h]; exact infB)) (by assumption) ?_
        try simp only [Act.put, List.setIfInBounds_toArray, List.set_cons_zero, List.set_cons_succ]
        refine wpAnyH_take (i := 17) (v := .agg (rC ((xk, xb), true)).toArray) (by simp only [List.getElem?_toArray, List.getElem?_cons_succ, List.getElem?_cons_zero]; rfl) (by kernel_rfl) (by kernel_rfl) (by kernel_rfl) (fun _ _ _ h => h) (yieldsR3 (by rfl) _ _ _ (by rfl) xk xb (by rfl) (by rfl) (by rfl)) (by assumption) ?_
        try simp only [Act.put, List.setIfInBounds_toArray, List.set_cons_zero, List.set_cons_succ]
        refine wpAnyH_ready (rs := [18]) (by kernel_rfl) (by simp) ?_
        refine AllReadyH.cons (by simp only [List.getElem?_toArray, List.getElem?_cons_succ, List.getElem?_cons_zero]; rfl) (fun K hK => ?_) AllReadyH.nil
        refine stepSliceR (by rfl) _ (by rfl) ((xk, xb), true) (by rfl) ?_
        intro g2 wa hna
        have NA := Lib.hid hna
        have hha : wa.cell? ⟨q, 1, none⟩ = some (.slice (some ⟨g, 0, none⟩) len c) ∧ wa.cell? ⟨g, i * 514, none⟩ = some (.int .i64 (xk : Int)) ∧ wa.rangeAt g (i * 514 + 1) (xb.l.map u8v) := ⟨(Kept.new (S := fun _ => False) hna.grown).cell hHeld.1 (fun h => h), (Kept.new (S := fun _ => False) hna.grown).cell hHeld.2.1 (fun h => h), fun j v hj => (Kept.new (S := fun _ => False) hna.grown).cell (hHeld.2.2 j v hj) (fun h => h)⟩
        refine hK.out _ _ hha (fun hHeld => ?_)
        clear hK K hna hha
        try simp only [Act.put, List.setIfInBounds_toArray, List.set_cons_zero, List.set_cons_succ]
        refine wpAnyH_ready (rs := [19]) (by kernel_rfl) (by simp) ?_
        refine AllReadyH.cons (by simp only [List.getElem?_toArray, List.getElem?_cons_succ, List.getElem?_cons_zero]; rfl) (fun K hK => ?_) AllReadyH.nil
        have hrr : Rr wa w1.heap.size (.slice ax nx cx) (((on ++ s.wt).take i).map (fun y => (y, true))) := RowOf.new (RowOf.new HRR.out DR.out) NA.out.grown
        have hoff : ∀ k, ((.slice ax nx cx) : Value).ownBlock = some k → k ≠ q ∧ k ≠ g := fun k e => by
          have := (Rr.lt hrr e).1
          exact ⟨by have := HQLT.out; omega, by have := HGLT.out; omega⟩
        have HOFF := Lib.hid hoff
        refine stepAppR (by rfl) _ _ (by rfl) w1.heap.size (.slice ax nx cx) (((on ++ s.wt).take i).map (fun y => (y, true))) ((xk, xb), true) g2 (by rfl) (by rfl) hrr NA.out.blk (by rw [HNE.out]; exact HNX.out) (by have := HGR.out.size; have := DR.out.size; have := NA.out.grown.size; omega) ?_
        intro a3 n3 c3 wb hwb hgb
        have HWB := Lib.hid hwb
        have HGB := Lib.hid hgb
        have hhb : wb.cell? ⟨q, 1, none⟩ = some (.slice (some ⟨g, 0, none⟩) len c) ∧ wb.cell? ⟨g, i * 514, none⟩ = some (.int .i64 (xk : Int)) ∧ wb.rangeAt g (i * 514 + 1) (xb.l.map u8v) := ⟨(Kept.of (S := fun k => ((.slice ax nx cx) : Value).ownBlock = some k) hgb (fun k e => .inl e)).cell hHeld.1 (fun e => (HOFF.out _ e).1 rfl), (Kept.of (S := fun k => ((.slice ax nx cx) : Value).ownBlock = some k) hgb (fun k e => .inl e)).cell hHeld.2.1 (fun e => (HOFF.out _ e).2 rfl), fun j v hj => (Kept.of (S := fun k => ((.slice ax nx cx) : Value).ownBlock = some k) hgb (fun k e => .inl e)).cell (hHeld.2.2 j v hj) (fun e => (HOFF.out _ e).2 rfl)⟩
        have GN := Lib.hid (grown_own (grown_two (grown_two HGR.out DR.out) NA.out.grown) hgb (fun k e => (Rr.lt hrr e).1))
        refine hK.out _ _ hhb (fun hHeld => ?_)
        clear hK K hwb hgb hhb hrr hoff
        try simp only [Act.put, List.setIfInBounds_toArray, List.set_cons_zero, List.set_cons_succ]
        refine wpAnyH_take (i := 20) (v := ?_) (by simp only [List.getElem?_toArray, List.getElem?_cons_succ, List.getElem?_cons_zero]; rfl) (by kernel_rfl) (by kernel_rfl) (by kernel_rfl) (fun _ _ _ h => h) (Or.inl ⟨by rfl, ?_⟩) (by assumption) ?_
        rotate_left 1
        · intro w hSw; obtain ⟨hS0, hS1, hS2⟩ := hSw; go_simp; all_goals (with_reducible rfl)
        try simp only [Act.put, List.setIfInBounds_toArray, List.set_cons_zero, List.set_cons_succ]
        refine wpAnyH_done (by kernel_rfl) ?_ _
        refine NoPanic.normal ?_
        clear hHeld
        go_wp2_with fail
        go_roundw
        case rel => exact ⟨i + 1, by omega, by go_num, by
            have h := HWB.out
            rw [← map_snoc] at h
            rw [take_get (by rw [List.length_append]; have := HLEN.out; omega), HX.out]
            exact h, GN.out⟩
        case measure => (simp [intOf]; try omega)
      · obtain rfl : i = len := by omega
        have HFIN : Hid (Rr wr w1.heap.size (.slice ax nx cx) (rows (on ++ s.wt) [])) := Lib.hid (by
          have h := HRR.out
          rw [List.take_of_length_le (by rw [List.length_append]; have := HLEN.out; omega)] at h
          rw [rows_nil]
          exact h)
        have f1 := HBR.out.frozen 1
        go_wp2_with fail
        go_ret
        have b1 := HBR.out.set 1 (.slice ax nx cx)
        have K4 : Kept (· = q) wr _ := Kept.of (HBR.out.setG 1 (.slice ax nx cx)) (fun k e => .inl (by cases e; rfl))
        generalize World.setCell _ _ _ = w6 at *
        have hrow : Rr w6 0 (.slice ax nx cx) (rows (on ++ s.wt) []) := RowOf.based (K4.row HFIN.out (fun k e hk => by
          have := (Rr.lt HFIN.out e).1
          have := HQLT.out
          have hk : k = q := hk
          omega)) (fun _ _ => Nat.zero_le _)
        refine DoesR.after K1.out ⟨kv, rfl, ⟨on ++ s.wt, .slice ax nx cx, b1, hrow, K4.own ((Kept.new (S := fun _ => False) HGR.out).own H.out.kp (fun _ _ h => h)) (fun k e => H.out.nq.2 k e), ?_, ?_, fun hd => ?_, H.out.hl, H.out.hn⟩, (Kept.new HGR.out).trans K4, fun k e => .inl e⟩
        · show putL s.fl s.wt = _
          rw [show s.fl = putL no on from H.out.fl, putL_append]
        · have := H.out.cnt
          show (on ++ s.wt).length + 0 ≤ s.m
          rw [List.length_append]
          exact this
        · obtain ⟨_, e2, e3⟩ := H.out.dead hd
          exact ⟨rfl, e2, e3⟩

set_option maxRecDepth 20000 in
set_option maxHeartbeats 1000000 in
theorem rCut_any (h : Rk w q kv s on lv) (n : Int) (hn : n ≤ 9223372036854775807) {v : Value} {ks : List Bool} (hv : Bls w v ks) (hkl : ks.length ≤ 140737488355328) (hv2 : ∀ w', Kept (· = q) w w' → Bls w' v ks) : Calls Try.prog 29 #[dptr q, .int .i64 n, v] w (DoesR w q kv (s.cut n ks).1 (s.cut n ks).2) := by
  have H := Lib.hid h
  have c4 := h.blk.cell (i := 4) (x := .bool s.dd) rfl
  unfold DS.cut
  rcases hd : s.dd with _ | _
  rotate_left 1
  · rw [hd] at c4
    clear h hd
    unfold dptr
    go_enter Try.func29, Try.ntmps29
    go_wp2_with fail
    go_ret
    exact RkE.does ⟨on, lv, H.out⟩ 51
  rw [hd] at c4
  have hb := h.blk
  rw [hd] at hb
  have HD := Lib.hid hd
  rw [if_neg (by simp)]
  by_cases hneg : n < 0
  · rw [if_pos hneg]
    clear h hd hb
    unfold dptr
    go_enter Try.func29, Try.ntmps29
    go_wp2_with fail
    go_ret
    exact RkE.does ⟨on, lv, H.out⟩ 1
  rw [if_neg hneg]
  obtain ⟨ak, nk, ck, hkv⟩ : ∃ a n c, kv = .slice a n c := by
    obtain ⟨a, c, e, _⟩ := h.kp.bls.shape
    exact ⟨_, _, _, e⟩
  rw [hkv] at hb
  have c2 := hb.cell (i := 2) (x := .int .i64 (s.lf : Int)) rfl
  have f2 := hb.frozen 2
  have S2 := Lib.hid (hb.set 2 (.int .i64 n))
  have K2 : Hid (Kept (· = q) w (w.setCell ⟨q, 2, none⟩ (.int .i64 n))) := Lib.hid (Kept.of (hb.setG 2 (.int .i64 n)) (fun k e => .inl (by cases e; rfl)))
  have hv2 := hv2 _ K2.out
  obtain ⟨av, cv, rfl, hvl⟩ := hv.shape
  have HN := Lib.hid hn
  have HKL := Lib.hid hkl
  clear h hd hb hv hkv hn hkl
  unfold maxLen at hvl
  unfold dptr
  go_enter Try.func29, Try.ntmps29
  go_upto_region 6 with fail
  clear c2 f2 c4
  generalize World.setCell _ _ _ = w2 at *
  have HBL := Blk.made w2 4 #[]
  have hg := World.grownBy_alloc w2 (.cells #[] 4) none
  have h1 := Bls.keepNew hv2 hg
  obtain ⟨v', w', k1, k2, k3, k4, a', n', c', rfl⟩ := Bls.append h1 HKL.out HBL 38
  have HRUN := Lib.hid k1
  have H2 := Lib.hid k2
  have H3 := Lib.hid (grown_new hg k3 (Nat.le_refl _))
  have H4 : Hid (∀ k, (Value.slice a' n' c').ownBlock = some k → w2.heap.size ≤ k) := Lib.hid (fun k hk => by
    rcases k4 k hk with h | h
    · omega
    · have := hg.size; omega)
  clear k1 k2 k3 k4 h1 HBL hg hv2
  have S3 := Lib.hid (S2.out.new H3.out)
  have c3 := S3.out.cell (i := 3) (x := .slice ak nk ck) rfl
  have f3 := S3.out.frozen 3
  have hu := undBs
  go_wp2_with (at_builtin; refine Lib.wpList_append_run _ rfl _ _ _ _ rfl _ _ rfl rfl _ _ HRUN.out ?_)
  go_ret
  have b3 := S3.out.set 3 (.slice a' n' c')
  have K3 : Kept (· = q) w' _ := Kept.of (S3.out.setG 3 (.slice a' n' c')) (fun k e => .inl (by cases e; rfl))
  generalize World.setCell _ _ _ = w6 at *
  have KK := (K2.out.trans (Kept.new H3.out)).trans K3
  refine ⟨.slice a' n' c', rfl, ⟨on, lv, ?_, KK.row H.out.row (fun k e => H.out.nq.1 k e), K3.own H2.out (fun k e hk => ?_), H.out.fl, H.out.cnt, fun hd' => ?_, ?_, H.out.hn⟩, KK, fun k e => .inr (Nat.le_trans K2.out.size (H4.out k e))⟩
  · have e : ((n.toNat : Nat) : Int) = n := by omega
    dsimp only
    rw [e]
    exact b3
  · have := H4.out k e
    have := S2.out.lt
    have hk : k = q := hk
    omega
  · have hd' : false = true := hd'
    cases hd'
  · have := HN.out
    show ((n.toNat : Nat) : Int) ≤ _
    omega

set_option maxRecDepth 20000 in
theorem rBoot_no (h : Rk w q kv s on lv) (hd : s.dd = false) : Calls Try.prog 31 #[dptr q] w fun e w' => e = .returned (.tuple #[.pointer none, .int .i64 50]) ∧ w = w' := by
  have c4 := h.blk.cell (i := 4) (x := .bool s.dd) rfl
  rw [hd] at c4
  clear h hd
  unfold dptr
  go_enter Try.func31, Try.ntmps31
  go_wp2_with fail
  go_ret2
  exact ⟨rfl, rfl⟩
def zR : Array Value := #[.int .i64 0, .slice none 0 0, .int .i64 0, .slice none 0 0, .bool false]
set_option maxRecDepth 20000 in
set_option maxHeartbeats 2000000 in
theorem rBoot_any (h : Rk w q kv s on lv) (hm : s.m ≤ 1000000000) (hd : s.dd = true) : Calls Try.prog 31 #[dptr q] w fun e w' => ∃ q', e = .returned (.tuple #[dptr q', .int .i64 0]) ∧ RkE w' q' (.slice none 0 0) s.anew ∧ w.grownBy w' none ∧ w.heap.size ≤ q' := by
  have H := Lib.hid h
  obtain ⟨d1, d2, d3⟩ := h.dead hd
  have HDD := Lib.hid (And.intro d1 (And.intro d2 d3))
  have hrow := h.row
  have hb := h.blk
  rw [hd] at hb
  obtain ⟨a, c, rfl, hl, ha⟩ := hrow.form
  obtain ⟨len, hlen⟩ : ∃ n, (rows on s.wt).length = n := ⟨_, rfl⟩
  rw [hlen] at hrow hb hl ha
  have HLEN := Lib.hid hlen
  have HCNT : Hid (len ≤ 1000000000) := Lib.hid (by have := h.cnt; rw [rows_len] at hlen; omega)
  have HROW := Lib.hid hrow
  have HB := Lib.hid hb
  have c4 := hb.cell (i := 4) (x := .bool true) rfl
  have C0 : Hid (w.drew.cell? ⟨q, 0, none⟩ = some (.int .i64 (s.n : Int))) := Lib.hid (hb.cell (i := 0) (x := .int .i64 (s.n : Int)) rfl)
  have C1 : Hid (w.drew.cell? ⟨q, 1, none⟩ = some (.slice a len c)) := Lib.hid (hb.cell (i := 1) (x := .slice a len c) rfl)
  clear h hrow hb hd hlen ha hl d1 d2 d3
  unfold dptr
  go_enter Try.func31, Try.ntmps31
  go_upto_region 3 with fail
  clear c4
  have DR : Hid (w.grownBy w.drew none) := Lib.hid ⟨rfl, rfl, rfl, Nat.le_refl _, fun _ _ _ => rfl⟩
  refine wp_region_noPanic ?_
  refine wp_region_held_drew (S := fun w' => w'.cell? ⟨q, 0, none⟩ = some (.int .i64 (s.n : Int)) ∧ w'.cell? ⟨q, 1, none⟩ = some (.slice a len c)) (by kernel_rfl) (⟨C0.out, C1.out⟩) (fun hHeld => ?_)
  generalize w.drew = wd at *
  refine wpAnyH_take (i := 0) (v := ?_) (by simp only [List.getElem?_toArray, List.getElem?_cons_zero]; rfl) (by kernel_rfl) (by kernel_rfl) (by kernel_rfl) (fun _ _ _ h => h) (Or.inl ⟨by rfl, ?_⟩) (by assumption) ?_
  rotate_left 1
  · intro w hSw; obtain ⟨hS0, hS1⟩ := hSw; go_simp; all_goals (with_reducible rfl)
  try simp only [Act.put, List.setIfInBounds_toArray, List.set_cons_zero, List.set_cons_succ]
  refine wpAnyH_take (i := 1) (v := ?_) (by simp only [List.getElem?_toArray, List.getElem?_cons_succ, List.getElem?_cons_zero]; rfl) (by kernel_rfl) (by kernel_rfl) (by kernel_rfl) (fun _ _ _ h => h) (Or.inl ⟨by rfl, ?_⟩) (by assumption) ?_
  rotate_left 1
  · intro w hSw; obtain ⟨hS0, hS1⟩ := hSw; go_simp; all_goals (with_reducible rfl)
  try simp only [Act.put, List.setIfInBounds_toArray, List.set_cons_zero, List.set_cons_succ]
  refine wpAnyH_take (i := 2) (v := ?_) (by simp only [List.getElem?_toArray, List.getElem?_cons_succ, List.getElem?_cons_zero]; rfl) (by kernel_rfl) (by kernel_rfl) (by kernel_rfl) (fun _ _ _ h => h) (Or.inl ⟨by rfl, ?_⟩) (by assumption) ?_
  rotate_left 1
  · intro w hSw; obtain ⟨hS0, hS1⟩ := hSw; go_simp; all_goals (with_reducible rfl)
  try simp only [Act.put, List.setIfInBounds_toArray, List.set_cons_zero, List.set_cons_succ]
  refine wpAnyH_take (i := 3) (v := ?_) (by simp only [List.getElem?_toArray, List.getElem?_cons_succ, List.getElem?_cons_zero]; rfl) (by kernel_rfl) (by kernel_rfl) (by kernel_rfl) (fun _ _ _ h => h) (Or.inl ⟨by rfl, ?_⟩) (by assumption) ?_
  rotate_left 1
  · intro w hSw; obtain ⟨hS0, hS1⟩ := hSw; go_simp; all_goals (with_reducible rfl)
  try simp only [Act.put, List.setIfInBounds_toArray, List.set_cons_zero, List.set_cons_succ]
  refine wpAnyH_take (i := 5) (v := ?_) (by simp only [List.getElem?_toArray, List.getElem?_cons_succ, List.getElem?_cons_zero]; rfl) (by kernel_rfl) (by kernel_rfl) (by kernel_rfl) (fun _ _ _ h => h) (Or.inl ⟨by rfl, ?_⟩) (by assumption) ?_
  rotate_left 1
  · intro w hSw; obtain ⟨hS0, hS1⟩ := hSw; go_simp; all_goals (with_reducible rfl)
  try simp only [Act.put, List.setIfInBounds_toArray, List.set_cons_zero, List.set_cons_succ]
  refine wpAnyH_take (i := 6) (v := ?_) (by simp only [List.getElem?_toArray, List.getElem?_cons_succ, List.getElem?_cons_zero]; rfl) (by kernel_rfl) (by kernel_rfl) (by kernel_rfl) (fun _ _ _ h => h) (Or.inl ⟨by rfl, ?_⟩) (by assumption) ?_
  rotate_left 1
  · intro w hSw; obtain ⟨hS0, hS1⟩ := hSw; go_simp; all_goals (with_reducible rfl)
  try simp only [Act.put, List.setIfInBounds_toArray, List.set_cons_zero, List.set_cons_succ]
  refine wpAnyH_take (i := 7) (v := ?_) (by simp only [List.getElem?_toArray, List.getElem?_cons_succ, List.getElem?_cons_zero]; rfl) (by kernel_rfl) (by kernel_rfl) (by kernel_rfl) (fun _ _ _ h => h) (Or.inl ⟨by rfl, ?_⟩) (by assumption) ?_
  rotate_left 1
  · intro w hSw; obtain ⟨hS0, hS1⟩ := hSw; go_simp; all_goals (with_reducible rfl)
  try simp only [Act.put, List.setIfInBounds_toArray, List.set_cons_zero, List.set_cons_succ]
  refine wpAnyH_take (i := 8) (v := ?_) (by simp only [List.getElem?_toArray, List.getElem?_cons_succ, List.getElem?_cons_zero]; rfl) (by kernel_rfl) (by kernel_rfl) (by kernel_rfl) (fun _ _ _ h => h) (Or.inl ⟨by rfl, ?_⟩) (by assumption) ?_
  rotate_left 1
  · intro w hSw; obtain ⟨hS0, hS1⟩ := hSw; go_simp; all_goals (with_reducible rfl)
  try simp only [Act.put, List.setIfInBounds_toArray, List.set_cons_zero, List.set_cons_succ]
  refine wpAnyH_ready (rs := [4]) (by kernel_rfl) (by simp) ?_
  refine AllReadyH.cons (by simp only [List.getElem?_toArray, List.getElem?_cons_succ, List.getElem?_cons_zero]; rfl) (fun K hK => ?_) AllReadyH.nil
  refine stepNoneR (by rfl) (by rfl) ?_
  intro gr wa hna
  have NA := Lib.hid hna
  have hha : wa.cell? ⟨q, 0, none⟩ = some (.int .i64 (s.n : Int)) ∧ wa.cell? ⟨q, 1, none⟩ = some (.slice a len c) := ⟨(Kept.new (S := fun _ => False) hna.grown).cell hHeld.1 (fun h => h), (Kept.new (S := fun _ => False) hna.grown).cell hHeld.2 (fun h => h)⟩
  refine hK.out _ _ hha (fun hHeld => ?_)
  clear hK K hna hha
  try simp only [Act.put, List.setIfInBounds_toArray, List.set_cons_zero, List.set_cons_succ]
  refine wpAnyH_ready (rs := [9]) (by kernel_rfl) (by simp) ?_
  refine AllReadyH.cons (by simp only [List.getElem?_toArray, List.getElem?_cons_succ, List.getElem?_cons_zero]; rfl) (fun K hK => ?_) AllReadyH.nil
  have hrr : Rr wa 0 (.slice a len c) (rows on s.wt) := RowOf.new (RowOf.new HROW.out DR.out) NA.out.grown
  refine stepCloneR (by rfl) _ _ (by rfl) w.heap.size 0 _ _ gr (by rfl) (by rfl) hrr NA.out.blk (by rw [HLEN.out]; have := HCNT.out; omega) (by have := NA.out.ge; have := DR.out.size; omega) ?_
  intro a3 n3 c3 wb hwb hgb
  have HWB := Lib.hid hwb
  have GN := Lib.hid (grown_new (grown_two DR.out NA.out.grown) hgb (by have := NA.out.ge; have := DR.out.size; omega))
  have hqg : q ≠ gr := fun e => by have := NA.out.ge; have := (HB.out.new DR.out).lt; omega
  have hhb : wb.cell? ⟨q, 0, none⟩ = some (.int .i64 (s.n : Int)) ∧ wb.cell? ⟨q, 1, none⟩ = some (.slice a len c) := ⟨(Kept.of (S := (· = gr)) hgb (fun k e => .inl (by cases e; rfl))).cell hHeld.1 hqg, (Kept.of (S := (· = gr)) hgb (fun k e => .inl (by cases e; rfl))).cell hHeld.2 hqg⟩
  refine hK.out _ _ hhb (fun hHeld => ?_)
  clear hK K hwb hgb hhb hrr hqg
  try simp only [Act.put, List.setIfInBounds_toArray, List.set_cons_zero, List.set_cons_succ]
  refine wpAnyH_take (i := 10) (v := ?_) (by simp only [List.getElem?_toArray, List.getElem?_cons_succ, List.getElem?_cons_zero]; rfl) (by kernel_rfl) (by kernel_rfl) (by kernel_rfl) (fun _ _ _ h => h) (Or.inl ⟨by rfl, ?_⟩) (by assumption) ?_
  rotate_left 1
  · intro w hSw; obtain ⟨hS0, hS1⟩ := hSw; go_simp; all_goals (with_reducible rfl)
  try simp only [Act.put, List.setIfInBounds_toArray, List.set_cons_zero, List.set_cons_succ]
  refine wpAnyH_ready (rs := [11]) (by kernel_rfl) (by simp) ?_
  refine AllReadyH.cons (by simp only [List.getElem?_toArray, List.getElem?_cons_succ, List.getElem?_cons_zero]; rfl) (fun K hK => ?_) AllReadyH.nil
  have BM := Lib.hid (Blk.made wb 74 #[.int .i64 (s.n : Int), .slice a3 n3 c3, .int .i64 0, .slice none 0 0, .bool false])
  have GM := Lib.hid (World.grownBy_alloc wb (.cells #[.int .i64 (s.n : Int), .slice a3 n3 c3, .int .i64 0, .slice none 0 0, .bool false] 74) none)
  go_simp
  refine hK.out _ _ (⟨(Kept.new (S := fun _ => False) GM.out).cell hHeld.1 (fun h => h), (Kept.new (S := fun _ => False) GM.out).cell hHeld.2 (fun h => h)⟩) (fun hHeld => ?_)
  clear hK K
  try simp only [Act.put, List.setIfInBounds_toArray, List.set_cons_zero, List.set_cons_succ]
  refine wpAnyH_take (i := 12) (v := ?_) (by simp only [List.getElem?_toArray, List.getElem?_cons_succ, List.getElem?_cons_zero]; rfl) (by kernel_rfl) (by kernel_rfl) (by kernel_rfl) (fun _ _ _ h => h) (Or.inl ⟨by rfl, ?_⟩) (by assumption) ?_
  rotate_left 1
  · intro w hSw; obtain ⟨hS0, hS1⟩ := hSw; go_simp; all_goals (with_reducible rfl)
  try simp only [Act.put, List.setIfInBounds_toArray, List.set_cons_zero, List.set_cons_succ]
  refine wpAnyH_take (i := 13) (v := ?_) (by simp only [List.getElem?_toArray, List.getElem?_cons_succ, List.getElem?_cons_zero]; rfl) (by kernel_rfl) (by kernel_rfl) (by kernel_rfl) (fun _ _ _ h => h) (Or.inl ⟨by rfl, ?_⟩) (by assumption) ?_
  rotate_left 1
  · intro w hSw; obtain ⟨hS0, hS1⟩ := hSw; go_simp; all_goals (with_reducible rfl)
  try simp only [Act.put, List.setIfInBounds_toArray, List.set_cons_zero, List.set_cons_succ]
  refine wpAnyH_done (by kernel_rfl) ?_ _
  refine NoPanic.normal ?_
  clear hHeld
  go_wp2_with fail
  go_ret2
  refine ⟨wb.heap.size, rfl, ⟨on, .slice a3 n3 c3, ?_, RowOf.based (RowOf.new HWB.out GM.out) (fun _ _ => Nat.zero_le _), ?_, H.out.fl, H.out.cnt, (fun hd => by cases hd), ?_, H.out.hn⟩, grown_two GN.out GM.out, GN.out.size⟩
  · show Blk _ _ _ #[.int .i64 (s.n : Int), _, .int .i64 (s.lf : Int), _, .bool false]
    rw [HDD.out.2.1]
    exact BM.out
  · show BlsT _ _ s.kp
    rw [HDD.out.2.2]
    exact BlsT.nil _
  · exact H.out.hl
end
end Go.Proofs.Ytnnhnkpbiilooaa
