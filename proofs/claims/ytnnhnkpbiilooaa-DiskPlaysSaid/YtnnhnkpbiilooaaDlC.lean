/- The document's disk: Fail. -/
import Derived.Test.YtnnhnkpbiilooaaDlB
import Derived.Deep.RegionHeld3
namespace Go.Proofs.Ytnnhnkpbiilooaa
open Go.RowKit Go.Maps

section
variable {w : World} {q : Nat} {kv : Value} {s : DS} {on : List (Nat × Bk)} {lv : Value}
set_option maxRecDepth 20000 in
theorem rFail_dead (h : Rk w q kv s on lv) (hd : s.dd = true) (v : Value) : Calls Try.prog 30 #[dptr q, v] w (DoesR w q kv s 51) := by
  have H : Hid (RkE w q kv s) := Lib.hid ⟨on, lv, h⟩
  have c4 := h.blk.cell (i := 4) (x := .bool s.dd) rfl
  rw [hd] at c4
  clear h hd
  unfold dptr
  go_enter Try.func30, Try.ntmps30
  go_wp2_with fail
  go_ret
  exact H.out.does 51
theorem take_get {l : List (Nat × Bk)} {i : Nat} (h : i < l.length) : l.take (i + 1) = l.take i ++ [l.getD i (0, Bk.zero)] := by
  rw [List.take_succ_eq_append_getElem h]
  simp [List.getD, h]
theorem kept_none0 (ks : List Bool) : kept [] ks = [] := rfl
theorem map_snoc (l : List (Nat × Bk)) (x : Nat × Bk) : (l ++ [x]).map (fun y => (y, true)) = l.map (fun y => (y, true)) ++ [(x, true)] := by simp

set_option maxRecDepth 100000 in
set_option maxHeartbeats 4000000 in
theorem rFail_live (h : Rk w q kv s on lv) (hm : s.m ≤ 1000000000) (hd : s.dd = false) {v : Value} {ks : List Bool} (hv : Bls w v ks) : Calls Try.prog 30 #[dptr q, v] w (DoesR w q kv (s.gone ks) 0) := by
  have H := Lib.hid h
  have HMM := Lib.hid hm
  have hrow := h.row
  have hb := h.blk
  rw [hd] at hb
  obtain ⟨a, c, rfl, hl, ha⟩ := hrow.form
  have HCNT := Lib.hid h.cnt
  obtain ⟨ak, nk, ck, hkv'⟩ : ∃ a n c, kv = .slice a n c := by
    obtain ⟨a, c, e, _⟩ := h.kp.bls.shape
    exact ⟨_, _, _, e⟩
  rw [hkv'] at hb
  obtain ⟨av, cv, rfl, hvl⟩ := hv.shape
  have HV := Lib.hid hv
  obtain ⟨lo, hlo⟩ : ∃ n, on.length = n := ⟨_, rfl⟩
  obtain ⟨lw, hlw⟩ : ∃ n, s.wt.length = n := ⟨_, rfl⟩
  obtain ⟨lk, hlk⟩ : ∃ n, ks.length = n := ⟨_, rfl⟩
  have HLO := Lib.hid hlo
  have HLW := Lib.hid hlw
  have HLK := Lib.hid hlk
  rw [rows_len, hlo, hlw] at hrow hb hl ha
  obtain ⟨len, hlen⟩ : ∃ n, lo + lw = n := ⟨_, rfl⟩
  rw [hlen] at hrow hb hl ha
  have HLEN := Lib.hid hlen
  rw [hlk] at hvl
  rw [hlk] at ⊢ HV
  have HROW := Lib.hid hrow
  have HB := Lib.hid hb
  have HA := Lib.hid ha
  have HQLT : Hid (q < w.heap.size) := Lib.hid hb.lt
  unfold maxLen at hl hvl
  have z1 : (len : Int) ≤ 9223372036854775807 := by omega
  have z2 : (lk : Int) ≤ 9223372036854775807 := by omega
  have c4 := hb.cell (i := 4) (x := .bool false) rfl
  clear hrow hb ha hlen hlo hlw hl h hm hd hkv' hv hlk hvl
  unfold dptr
  go_enter Try.func30, Try.ntmps30
  go_wp2_with fail
  clear c4
  go_loopw [5, 6, 7] (fun x y z wr => ∃ i : Nat, i ≤ len ∧ z = .int .i64 i ∧ y = .int .i64 ((i - lo : Nat) : Int) ∧ Rr wr w.heap.size x ((on.take i ++ kept (s.wt.take (i - lo)) ks).map (fun y => (y, true))) ∧ w.grownBy wr none) (fun _ _ z _ => len - (intOf z).toNat)
  case atStart => exact ⟨0, Nat.zero_le _, rfl, by simp, by simpa [kept] using Rr.nil _ _, World.grownBy.refl _ _⟩
  case round =>
    obtain ⟨i, hi, rfl, rfl, hrr, hgr⟩ := hrel
    obtain ⟨ax, cx, hx, _, _⟩ := hrr.form
    subst hx
    have HRR := Lib.hid hrr
    have HGR := Lib.hid hgr
    have hbr := HB.out.new hgr
    have HBR := Lib.hid hbr
    have c1 := hbr.cell (i := 1) (x := .slice a len c) rfl
    obtain ⟨nx, hnx⟩ : ∃ n, ((on.take i ++ kept (s.wt.take (i - lo)) ks).map (fun y => (y, true))).length = n := ⟨_, rfl⟩
    have HNX : Hid (nx ≤ 10000000000) := Lib.hid (by
      have h1 := kept_length (s.wt.take (i - lo)) ks
      have h2 := HCNT.out
      have h3 := HMM.out
      simp at hnx h1
      omega)
    have HNE := Lib.hid hnx
    rw [hnx] at HRR ⊢
    clear hrr hgr hbr hnx
    by_cases hlt : i < len
    · obtain ⟨g, rfl⟩ := HA.out (by omega)
      have HGLT : Hid (g < w.heap.size) := Lib.hid (Rr.lt HROW.out rfl).2
      obtain ⟨r1, r2, r3⟩ := Rr.at HROW.out i (by rw [rows_len, HLO.out, HLW.out, HLEN.out]; exact hlt)
      have r1 := HGR.out.cell r1 (by simp)
      have r3 := HGR.out.cell r3 (by simp)
      have r2 : wr.rangeAt g (i * 514 + 1) _ := fun j v hj => HGR.out.cell (r2 j v hj) (by simp)
      by_cases hio : i < lo
      · rw [rows_on (by have := HLO.out; omega)] at r1 r2 r3
        obtain ⟨⟨xk, xb⟩, hx⟩ : ∃ x, on.getD i (0, Bk.zero) = x := ⟨_, rfl⟩
        rw [hx] at r1 r2 r3
        have HX := Lib.hid hx
        dsimp only at r1 r2 r3
        have E1 : Hid (i - lo = 0) := Lib.hid (by omega)
        have E2 : Hid (i + 1 - lo = 0) := Lib.hid (by omega)
        have e1 := E1.out
        rw [e1]
        clear hx
        have HC1 := Lib.hid c1
        have C1 : Hid (wr.drew.cell? ⟨q, 1, none⟩ = some (.slice (some ⟨g, 0, none⟩) len c)) := Lib.hid c1
        have R1 : Hid (wr.drew.cell? ⟨g, i * 514, none⟩ = some (.int .i64 (xk : Int))) := Lib.hid r1
        have R2 : Hid (wr.drew.rangeAt g (i * 514 + 1) (xb.l.map u8v)) := Lib.hid r2
        clear r1 r2
        go_upto_region 13 with fail
        have hdr : wr.grownBy wr.drew none := ⟨rfl, rfl, rfl, Nat.le_refl _, fun _ _ _ => rfl⟩
        have DR := Lib.hid hdr
        have HQ : Hid (wr.drew.cell? ⟨q, 1, none⟩ = some (.slice (some ⟨g, 0, none⟩) len c) ∧ wr.drew.cell? ⟨g, i * 514, none⟩ = some (.int .i64 (xk : Int)) ∧ wr.drew.rangeAt g (i * 514 + 1) (xb.l.map u8v)) := Lib.hid ⟨C1.out, R1.out, R2.out⟩
        clear hdr
        refine wp_region_noPanic ?_
        refine wp_region_held_drew (S := fun w' => w'.cell? ⟨q, 1, none⟩ = some (.slice (some ⟨g, 0, none⟩) len c) ∧ w'.cell? ⟨g, i * 514, none⟩ = some (.int .i64 (xk : Int)) ∧ w'.rangeAt g (i * 514 + 1) (xb.l.map u8v)) (by kernel_rfl) (HQ.out) (fun hHeld => ?_)
        generalize wr.drew = wd at *
        refine wpAnyH_take (i := 0) (v := ?_) (by simp only [List.getElem?_toArray, List.getElem?_cons_zero]; rfl) (by kernel_rfl) (by kernel_rfl) (by kernel_rfl) (fun _ _ _ h => h) (Or.inl ⟨by rfl, ?_⟩) (by assumption) ?_
        rotate_left 1
        · intro w hSw; obtain ⟨hS0, hS1, hS2⟩ := hSw; go_simp; all_goals (with_reducible rfl)
        try simp only [Act.put, List.setIfInBounds_toArray, List.set_cons_zero, List.set_cons_succ]
        refine wpAnyH_take (i := 1) (v := ?_) (by simp only [List.getElem?_toArray, List.getElem?_cons_succ, List.getElem?_cons_zero]; rfl) (by kernel_rfl) (by kernel_rfl) (by kernel_rfl) (fun _ _ _ h => h) (Or.inl ⟨by rfl, ?_⟩) (by assumption) ?_
        rotate_left 1
        · intro w hSw; obtain ⟨hS0, hS1, hS2⟩ := hSw; go_simp; all_goals (with_reducible rfl)
        try simp only [Act.put, List.setIfInBounds_toArray, List.set_cons_zero, List.set_cons_succ]
        refine wpAnyH_take (i := 2) (v := ?_) (by simp only [List.getElem?_toArray, List.getElem?_cons_succ, List.getElem?_cons_zero]; rfl) (by kernel_rfl) (by kernel_rfl) (by kernel_rfl) (fun _ _ _ h => h) (Or.inl ⟨by rfl, ?_⟩) (by assumption) ?_
        rotate_left 1
        · intro w hSw; obtain ⟨hS0, hS1, hS2⟩ := hSw; go_simp; all_goals (with_reducible rfl)
        try simp only [Act.put, List.setIfInBounds_toArray, List.set_cons_zero, List.set_cons_succ]
        refine wpAnyH_take (i := 3) (v := ?_) (by simp only [List.getElem?_toArray, List.getElem?_cons_succ, List.getElem?_cons_zero]; rfl) (by kernel_rfl) (by kernel_rfl) (by kernel_rfl) (fun _ _ _ h => h) (Or.inl ⟨by rfl, ?_⟩) (by assumption) ?_
        rotate_left 1
        · intro w hSw; obtain ⟨hS0, hS1, hS2⟩ := hSw; go_simp; all_goals (with_reducible rfl)
        try simp only [Act.put, List.setIfInBounds_toArray, List.set_cons_zero, List.set_cons_succ]
        refine wpAnyH_take (i := 4) (v := ?_) (by simp only [List.getElem?_toArray, List.getElem?_cons_succ, List.getElem?_cons_zero]; rfl) (by kernel_rfl) (by kernel_rfl) (by kernel_rfl) (fun _ _ _ h => h) (Or.inl ⟨by rfl, ?_⟩) (by assumption) ?_
        rotate_left 1
        · intro w hSw; obtain ⟨hS0, hS1, hS2⟩ := hSw; go_simp; all_goals (with_reducible rfl)
        try simp only [Act.put, List.setIfInBounds_toArray, List.set_cons_zero, List.set_cons_succ]
        refine wpAnyH_take (i := 5) (v := ?_) (by simp only [List.getElem?_toArray, List.getElem?_cons_succ, List.getElem?_cons_zero]; rfl) (by kernel_rfl) (by kernel_rfl) (by kernel_rfl) (fun _ _ _ h => h) (Or.inl ⟨by rfl, ?_⟩) (by assumption) ?_
        rotate_left 1
        · intro w hSw; obtain ⟨hS0, hS1, hS2⟩ := hSw; go_simp; all_goals (with_reducible rfl)
        try simp only [Act.put, List.setIfInBounds_toArray, List.set_cons_zero, List.set_cons_succ]
        refine wpAnyH_take (i := 6) (v := ?_) (by simp only [List.getElem?_toArray, List.getElem?_cons_succ, List.getElem?_cons_zero]; rfl) (by kernel_rfl) (by kernel_rfl) (by kernel_rfl) (fun _ _ _ h => h) (Or.inl ⟨by rfl, ?_⟩) (by assumption) ?_
        rotate_left 1
        · intro w hSw; obtain ⟨hS0, hS1, hS2⟩ := hSw; go_simp; all_goals (with_reducible rfl)
        try simp only [Act.put, List.setIfInBounds_toArray, List.set_cons_zero, List.set_cons_succ]
        refine wpAnyH_take (i := 7) (v := ?_) (by simp only [List.getElem?_toArray, List.getElem?_cons_succ, List.getElem?_cons_zero]; rfl) (by kernel_rfl) (by kernel_rfl) (by kernel_rfl) (fun _ _ _ h => h) (Or.inl ⟨by rfl, ?_⟩) (by assumption) ?_
        rotate_left 1
        · intro w hSw; obtain ⟨hS0, hS1, hS2⟩ := hSw; go_simp; all_goals (with_reducible rfl)
        try simp only [Act.put, List.setIfInBounds_toArray, List.set_cons_zero, List.set_cons_succ]
        refine wpAnyH_take (i := 8) (v := ?_) (by simp only [List.getElem?_toArray, List.getElem?_cons_succ, List.getElem?_cons_zero]; rfl) (by kernel_rfl) (by kernel_rfl) (by kernel_rfl) (fun _ _ _ h => h) (Or.inl ⟨by rfl, ?_⟩) (by assumption) ?_
        rotate_left 1
        · intro w hSw; obtain ⟨hS0, hS1, hS2⟩ := hSw; go_simp; all_goals (with_reducible rfl)
        try simp only [Act.put, List.setIfInBounds_toArray, List.set_cons_zero, List.set_cons_succ]
        refine wpAnyH_take (i := 9) (v := ?_) (by simp only [List.getElem?_toArray, List.getElem?_cons_succ, List.getElem?_cons_zero]; rfl) (by kernel_rfl) (by kernel_rfl) (by kernel_rfl) (fun _ _ _ h => h) (Or.inl ⟨by rfl, ?_⟩) (by assumption) ?_
        rotate_left 1
        · intro w hSw; obtain ⟨hS0, hS1, hS2⟩ := hSw; go_simp; all_goals (with_reducible rfl)
        try simp only [Act.put, List.setIfInBounds_toArray, List.set_cons_zero, List.set_cons_succ]
        refine wpAnyH_take (i := 10) (v := ?_) (by simp only [List.getElem?_toArray, List.getElem?_cons_succ, List.getElem?_cons_zero]; rfl) (by kernel_rfl) (by kernel_rfl) (by kernel_rfl) (fun _ _ _ h => h) (Or.inl ⟨by rfl, ?_⟩) (by assumption) ?_
        rotate_left 1
        · intro w hSw; obtain ⟨hS0, hS1, hS2⟩ := hSw; go_simp; all_goals (with_reducible rfl)
        try simp only [Act.put, List.setIfInBounds_toArray, List.set_cons_zero, List.set_cons_succ]
        refine wpAnyH_take (i := 11) (v := ?_) (by simp only [List.getElem?_toArray, List.getElem?_cons_succ, List.getElem?_cons_zero]; rfl) (by kernel_rfl) (by kernel_rfl) (by kernel_rfl) (fun _ _ _ h => h) (Or.inl ⟨by rfl, ?_⟩) (by assumption) ?_
        rotate_left 1
        · intro w hSw; obtain ⟨hS0, hS1, hS2⟩ := hSw; go_simp; all_goals (with_reducible rfl)
        try simp only [Act.put, List.setIfInBounds_toArray, List.set_cons_zero, List.set_cons_succ]
        refine wpAnyH_take (i := 12) (v := ?_) (by simp only [List.getElem?_toArray, List.getElem?_cons_succ, List.getElem?_cons_zero]; rfl) (by kernel_rfl) (by kernel_rfl) (by kernel_rfl) (fun _ _ _ h => h) (Or.inl ⟨by rfl, ?_⟩) (by assumption) ?_
        rotate_left 1
        · intro w hSw; obtain ⟨hS0, hS1, hS2⟩ := hSw; go_simp; all_goals (with_reducible rfl)
        try simp only [Act.put, List.setIfInBounds_toArray, List.set_cons_zero, List.set_cons_succ]
        refine wpAnyH_take (i := 13) (v := ?_) (by simp only [List.getElem?_toArray, List.getElem?_cons_succ, List.getElem?_cons_zero]; rfl) (by kernel_rfl) (by kernel_rfl) (by kernel_rfl) (fun _ _ _ h => h) (Or.inl ⟨by rfl, ?_⟩) (by assumption) ?_
        rotate_left 1
        · intro w hSw; obtain ⟨hS0, hS1, hS2⟩ := hSw; go_simp; all_goals (with_reducible rfl)
        try simp only [Act.put, List.setIfInBounds_toArray, List.set_cons_zero, List.set_cons_succ]
        refine wpAnyH_take (i := 14) (v := ?_) (by simp only [List.getElem?_toArray, List.getElem?_cons_succ, List.getElem?_cons_zero]; rfl) (by kernel_rfl) (by kernel_rfl) (by kernel_rfl) (fun _ _ _ h => h) (Or.inl ⟨by rfl, ?_⟩) (by assumption) ?_
        rotate_left 1
        · intro w hSw; obtain ⟨hS0, hS1, hS2⟩ := hSw; go_simp; all_goals (with_reducible rfl)
        try simp only [Act.put, List.setIfInBounds_toArray, List.set_cons_zero, List.set_cons_succ]
        refine wpAnyH_take (i := 15) (v := ?_) (by simp only [List.getElem?_toArray, List.getElem?_cons_succ, List.getElem?_cons_zero]; rfl) (by kernel_rfl) (by kernel_rfl) (by kernel_rfl) (fun _ _ _ h => h) (Or.inl ⟨by rfl, ?_⟩) (by assumption) ?_
        rotate_left 1
        · intro w hSw; obtain ⟨hS0, hS1, hS2⟩ := hSw; go_simp; all_goals (with_reducible rfl)
        try simp only [Act.put, List.setIfInBounds_toArray, List.set_cons_zero, List.set_cons_succ]
        refine wpAnyH_take (i := 16) (v := .agg xb.v) (by simp only [List.getElem?_toArray, List.getElem?_cons_succ, List.getElem?_cons_zero]; rfl) (by kernel_rfl) (by kernel_rfl) (by kernel_rfl) (fun _ _ _ h => h) (yieldsIf_load_mid (by rfl) _ _ (by rfl) g (i * 514 + 1) (by rfl) (xb.l.map u8v) _ (fun w hw => hw.2.2) undB rfl (by rw [List.length_map, xb.h]; exact infB)) (by assumption) ?_
        try simp only [Act.put, List.setIfInBounds_toArray, List.set_cons_zero, List.set_cons_succ]
        refine wpAnyH_take (i := 17) (v := .agg (rC ((xk, xb), true)).toArray) (by simp only [List.getElem?_toArray, List.getElem?_cons_succ, List.getElem?_cons_zero]; rfl) (by kernel_rfl) (by kernel_rfl) (by kernel_rfl) (fun _ _ _ h => h) (yieldsR3 (by rfl) _ _ _ (by rfl) xk xb (by rfl) (by rfl) (by rfl)) (by assumption) ?_
        try simp only [Act.put, List.setIfInBounds_toArray, List.set_cons_zero, List.set_cons_succ]
        refine wpAnyH_ready (rs := [18]) (by kernel_rfl) (by simp) ?_
        refine AllReadyH.cons (by simp only [List.getElem?_toArray, List.getElem?_cons_succ, List.getElem?_cons_zero]; rfl) (fun K hK => ?_) AllReadyH.nil
        refine stepSliceR (by rfl) _ (by rfl) ((xk, xb), true) (by rfl) ?_
        intro g2 wa hna
        have NA := Lib.hid hna
        have hha : wa.cell? ⟨q, 1, none⟩ = some (.slice (some ⟨g, 0, none⟩) len c) ∧ wa.cell? ⟨g, i * 514, none⟩ = some (.int .i64 (xk : Int)) ∧ wa.rangeAt g (i * 514 + 1) (xb.l.map u8v) := ⟨(Kept.new (S := fun _ => False) hna.grown).cell hHeld.1 (fun h => h), (Kept.new (S := fun _ => False) hna.grown).cell hHeld.2.1 (fun h => h), fun j v hj => (Kept.new (S := fun _ => False) hna.grown).cell (hHeld.2.2 j v hj) (fun h => h)⟩
        refine hK.out _ _ hha (fun hHeld => ?_)
        clear hK K hna hha
        try simp only [Act.put, List.setIfInBounds_toArray, List.set_cons_zero, List.set_cons_succ]
        refine wpAnyH_ready (rs := [19]) (by kernel_rfl) (by simp) ?_
        refine AllReadyH.cons (by simp only [List.getElem?_toArray, List.getElem?_cons_succ, List.getElem?_cons_zero]; rfl) (fun K hK => ?_) AllReadyH.nil
        have hrr : Rr wa w.heap.size (.slice ax nx cx) ((on.take i ++ kept (s.wt.take (i - lo)) ks).map (fun y => (y, true))) := RowOf.new (RowOf.new HRR.out DR.out) NA.out.grown
        have hoff : ∀ k, ((.slice ax nx cx) : Value).ownBlock = some k → k ≠ q ∧ k ≠ g := fun k e => by
          have := (Rr.lt hrr e).1
          exact ⟨by have := HQLT.out; omega, by have := HGLT.out; omega⟩
        have HOFF := Lib.hid hoff
        refine stepAppR (by rfl) _ _ (by rfl) w.heap.size (.slice ax nx cx) ((on.take i ++ kept (s.wt.take (i - lo)) ks).map (fun y => (y, true))) ((xk, xb), true) g2 (by rfl) (by rfl) hrr NA.out.blk (by rw [HNE.out]; exact HNX.out) (by have := HGR.out.size; have := DR.out.size; have := NA.out.grown.size; omega) ?_
        intro a3 n3 c3 wb hwb hgb
        have HWB := Lib.hid hwb
        have HGB := Lib.hid hgb
        have hhb : wb.cell? ⟨q, 1, none⟩ = some (.slice (some ⟨g, 0, none⟩) len c) ∧ wb.cell? ⟨g, i * 514, none⟩ = some (.int .i64 (xk : Int)) ∧ wb.rangeAt g (i * 514 + 1) (xb.l.map u8v) := ⟨(Kept.of (S := fun k => ((.slice ax nx cx) : Value).ownBlock = some k) hgb (fun k e => .inl e)).cell hHeld.1 (fun e => (HOFF.out _ e).1 rfl), (Kept.of (S := fun k => ((.slice ax nx cx) : Value).ownBlock = some k) hgb (fun k e => .inl e)).cell hHeld.2.1 (fun e => (HOFF.out _ e).2 rfl), fun j v hj => (Kept.of (S := fun k => ((.slice ax nx cx) : Value).ownBlock = some k) hgb (fun k e => .inl e)).cell (hHeld.2.2 j v hj) (fun e => (HOFF.out _ e).2 rfl)⟩
        have GN := Lib.hid (grown_own (grown_two (grown_two HGR.out DR.out) NA.out.grown) hgb (fun k e => (Rr.lt hrr e).1))
        refine hK.out _ _ hhb (fun hHeld => ?_)
        clear hK K hwb hgb hhb hrr hoff
        try simp only [Act.put, List.setIfInBounds_toArray, List.set_cons_zero, List.set_cons_succ]
        refine wpAnyH_take (i := 20) (v := ?_) (by simp only [List.getElem?_toArray, List.getElem?_cons_succ, List.getElem?_cons_zero]; rfl) (by kernel_rfl) (by kernel_rfl) (by kernel_rfl) (fun _ _ _ h => h) (Or.inl ⟨by rfl, ?_⟩) (by assumption) ?_
        rotate_left 1
        · intro w hSw; obtain ⟨hS0, hS1, hS2⟩ := hSw; go_simp; all_goals (with_reducible rfl)
        try simp only [Act.put, List.setIfInBounds_toArray, List.set_cons_zero, List.set_cons_succ]
        refine wpAnyH_done (by kernel_rfl) ?_ _
        refine NoPanic.normal ?_
        clear hHeld
        go_wp2_with fail
        go_roundw
        case rel => exact ⟨i + 1, by omega, by go_num, by rw [E2.out], by
            have h := HWB.out
            rw [← map_snoc] at h
            rw [E2.out, take_get (by have := HLO.out; omega), HX.out]
            rw [E1.out, List.take_zero, kept_none0, List.append_nil] at h
            rw [List.take_zero, kept_none0, List.append_nil]
            exact h, GN.out⟩
        case measure => (simp [intOf]; try omega)
      · rw [rows_wt (by have := HLO.out; omega) (by have := HLO.out; have := HLW.out; have := HLEN.out; omega)] at r1 r2 r3
        have hj : i - on.length = i - lo := by rw [HLO.out]
        rw [hj] at r1 r2 r3
        obtain ⟨⟨xk, xb⟩, hx⟩ : ∃ x, s.wt.getD (i - lo) (0, Bk.zero) = x := ⟨_, rfl⟩
        rw [hx] at r1 r2 r3
        have HX := Lib.hid hx
        dsimp only at r1 r2 r3
        obtain ⟨d, hd⟩ : ∃ d, i - lo = d := ⟨_, rfl⟩
        have hdl : d < len := by omega
        have E2 : Hid (i + 1 - lo = (i - lo) + 1) := Lib.hid (by omega)
        have HD := Lib.hid hd
        have hdi : (((i - lo : Nat) : Int)) = (d : Int) := by omega
        rw [hdi]
        clear hx hj hd hdi
        by_cases hdk : d < lk
        · obtain ⟨gk, ok, rfl, hcell⟩ := Bls.cells HV.out (by have := HLK.out; omega)
          have hck := HGR.out.cell (hcell d (by have := HLK.out; omega)) (by simp)
          obtain ⟨b, hb⟩ : ∃ b, ks.getD d false = b := ⟨_, rfl⟩
          rw [hb] at hck
          have HKB : Hid (ks.getD (i - lo) false = b) := Lib.hid (by rw [HD.out]; exact hb)
          clear hcell hb
          cases b
          · go_wp2_with fail
            go_roundw
            case rel => exact ⟨i + 1, by omega, by go_num, by rw [E2.out, HD.out]; go_num, by
                rw [E2.out, kept_step _ _ _ (by have := HLW.out; have := HLEN.out; omega), HKB.out, if_neg (by simp), List.take_of_length_le (by have := HLO.out; omega)]
                have h := HRR.out
                rw [List.take_of_length_le (by have := HLO.out; omega)] at h
                exact h, HGR.out⟩
            case measure => (simp [intOf]; try omega)
          · have HC1 := Lib.hid c1
            have C1 : Hid (wr.drew.cell? ⟨q, 1, none⟩ = some (.slice (some ⟨g, 0, none⟩) len c)) := Lib.hid c1
            have R1 : Hid (wr.drew.cell? ⟨g, i * 514, none⟩ = some (.int .i64 (xk : Int))) := Lib.hid r1
            have R2 : Hid (wr.drew.rangeAt g (i * 514 + 1) (xb.l.map u8v)) := Lib.hid r2
            clear r1 r2
            go_upto_region 13 with fail
            have hdr : wr.grownBy wr.drew none := ⟨rfl, rfl, rfl, Nat.le_refl _, fun _ _ _ => rfl⟩
            have DR := Lib.hid hdr
            have HQ : Hid (wr.drew.cell? ⟨q, 1, none⟩ = some (.slice (some ⟨g, 0, none⟩) len c) ∧ wr.drew.cell? ⟨g, i * 514, none⟩ = some (.int .i64 (xk : Int)) ∧ wr.drew.rangeAt g (i * 514 + 1) (xb.l.map u8v)) := Lib.hid ⟨C1.out, R1.out, R2.out⟩
            clear hdr
            refine wp_region_noPanic ?_
            refine wp_region_held_drew (S := fun w' => w'.cell? ⟨q, 1, none⟩ = some (.slice (some ⟨g, 0, none⟩) len c) ∧ w'.cell? ⟨g, i * 514, none⟩ = some (.int .i64 (xk : Int)) ∧ w'.rangeAt g (i * 514 + 1) (xb.l.map u8v)) (by kernel_rfl) (HQ.out) (fun hHeld => ?_)
            generalize wr.drew = wd at *
            refine wpAnyH_take (i := 0) (v := ?_) (by simp only [List.getElem?_toArray, List.getElem?_cons_zero]; rfl) (by kernel_rfl) (by kernel_rfl) (by kernel_rfl) (fun _ _ _ h => h) (Or.inl ⟨by rfl, ?_⟩) (by assumption) ?_
            rotate_left 1
            · intro w hSw; obtain ⟨hS0, hS1, hS2⟩ := hSw; go_simp; all_goals (with_reducible rfl)
            try simp only [Act.put, List.setIfInBounds_toArray, List.set_cons_zero, List.set_cons_succ]
            refine wpAnyH_take (i := 1) (v := ?_) (by simp only [List.getElem?_toArray, List.getElem?_cons_succ, List.getElem?_cons_zero]; rfl) (by kernel_rfl) (by kernel_rfl) (by kernel_rfl) (fun _ _ _ h => h) (Or.inl ⟨by rfl, ?_⟩) (by assumption) ?_
            rotate_left 1
            · intro w hSw; obtain ⟨hS0, hS1, hS2⟩ := hSw; go_simp; all_goals (with_reducible rfl)
            try simp only [Act.put, List.setIfInBounds_toArray, List.set_cons_zero, List.set_cons_succ]
            refine wpAnyH_take (i := 2) (v := ?_) (by simp only [List.getElem?_toArray, List.getElem?_cons_succ, List.getElem?_cons_zero]; rfl) (by kernel_rfl) (by kernel_rfl) (by kernel_rfl) (fun _ _ _ h => h) (Or.inl ⟨by rfl, ?_⟩) (by assumption) ?_
            rotate_left 1
            · intro w hSw; obtain ⟨hS0, hS1, hS2⟩ := hSw; go_simp; all_goals (with_reducible rfl)
            try simp only [Act.put, List.setIfInBounds_toArray, List.set_cons_zero, List.set_cons_succ]
            refine wpAnyH_take (i := 3) (v := ?_) (by simp only [List.getElem?_toArray, List.getElem?_cons_succ, List.getElem?_cons_zero]; rfl) (by kernel_rfl) (by kernel_rfl) (by kernel_rfl) (fun _ _ _ h => h) (Or.inl ⟨by rfl, ?_⟩) (by assumption) ?_
            rotate_left 1
            · intro w hSw; obtain ⟨hS0, hS1, hS2⟩ := hSw; go_simp; all_goals (with_reducible rfl)
            try simp only [Act.put, List.setIfInBounds_toArray, List.set_cons_zero, List.set_cons_succ]
            refine wpAnyH_take (i := 4) (v := ?_) (by simp only [List.getElem?_toArray, List.getElem?_cons_succ, List.getElem?_cons_zero]; rfl) (by kernel_rfl) (by kernel_rfl) (by kernel_rfl) (fun _ _ _ h => h) (Or.inl ⟨by rfl, ?_⟩) (by assumption) ?_
            rotate_left 1
            · intro w hSw; obtain ⟨hS0, hS1, hS2⟩ := hSw; go_simp; all_goals (with_reducible rfl)
            try simp only [Act.put, List.setIfInBounds_toArray, List.set_cons_zero, List.set_cons_succ]
            refine wpAnyH_take (i := 5) (v := ?_) (by simp only [List.getElem?_toArray, List.getElem?_cons_succ, List.getElem?_cons_zero]; rfl) (by kernel_rfl) (by kernel_rfl) (by kernel_rfl) (fun _ _ _ h => h) (Or.inl ⟨by rfl, ?_⟩) (by assumption) ?_
            rotate_left 1
            · intro w hSw; obtain ⟨hS0, hS1, hS2⟩ := hSw; go_simp; all_goals (with_reducible rfl)
            try simp only [Act.put, List.setIfInBounds_toArray, List.set_cons_zero, List.set_cons_succ]
            refine wpAnyH_take (i := 6) (v := ?_) (by simp only [List.getElem?_toArray, List.getElem?_cons_succ, List.getElem?_cons_zero]; rfl) (by kernel_rfl) (by kernel_rfl) (by kernel_rfl) (fun _ _ _ h => h) (Or.inl ⟨by rfl, ?_⟩) (by assumption) ?_
            rotate_left 1
            · intro w hSw; obtain ⟨hS0, hS1, hS2⟩ := hSw; go_simp; all_goals (with_reducible rfl)
            try simp only [Act.put, List.setIfInBounds_toArray, List.set_cons_zero, List.set_cons_succ]
            refine wpAnyH_take (i := 7) (v := ?_) (by simp only [List.getElem?_toArray, List.getElem?_cons_succ, List.getElem?_cons_zero]; rfl) (by kernel_rfl) (by kernel_rfl) (by kernel_rfl) (fun _ _ _ h => h) (Or.inl ⟨by rfl, ?_⟩) (by assumption) ?_
            rotate_left 1
            · intro w hSw; obtain ⟨hS0, hS1, hS2⟩ := hSw; go_simp; all_goals (with_reducible rfl)
            try simp only [Act.put, List.setIfInBounds_toArray, List.set_cons_zero, List.set_cons_succ]
            refine wpAnyH_take (i := 8) (v := ?_) (by simp only [List.getElem?_toArray, List.getElem?_cons_succ, List.getElem?_cons_zero]; rfl) (by kernel_rfl) (by kernel_rfl) (by kernel_rfl) (fun _ _ _ h => h) (Or.inl ⟨by rfl, ?_⟩) (by assumption) ?_
            rotate_left 1
            · intro w hSw; obtain ⟨hS0, hS1, hS2⟩ := hSw; go_simp; all_goals (with_reducible rfl)
            try simp only [Act.put, List.setIfInBounds_toArray, List.set_cons_zero, List.set_cons_succ]
            refine wpAnyH_take (i := 9) (v := ?_) (by simp only [List.getElem?_toArray, List.getElem?_cons_succ, List.getElem?_cons_zero]; rfl) (by kernel_rfl) (by kernel_rfl) (by kernel_rfl) (fun _ _ _ h => h) (Or.inl ⟨by rfl, ?_⟩) (by assumption) ?_
            rotate_left 1
            · intro w hSw; obtain ⟨hS0, hS1, hS2⟩ := hSw; go_simp; all_goals (with_reducible rfl)
            try simp only [Act.put, List.setIfInBounds_toArray, List.set_cons_zero, List.set_cons_succ]
            refine wpAnyH_take (i := 10) (v := ?_) (by simp only [List.getElem?_toArray, List.getElem?_cons_succ, List.getElem?_cons_zero]; rfl) (by kernel_rfl) (by kernel_rfl) (by kernel_rfl) (fun _ _ _ h => h) (Or.inl ⟨by rfl, ?_⟩) (by assumption) ?_
            rotate_left 1
            · intro w hSw; obtain ⟨hS0, hS1, hS2⟩ := hSw; go_simp; all_goals (with_reducible rfl)
            try simp only [Act.put, List.setIfInBounds_toArray, List.set_cons_zero, List.set_cons_succ]
            refine wpAnyH_take (i := 11) (v := ?_) (by simp only [List.getElem?_toArray, List.getElem?_cons_succ, List.getElem?_cons_zero]; rfl) (by kernel_rfl) (by kernel_rfl) (by kernel_rfl) (fun _ _ _ h => h) (Or.inl ⟨by rfl, ?_⟩) (by assumption) ?_
            rotate_left 1
            · intro w hSw; obtain ⟨hS0, hS1, hS2⟩ := hSw; go_simp; all_goals (with_reducible rfl)
            try simp only [Act.put, List.setIfInBounds_toArray, List.set_cons_zero, List.set_cons_succ]
            refine wpAnyH_take (i := 12) (v := ?_) (by simp only [List.getElem?_toArray, List.getElem?_cons_succ, List.getElem?_cons_zero]; rfl) (by kernel_rfl) (by kernel_rfl) (by kernel_rfl) (fun _ _ _ h => h) (Or.inl ⟨by rfl, ?_⟩) (by assumption) ?_
            rotate_left 1
            · intro w hSw; obtain ⟨hS0, hS1, hS2⟩ := hSw; go_simp; all_goals (with_reducible rfl)
            try simp only [Act.put, List.setIfInBounds_toArray, List.set_cons_zero, List.set_cons_succ]
            refine wpAnyH_take (i := 13) (v := ?_) (by simp only [List.getElem?_toArray, List.getElem?_cons_succ, List.getElem?_cons_zero]; rfl) (by kernel_rfl) (by kernel_rfl) (by kernel_rfl) (fun _ _ _ h => h) (Or.inl ⟨by rfl, ?_⟩) (by assumption) ?_
            rotate_left 1
            · intro w hSw; obtain ⟨hS0, hS1, hS2⟩ := hSw; go_simp; all_goals (with_reducible rfl)
            try simp only [Act.put, List.setIfInBounds_toArray, List.set_cons_zero, List.set_cons_succ]
            refine wpAnyH_take (i := 14) (v := ?_) (by simp only [List.getElem?_toArray, List.getElem?_cons_succ, List.getElem?_cons_zero]; rfl) (by kernel_rfl) (by kernel_rfl) (by kernel_rfl) (fun _ _ _ h => h) (Or.inl ⟨by rfl, ?_⟩) (by assumption) ?_
            rotate_left 1
            · intro w hSw; obtain ⟨hS0, hS1, hS2⟩ := hSw; go_simp; all_goals (with_reducible rfl)
            try simp only [Act.put, List.setIfInBounds_toArray, List.set_cons_zero, List.set_cons_succ]
            refine wpAnyH_take (i := 15) (v := ?_) (by simp only [List.getElem?_toArray, List.getElem?_cons_succ, List.getElem?_cons_zero]; rfl) (by kernel_rfl) (by kernel_rfl) (by kernel_rfl) (fun _ _ _ h => h) (Or.inl ⟨by rfl, ?_⟩) (by assumption) ?_
            rotate_left 1
            · intro w hSw; obtain ⟨hS0, hS1, hS2⟩ := hSw; go_simp; all_goals (with_reducible rfl)
            try simp only [Act.put, List.setIfInBounds_toArray, List.set_cons_zero, List.set_cons_succ]
            refine wpAnyH_take (i := 16) (v := .agg xb.v) (by simp only [List.getElem?_toArray, List.getElem?_cons_succ, List.getElem?_cons_zero]; rfl) (by kernel_rfl) (by kernel_rfl) (by kernel_rfl) (fun _ _ _ h => h) (yieldsIf_load_mid (by rfl) _ _ (by rfl) g (i * 514 + 1) (by rfl) (xb.l.map u8v) _ (fun w hw => hw.2.2) undB rfl (by rw [List.length_map, xb.h]; exact infB)) (by assumption) ?_
            try simp only [Act.put, List.setIfInBounds_toArray, List.set_cons_zero, List.set_cons_succ]
            refine wpAnyH_take (i := 17) (v := .agg (rC ((xk, xb), true)).toArray) (by simp only [List.getElem?_toArray, List.getElem?_cons_succ, List.getElem?_cons_zero]; rfl) (by kernel_rfl) (by kernel_rfl) (by kernel_rfl) (fun _ _ _ h => h) (yieldsR3 (by rfl) _ _ _ (by rfl) xk xb (by rfl) (by rfl) (by rfl)) (by assumption) ?_
            try simp only [Act.put, List.setIfInBounds_toArray, List.set_cons_zero, List.set_cons_succ]
            refine wpAnyH_ready (rs := [18]) (by kernel_rfl) (by simp) ?_
            refine AllReadyH.cons (by simp only [List.getElem?_toArray, List.getElem?_cons_succ, List.getElem?_cons_zero]; rfl) (fun K hK => ?_) AllReadyH.nil
            refine stepSliceR (by rfl) _ (by rfl) ((xk, xb), true) (by rfl) ?_
            intro g2 wa hna
            have NA := Lib.hid hna
            have hha : wa.cell? ⟨q, 1, none⟩ = some (.slice (some ⟨g, 0, none⟩) len c) ∧ wa.cell? ⟨g, i * 514, none⟩ = some (.int .i64 (xk : Int)) ∧ wa.rangeAt g (i * 514 + 1) (xb.l.map u8v) := ⟨(Kept.new (S := fun _ => False) hna.grown).cell hHeld.1 (fun h => h), (Kept.new (S := fun _ => False) hna.grown).cell hHeld.2.1 (fun h => h), fun j v hj => (Kept.new (S := fun _ => False) hna.grown).cell (hHeld.2.2 j v hj) (fun h => h)⟩
            refine hK.out _ _ hha (fun hHeld => ?_)
            clear hK K hna hha
            try simp only [Act.put, List.setIfInBounds_toArray, List.set_cons_zero, List.set_cons_succ]
            refine wpAnyH_ready (rs := [19]) (by kernel_rfl) (by simp) ?_
            refine AllReadyH.cons (by simp only [List.getElem?_toArray, List.getElem?_cons_succ, List.getElem?_cons_zero]; rfl) (fun K hK => ?_) AllReadyH.nil
            have hrr : Rr wa w.heap.size (.slice ax nx cx) ((on.take i ++ kept (s.wt.take (i - lo)) ks).map (fun y => (y, true))) := RowOf.new (RowOf.new HRR.out DR.out) NA.out.grown
            have hoff : ∀ k, ((.slice ax nx cx) : Value).ownBlock = some k → k ≠ q ∧ k ≠ g := fun k e => by
              have := (Rr.lt hrr e).1
              exact ⟨by have := HQLT.out; omega, by have := HGLT.out; omega⟩
            have HOFF := Lib.hid hoff
            refine stepAppR (by rfl) _ _ (by rfl) w.heap.size (.slice ax nx cx) ((on.take i ++ kept (s.wt.take (i - lo)) ks).map (fun y => (y, true))) ((xk, xb), true) g2 (by rfl) (by rfl) hrr NA.out.blk (by rw [HNE.out]; exact HNX.out) (by have := HGR.out.size; have := DR.out.size; have := NA.out.grown.size; omega) ?_
            intro a3 n3 c3 wb hwb hgb
            have HWB := Lib.hid hwb
            have HGB := Lib.hid hgb
            have hhb : wb.cell? ⟨q, 1, none⟩ = some (.slice (some ⟨g, 0, none⟩) len c) ∧ wb.cell? ⟨g, i * 514, none⟩ = some (.int .i64 (xk : Int)) ∧ wb.rangeAt g (i * 514 + 1) (xb.l.map u8v) := ⟨(Kept.of (S := fun k => ((.slice ax nx cx) : Value).ownBlock = some k) hgb (fun k e => .inl e)).cell hHeld.1 (fun e => (HOFF.out _ e).1 rfl), (Kept.of (S := fun k => ((.slice ax nx cx) : Value).ownBlock = some k) hgb (fun k e => .inl e)).cell hHeld.2.1 (fun e => (HOFF.out _ e).2 rfl), fun j v hj => (Kept.of (S := fun k => ((.slice ax nx cx) : Value).ownBlock = some k) hgb (fun k e => .inl e)).cell (hHeld.2.2 j v hj) (fun e => (HOFF.out _ e).2 rfl)⟩
            have GN := Lib.hid (grown_own (grown_two (grown_two HGR.out DR.out) NA.out.grown) hgb (fun k e => (Rr.lt hrr e).1))
            refine hK.out _ _ hhb (fun hHeld => ?_)
            clear hK K hwb hgb hhb hrr hoff
            try simp only [Act.put, List.setIfInBounds_toArray, List.set_cons_zero, List.set_cons_succ]
            refine wpAnyH_take (i := 20) (v := ?_) (by simp only [List.getElem?_toArray, List.getElem?_cons_succ, List.getElem?_cons_zero]; rfl) (by kernel_rfl) (by kernel_rfl) (by kernel_rfl) (fun _ _ _ h => h) (Or.inl ⟨by rfl, ?_⟩) (by assumption) ?_
            rotate_left 1
            · intro w hSw; obtain ⟨hS0, hS1, hS2⟩ := hSw; go_simp; all_goals (with_reducible rfl)
            try simp only [Act.put, List.setIfInBounds_toArray, List.set_cons_zero, List.set_cons_succ]
            refine wpAnyH_done (by kernel_rfl) ?_ _
            refine NoPanic.normal ?_
            clear hHeld
            go_wp2_with fail
            go_roundw
            case rel => exact ⟨i + 1, by omega, by go_num, by rw [E2.out, HD.out]; go_num, by
                have h := HWB.out
                rw [← map_snoc] at h
                rw [E2.out, kept_step _ _ _ (by have := HLW.out; have := HLEN.out; omega), HKB.out, if_pos rfl, HX.out, List.take_of_length_le (by have := HLO.out; omega)]
                rw [List.take_of_length_le (by have := HLO.out; omega)] at h
                rw [← List.append_assoc]
                exact h, GN.out⟩
            case measure => (simp [intOf]; try omega)
        · have HKB : Hid (ks.getD (i - lo) false = false) := Lib.hid (by rw [HD.out, List.getD, List.getElem?_eq_none (by have := HLK.out; omega)]; rfl)
          go_wp2_with fail
          go_roundw
          case rel => exact ⟨i + 1, by omega, by go_num, by rw [E2.out, HD.out]; go_num, by
              rw [E2.out, kept_step _ _ _ (by have := HLW.out; have := HLEN.out; omega), HKB.out, if_neg (by simp), List.take_of_length_le (by have := HLO.out; omega)]
              have h := HRR.out
              rw [List.take_of_length_le (by have := HLO.out; omega)] at h
              exact h, HGR.out⟩
          case measure => (simp [intOf]; try omega)
    · obtain rfl : i = len := by omega
      have e1 : i - lo = lw := by have := HLEN.out; omega
      have HFIN : Hid (Rr wr w.heap.size (.slice ax nx cx) (rows (on ++ kept s.wt ks) [])) := Lib.hid (by
        have h := HRR.out
        rw [e1, List.take_of_length_le (by have := HLO.out; have := HLEN.out; omega), List.take_of_length_le (by have := HLW.out; omega)] at h
        rw [rows_nil]
        exact h)
      rw [e1]
      have f1 := HBR.out.frozen 1
      have S1 := Lib.hid (HBR.out.set 1 (.slice ax nx cx))
      have c2 := S1.out.cell (i := 2) (x := .int .i64 (s.lf : Int)) rfl
      have f2 := S1.out.frozen 2
      have S2 := Lib.hid (S1.out.set 2 (.int .i64 0))
      have c3 := S2.out.cell (i := 3) (x := .slice ak nk ck) rfl
      have f3 := S2.out.frozen 3
      have S3 := Lib.hid (S2.out.set 3 (.slice none 0 0))
      have c4 := S3.out.cell (i := 4) (x := .bool false) rfl
      have f4 := S3.out.frozen 4
      go_wp2_with fail
      go_ret
      have b4 := S3.out.set 4 (.bool true)
      have g1 : Kept (· = q) wr _ := Kept.of (HBR.out.setG 1 (.slice ax nx cx)) (fun k e => .inl (by cases e; rfl))
      have g2 : Kept (· = q) _ _ := Kept.of (S1.out.setG 2 (.int .i64 0)) (fun k e => .inl (by cases e; rfl))
      have g3 : Kept (· = q) _ _ := Kept.of (S2.out.setG 3 (.slice none 0 0)) (fun k e => .inl (by cases e; rfl))
      have g4 : Kept (· = q) _ _ := Kept.of (S3.out.setG 4 (.bool true)) (fun k e => .inl (by cases e; rfl))
      have K4 := ((g1.trans g2).trans g3).trans g4
      clear g1 g2 g3 g4 S1 S2 S3 c1 c2 c3 c4 f1 f2 f3 f4
      generalize World.setCell _ _ _ = w6 at *
      have hrow : Rr w6 0 (.slice ax nx cx) (rows (on ++ kept s.wt ks) []) := RowOf.based (K4.row HFIN.out (fun k e hk => by
        have := (Rr.lt HFIN.out e).1
        have := HQLT.out
        have hk : k = q := hk
        omega)) (fun _ _ => Nat.zero_le _)
      refine ⟨.slice none 0 0, rfl, ⟨on ++ kept s.wt ks, .slice ax nx cx, b4, hrow, BlsT.nil _, ?_, ?_, fun _ => ⟨rfl, rfl, rfl⟩, by simp [DS.gone], H.out.hn⟩, (Kept.new HGR.out).trans K4, fun k e => by cases e⟩
      · show putL s.fl (kept s.wt ks) = _
        rw [H.out.fl, putL_append]
      · have := kept_length s.wt ks
        have := H.out.cnt
        show (on ++ kept s.wt ks).length + 0 ≤ s.m
        rw [List.length_append]
        omega
end
end Go.Proofs.Ytnnhnkpbiilooaa
