/- The document's disk: Write. -/
import Derived.Test.YtnnhnkpbiilooaaDlD
namespace Go.Proofs.Ytnnhnkpbiilooaa
open Go.RowKit Go.Maps

section
variable {w : World} {q : Nat} {kv : Value} {s : DS} {on : List (Nat × Bk)} {lv : Value}
theorem write_rk {wb wc : World} {lv' : Value} {j : Nat} {b : Bk} (h : Rk w q kv s on lv) (hd : s.dd = false) (G : w.grownBy wb none) (hR : Rr wb w.heap.size lv' (rows on s.wt ++ [((j, b), false)]))
    (hb : Blk wc q 74 #[.int .i64 (s.n : Int), lv', .int .i64 (s.lf : Int), kv, .bool s.dd]) (hg : wb.grownBy wc (some q)) : Rk wc q kv (s.add j b) on lv' ∧ Kept (· = q) w wc := by
  have K3 : Kept (· = q) wb wc := Kept.of hg (fun k e => .inl (by cases e; rfl))
  have KK : Kept (· = q) w wc := (Kept.new G).trans K3
  have hq := h.blk.lt
  refine ⟨⟨hb, ?_, KK.own h.kp (fun k e => h.nq.2 k e), h.fl, ?_, fun hd' => ?_, h.hl, h.hn⟩, KK⟩
  · show Rr wc 0 lv' (rows on (s.wt ++ [(j, b)]))
    rw [rows_snoc]
    exact RowOf.based (K3.row hR (fun k e hk => by
      have := (Rr.lt hR e).1
      have hk : k = q := hk
      omega)) (fun _ _ => Nat.zero_le _)
  · have := h.cnt
    show on.length + (s.wt ++ [(j, b)]).length ≤ s.m + 1
    rw [List.length_append]
    simp
    omega
  · have hd' : s.dd = true := hd'
    rw [hd] at hd'; cases hd'

set_option maxRecDepth 20000 in
theorem rWrite_off (h : Rk w q kv s on lv) (k : Int) (b : Bk) (h0 : s.has k ≠ 0) : Calls Try.prog 26 #[dptr q, .int .i64 k, .agg b.v] w (DoesR w q kv (s.write k b).1 (s.write k b).2) := by
  rw [DS.write_off h0]
  have H : Hid (RkE w q kv s) := Lib.hid ⟨on, lv, h⟩
  have hb := h.blk
  rcases hd : s.dd with _ | _
  · by_cases hh : k < 0 ∨ (s.n : Int) ≤ k
    · rw [DS.has_off hd hh]
      rw [hd] at hb
      have HB := Lib.hid hb
      rcases hh with hh | hh
      · clear h h0 hb hd
        unfold dptr
        go_enter Try.func26, Try.ntmps26
        go_upto_region 1 with (refine wpBoxB rfl _ rfl b rfl ?_; intro g w1 hn1; have N1 := Lib.hid hn1; clear hn1)
        have hB1 := HB.out.new N1.out.grown
        have c4 := hB1.cell (i := 4) (x := .bool false) rfl
        go_wp2_with fail
        go_ret
        exact DoesR.after (Kept.new N1.out.grown) ((H.out.new N1.out.grown).does 1)
      · have hk0 : ¬ k < 0 := by omega
        clear h h0 hb hd
        unfold dptr
        go_enter Try.func26, Try.ntmps26
        go_upto_region 1 with (refine wpBoxB rfl _ rfl b rfl ?_; intro g w1 hn1; have N1 := Lib.hid hn1; clear hn1)
        have hB1 := HB.out.new N1.out.grown
        have c4 := hB1.cell (i := 4) (x := .bool false) rfl
        have c0 := hB1.cell (i := 0) (x := .int .i64 (s.n : Int)) rfl
        go_wp2_with fail
        go_ret
        exact DoesR.after (Kept.new N1.out.grown) ((H.out.new N1.out.grown).does 1)
    · exact absurd (DS.has_on hd (by omega) (by omega)) h0
  · rw [DS.has_dead hd]
    rw [hd] at hb
    have HB := Lib.hid hb
    clear h h0 hb hd
    unfold dptr
    go_enter Try.func26, Try.ntmps26
    go_upto_region 1 with (refine wpBoxB rfl _ rfl b rfl ?_; intro g w1 hn1; have N1 := Lib.hid hn1; clear hn1)
    have hB1 := HB.out.new N1.out.grown
    have c4 := hB1.cell (i := 4) (x := .bool true) rfl
    go_wp2_with fail
    go_ret
    exact DoesR.after (Kept.new N1.out.grown) ((H.out.new N1.out.grown).does 51)

set_option maxRecDepth 100000 in
set_option maxHeartbeats 16000000 in
theorem rWrite_on (h : Rk w q kv s on lv) (hm : s.m ≤ 100000000) (j : Nat) (b : Bk) (h0 : s.has (j : Int) = 0) : Calls Try.prog 26 #[dptr q, .int .i64 (j : Int), .agg b.v] w (DoesR w q kv (s.write j b).1 (s.write j b).2) := by
  rw [DS.write_on h0]
  obtain ⟨hd, hj0, hj1⟩ := DS.has_0 h0
  have H := Lib.hid h
  have HM := Lib.hid hm
  have HD := Lib.hid hd
  have hb := h.blk
  have hrow := h.row
  obtain ⟨a, c, rfl, hl, _⟩ := hrow.form
  obtain ⟨len, hlen⟩ : ∃ n, (rows on s.wt).length = n := ⟨_, rfl⟩
  rw [hlen] at hrow hb hl
  have HLEN := Lib.hid hlen
  have HCNT : Hid (len ≤ 1000000000) := Lib.hid (by have := h.cnt; rw [rows_len] at hlen; omega)
  have HB := Lib.hid hb
  have HROW := Lib.hid hrow
  have hk0 : ¬ (j : Int) < 0 := by omega
  have hk3 : ¬ (s.n : Int) ≤ (j : Int) := by omega
  have HH := Lib.hid (fun w' (hg : w.grownBy w' none) => h.keep (S := fun _ => False) (Kept.new hg) (fun h => h) (fun _ _ h => h) (fun _ _ h => h))
  have HRLE := Lib.hid hlen
  rw [hlen] at HH
  clear h h0 hm hb hrow hlen hl hj0
  rw [HD.out] at HB
  unfold dptr
  go_enter Try.func26, Try.ntmps26
  go_upto_region 1 with (refine wpBoxB rfl _ rfl b rfl ?_; intro bx w1 hn1; have N1 := Lib.hid hn1; clear hn1)
  have hB1 := HB.out.new N1.out.grown
  have c4 := hB1.cell (i := 4) (x := .bool false) rfl
  have c0 := hB1.cell (i := 0) (x := .int .i64 (s.n : Int)) rfl
  go_upto_region 5 with fail
  clear c4 c0 hB1
  have dr : w1.grownBy w1.drew none := ⟨rfl, rfl, rfl, Nat.le_refl _, fun _ _ _ => rfl⟩
  have GD := Lib.hid (grown_two N1.out.grown dr)
  have BX : Hid (Blk w1.drew bx 29 b.v) := Lib.hid (N1.out.blk.new dr)
  have HRD := Lib.hid (HH.out _ GD.out)
  have HBQ : Hid (Blk w1.drew q 74 #[.int .i64 (s.n : Int), .slice a len c, .int .i64 (s.lf : Int), kv, .bool s.dd]) := Lib.hid HRD.out.blk
  have HRW : Hid (Rr w1.drew 0 (.slice a len c) (rows on s.wt)) := Lib.hid HRD.out.row
  have BQ : Hid (bx ≠ q) := Lib.hid (fun e => by
    have h1 := HRD.out.blk
    rw [← e] at h1
    exact Blk.ne BX.out h1 (by decide) rfl)
  have G0 : Hid (w1.drew.grownBy w1.drew none) := Lib.hid (World.grownBy.refl _ _)
  clear dr HH
  refine wp_region_noPanic ?_
  refine wp_region_held_drew (S := fun w' => Blk w' bx 29 b.v) (by kernel_rfl) (BX.out) (fun hHeld => ?_)
  generalize w1.drew = wd at *
  refine wpAnyH_take (i := 0) (v := ?_) (by simp only [List.getElem?_toArray, List.getElem?_cons_zero]; rfl) (by kernel_rfl) (by kernel_rfl) (by kernel_rfl) (fun _ _ _ h => h) (Or.inl ⟨by rfl, ?_⟩) (by assumption) ?_
  rotate_left 1
  · intro w hSw; (try dsimp only at hSw); go_simp; all_goals (with_reducible rfl)
  try simp only [Act.put, List.setIfInBounds_toArray, List.set_cons_zero, List.set_cons_succ]
  refine wpAnyH_take (i := 2) (v := ?_) (by simp only [List.getElem?_toArray, List.getElem?_cons_succ, List.getElem?_cons_zero]; rfl) (by kernel_rfl) (by kernel_rfl) (by kernel_rfl) (fun _ _ _ h => h) (Or.inl ⟨by rfl, ?_⟩) (by assumption) ?_
  rotate_left 1
  · intro w hSw; (try dsimp only at hSw); go_simp; all_goals (with_reducible rfl)
  try simp only [Act.put, List.setIfInBounds_toArray, List.set_cons_zero, List.set_cons_succ]
  refine wpAnyH_take (i := 3) (v := ?_) (by simp only [List.getElem?_toArray, List.getElem?_cons_succ, List.getElem?_cons_zero]; rfl) (by kernel_rfl) (by kernel_rfl) (by kernel_rfl) (fun _ _ _ h => h) (Or.inl ⟨by rfl, ?_⟩) (by assumption) ?_
  rotate_left 1
  · intro w hSw; (try dsimp only at hSw); go_simp; all_goals (with_reducible rfl)
  try simp only [Act.put, List.setIfInBounds_toArray, List.set_cons_zero, List.set_cons_succ]
  refine wpAnyH_take (i := 4) (v := ?_) (by simp only [List.getElem?_toArray, List.getElem?_cons_succ, List.getElem?_cons_zero]; rfl) (by kernel_rfl) (by kernel_rfl) (by kernel_rfl) (fun _ _ _ h => h) (Or.inl ⟨by rfl, ?_⟩) (by assumption) ?_
  rotate_left 1
  · intro w hSw; (try dsimp only at hSw); go_simp; all_goals (with_reducible rfl)
  try simp only [Act.put, List.setIfInBounds_toArray, List.set_cons_zero, List.set_cons_succ]
  refine wpAnyH_take (i := 7) (v := ?_) (by simp only [List.getElem?_toArray, List.getElem?_cons_succ, List.getElem?_cons_zero]; rfl) (by kernel_rfl) (by kernel_rfl) (by kernel_rfl) (fun _ _ _ h => h) (Or.inl ⟨by rfl, ?_⟩) (by assumption) ?_
  rotate_left 1
  · intro w hSw; (try dsimp only at hSw); go_simp; all_goals (with_reducible rfl)
  try simp only [Act.put, List.setIfInBounds_toArray, List.set_cons_zero, List.set_cons_succ]
  refine wpAnyH_take (i := 8) (v := .agg b.v) (by simp only [List.getElem?_toArray, List.getElem?_cons_succ, List.getElem?_cons_zero]; rfl) (by kernel_rfl) (by kernel_rfl) (by kernel_rfl) (fun _ _ _ h => h) (yieldsIf_load_mid (by rfl) _ _ (by rfl) bx 0 (by rfl) (b.l.map u8v) _ (fun w hw => Blk.range hw) undB rfl (by rw [List.length_map, b.h]; exact infB)) (by assumption) ?_
  try simp only [Act.put, List.setIfInBounds_toArray, List.set_cons_zero, List.set_cons_succ]
  refine wpAnyH_take (i := 9) (v := .agg (rC ((j, b), false)).toArray) (by simp only [List.getElem?_toArray, List.getElem?_cons_succ, List.getElem?_cons_zero]; rfl) (by kernel_rfl) (by kernel_rfl) (by kernel_rfl) (fun _ _ _ h => h) (yieldsR (by rfl) _ _ (by rfl) j b (by rfl) (by rfl)) (by assumption) ?_
  try simp only [Act.put, List.setIfInBounds_toArray, List.set_cons_zero, List.set_cons_succ]
  refine wpAnyH_ready (rs := [1, 5, 10]) (by kernel_rfl) (by simp) ?_
  refine AllReadyH.cons (by simp only [List.getElem?_toArray, List.getElem?_cons_succ, List.getElem?_cons_zero]; rfl) (fun K hK => ?_) (AllReadyH.cons (by simp only [List.getElem?_toArray, List.getElem?_cons_succ, List.getElem?_cons_zero]; rfl) (fun K hK => ?_) (AllReadyH.cons (by simp only [List.getElem?_toArray, List.getElem?_cons_succ, List.getElem?_cons_zero]; rfl) (fun K hK => ?_) AllReadyH.nil))
  · refine stepNoneR (by rfl) (by rfl) ?_
    intro gr v1 hna
    have G1 := Lib.hid (grown_two G0.out hna.grown)
    have BR := Lib.hid hna.blk
    have GE : Hid (wd.heap.size ≤ gr) := Lib.hid (by have := hna.ge; have := G0.out.size; omega)
    refine hK.out _ _ (BX.out.new G1.out) (fun hHeld => ?_)
    clear hK K hna
    try simp only [Act.put, List.setIfInBounds_toArray, List.set_cons_zero, List.set_cons_succ]
    refine wpAnyH_ready (rs := [5, 10]) (by kernel_rfl) (by simp) ?_
    refine AllReadyH.cons (by simp only [List.getElem?_toArray, List.getElem?_cons_succ, List.getElem?_cons_zero]; rfl) (fun K hK => ?_) (AllReadyH.cons (by simp only [List.getElem?_toArray, List.getElem?_cons_succ, List.getElem?_cons_zero]; rfl) (fun K hK => ?_) AllReadyH.nil)
    · have c1 := (HBQ.out.new G1.out).cell (i := 1) (x := .slice a len c) rfl
      go_simp
      refine hK.out _ _ hHeld (fun hHeld => ?_)
      clear hK K c1
      try simp only [Act.put, List.setIfInBounds_toArray, List.set_cons_zero, List.set_cons_succ]
      refine wpAnyH_ready (rs := [6, 10]) (by kernel_rfl) (by simp) ?_
      refine AllReadyH.cons (by simp only [List.getElem?_toArray, List.getElem?_cons_succ, List.getElem?_cons_zero]; rfl) (fun K hK => ?_) (AllReadyH.cons (by simp only [List.getElem?_toArray, List.getElem?_cons_succ, List.getElem?_cons_zero]; rfl) (fun K hK => ?_) AllReadyH.nil)
      · have hrr : Rr v1 0 (.slice a len c) (rows on s.wt) := RowOf.new HRW.out G1.out
        refine stepCloneR (by rfl) _ _ (by rfl) wd.heap.size 0 _ _ gr (by rfl) (by rfl) hrr BR.out (by rw [HLEN.out]; have := HCNT.out; omega) GE.out ?_
        intro a3 n3 c3 v2 hwb hgb
        have RR := Lib.hid hwb
        have G2 := Lib.hid (grown_new G1.out hgb GE.out)
        refine hK.out _ _ (BX.out.new G2.out) (fun hHeld => ?_)
        clear hK K hwb hgb hrr
        try simp only [Act.put, List.setIfInBounds_toArray, List.set_cons_zero, List.set_cons_succ]
        refine wpAnyH_ready (rs := [10]) (by kernel_rfl) (by simp) ?_
        refine AllReadyH.cons (by simp only [List.getElem?_toArray, List.getElem?_cons_succ, List.getElem?_cons_zero]; rfl) (fun K hK => ?_) AllReadyH.nil
        refine stepSliceR (by rfl) _ (by rfl) ((j, b), false) (by rfl) ?_
        intro g2 v3 hna
        have G3 := Lib.hid (grown_two G2.out hna.grown)
        have B2 := Lib.hid hna.blk
        have RR : Hid (Rr v3 wd.heap.size (.slice a3 n3 c3) (rows on s.wt)) := Lib.hid (RowOf.new RR.out hna.grown)
        refine hK.out _ _ (BX.out.new G3.out) (fun hHeld => ?_)
        clear hK K hna
        try simp only [Act.put, List.setIfInBounds_toArray, List.set_cons_zero, List.set_cons_succ]
        refine wpAnyH_ready (rs := [11]) (by kernel_rfl) (by simp) ?_
        refine AllReadyH.cons (by simp only [List.getElem?_toArray, List.getElem?_cons_succ, List.getElem?_cons_zero]; rfl) (fun K hK => ?_) AllReadyH.nil
        refine stepAppR (by rfl) _ _ (by rfl) wd.heap.size _ _ ((j, b), false) g2 (by rfl) (by rfl) RR.out B2.out (by rw [HLEN.out]; have := HCNT.out; omega) G3.out.size ?_
        intro a4 n4 c4 v4 hwb hgb
        have R4 := Lib.hid hwb
        have G4 := Lib.hid (grown_own G3.out hgb (fun k e => (Rr.lt RR.out e).1))
        refine hK.out _ _ (BX.out.new G4.out) (fun hHeld => ?_)
        clear hK K hwb hgb
        try simp only [Act.put, List.setIfInBounds_toArray, List.set_cons_zero, List.set_cons_succ]
        refine wpAnyH_take (i := 12) (v := ?_) (by simp only [List.getElem?_toArray, List.getElem?_cons_succ, List.getElem?_cons_zero]; rfl) (by kernel_rfl) (by kernel_rfl) (by kernel_rfl) (fun _ _ _ h => h) (Or.inl ⟨by rfl, ?_⟩) (by assumption) ?_
        rotate_left 1
        · intro w hSw; (try dsimp only at hSw); go_simp; all_goals (with_reducible rfl)
        try simp only [Act.put, List.setIfInBounds_toArray, List.set_cons_zero, List.set_cons_succ]
        refine wpAnyH_take (i := 13) (v := ?_) (by simp only [List.getElem?_toArray, List.getElem?_cons_succ, List.getElem?_cons_zero]; rfl) (by kernel_rfl) (by kernel_rfl) (by kernel_rfl) (fun _ _ _ h => h) (Or.inl ⟨by rfl, ?_⟩) (by assumption) ?_
        rotate_left 1
        · intro w hSw; (try dsimp only at hSw); go_simp; all_goals (with_reducible rfl)
        try simp only [Act.put, List.setIfInBounds_toArray, List.set_cons_zero, List.set_cons_succ]
        refine wpAnyH_ready (rs := [14]) (by kernel_rfl) (by simp) ?_
        refine AllReadyH.cons (by simp only [List.getElem?_toArray, List.getElem?_cons_succ, List.getElem?_cons_zero]; rfl) (fun K hK => ?_) AllReadyH.nil
        have hb0 := HBQ.out.new G4.out
        have k1 := hb0.cell (i := 1) (x := .slice a len c) rfl
        have f1 := hb0.frozen 1
        have hb3 := hb0.set 1 (.slice a4 n4 c4)
        have hg3 := hb0.setG 1 (.slice a4 n4 c4)
        have hbx3 := Blk.kept hHeld hg3 (by have := BQ.out; simpa using this)
        go_simp
        refine hK.out _ _ hbx3 (fun hHeld => ?_)
        clear hK K k1 f1 hb0 hbx3
        try simp only [Act.put, List.setIfInBounds_toArray, List.set_cons_zero, List.set_cons_succ]
        refine wpAnyH_done (by kernel_rfl) ?_ _
        refine NoPanic.normal ?_
        have hW := write_rk HRD.out HD.out G4.out R4.out hb3 hg3
        have HW := Lib.hid hW
        have HF := Lib.hid (fails_any hW.1)
        clear hW hb3 hg3 hHeld
        generalize World.setCell _ _ _ = wc at *
        unfold dptr at HF
        by_cases hlf : s.lf = 1
        · rw [show decide ((s.add j b).lf = 1) = true from decide_eq_true hlf] at HF
          have HLF := Lib.hid hlf
          clear hlf
          go_wp2_with fail
          refine HF.out.mono ?_; rintro e w6 ⟨rfl, hr6, hk6⟩
          obtain ⟨ak, nk, ck, hkv⟩ : ∃ a n c, kv = .slice a n c := by
            obtain ⟨a, c, e, _⟩ := hr6.kp.bls.shape
            exact ⟨_, _, _, e⟩
          have R6 := Lib.hid hr6
          have K6 := Lib.hid hk6
          have c3 := hr6.blk.cell (i := 3) (x := kv) rfl
          rw [hkv] at c3
          have hls := rFail_live hr6 (by have := HM.out; show s.m + 1 ≤ _; omega) HD.out hr6.kp.bls
          rw [hkv] at hls
          have HFL := Lib.hid hls
          have HKV := Lib.hid hkv
          unfold dptr at HFL
          clear hr6 hk6 hls hkv
          go_wp2_with fail
          refine HFL.out.mono ?_; rintro e w7 ⟨kv2, rfl, hr7, hk7, hn7⟩
          have E2 := Lib.hid (And.intro hr7 (And.intro hk7 hn7))
          clear hr7 hk7 hn7
          go_wp2_with fail
          go_ret
          obtain ⟨hr7, hk7, hn7⟩ := E2.out
          rw [DS.count_1 (s := s.add j b) HLF.out]
          exact DoesR.after (((Kept.new GD.out).trans HW.out.2).trans K6.out) ⟨kv2, rfl, hr7, hk7, by rw [HKV.out]; exact hn7⟩
        · rw [show decide ((s.add j b).lf = 1) = false from decide_eq_false hlf] at HF
          have HLF := Lib.hid hlf
          clear hlf
          go_wp2_with fail
          refine HF.out.mono ?_; rintro e w6 ⟨rfl, hr6, hk6⟩
          have R6 := Lib.hid hr6
          have K6 := Lib.hid hk6
          clear hr6 hk6
          go_wp2_with fail
          go_ret
          rw [DS.count_lf (s := s.add j b) HLF.out]
          exact DoesR.after (((Kept.new GD.out).trans HW.out.2).trans K6.out) (RkE.does ⟨on, _, R6.out⟩ 0)
      · refine stepSliceR (by rfl) _ (by rfl) ((j, b), false) (by rfl) ?_
        intro g2 v2 hna
        have G2 := Lib.hid (grown_two G1.out hna.grown)
        have B2 := Lib.hid hna.blk
        have NE : Hid (g2 ≠ gr) := Lib.hid (by have := hna.ge; have := BR.out.lt; omega)
        have BR := Lib.hid (BR.out.new hna.grown)
        refine hK.out _ _ (BX.out.new G2.out) (fun hHeld => ?_)
        clear hK K hna
        try simp only [Act.put, List.setIfInBounds_toArray, List.set_cons_zero, List.set_cons_succ]
        refine wpAnyH_ready (rs := [6]) (by kernel_rfl) (by simp) ?_
        refine AllReadyH.cons (by simp only [List.getElem?_toArray, List.getElem?_cons_succ, List.getElem?_cons_zero]; rfl) (fun K hK => ?_) AllReadyH.nil
        have hrr : Rr v2 0 (.slice a len c) (rows on s.wt) := RowOf.new HRW.out G2.out
        refine stepCloneR (by rfl) _ _ (by rfl) wd.heap.size 0 _ _ gr (by rfl) (by rfl) hrr BR.out (by rw [HLEN.out]; have := HCNT.out; omega) GE.out ?_
        intro a3 n3 c3 v3 hwb hgb
        have RR := Lib.hid hwb
        have G3 := Lib.hid (grown_new G2.out hgb GE.out)
        have B2 := Lib.hid (B2.out.kept hgb (by have := NE.out; simpa using this))
        refine hK.out _ _ (BX.out.new G3.out) (fun hHeld => ?_)
        clear hK K hwb hgb hrr
        try simp only [Act.put, List.setIfInBounds_toArray, List.set_cons_zero, List.set_cons_succ]
        refine wpAnyH_ready (rs := [11]) (by kernel_rfl) (by simp) ?_
        refine AllReadyH.cons (by simp only [List.getElem?_toArray, List.getElem?_cons_succ, List.getElem?_cons_zero]; rfl) (fun K hK => ?_) AllReadyH.nil
        refine stepAppR (by rfl) _ _ (by rfl) wd.heap.size _ _ ((j, b), false) g2 (by rfl) (by rfl) RR.out B2.out (by rw [HLEN.out]; have := HCNT.out; omega) G3.out.size ?_
        intro a4 n4 c4 v4 hwb hgb
        have R4 := Lib.hid hwb
        have G4 := Lib.hid (grown_own G3.out hgb (fun k e => (Rr.lt RR.out e).1))
        refine hK.out _ _ (BX.out.new G4.out) (fun hHeld => ?_)
        clear hK K hwb hgb
        try simp only [Act.put, List.setIfInBounds_toArray, List.set_cons_zero, List.set_cons_succ]
        refine wpAnyH_take (i := 12) (v := ?_) (by simp only [List.getElem?_toArray, List.getElem?_cons_succ, List.getElem?_cons_zero]; rfl) (by kernel_rfl) (by kernel_rfl) (by kernel_rfl) (fun _ _ _ h => h) (Or.inl ⟨by rfl, ?_⟩) (by assumption) ?_
        rotate_left 1
        · intro w hSw; (try dsimp only at hSw); go_simp; all_goals (with_reducible rfl)
        try simp only [Act.put, List.setIfInBounds_toArray, List.set_cons_zero, List.set_cons_succ]
        refine wpAnyH_take (i := 13) (v := ?_) (by simp only [List.getElem?_toArray, List.getElem?_cons_succ, List.getElem?_cons_zero]; rfl) (by kernel_rfl) (by kernel_rfl) (by kernel_rfl) (fun _ _ _ h => h) (Or.inl ⟨by rfl, ?_⟩) (by assumption) ?_
        rotate_left 1
        · intro w hSw; (try dsimp only at hSw); go_simp; all_goals (with_reducible rfl)
        try simp only [Act.put, List.setIfInBounds_toArray, List.set_cons_zero, List.set_cons_succ]
        refine wpAnyH_ready (rs := [14]) (by kernel_rfl) (by simp) ?_
        refine AllReadyH.cons (by simp only [List.getElem?_toArray, List.getElem?_cons_succ, List.getElem?_cons_zero]; rfl) (fun K hK => ?_) AllReadyH.nil
        have hb0 := HBQ.out.new G4.out
        have k1 := hb0.cell (i := 1) (x := .slice a len c) rfl
        have f1 := hb0.frozen 1
        have hb3 := hb0.set 1 (.slice a4 n4 c4)
        have hg3 := hb0.setG 1 (.slice a4 n4 c4)
        have hbx3 := Blk.kept hHeld hg3 (by have := BQ.out; simpa using this)
        go_simp
        refine hK.out _ _ hbx3 (fun hHeld => ?_)
        clear hK K k1 f1 hb0 hbx3
        try simp only [Act.put, List.setIfInBounds_toArray, List.set_cons_zero, List.set_cons_succ]
        refine wpAnyH_done (by kernel_rfl) ?_ _
        refine NoPanic.normal ?_
        have hW := write_rk HRD.out HD.out G4.out R4.out hb3 hg3
        have HW := Lib.hid hW
        have HF := Lib.hid (fails_any hW.1)
        clear hW hb3 hg3 hHeld
        generalize World.setCell _ _ _ = wc at *
        unfold dptr at HF
        by_cases hlf : s.lf = 1
        · rw [show decide ((s.add j b).lf = 1) = true from decide_eq_true hlf] at HF
          have HLF := Lib.hid hlf
          clear hlf
          go_wp2_with fail
          refine HF.out.mono ?_; rintro e w6 ⟨rfl, hr6, hk6⟩
          obtain ⟨ak, nk, ck, hkv⟩ : ∃ a n c, kv = .slice a n c := by
            obtain ⟨a, c, e, _⟩ := hr6.kp.bls.shape
            exact ⟨_, _, _, e⟩
          have R6 := Lib.hid hr6
          have K6 := Lib.hid hk6
          have c3 := hr6.blk.cell (i := 3) (x := kv) rfl
          rw [hkv] at c3
          have hls := rFail_live hr6 (by have := HM.out; show s.m + 1 ≤ _; omega) HD.out hr6.kp.bls
          rw [hkv] at hls
          have HFL := Lib.hid hls
          have HKV := Lib.hid hkv
          unfold dptr at HFL
          clear hr6 hk6 hls hkv
          go_wp2_with fail
          refine HFL.out.mono ?_; rintro e w7 ⟨kv2, rfl, hr7, hk7, hn7⟩
          have E2 := Lib.hid (And.intro hr7 (And.intro hk7 hn7))
          clear hr7 hk7 hn7
          go_wp2_with fail
          go_ret
          obtain ⟨hr7, hk7, hn7⟩ := E2.out
          rw [DS.count_1 (s := s.add j b) HLF.out]
          exact DoesR.after (((Kept.new GD.out).trans HW.out.2).trans K6.out) ⟨kv2, rfl, hr7, hk7, by rw [HKV.out]; exact hn7⟩
        · rw [show decide ((s.add j b).lf = 1) = false from decide_eq_false hlf] at HF
          have HLF := Lib.hid hlf
          clear hlf
          go_wp2_with fail
          refine HF.out.mono ?_; rintro e w6 ⟨rfl, hr6, hk6⟩
          have R6 := Lib.hid hr6
          have K6 := Lib.hid hk6
          clear hr6 hk6
          go_wp2_with fail
          go_ret
          rw [DS.count_lf (s := s.add j b) HLF.out]
          exact DoesR.after (((Kept.new GD.out).trans HW.out.2).trans K6.out) (RkE.does ⟨on, _, R6.out⟩ 0)
    · refine stepSliceR (by rfl) _ (by rfl) ((j, b), false) (by rfl) ?_
      intro g2 v2 hna
      have G2 := Lib.hid (grown_two G1.out hna.grown)
      have B2 := Lib.hid hna.blk
      have NE : Hid (g2 ≠ gr) := Lib.hid (by have := hna.ge; have := BR.out.lt; omega)
      have BR := Lib.hid (BR.out.new hna.grown)
      refine hK.out _ _ (BX.out.new G2.out) (fun hHeld => ?_)
      clear hK K hna
      try simp only [Act.put, List.setIfInBounds_toArray, List.set_cons_zero, List.set_cons_succ]
      refine wpAnyH_ready (rs := [5]) (by kernel_rfl) (by simp) ?_
      refine AllReadyH.cons (by simp only [List.getElem?_toArray, List.getElem?_cons_succ, List.getElem?_cons_zero]; rfl) (fun K hK => ?_) AllReadyH.nil
      have c1 := (HBQ.out.new G2.out).cell (i := 1) (x := .slice a len c) rfl
      go_simp
      refine hK.out _ _ hHeld (fun hHeld => ?_)
      clear hK K c1
      try simp only [Act.put, List.setIfInBounds_toArray, List.set_cons_zero, List.set_cons_succ]
      refine wpAnyH_ready (rs := [6]) (by kernel_rfl) (by simp) ?_
      refine AllReadyH.cons (by simp only [List.getElem?_toArray, List.getElem?_cons_succ, List.getElem?_cons_zero]; rfl) (fun K hK => ?_) AllReadyH.nil
      have hrr : Rr v2 0 (.slice a len c) (rows on s.wt) := RowOf.new HRW.out G2.out
      refine stepCloneR (by rfl) _ _ (by rfl) wd.heap.size 0 _ _ gr (by rfl) (by rfl) hrr BR.out (by rw [HLEN.out]; have := HCNT.out; omega) GE.out ?_
      intro a3 n3 c3 v3 hwb hgb
      have RR := Lib.hid hwb
      have G3 := Lib.hid (grown_new G2.out hgb GE.out)
      have B2 := Lib.hid (B2.out.kept hgb (by have := NE.out; simpa using this))
      refine hK.out _ _ (BX.out.new G3.out) (fun hHeld => ?_)
      clear hK K hwb hgb hrr
      try simp only [Act.put, List.setIfInBounds_toArray, List.set_cons_zero, List.set_cons_succ]
      refine wpAnyH_ready (rs := [11]) (by kernel_rfl) (by simp) ?_
      refine AllReadyH.cons (by simp only [List.getElem?_toArray, List.getElem?_cons_succ, List.getElem?_cons_zero]; rfl) (fun K hK => ?_) AllReadyH.nil
      refine stepAppR (by rfl) _ _ (by rfl) wd.heap.size _ _ ((j, b), false) g2 (by rfl) (by rfl) RR.out B2.out (by rw [HLEN.out]; have := HCNT.out; omega) G3.out.size ?_
      intro a4 n4 c4 v4 hwb hgb
      have R4 := Lib.hid hwb
      have G4 := Lib.hid (grown_own G3.out hgb (fun k e => (Rr.lt RR.out e).1))
      refine hK.out _ _ (BX.out.new G4.out) (fun hHeld => ?_)
      clear hK K hwb hgb
      try simp only [Act.put, List.setIfInBounds_toArray, List.set_cons_zero, List.set_cons_succ]
      refine wpAnyH_take (i := 12) (v := ?_) (by simp only [List.getElem?_toArray, List.getElem?_cons_succ, List.getElem?_cons_zero]; rfl) (by kernel_rfl) (by kernel_rfl) (by kernel_rfl) (fun _ _ _ h => h) (Or.inl ⟨by rfl, ?_⟩) (by assumption) ?_
      rotate_left 1
      · intro w hSw; (try dsimp only at hSw); go_simp; all_goals (with_reducible rfl)
      try simp only [Act.put, List.setIfInBounds_toArray, List.set_cons_zero, List.set_cons_succ]
      refine wpAnyH_take (i := 13) (v := ?_) (by simp only [List.getElem?_toArray, List.getElem?_cons_succ, List.getElem?_cons_zero]; rfl) (by kernel_rfl) (by kernel_rfl) (by kernel_rfl) (fun _ _ _ h => h) (Or.inl ⟨by rfl, ?_⟩) (by assumption) ?_
      rotate_left 1
      · intro w hSw; (try dsimp only at hSw); go_simp; all_goals (with_reducible rfl)
      try simp only [Act.put, List.setIfInBounds_toArray, List.set_cons_zero, List.set_cons_succ]
      refine wpAnyH_ready (rs := [14]) (by kernel_rfl) (by simp) ?_
      refine AllReadyH.cons (by simp only [List.getElem?_toArray, List.getElem?_cons_succ, List.getElem?_cons_zero]; rfl) (fun K hK => ?_) AllReadyH.nil
      have hb0 := HBQ.out.new G4.out
      have k1 := hb0.cell (i := 1) (x := .slice a len c) rfl
      have f1 := hb0.frozen 1
      have hb3 := hb0.set 1 (.slice a4 n4 c4)
      have hg3 := hb0.setG 1 (.slice a4 n4 c4)
      have hbx3 := Blk.kept hHeld hg3 (by have := BQ.out; simpa using this)
      go_simp
      refine hK.out _ _ hbx3 (fun hHeld => ?_)
      clear hK K k1 f1 hb0 hbx3
      try simp only [Act.put, List.setIfInBounds_toArray, List.set_cons_zero, List.set_cons_succ]
      refine wpAnyH_done (by kernel_rfl) ?_ _
      refine NoPanic.normal ?_
      have hW := write_rk HRD.out HD.out G4.out R4.out hb3 hg3
      have HW := Lib.hid hW
      have HF := Lib.hid (fails_any hW.1)
      clear hW hb3 hg3 hHeld
      generalize World.setCell _ _ _ = wc at *
      unfold dptr at HF
      by_cases hlf : s.lf = 1
      · rw [show decide ((s.add j b).lf = 1) = true from decide_eq_true hlf] at HF
        have HLF := Lib.hid hlf
        clear hlf
        go_wp2_with fail
        refine HF.out.mono ?_; rintro e w6 ⟨rfl, hr6, hk6⟩
        obtain ⟨ak, nk, ck, hkv⟩ : ∃ a n c, kv = .slice a n c := by
          obtain ⟨a, c, e, _⟩ := hr6.kp.bls.shape
          exact ⟨_, _, _, e⟩
        have R6 := Lib.hid hr6
        have K6 := Lib.hid hk6
        have c3 := hr6.blk.cell (i := 3) (x := kv) rfl
        rw [hkv] at c3
        have hls := rFail_live hr6 (by have := HM.out; show s.m + 1 ≤ _; omega) HD.out hr6.kp.bls
        rw [hkv] at hls
        have HFL := Lib.hid hls
        have HKV := Lib.hid hkv
        unfold dptr at HFL
        clear hr6 hk6 hls hkv
        go_wp2_with fail
        refine HFL.out.mono ?_; rintro e w7 ⟨kv2, rfl, hr7, hk7, hn7⟩
        have E2 := Lib.hid (And.intro hr7 (And.intro hk7 hn7))
        clear hr7 hk7 hn7
        go_wp2_with fail
        go_ret
        obtain ⟨hr7, hk7, hn7⟩ := E2.out
        rw [DS.count_1 (s := s.add j b) HLF.out]
        exact DoesR.after (((Kept.new GD.out).trans HW.out.2).trans K6.out) ⟨kv2, rfl, hr7, hk7, by rw [HKV.out]; exact hn7⟩
      · rw [show decide ((s.add j b).lf = 1) = false from decide_eq_false hlf] at HF
        have HLF := Lib.hid hlf
        clear hlf
        go_wp2_with fail
        refine HF.out.mono ?_; rintro e w6 ⟨rfl, hr6, hk6⟩
        have R6 := Lib.hid hr6
        have K6 := Lib.hid hk6
        clear hr6 hk6
        go_wp2_with fail
        go_ret
        rw [DS.count_lf (s := s.add j b) HLF.out]
        exact DoesR.after (((Kept.new GD.out).trans HW.out.2).trans K6.out) (RkE.does ⟨on, _, R6.out⟩ 0)
  · have c1 := (HBQ.out.new G0.out).cell (i := 1) (x := .slice a len c) rfl
    go_simp
    refine hK.out _ _ hHeld (fun hHeld => ?_)
    clear hK K c1
    try simp only [Act.put, List.setIfInBounds_toArray, List.set_cons_zero, List.set_cons_succ]
    refine wpAnyH_ready (rs := [1, 10]) (by kernel_rfl) (by simp) ?_
    refine AllReadyH.cons (by simp only [List.getElem?_toArray, List.getElem?_cons_succ, List.getElem?_cons_zero]; rfl) (fun K hK => ?_) (AllReadyH.cons (by simp only [List.getElem?_toArray, List.getElem?_cons_succ, List.getElem?_cons_zero]; rfl) (fun K hK => ?_) AllReadyH.nil)
    · refine stepNoneR (by rfl) (by rfl) ?_
      intro gr v1 hna
      have G1 := Lib.hid (grown_two G0.out hna.grown)
      have BR := Lib.hid hna.blk
      have GE : Hid (wd.heap.size ≤ gr) := Lib.hid (by have := hna.ge; have := G0.out.size; omega)
      refine hK.out _ _ (BX.out.new G1.out) (fun hHeld => ?_)
      clear hK K hna
      try simp only [Act.put, List.setIfInBounds_toArray, List.set_cons_zero, List.set_cons_succ]
      refine wpAnyH_ready (rs := [6, 10]) (by kernel_rfl) (by simp) ?_
      refine AllReadyH.cons (by simp only [List.getElem?_toArray, List.getElem?_cons_succ, List.getElem?_cons_zero]; rfl) (fun K hK => ?_) (AllReadyH.cons (by simp only [List.getElem?_toArray, List.getElem?_cons_succ, List.getElem?_cons_zero]; rfl) (fun K hK => ?_) AllReadyH.nil)
      · have hrr : Rr v1 0 (.slice a len c) (rows on s.wt) := RowOf.new HRW.out G1.out
        refine stepCloneR (by rfl) _ _ (by rfl) wd.heap.size 0 _ _ gr (by rfl) (by rfl) hrr BR.out (by rw [HLEN.out]; have := HCNT.out; omega) GE.out ?_
        intro a3 n3 c3 v2 hwb hgb
        have RR := Lib.hid hwb
        have G2 := Lib.hid (grown_new G1.out hgb GE.out)
        refine hK.out _ _ (BX.out.new G2.out) (fun hHeld => ?_)
        clear hK K hwb hgb hrr
        try simp only [Act.put, List.setIfInBounds_toArray, List.set_cons_zero, List.set_cons_succ]
        refine wpAnyH_ready (rs := [10]) (by kernel_rfl) (by simp) ?_
        refine AllReadyH.cons (by simp only [List.getElem?_toArray, List.getElem?_cons_succ, List.getElem?_cons_zero]; rfl) (fun K hK => ?_) AllReadyH.nil
        refine stepSliceR (by rfl) _ (by rfl) ((j, b), false) (by rfl) ?_
        intro g2 v3 hna
        have G3 := Lib.hid (grown_two G2.out hna.grown)
        have B2 := Lib.hid hna.blk
        have RR : Hid (Rr v3 wd.heap.size (.slice a3 n3 c3) (rows on s.wt)) := Lib.hid (RowOf.new RR.out hna.grown)
        refine hK.out _ _ (BX.out.new G3.out) (fun hHeld => ?_)
        clear hK K hna
        try simp only [Act.put, List.setIfInBounds_toArray, List.set_cons_zero, List.set_cons_succ]
        refine wpAnyH_ready (rs := [11]) (by kernel_rfl) (by simp) ?_
        refine AllReadyH.cons (by simp only [List.getElem?_toArray, List.getElem?_cons_succ, List.getElem?_cons_zero]; rfl) (fun K hK => ?_) AllReadyH.nil
        refine stepAppR (by rfl) _ _ (by rfl) wd.heap.size _ _ ((j, b), false) g2 (by rfl) (by rfl) RR.out B2.out (by rw [HLEN.out]; have := HCNT.out; omega) G3.out.size ?_
        intro a4 n4 c4 v4 hwb hgb
        have R4 := Lib.hid hwb
        have G4 := Lib.hid (grown_own G3.out hgb (fun k e => (Rr.lt RR.out e).1))
        refine hK.out _ _ (BX.out.new G4.out) (fun hHeld => ?_)
        clear hK K hwb hgb
        try simp only [Act.put, List.setIfInBounds_toArray, List.set_cons_zero, List.set_cons_succ]
        refine wpAnyH_take (i := 12) (v := ?_) (by simp only [List.getElem?_toArray, List.getElem?_cons_succ, List.getElem?_cons_zero]; rfl) (by kernel_rfl) (by kernel_rfl) (by kernel_rfl) (fun _ _ _ h => h) (Or.inl ⟨by rfl, ?_⟩) (by assumption) ?_
        rotate_left 1
        · intro w hSw; (try dsimp only at hSw); go_simp; all_goals (with_reducible rfl)
        try simp only [Act.put, List.setIfInBounds_toArray, List.set_cons_zero, List.set_cons_succ]
        refine wpAnyH_take (i := 13) (v := ?_) (by simp only [List.getElem?_toArray, List.getElem?_cons_succ, List.getElem?_cons_zero]; rfl) (by kernel_rfl) (by kernel_rfl) (by kernel_rfl) (fun _ _ _ h => h) (Or.inl ⟨by rfl, ?_⟩) (by assumption) ?_
        rotate_left 1
        · intro w hSw; (try dsimp only at hSw); go_simp; all_goals (with_reducible rfl)
        try simp only [Act.put, List.setIfInBounds_toArray, List.set_cons_zero, List.set_cons_succ]
        refine wpAnyH_ready (rs := [14]) (by kernel_rfl) (by simp) ?_
        refine AllReadyH.cons (by simp only [List.getElem?_toArray, List.getElem?_cons_succ, List.getElem?_cons_zero]; rfl) (fun K hK => ?_) AllReadyH.nil
        have hb0 := HBQ.out.new G4.out
        have k1 := hb0.cell (i := 1) (x := .slice a len c) rfl
        have f1 := hb0.frozen 1
        have hb3 := hb0.set 1 (.slice a4 n4 c4)
        have hg3 := hb0.setG 1 (.slice a4 n4 c4)
        have hbx3 := Blk.kept hHeld hg3 (by have := BQ.out; simpa using this)
        go_simp
        refine hK.out _ _ hbx3 (fun hHeld => ?_)
        clear hK K k1 f1 hb0 hbx3
        try simp only [Act.put, List.setIfInBounds_toArray, List.set_cons_zero, List.set_cons_succ]
        refine wpAnyH_done (by kernel_rfl) ?_ _
        refine NoPanic.normal ?_
        have hW := write_rk HRD.out HD.out G4.out R4.out hb3 hg3
        have HW := Lib.hid hW
        have HF := Lib.hid (fails_any hW.1)
        clear hW hb3 hg3 hHeld
        generalize World.setCell _ _ _ = wc at *
        unfold dptr at HF
        by_cases hlf : s.lf = 1
        · rw [show decide ((s.add j b).lf = 1) = true from decide_eq_true hlf] at HF
          have HLF := Lib.hid hlf
          clear hlf
          go_wp2_with fail
          refine HF.out.mono ?_; rintro e w6 ⟨rfl, hr6, hk6⟩
          obtain ⟨ak, nk, ck, hkv⟩ : ∃ a n c, kv = .slice a n c := by
            obtain ⟨a, c, e, _⟩ := hr6.kp.bls.shape
            exact ⟨_, _, _, e⟩
          have R6 := Lib.hid hr6
          have K6 := Lib.hid hk6
          have c3 := hr6.blk.cell (i := 3) (x := kv) rfl
          rw [hkv] at c3
          have hls := rFail_live hr6 (by have := HM.out; show s.m + 1 ≤ _; omega) HD.out hr6.kp.bls
          rw [hkv] at hls
          have HFL := Lib.hid hls
          have HKV := Lib.hid hkv
          unfold dptr at HFL
          clear hr6 hk6 hls hkv
          go_wp2_with fail
          refine HFL.out.mono ?_; rintro e w7 ⟨kv2, rfl, hr7, hk7, hn7⟩
          have E2 := Lib.hid (And.intro hr7 (And.intro hk7 hn7))
          clear hr7 hk7 hn7
          go_wp2_with fail
          go_ret
          obtain ⟨hr7, hk7, hn7⟩ := E2.out
          rw [DS.count_1 (s := s.add j b) HLF.out]
          exact DoesR.after (((Kept.new GD.out).trans HW.out.2).trans K6.out) ⟨kv2, rfl, hr7, hk7, by rw [HKV.out]; exact hn7⟩
        · rw [show decide ((s.add j b).lf = 1) = false from decide_eq_false hlf] at HF
          have HLF := Lib.hid hlf
          clear hlf
          go_wp2_with fail
          refine HF.out.mono ?_; rintro e w6 ⟨rfl, hr6, hk6⟩
          have R6 := Lib.hid hr6
          have K6 := Lib.hid hk6
          clear hr6 hk6
          go_wp2_with fail
          go_ret
          rw [DS.count_lf (s := s.add j b) HLF.out]
          exact DoesR.after (((Kept.new GD.out).trans HW.out.2).trans K6.out) (RkE.does ⟨on, _, R6.out⟩ 0)
      · refine stepSliceR (by rfl) _ (by rfl) ((j, b), false) (by rfl) ?_
        intro g2 v2 hna
        have G2 := Lib.hid (grown_two G1.out hna.grown)
        have B2 := Lib.hid hna.blk
        have NE : Hid (g2 ≠ gr) := Lib.hid (by have := hna.ge; have := BR.out.lt; omega)
        have BR := Lib.hid (BR.out.new hna.grown)
        refine hK.out _ _ (BX.out.new G2.out) (fun hHeld => ?_)
        clear hK K hna
        try simp only [Act.put, List.setIfInBounds_toArray, List.set_cons_zero, List.set_cons_succ]
        refine wpAnyH_ready (rs := [6]) (by kernel_rfl) (by simp) ?_
        refine AllReadyH.cons (by simp only [List.getElem?_toArray, List.getElem?_cons_succ, List.getElem?_cons_zero]; rfl) (fun K hK => ?_) AllReadyH.nil
        have hrr : Rr v2 0 (.slice a len c) (rows on s.wt) := RowOf.new HRW.out G2.out
        refine stepCloneR (by rfl) _ _ (by rfl) wd.heap.size 0 _ _ gr (by rfl) (by rfl) hrr BR.out (by rw [HLEN.out]; have := HCNT.out; omega) GE.out ?_
        intro a3 n3 c3 v3 hwb hgb
        have RR := Lib.hid hwb
        have G3 := Lib.hid (grown_new G2.out hgb GE.out)
        have B2 := Lib.hid (B2.out.kept hgb (by have := NE.out; simpa using this))
        refine hK.out _ _ (BX.out.new G3.out) (fun hHeld => ?_)
        clear hK K hwb hgb hrr
        try simp only [Act.put, List.setIfInBounds_toArray, List.set_cons_zero, List.set_cons_succ]
        refine wpAnyH_ready (rs := [11]) (by kernel_rfl) (by simp) ?_
        refine AllReadyH.cons (by simp only [List.getElem?_toArray, List.getElem?_cons_succ, List.getElem?_cons_zero]; rfl) (fun K hK => ?_) AllReadyH.nil
        refine stepAppR (by rfl) _ _ (by rfl) wd.heap.size _ _ ((j, b), false) g2 (by rfl) (by rfl) RR.out B2.out (by rw [HLEN.out]; have := HCNT.out; omega) G3.out.size ?_
        intro a4 n4 c4 v4 hwb hgb
        have R4 := Lib.hid hwb
        have G4 := Lib.hid (grown_own G3.out hgb (fun k e => (Rr.lt RR.out e).1))
        refine hK.out _ _ (BX.out.new G4.out) (fun hHeld => ?_)
        clear hK K hwb hgb
        try simp only [Act.put, List.setIfInBounds_toArray, List.set_cons_zero, List.set_cons_succ]
        refine wpAnyH_take (i := 12) (v := ?_) (by simp only [List.getElem?_toArray, List.getElem?_cons_succ, List.getElem?_cons_zero]; rfl) (by kernel_rfl) (by kernel_rfl) (by kernel_rfl) (fun _ _ _ h => h) (Or.inl ⟨by rfl, ?_⟩) (by assumption) ?_
        rotate_left 1
        · intro w hSw; (try dsimp only at hSw); go_simp; all_goals (with_reducible rfl)
        try simp only [Act.put, List.setIfInBounds_toArray, List.set_cons_zero, List.set_cons_succ]
        refine wpAnyH_take (i := 13) (v := ?_) (by simp only [List.getElem?_toArray, List.getElem?_cons_succ, List.getElem?_cons_zero]; rfl) (by kernel_rfl) (by kernel_rfl) (by kernel_rfl) (fun _ _ _ h => h) (Or.inl ⟨by rfl, ?_⟩) (by assumption) ?_
        rotate_left 1
        · intro w hSw; (try dsimp only at hSw); go_simp; all_goals (with_reducible rfl)
        try simp only [Act.put, List.setIfInBounds_toArray, List.set_cons_zero, List.set_cons_succ]
        refine wpAnyH_ready (rs := [14]) (by kernel_rfl) (by simp) ?_
        refine AllReadyH.cons (by simp only [List.getElem?_toArray, List.getElem?_cons_succ, List.getElem?_cons_zero]; rfl) (fun K hK => ?_) AllReadyH.nil
        have hb0 := HBQ.out.new G4.out
        have k1 := hb0.cell (i := 1) (x := .slice a len c) rfl
        have f1 := hb0.frozen 1
        have hb3 := hb0.set 1 (.slice a4 n4 c4)
        have hg3 := hb0.setG 1 (.slice a4 n4 c4)
        have hbx3 := Blk.kept hHeld hg3 (by have := BQ.out; simpa using this)
        go_simp
        refine hK.out _ _ hbx3 (fun hHeld => ?_)
        clear hK K k1 f1 hb0 hbx3
        try simp only [Act.put, List.setIfInBounds_toArray, List.set_cons_zero, List.set_cons_succ]
        refine wpAnyH_done (by kernel_rfl) ?_ _
        refine NoPanic.normal ?_
        have hW := write_rk HRD.out HD.out G4.out R4.out hb3 hg3
        have HW := Lib.hid hW
        have HF := Lib.hid (fails_any hW.1)
        clear hW hb3 hg3 hHeld
        generalize World.setCell _ _ _ = wc at *
        unfold dptr at HF
        by_cases hlf : s.lf = 1
        · rw [show decide ((s.add j b).lf = 1) = true from decide_eq_true hlf] at HF
          have HLF := Lib.hid hlf
          clear hlf
          go_wp2_with fail
          refine HF.out.mono ?_; rintro e w6 ⟨rfl, hr6, hk6⟩
          obtain ⟨ak, nk, ck, hkv⟩ : ∃ a n c, kv = .slice a n c := by
            obtain ⟨a, c, e, _⟩ := hr6.kp.bls.shape
            exact ⟨_, _, _, e⟩
          have R6 := Lib.hid hr6
          have K6 := Lib.hid hk6
          have c3 := hr6.blk.cell (i := 3) (x := kv) rfl
          rw [hkv] at c3
          have hls := rFail_live hr6 (by have := HM.out; show s.m + 1 ≤ _; omega) HD.out hr6.kp.bls
          rw [hkv] at hls
          have HFL := Lib.hid hls
          have HKV := Lib.hid hkv
          unfold dptr at HFL
          clear hr6 hk6 hls hkv
          go_wp2_with fail
          refine HFL.out.mono ?_; rintro e w7 ⟨kv2, rfl, hr7, hk7, hn7⟩
          have E2 := Lib.hid (And.intro hr7 (And.intro hk7 hn7))
          clear hr7 hk7 hn7
          go_wp2_with fail
          go_ret
          obtain ⟨hr7, hk7, hn7⟩ := E2.out
          rw [DS.count_1 (s := s.add j b) HLF.out]
          exact DoesR.after (((Kept.new GD.out).trans HW.out.2).trans K6.out) ⟨kv2, rfl, hr7, hk7, by rw [HKV.out]; exact hn7⟩
        · rw [show decide ((s.add j b).lf = 1) = false from decide_eq_false hlf] at HF
          have HLF := Lib.hid hlf
          clear hlf
          go_wp2_with fail
          refine HF.out.mono ?_; rintro e w6 ⟨rfl, hr6, hk6⟩
          have R6 := Lib.hid hr6
          have K6 := Lib.hid hk6
          clear hr6 hk6
          go_wp2_with fail
          go_ret
          rw [DS.count_lf (s := s.add j b) HLF.out]
          exact DoesR.after (((Kept.new GD.out).trans HW.out.2).trans K6.out) (RkE.does ⟨on, _, R6.out⟩ 0)
    · refine stepSliceR (by rfl) _ (by rfl) ((j, b), false) (by rfl) ?_
      intro g2 v1 hna
      have G1 := Lib.hid (grown_two G0.out hna.grown)
      have B2 := Lib.hid hna.blk
      refine hK.out _ _ (BX.out.new G1.out) (fun hHeld => ?_)
      clear hK K hna
      try simp only [Act.put, List.setIfInBounds_toArray, List.set_cons_zero, List.set_cons_succ]
      refine wpAnyH_ready (rs := [1]) (by kernel_rfl) (by simp) ?_
      refine AllReadyH.cons (by simp only [List.getElem?_toArray, List.getElem?_cons_succ, List.getElem?_cons_zero]; rfl) (fun K hK => ?_) AllReadyH.nil
      refine stepNoneR (by rfl) (by rfl) ?_
      intro gr v2 hna
      have G2 := Lib.hid (grown_two G1.out hna.grown)
      have BR := Lib.hid hna.blk
      have GE : Hid (wd.heap.size ≤ gr) := Lib.hid (by have := hna.ge; have := G1.out.size; omega)
      have NE : Hid (g2 ≠ gr) := Lib.hid (by have := hna.ge; have := B2.out.lt; omega)
      have B2 := Lib.hid (B2.out.new hna.grown)
      refine hK.out _ _ (BX.out.new G2.out) (fun hHeld => ?_)
      clear hK K hna
      try simp only [Act.put, List.setIfInBounds_toArray, List.set_cons_zero, List.set_cons_succ]
      refine wpAnyH_ready (rs := [6]) (by kernel_rfl) (by simp) ?_
      refine AllReadyH.cons (by simp only [List.getElem?_toArray, List.getElem?_cons_succ, List.getElem?_cons_zero]; rfl) (fun K hK => ?_) AllReadyH.nil
      have hrr : Rr v2 0 (.slice a len c) (rows on s.wt) := RowOf.new HRW.out G2.out
      refine stepCloneR (by rfl) _ _ (by rfl) wd.heap.size 0 _ _ gr (by rfl) (by rfl) hrr BR.out (by rw [HLEN.out]; have := HCNT.out; omega) GE.out ?_
      intro a3 n3 c3 v3 hwb hgb
      have RR := Lib.hid hwb
      have G3 := Lib.hid (grown_new G2.out hgb GE.out)
      have B2 := Lib.hid (B2.out.kept hgb (by have := NE.out; simpa using this))
      refine hK.out _ _ (BX.out.new G3.out) (fun hHeld => ?_)
      clear hK K hwb hgb hrr
      try simp only [Act.put, List.setIfInBounds_toArray, List.set_cons_zero, List.set_cons_succ]
      refine wpAnyH_ready (rs := [11]) (by kernel_rfl) (by simp) ?_
      refine AllReadyH.cons (by simp only [List.getElem?_toArray, List.getElem?_cons_succ, List.getElem?_cons_zero]; rfl) (fun K hK => ?_) AllReadyH.nil
      refine stepAppR (by rfl) _ _ (by rfl) wd.heap.size _ _ ((j, b), false) g2 (by rfl) (by rfl) RR.out B2.out (by rw [HLEN.out]; have := HCNT.out; omega) G3.out.size ?_
      intro a4 n4 c4 v4 hwb hgb
      have R4 := Lib.hid hwb
      have G4 := Lib.hid (grown_own G3.out hgb (fun k e => (Rr.lt RR.out e).1))
      refine hK.out _ _ (BX.out.new G4.out) (fun hHeld => ?_)
      clear hK K hwb hgb
      try simp only [Act.put, List.setIfInBounds_toArray, List.set_cons_zero, List.set_cons_succ]
      refine wpAnyH_take (i := 12) (v := ?_) (by simp only [List.getElem?_toArray, List.getElem?_cons_succ, List.getElem?_cons_zero]; rfl) (by kernel_rfl) (by kernel_rfl) (by kernel_rfl) (fun _ _ _ h => h) (Or.inl ⟨by rfl, ?_⟩) (by assumption) ?_
      rotate_left 1
      · intro w hSw; (try dsimp only at hSw); go_simp; all_goals (with_reducible rfl)
      try simp only [Act.put, List.setIfInBounds_toArray, List.set_cons_zero, List.set_cons_succ]
      refine wpAnyH_take (i := 13) (v := ?_) (by simp only [List.getElem?_toArray, List.getElem?_cons_succ, List.getElem?_cons_zero]; rfl) (by kernel_rfl) (by kernel_rfl) (by kernel_rfl) (fun _ _ _ h => h) (Or.inl ⟨by rfl, ?_⟩) (by assumption) ?_
      rotate_left 1
      · intro w hSw; (try dsimp only at hSw); go_simp; all_goals (with_reducible rfl)
      try simp only [Act.put, List.setIfInBounds_toArray, List.set_cons_zero, List.set_cons_succ]
      refine wpAnyH_ready (rs := [14]) (by kernel_rfl) (by simp) ?_
      refine AllReadyH.cons (by simp only [List.getElem?_toArray, List.getElem?_cons_succ, List.getElem?_cons_zero]; rfl) (fun K hK => ?_) AllReadyH.nil
      have hb0 := HBQ.out.new G4.out
      have k1 := hb0.cell (i := 1) (x := .slice a len c) rfl
      have f1 := hb0.frozen 1
      have hb3 := hb0.set 1 (.slice a4 n4 c4)
      have hg3 := hb0.setG 1 (.slice a4 n4 c4)
      have hbx3 := Blk.kept hHeld hg3 (by have := BQ.out; simpa using this)
      go_simp
      refine hK.out _ _ hbx3 (fun hHeld => ?_)
      clear hK K k1 f1 hb0 hbx3
      try simp only [Act.put, List.setIfInBounds_toArray, List.set_cons_zero, List.set_cons_succ]
      refine wpAnyH_done (by kernel_rfl) ?_ _
      refine NoPanic.normal ?_
      have hW := write_rk HRD.out HD.out G4.out R4.out hb3 hg3
      have HW := Lib.hid hW
      have HF := Lib.hid (fails_any hW.1)
      clear hW hb3 hg3 hHeld
      generalize World.setCell _ _ _ = wc at *
      unfold dptr at HF
      by_cases hlf : s.lf = 1
      · rw [show decide ((s.add j b).lf = 1) = true from decide_eq_true hlf] at HF
        have HLF := Lib.hid hlf
        clear hlf
        go_wp2_with fail
        refine HF.out.mono ?_; rintro e w6 ⟨rfl, hr6, hk6⟩
        obtain ⟨ak, nk, ck, hkv⟩ : ∃ a n c, kv = .slice a n c := by
          obtain ⟨a, c, e, _⟩ := hr6.kp.bls.shape
          exact ⟨_, _, _, e⟩
        have R6 := Lib.hid hr6
        have K6 := Lib.hid hk6
        have c3 := hr6.blk.cell (i := 3) (x := kv) rfl
        rw [hkv] at c3
        have hls := rFail_live hr6 (by have := HM.out; show s.m + 1 ≤ _; omega) HD.out hr6.kp.bls
        rw [hkv] at hls
        have HFL := Lib.hid hls
        have HKV := Lib.hid hkv
        unfold dptr at HFL
        clear hr6 hk6 hls hkv
        go_wp2_with fail
        refine HFL.out.mono ?_; rintro e w7 ⟨kv2, rfl, hr7, hk7, hn7⟩
        have E2 := Lib.hid (And.intro hr7 (And.intro hk7 hn7))
        clear hr7 hk7 hn7
        go_wp2_with fail
        go_ret
        obtain ⟨hr7, hk7, hn7⟩ := E2.out
        rw [DS.count_1 (s := s.add j b) HLF.out]
        exact DoesR.after (((Kept.new GD.out).trans HW.out.2).trans K6.out) ⟨kv2, rfl, hr7, hk7, by rw [HKV.out]; exact hn7⟩
      · rw [show decide ((s.add j b).lf = 1) = false from decide_eq_false hlf] at HF
        have HLF := Lib.hid hlf
        clear hlf
        go_wp2_with fail
        refine HF.out.mono ?_; rintro e w6 ⟨rfl, hr6, hk6⟩
        have R6 := Lib.hid hr6
        have K6 := Lib.hid hk6
        clear hr6 hk6
        go_wp2_with fail
        go_ret
        rw [DS.count_lf (s := s.add j b) HLF.out]
        exact DoesR.after (((Kept.new GD.out).trans HW.out.2).trans K6.out) (RkE.does ⟨on, _, R6.out⟩ 0)
  · refine stepSliceR (by rfl) _ (by rfl) ((j, b), false) (by rfl) ?_
    intro g2 v1 hna
    have G1 := Lib.hid (grown_two G0.out hna.grown)
    have B2 := Lib.hid hna.blk
    refine hK.out _ _ (BX.out.new G1.out) (fun hHeld => ?_)
    clear hK K hna
    try simp only [Act.put, List.setIfInBounds_toArray, List.set_cons_zero, List.set_cons_succ]
    refine wpAnyH_ready (rs := [1, 5]) (by kernel_rfl) (by simp) ?_
    refine AllReadyH.cons (by simp only [List.getElem?_toArray, List.getElem?_cons_succ, List.getElem?_cons_zero]; rfl) (fun K hK => ?_) (AllReadyH.cons (by simp only [List.getElem?_toArray, List.getElem?_cons_succ, List.getElem?_cons_zero]; rfl) (fun K hK => ?_) AllReadyH.nil)
    · refine stepNoneR (by rfl) (by rfl) ?_
      intro gr v2 hna
      have G2 := Lib.hid (grown_two G1.out hna.grown)
      have BR := Lib.hid hna.blk
      have GE : Hid (wd.heap.size ≤ gr) := Lib.hid (by have := hna.ge; have := G1.out.size; omega)
      have NE : Hid (g2 ≠ gr) := Lib.hid (by have := hna.ge; have := B2.out.lt; omega)
      have B2 := Lib.hid (B2.out.new hna.grown)
      refine hK.out _ _ (BX.out.new G2.out) (fun hHeld => ?_)
      clear hK K hna
      try simp only [Act.put, List.setIfInBounds_toArray, List.set_cons_zero, List.set_cons_succ]
      refine wpAnyH_ready (rs := [5]) (by kernel_rfl) (by simp) ?_
      refine AllReadyH.cons (by simp only [List.getElem?_toArray, List.getElem?_cons_succ, List.getElem?_cons_zero]; rfl) (fun K hK => ?_) AllReadyH.nil
      have c1 := (HBQ.out.new G2.out).cell (i := 1) (x := .slice a len c) rfl
      go_simp
      refine hK.out _ _ hHeld (fun hHeld => ?_)
      clear hK K c1
      try simp only [Act.put, List.setIfInBounds_toArray, List.set_cons_zero, List.set_cons_succ]
      refine wpAnyH_ready (rs := [6]) (by kernel_rfl) (by simp) ?_
      refine AllReadyH.cons (by simp only [List.getElem?_toArray, List.getElem?_cons_succ, List.getElem?_cons_zero]; rfl) (fun K hK => ?_) AllReadyH.nil
      have hrr : Rr v2 0 (.slice a len c) (rows on s.wt) := RowOf.new HRW.out G2.out
      refine stepCloneR (by rfl) _ _ (by rfl) wd.heap.size 0 _ _ gr (by rfl) (by rfl) hrr BR.out (by rw [HLEN.out]; have := HCNT.out; omega) GE.out ?_
      intro a3 n3 c3 v3 hwb hgb
      have RR := Lib.hid hwb
      have G3 := Lib.hid (grown_new G2.out hgb GE.out)
      have B2 := Lib.hid (B2.out.kept hgb (by have := NE.out; simpa using this))
      refine hK.out _ _ (BX.out.new G3.out) (fun hHeld => ?_)
      clear hK K hwb hgb hrr
      try simp only [Act.put, List.setIfInBounds_toArray, List.set_cons_zero, List.set_cons_succ]
      refine wpAnyH_ready (rs := [11]) (by kernel_rfl) (by simp) ?_
      refine AllReadyH.cons (by simp only [List.getElem?_toArray, List.getElem?_cons_succ, List.getElem?_cons_zero]; rfl) (fun K hK => ?_) AllReadyH.nil
      refine stepAppR (by rfl) _ _ (by rfl) wd.heap.size _ _ ((j, b), false) g2 (by rfl) (by rfl) RR.out B2.out (by rw [HLEN.out]; have := HCNT.out; omega) G3.out.size ?_
      intro a4 n4 c4 v4 hwb hgb
      have R4 := Lib.hid hwb
      have G4 := Lib.hid (grown_own G3.out hgb (fun k e => (Rr.lt RR.out e).1))
      refine hK.out _ _ (BX.out.new G4.out) (fun hHeld => ?_)
      clear hK K hwb hgb
      try simp only [Act.put, List.setIfInBounds_toArray, List.set_cons_zero, List.set_cons_succ]
      refine wpAnyH_take (i := 12) (v := ?_) (by simp only [List.getElem?_toArray, List.getElem?_cons_succ, List.getElem?_cons_zero]; rfl) (by kernel_rfl) (by kernel_rfl) (by kernel_rfl) (fun _ _ _ h => h) (Or.inl ⟨by rfl, ?_⟩) (by assumption) ?_
      rotate_left 1
      · intro w hSw; (try dsimp only at hSw); go_simp; all_goals (with_reducible rfl)
      try simp only [Act.put, List.setIfInBounds_toArray, List.set_cons_zero, List.set_cons_succ]
      refine wpAnyH_take (i := 13) (v := ?_) (by simp only [List.getElem?_toArray, List.getElem?_cons_succ, List.getElem?_cons_zero]; rfl) (by kernel_rfl) (by kernel_rfl) (by kernel_rfl) (fun _ _ _ h => h) (Or.inl ⟨by rfl, ?_⟩) (by assumption) ?_
      rotate_left 1
      · intro w hSw; (try dsimp only at hSw); go_simp; all_goals (with_reducible rfl)
      try simp only [Act.put, List.setIfInBounds_toArray, List.set_cons_zero, List.set_cons_succ]
      refine wpAnyH_ready (rs := [14]) (by kernel_rfl) (by simp) ?_
      refine AllReadyH.cons (by simp only [List.getElem?_toArray, List.getElem?_cons_succ, List.getElem?_cons_zero]; rfl) (fun K hK => ?_) AllReadyH.nil
      have hb0 := HBQ.out.new G4.out
      have k1 := hb0.cell (i := 1) (x := .slice a len c) rfl
      have f1 := hb0.frozen 1
      have hb3 := hb0.set 1 (.slice a4 n4 c4)
      have hg3 := hb0.setG 1 (.slice a4 n4 c4)
      have hbx3 := Blk.kept hHeld hg3 (by have := BQ.out; simpa using this)
      go_simp
      refine hK.out _ _ hbx3 (fun hHeld => ?_)
      clear hK K k1 f1 hb0 hbx3
      try simp only [Act.put, List.setIfInBounds_toArray, List.set_cons_zero, List.set_cons_succ]
      refine wpAnyH_done (by kernel_rfl) ?_ _
      refine NoPanic.normal ?_
      have hW := write_rk HRD.out HD.out G4.out R4.out hb3 hg3
      have HW := Lib.hid hW
      have HF := Lib.hid (fails_any hW.1)
      clear hW hb3 hg3 hHeld
      generalize World.setCell _ _ _ = wc at *
      unfold dptr at HF
      by_cases hlf : s.lf = 1
      · rw [show decide ((s.add j b).lf = 1) = true from decide_eq_true hlf] at HF
        have HLF := Lib.hid hlf
        clear hlf
        go_wp2_with fail
        refine HF.out.mono ?_; rintro e w6 ⟨rfl, hr6, hk6⟩
        obtain ⟨ak, nk, ck, hkv⟩ : ∃ a n c, kv = .slice a n c := by
          obtain ⟨a, c, e, _⟩ := hr6.kp.bls.shape
          exact ⟨_, _, _, e⟩
        have R6 := Lib.hid hr6
        have K6 := Lib.hid hk6
        have c3 := hr6.blk.cell (i := 3) (x := kv) rfl
        rw [hkv] at c3
        have hls := rFail_live hr6 (by have := HM.out; show s.m + 1 ≤ _; omega) HD.out hr6.kp.bls
        rw [hkv] at hls
        have HFL := Lib.hid hls
        have HKV := Lib.hid hkv
        unfold dptr at HFL
        clear hr6 hk6 hls hkv
        go_wp2_with fail
        refine HFL.out.mono ?_; rintro e w7 ⟨kv2, rfl, hr7, hk7, hn7⟩
        have E2 := Lib.hid (And.intro hr7 (And.intro hk7 hn7))
        clear hr7 hk7 hn7
        go_wp2_with fail
        go_ret
        obtain ⟨hr7, hk7, hn7⟩ := E2.out
        rw [DS.count_1 (s := s.add j b) HLF.out]
        exact DoesR.after (((Kept.new GD.out).trans HW.out.2).trans K6.out) ⟨kv2, rfl, hr7, hk7, by rw [HKV.out]; exact hn7⟩
      · rw [show decide ((s.add j b).lf = 1) = false from decide_eq_false hlf] at HF
        have HLF := Lib.hid hlf
        clear hlf
        go_wp2_with fail
        refine HF.out.mono ?_; rintro e w6 ⟨rfl, hr6, hk6⟩
        have R6 := Lib.hid hr6
        have K6 := Lib.hid hk6
        clear hr6 hk6
        go_wp2_with fail
        go_ret
        rw [DS.count_lf (s := s.add j b) HLF.out]
        exact DoesR.after (((Kept.new GD.out).trans HW.out.2).trans K6.out) (RkE.does ⟨on, _, R6.out⟩ 0)
    · have c1 := (HBQ.out.new G1.out).cell (i := 1) (x := .slice a len c) rfl
      go_simp
      refine hK.out _ _ hHeld (fun hHeld => ?_)
      clear hK K c1
      try simp only [Act.put, List.setIfInBounds_toArray, List.set_cons_zero, List.set_cons_succ]
      refine wpAnyH_ready (rs := [1]) (by kernel_rfl) (by simp) ?_
      refine AllReadyH.cons (by simp only [List.getElem?_toArray, List.getElem?_cons_succ, List.getElem?_cons_zero]; rfl) (fun K hK => ?_) AllReadyH.nil
      refine stepNoneR (by rfl) (by rfl) ?_
      intro gr v2 hna
      have G2 := Lib.hid (grown_two G1.out hna.grown)
      have BR := Lib.hid hna.blk
      have GE : Hid (wd.heap.size ≤ gr) := Lib.hid (by have := hna.ge; have := G1.out.size; omega)
      have NE : Hid (g2 ≠ gr) := Lib.hid (by have := hna.ge; have := B2.out.lt; omega)
      have B2 := Lib.hid (B2.out.new hna.grown)
      refine hK.out _ _ (BX.out.new G2.out) (fun hHeld => ?_)
      clear hK K hna
      try simp only [Act.put, List.setIfInBounds_toArray, List.set_cons_zero, List.set_cons_succ]
      refine wpAnyH_ready (rs := [6]) (by kernel_rfl) (by simp) ?_
      refine AllReadyH.cons (by simp only [List.getElem?_toArray, List.getElem?_cons_succ, List.getElem?_cons_zero]; rfl) (fun K hK => ?_) AllReadyH.nil
      have hrr : Rr v2 0 (.slice a len c) (rows on s.wt) := RowOf.new HRW.out G2.out
      refine stepCloneR (by rfl) _ _ (by rfl) wd.heap.size 0 _ _ gr (by rfl) (by rfl) hrr BR.out (by rw [HLEN.out]; have := HCNT.out; omega) GE.out ?_
      intro a3 n3 c3 v3 hwb hgb
      have RR := Lib.hid hwb
      have G3 := Lib.hid (grown_new G2.out hgb GE.out)
      have B2 := Lib.hid (B2.out.kept hgb (by have := NE.out; simpa using this))
      refine hK.out _ _ (BX.out.new G3.out) (fun hHeld => ?_)
      clear hK K hwb hgb hrr
      try simp only [Act.put, List.setIfInBounds_toArray, List.set_cons_zero, List.set_cons_succ]
      refine wpAnyH_ready (rs := [11]) (by kernel_rfl) (by simp) ?_
      refine AllReadyH.cons (by simp only [List.getElem?_toArray, List.getElem?_cons_succ, List.getElem?_cons_zero]; rfl) (fun K hK => ?_) AllReadyH.nil
      refine stepAppR (by rfl) _ _ (by rfl) wd.heap.size _ _ ((j, b), false) g2 (by rfl) (by rfl) RR.out B2.out (by rw [HLEN.out]; have := HCNT.out; omega) G3.out.size ?_
      intro a4 n4 c4 v4 hwb hgb
      have R4 := Lib.hid hwb
      have G4 := Lib.hid (grown_own G3.out hgb (fun k e => (Rr.lt RR.out e).1))
      refine hK.out _ _ (BX.out.new G4.out) (fun hHeld => ?_)
      clear hK K hwb hgb
      try simp only [Act.put, List.setIfInBounds_toArray, List.set_cons_zero, List.set_cons_succ]
      refine wpAnyH_take (i := 12) (v := ?_) (by simp only [List.getElem?_toArray, List.getElem?_cons_succ, List.getElem?_cons_zero]; rfl) (by kernel_rfl) (by kernel_rfl) (by kernel_rfl) (fun _ _ _ h => h) (Or.inl ⟨by rfl, ?_⟩) (by assumption) ?_
      rotate_left 1
      · intro w hSw; (try dsimp only at hSw); go_simp; all_goals (with_reducible rfl)
      try simp only [Act.put, List.setIfInBounds_toArray, List.set_cons_zero, List.set_cons_succ]
      refine wpAnyH_take (i := 13) (v := ?_) (by simp only [List.getElem?_toArray, List.getElem?_cons_succ, List.getElem?_cons_zero]; rfl) (by kernel_rfl) (by kernel_rfl) (by kernel_rfl) (fun _ _ _ h => h) (Or.inl ⟨by rfl, ?_⟩) (by assumption) ?_
      rotate_left 1
      · intro w hSw; (try dsimp only at hSw); go_simp; all_goals (with_reducible rfl)
      try simp only [Act.put, List.setIfInBounds_toArray, List.set_cons_zero, List.set_cons_succ]
      refine wpAnyH_ready (rs := [14]) (by kernel_rfl) (by simp) ?_
      refine AllReadyH.cons (by simp only [List.getElem?_toArray, List.getElem?_cons_succ, List.getElem?_cons_zero]; rfl) (fun K hK => ?_) AllReadyH.nil
      have hb0 := HBQ.out.new G4.out
      have k1 := hb0.cell (i := 1) (x := .slice a len c) rfl
      have f1 := hb0.frozen 1
      have hb3 := hb0.set 1 (.slice a4 n4 c4)
      have hg3 := hb0.setG 1 (.slice a4 n4 c4)
      have hbx3 := Blk.kept hHeld hg3 (by have := BQ.out; simpa using this)
      go_simp
      refine hK.out _ _ hbx3 (fun hHeld => ?_)
      clear hK K k1 f1 hb0 hbx3
      try simp only [Act.put, List.setIfInBounds_toArray, List.set_cons_zero, List.set_cons_succ]
      refine wpAnyH_done (by kernel_rfl) ?_ _
      refine NoPanic.normal ?_
      have hW := write_rk HRD.out HD.out G4.out R4.out hb3 hg3
      have HW := Lib.hid hW
      have HF := Lib.hid (fails_any hW.1)
      clear hW hb3 hg3 hHeld
      generalize World.setCell _ _ _ = wc at *
      unfold dptr at HF
      by_cases hlf : s.lf = 1
      · rw [show decide ((s.add j b).lf = 1) = true from decide_eq_true hlf] at HF
        have HLF := Lib.hid hlf
        clear hlf
        go_wp2_with fail
        refine HF.out.mono ?_; rintro e w6 ⟨rfl, hr6, hk6⟩
        obtain ⟨ak, nk, ck, hkv⟩ : ∃ a n c, kv = .slice a n c := by
          obtain ⟨a, c, e, _⟩ := hr6.kp.bls.shape
          exact ⟨_, _, _, e⟩
        have R6 := Lib.hid hr6
        have K6 := Lib.hid hk6
        have c3 := hr6.blk.cell (i := 3) (x := kv) rfl
        rw [hkv] at c3
        have hls := rFail_live hr6 (by have := HM.out; show s.m + 1 ≤ _; omega) HD.out hr6.kp.bls
        rw [hkv] at hls
        have HFL := Lib.hid hls
        have HKV := Lib.hid hkv
        unfold dptr at HFL
        clear hr6 hk6 hls hkv
        go_wp2_with fail
        refine HFL.out.mono ?_; rintro e w7 ⟨kv2, rfl, hr7, hk7, hn7⟩
        have E2 := Lib.hid (And.intro hr7 (And.intro hk7 hn7))
        clear hr7 hk7 hn7
        go_wp2_with fail
        go_ret
        obtain ⟨hr7, hk7, hn7⟩ := E2.out
        rw [DS.count_1 (s := s.add j b) HLF.out]
        exact DoesR.after (((Kept.new GD.out).trans HW.out.2).trans K6.out) ⟨kv2, rfl, hr7, hk7, by rw [HKV.out]; exact hn7⟩
      · rw [show decide ((s.add j b).lf = 1) = false from decide_eq_false hlf] at HF
        have HLF := Lib.hid hlf
        clear hlf
        go_wp2_with fail
        refine HF.out.mono ?_; rintro e w6 ⟨rfl, hr6, hk6⟩
        have R6 := Lib.hid hr6
        have K6 := Lib.hid hk6
        clear hr6 hk6
        go_wp2_with fail
        go_ret
        rw [DS.count_lf (s := s.add j b) HLF.out]
        exact DoesR.after (((Kept.new GD.out).trans HW.out.2).trans K6.out) (RkE.does ⟨on, _, R6.out⟩ 0)

theorem rWrite_any (h : Rk w q kv s on lv) (hm : s.m ≤ 100000000) (k : Int) (b : Bk) : Calls Try.prog 26 #[dptr q, .int .i64 k, .agg b.v] w (DoesR w q kv (s.write k b).1 (s.write k b).2) := by
  by_cases h0 : s.has k = 0
  · obtain ⟨_, h1, _⟩ := DS.has_0 h0
    obtain ⟨j, rfl⟩ := Int.eq_ofNat_of_zero_le h1
    exact rWrite_on h hm j b h0
  · exact rWrite_off h k b h0
end
end Go.Proofs.Ytnnhnkpbiilooaa
