/- The document's disk: New, fails, last, Waiting, Read. -/
import Derived.Test.YtnnhnkpbiilooaaDlA
namespace Go.Proofs.Ytnnhnkpbiilooaa
open Go.RowKit Go.Maps

set_option maxRecDepth 20000 in
theorem rNew_off (n : Int) (w : World) (h : n < 64 ∨ 8192 < n) : Calls Try.prog 25 #[.int .i64 n] w fun e w' => e = .returned (.tuple #[.pointer none, .int .i64 1]) ∧ w = w' := by
  rcases h with h | h
  · go_enter Try.func25, Try.ntmps25
    go_wp2_with fail
    go_ret2
    exact ⟨rfl, rfl⟩
  · have h0 : ¬ n < 64 := by omega
    go_enter Try.func25, Try.ntmps25
    go_wp2_with fail
    go_ret2
    exact ⟨rfl, rfl⟩
set_option maxRecDepth 20000 in
theorem rNew_on (n : Nat) (w : World) (h1 : 64 ≤ n) (h2 : n ≤ 8192) : Calls Try.prog 25 #[.int .i64 (n : Int)] w fun e w' => ∃ q, e = .returned (.tuple #[dptr q, .int .i64 0]) ∧ RkE w' q (.slice none 0 0) (DS.new n) ∧ w.grownBy w' none ∧ w.heap.size ≤ q := by
  have hB := Blk.made w 74 #[.int .i64 (n : Int), .slice none 0 0, .int .i64 0, .slice none 0 0, .bool false]
  have g3 := World.grownBy_alloc w (.cells #[.int .i64 (n : Int), .slice none 0 0, .int .i64 0, .slice none 0 0, .bool false] 74) none
  have HB := Lib.hid hB
  have G := Lib.hid g3
  clear hB g3
  have z1 : (n : Int) ≤ 8192 := by omega
  have z2 : 64 ≤ (n : Int) := by omega
  have z3 : ¬ (n : Int) < 64 := by omega
  have z4 : ¬ 8192 < (n : Int) := by omega
  have HZ := Lib.hid h2
  clear h1 h2
  unfold dptr
  go_enter Try.func25, Try.ntmps25
  go_wp2_with fail
  go_ret2
  exact ⟨w.heap.size, rfl, ⟨[], .slice none 0 0, HB.out, Rr.nil _ _, BlsT.nil _, rfl, Nat.le_refl _, (fun h => by cases h), by simp [DS.new], HZ.out⟩, G.out, Nat.le_refl _⟩

section
variable {w : World} {q : Nat} {kv : Value} {s : DS} {on : List (Nat × Bk)} {lv : Value}
/-- Does the power fail now? -/
def Fails (w : World) (q : Nat) (kv : Value) (s : DS) (on : List (Nat × Bk)) (lv : Value) (b : Bool) (e : Ending) (w' : World) : Prop := e = .returned (.bool b) ∧ Rk w' q kv { s with lf := s.lf - 1 } on lv ∧ Kept (· = q) w w'

theorem Rk.turn {w' : World} {lf : Nat} (h : Rk w q kv s on lv) (hb : Blk w' q 74 #[.int .i64 (s.n : Int), lv, .int .i64 (lf : Int), kv, .bool s.dd]) (hk : Kept (· = q) w w') (hl : lf ≤ s.lf) : Rk w' q kv { s with lf := lf } on lv :=
  ⟨hb, hk.row h.row (fun k e => h.nq.1 k e), hk.own h.kp (fun k e => h.nq.2 k e), h.fl, h.cnt, fun hd => ⟨(h.dead hd).1, by have := (h.dead hd).2.1; show lf = 0; omega, (h.dead hd).2.2⟩, by have := h.hl; show (lf : Int) ≤ _; omega, h.hn⟩

set_option maxRecDepth 20000 in
theorem fails_any (h : Rk w q kv s on lv) : Calls Try.prog 41 #[dptr q] w (Fails w q kv s on lv (decide (s.lf = 1))) := by
  have H := Lib.hid h
  have HB := Lib.hid h.blk
  have c2 := h.blk.cell (i := 2) (x := .int .i64 (s.lf : Int)) rfl
  have f2 := h.blk.frozen 2
  have hl := h.hl
  rcases Nat.lt_trichotomy s.lf 1 with hlf | hlf | hlf
  · have hlf : s.lf = 0 := by omega
    have HL := Lib.hid hlf
    rw [hlf] at c2
    clear h hlf hl
    unfold dptr
    go_enter Try.func41, Try.ntmps41
    go_wp2_with fail
    go_ret
    exact ⟨by rw [HL.out]; rfl, H.out.turn (by rw [HL.out]; have := HB.out; rw [HL.out] at this; exact this) (Kept.refl _ _) (by omega), Kept.refl _ _⟩
  · have HL := Lib.hid hlf
    have S2 := Lib.hid (h.blk.set 2 (.int .i64 0))
    have G2 := Lib.hid (h.blk.setG 2 (.int .i64 0))
    have k2 := S2.out.cell (i := 2) (x := .int .i64 0) rfl
    rw [hlf] at c2
    clear h hlf hl
    unfold dptr
    go_enter Try.func41, Try.ntmps41
    go_wp2_with fail
    go_ret
    have hk : Kept (· = q) w _ := Kept.of G2.out (fun k e => .inl (by cases e; rfl))
    exact ⟨by rw [HL.out]; rfl, H.out.turn (by rw [HL.out]; exact S2.out) hk (by omega), hk⟩
  · have HL := Lib.hid hlf
    have S2 := Lib.hid (h.blk.set 2 (.int .i64 ((s.lf : Int) - 1)))
    have G2 := Lib.hid (h.blk.setG 2 (.int .i64 ((s.lf : Int) - 1)))
    have k2 := S2.out.cell (i := 2) (x := .int .i64 ((s.lf : Int) - 1)) rfl
    have z0 : (s.lf : Int) ≠ 0 := by omega
    have z1 : ¬ (s.lf : Int) - 1 = 0 := by omega
    have z2 : ((s.lf : Int) == 0) = false := beq_false_of_ne z0
    have z3 : ((s.lf : Int) - 1 == 0) = false := beq_false_of_ne z1
    have z4 : 0 ≤ (s.lf : Int) := by omega
    clear h hlf
    unfold dptr
    go_enter Try.func41, Try.ntmps41
    go_wp2_with fail
    go_ret
    have hk : Kept (· = q) w _ := Kept.of G2.out (fun k e => .inl (by cases e; rfl))
    have e1 : ((s.lf - 1 : Nat) : Int) = (s.lf : Int) - 1 := by have := HL.out; omega
    exact ⟨by rw [decide_eq_false (by have := HL.out; omega)]; rfl, H.out.turn (by rw [e1]; exact S2.out) hk (by omega), hk⟩

theorem look_step {R : List R3} {n : Nat} (k : Nat) (hn : n < R.length) : putL no ((R.take (n + 1)).map (·.1)) k = if k = (R.getD n R3.zero).1.1 then some (R.getD n R3.zero).1.2 else putL no ((R.take n).map (·.1)) k := by
  have e : R.getD n R3.zero = R[n] := by simp [List.getD, hn]
  rw [e, List.take_succ_eq_append_getElem hn, List.map_append]
  exact congrFun (putL_snoc no _ R[n].1) k

set_option maxRecDepth 20000 in
set_option maxHeartbeats 2000000 in
/-- What was written last. -/
theorem last_any (h : Rk w q kv s on lv) (k : Nat) : Calls Try.prog 42 #[dptr q, .int .i64 (k : Int)] w (Block w (s.at k)) := by
  have hat : s.at k = (putL no ((rows on s.wt).map (·.1)) k).getD Bk.zero := by
    unfold DS.at
    rw [h.fl, ← putL_append, rows_fst]
  rw [hat]
  have hrow := h.row
  have hb := h.blk
  obtain ⟨a, c, rfl, hm, ha⟩ := hrow.form
  clear h hat
  generalize hR : rows on s.wt = R at *
  generalize hL : putL no (R.map (·.1)) k = L at *
  obtain ⟨len, hlen⟩ : ∃ n, R.length = n := ⟨_, rfl⟩
  have HLEN := Lib.hid hlen
  have HLL := Lib.hid hL
  rw [hlen] at hrow hb hm ha
  have HROW := Lib.hid hrow
  have HB := Lib.hid hb
  have HA := Lib.hid ha
  unfold maxLen at hm
  have z1 : (len : Int) ≤ 9223372036854775807 := by omega
  have z0 : 0 ≤ (len : Int) := by omega
  clear hrow hb ha hR hL hlen hm
  unfold dptr
  go_enter Try.func42, Try.ntmps42
  go_upto_region 1 with (refine wpAllocB rfl rfl ?_; intro g1 w1 hn1; have N1 := Lib.hid hn1; clear hn1)
  have HB1 := Lib.hid (HB.out.new N1.out.grown)
  have c1 := HB1.out.cell (i := 1) (x := .slice a len c) rfl
  go_wp2_with fail
  go_loopw [5] (fun x wr => ∃ i : Int, -1 ≤ i ∧ i < len ∧ x = .int .i64 i ∧ wr = w1 ∧ putL no ((R.take (i + 1).toNat).map (·.1)) k = L) (fun x _ => (intOf x + 1).toNat)
  case atStart => exact ⟨(len : Int) - 1, by omega, by omega, rfl, rfl, by rw [show ((len : Int) - 1 + 1).toNat = len by omega, List.take_of_length_le (by have := HLEN.out; omega)]; exact HLL.out⟩
  case round =>
    obtain ⟨i, hi1, hi2, rfl, rfl, hput⟩ := hrel
    by_cases hi : 0 ≤ i
    · obtain ⟨n, rfl⟩ := Int.eq_ofNat_of_zero_le hi
      have hn : n < len := by omega
      rw [show ((n : Int) + 1).toNat = n + 1 by omega, look_step k (by have := HLEN.out; omega)] at hput
      obtain ⟨g, rfl⟩ := HA.out (by omega)
      obtain ⟨r1, r2, _⟩ := Rr.at (HROW.out.new N1.out.grown) n (by have := HLEN.out; omega)
      generalize R.getD n R3.zero = x at *
      have HR2 := Lib.hid r2
      clear r2
      obtain ⟨⟨xk, xb⟩, xo⟩ := x
      dsimp only at *
      by_cases hx : k = xk
      · subst hx
        rw [if_pos rfl] at hput
        have HP := Lib.hid hput
        clear hput
        go_wp2_with (first
          | (refine wpLoadMidB rfl _ rfl g (n * 514 + 1) xb rfl HR2.out ?_)
          | (refine wpStoreB rfl (.tmp 4) (.tmp 33) rfl g1 _ _ rfl rfl N1.out.blk ?_; intro w4 hb4 hg4; have B4 := Lib.hid hb4; have G4 := Lib.hid (grown_new N1.out.grown hg4 N1.out.ge); clear hb4 hg4))
        exact bodyPost_ret (results_cell_row' Try.results42 _ _ g1 _ _ (0, 0) _ rfl B4.out undB rfl (rowB _)) rfl ⟨by rw [← HP.out]; rfl, G4.out⟩
      · rw [if_neg hx] at hput
        have HP := Lib.hid hput
        have hx1 : ((xk : Int) == (k : Int)) = false := beq_false_of_ne (by omega)
        have hx2 : ¬ (xk : Int) = (k : Int) := by omega
        clear hput
        go_wp2_with fail
        go_roundw
        case rel => exact ⟨(n : Int) - 1, by omega, by omega, by go_num, trivial, by rw [show ((n : Int) - 1 + 1).toNat = n by omega]; exact HP.out⟩
        case measure => (simp [intOf]; try omega)
    · have hi0 : i < 0 := by omega
      have e : (i + 1).toNat = 0 := by omega
      rw [e] at hput
      have HP : Hid (L = none) := Lib.hid (by rw [← hput]; rfl)
      clear hput e
      go_wp2_with (first
        | (refine wpBuildB rfl rfl ?_)
        | (refine wpStoreB rfl (.tmp 4) (.tmp 34) rfl g1 _ _ rfl rfl N1.out.blk ?_; intro w4 hb4 hg4; have B4 := Lib.hid hb4; have G4 := Lib.hid (grown_new N1.out.grown hg4 N1.out.ge); clear hb4 hg4))
      exact bodyPost_ret (results_cell_row' Try.results42 _ _ g1 _ _ (0, 0) _ rfl B4.out undB rfl (rowB _)) rfl ⟨by rw [HP.out]; rfl, G4.out⟩

set_option maxRecDepth 20000 in
set_option maxHeartbeats 1000000 in
/-- How many wait. -/
theorem rWaiting_any (h : Rk w q kv s on lv) : Calls Try.prog 43 #[dptr q] w (Tells w (s.wt.length : Int)) := by
  have hrow := h.row
  have hb := h.blk
  obtain ⟨a, c, rfl, hm, ha⟩ := hrow.form
  clear h
  obtain ⟨lo, hlo⟩ : ∃ n, on.length = n := ⟨_, rfl⟩
  obtain ⟨lw, hlw⟩ : ∃ n, s.wt.length = n := ⟨_, rfl⟩
  have HLO := Lib.hid hlo
  have HLW := Lib.hid hlw
  rw [rows_len, hlo, hlw] at hrow hb hm ha
  obtain ⟨len, hlen⟩ : ∃ n, lo + lw = n := ⟨_, rfl⟩
  rw [hlen] at hrow hb hm ha
  have HLEN := Lib.hid hlen
  rw [hlw]
  have HROW := Lib.hid hrow
  have HB := Lib.hid hb
  have HA := Lib.hid ha
  unfold maxLen at hm
  have z1 : (len : Int) ≤ 9223372036854775807 := by omega
  have c1 := hb.cell (i := 1) (x := .slice a len c) rfl
  clear hrow hb ha hlen hlo hlw hm
  unfold dptr
  go_enter Try.func43, Try.ntmps43
  go_wp2_with fail
  go_loopw [3, 4] (fun x y wr => ∃ i : Nat, i ≤ len ∧ y = .int .i64 i ∧ x = .int .i64 ((i - lo : Nat) : Int) ∧ wr = w) (fun _ y _ => len - (intOf y).toNat)
  case atStart => exact ⟨0, Nat.zero_le _, rfl, by simp, rfl⟩
  case round =>
    obtain ⟨i, hi, rfl, rfl, rfl⟩ := hrel
    by_cases hlt : i < len
    · obtain ⟨g, rfl⟩ := HA.out (by omega)
      obtain ⟨_, _, r3⟩ := Rr.at HROW.out i (by rw [rows_len, HLO.out, HLW.out, HLEN.out]; exact hlt)
      by_cases hio : i < lo
      · rw [rows_on (by have := HLO.out; omega)] at r3
        dsimp only at r3
        have e1 : i - lo = 0 := by omega
        have e2 : i + 1 - lo = 0 := by omega
        rw [e1]
        go_wp2_with fail
        go_roundw
        case rel => exact ⟨i + 1, by omega, by go_num, by rw [e2], trivial⟩
        case measure => (simp [intOf]; try omega)
      · rw [rows_wt (by have := HLO.out; omega) (by have := HLO.out; have := HLW.out; have := HLEN.out; omega)] at r3
        dsimp only at r3
        have e2 : i + 1 - lo = (i - lo) + 1 := by omega
        obtain ⟨d, hd⟩ : ∃ d, i - lo = d := ⟨_, rfl⟩
        have hd2 : d < len := by omega
        rw [hd] at e2 ⊢
        go_wp2_with fail
        go_roundw
        case rel => exact ⟨i + 1, by omega, by go_num, by rw [e2]; go_num, trivial⟩
        case measure => (simp [intOf]; try omega)
    · obtain rfl : i = len := by omega
      have e1 : i - lo = lw := by have := HLEN.out; omega
      rw [e1]
      go_wp2_with fail
      go_ret
      exact ⟨rfl, rfl⟩

set_option maxRecDepth 20000 in
/-- What is read. -/
theorem rRead_any (h : Rk w q kv s on lv) (k : Int) : Calls Try.prog 27 #[dptr q, .int .i64 k] w (Gives w (s.read k).1 (s.read k).2) := by
  have H := Lib.hid h
  have hb := h.blk
  have c0 := hb.cell (i := 0) (x := .int .i64 (s.n : Int)) rfl
  have c4 := hb.cell (i := 4) (x := .bool s.dd) rfl
  have HB := Lib.hid hb
  clear hb h
  unfold DS.read
  rcases hd : s.dd with _ | _
  · by_cases hh : k < 0 ∨ (s.n : Int) ≤ k
    · rw [DS.has_off hd hh]
      rw [hd] at c4
      rcases hh with hh | hh
      · have HX := Lib.hid hd
        clear hd c0 c4
        unfold dptr
        go_enter Try.func27, Try.ntmps27
        go_upto_region 1 with (refine wpAllocB rfl rfl ?_; intro g1 w1 hn1; have N1 := Lib.hid hn1; clear hn1)
        have hB1 := HB.out.new N1.out.grown
        rw [HX.out] at hB1
        have c4 := hB1.cell (i := 4) (x := .bool false) rfl
        go_wp2_with (first
          | (refine wpBuildB rfl rfl ?_)
          | (refine wpStoreB rfl (.tmp 4) (.tmp 21) rfl g1 _ _ rfl rfl N1.out.blk ?_; intro w4 hb4 hg4; have B4 := Lib.hid hb4; have G4 := Lib.hid (grown_new N1.out.grown hg4 N1.out.ge); clear hb4 hg4))
        exact bodyPost_ret (results_cell_tmp' Try.results27 _ _ g1 _ _ (0, 0) _ rfl B4.out undB rfl (rowB _)) rfl ⟨rfl, G4.out⟩
      · have HX := Lib.hid hd
        have hk0 : ¬ k < 0 := by omega
        clear hd c0 c4
        unfold dptr
        go_enter Try.func27, Try.ntmps27
        go_upto_region 1 with (refine wpAllocB rfl rfl ?_; intro g1 w1 hn1; have N1 := Lib.hid hn1; clear hn1)
        have hB1 := HB.out.new N1.out.grown
        rw [HX.out] at hB1
        have c4 := hB1.cell (i := 4) (x := .bool false) rfl
        have c0 := hB1.cell (i := 0) (x := .int .i64 (s.n : Int)) rfl
        go_wp2_with (first
          | (refine wpBuildB rfl rfl ?_)
          | (refine wpStoreB rfl (.tmp 4) (.tmp 21) rfl g1 _ _ rfl rfl N1.out.blk ?_; intro w4 hb4 hg4; have B4 := Lib.hid hb4; have G4 := Lib.hid (grown_new N1.out.grown hg4 N1.out.ge); clear hb4 hg4))
        exact bodyPost_ret (results_cell_tmp' Try.results27 _ _ g1 _ _ (0, 0) _ rfl B4.out undB rfl (rowB _)) rfl ⟨rfl, G4.out⟩
    · have hk0 : ¬ k < 0 := by omega
      have hk3 : ¬ (s.n : Int) ≤ k := by omega
      rw [DS.has_on hd (by omega) (by omega), if_pos rfl]
      obtain ⟨j, rfl⟩ := Int.eq_ofNat_of_zero_le (by omega : 0 ≤ k)
      rw [Int.toNat_natCast]
      have HX := Lib.hid hd
      clear hd c0 c4 hh
      unfold dptr
      go_enter Try.func27, Try.ntmps27
      go_upto_region 1 with (refine wpAllocB rfl rfl ?_; intro g1 w1 hn1; have N1 := Lib.hid hn1; clear hn1)
      have hB1 := HB.out.new N1.out.grown
      rw [HX.out] at hB1
      have c4 := hB1.cell (i := 4) (x := .bool false) rfl
      have c0 := hB1.cell (i := 0) (x := .int .i64 (s.n : Int)) rfl
      have hR1 := H.out.keep (S := fun _ => False) (Kept.new N1.out.grown) (fun h => h) (fun _ _ h => h) (fun _ _ h => h)
      have HLA := Lib.hid (last_any hR1 j)
      unfold dptr at HLA
      clear hB1 hR1
      go_wp2_with (first
        | (go_at_call 42; refine HLA.out.mono ?_; rintro e w2 ⟨rfl, hg2⟩; have G2 := Lib.hid (grown_two N1.out.grown hg2); have B2 := Lib.hid (N1.out.blk.new hg2); clear hg2)
        | (refine wpStoreB rfl (.tmp 4) (.tmp 24) rfl g1 _ _ rfl rfl B2.out ?_; intro w4 hb4 hg4; have B4 := Lib.hid hb4; have G4 := Lib.hid (grown_new G2.out hg4 N1.out.ge); clear hb4 hg4))
      exact bodyPost_ret (results_cell_tmp' Try.results27 _ _ g1 _ _ (0, 0) _ rfl B4.out undB rfl (rowB _)) rfl ⟨rfl, G4.out⟩
  · rw [DS.has_dead hd]
    have HX := Lib.hid hd
    clear hd c0 c4
    unfold dptr
    go_enter Try.func27, Try.ntmps27
    go_upto_region 1 with (refine wpAllocB rfl rfl ?_; intro g1 w1 hn1; have N1 := Lib.hid hn1; clear hn1)
    have hB1 := HB.out.new N1.out.grown
    rw [HX.out] at hB1
    have c4 := hB1.cell (i := 4) (x := .bool true) rfl
    go_wp2_with (first
      | (refine wpBuildB rfl rfl ?_)
      | (refine wpStoreB rfl (.tmp 4) (.tmp 10) rfl g1 _ _ rfl rfl N1.out.blk ?_; intro w4 hb4 hg4; have B4 := Lib.hid hb4; have G4 := Lib.hid (grown_new N1.out.grown hg4 N1.out.ge); clear hb4 hg4))
    exact bodyPost_ret (results_cell_tmp' Try.results27 _ _ g1 _ _ (0, 0) _ rfl B4.out undB rfl (rowB _)) rfl ⟨rfl, G4.out⟩
end
end Go.Proofs.Ytnnhnkpbiilooaa
