/- XdrWrites returns true, whatever is written. -/
import Derived.Test.YtdjapbgilcainaaRef
import Derived.Test.YtdjapbgilcainaaWk
import Derived.Test.YtdjapbgilcainaaLaw
import Derived.Deep.RegionHeld3
namespace Go.Proofs.Ytdjapbgilcainaa
open Go.RowKit

set_option maxHeartbeats 1000000 in
theorem writes_long (v : Value) (bs : List UInt8) (n : Int) (b : Bool) (s : ByteArray) (w : World) (hv : Bts w v bs) (h : 3000 < bs.length ∨ 3000 < s.size) :
    Calls Try.prog 4 #[v, .int .u64 n, .bool b, .string s] w fun e w' => e = .returned (.bool true) ∧ w.grownBy w' none := by
  obtain ⟨a, c, rfl, hl, hm⟩ := hv.form
  have hm2 : bs.length ≤ 9223372036854775807 := by unfold maxLen at hm; omega
  clear hv hm hl
  generalize bs.length = m at *
  have fin : 3000 < m ∨ (m ≤ 3000 ∧ 3000 < s.size) := by omega
  clear h
  rcases fin with h | ⟨h1, h⟩
  all_goals
    go_enter Try.func4, Try.ntmps4
    go_wp2_with fail
    go_ret
    exact ⟨rfl, World.grownBy.refl _ _⟩

def sevens : List UInt8 := [7, 7, 7, 7, 7, 7, 7, 7]

/-- A slice of the call's own, cut to its first bytes. -/
theorem Own.block {w : World} {base n c : Nat} {a : Option Addr} {bs : List UInt8} (h : Own w base (.slice a n c) bs) (h0 : 0 < bs.length) :
    ∃ g cur, a = some ⟨g, 0, none⟩ ∧ n = bs.length ∧ base ≤ g ∧ w.heap[g]? = some (.cells cur 5 (0, 0)) ∧ n ≤ c ∧ c ≤ maxLen ∧ cur.size = c := by
  obtain ⟨_, ⟨_, h2⟩ | ⟨g, cap, cur, h1, h2, h3, h4, h5, h6, _⟩⟩ := h
  · omega
  · cases h1
    exact ⟨g, cur, rfl, rfl, h2, h3, h4, h5, by omega⟩

theorem own_cut {w : World} {base g n c : Nat} {x y : List UInt8} (h : Own w base (.slice (some ⟨g, 0, none⟩) n c) (x ++ y)) (hn : n = (x ++ y).length) (hc : n ≤ c) (hm : c ≤ maxLen) : Bts w (.slice (some ⟨g, 0, none⟩) x.length c) x ∧ ∀ k (hk : k < y.length), w.cell? ⟨g, x.length + k, none⟩ = some (.int .u8 (y[k].toNat : Int)) := by
  subst hn
  have hb : BCells w g 0 (x ++ y) := by
    rcases h.bts with ⟨h1, _⟩ | ⟨b, o, c2, h1, _, _, h4⟩ | ⟨a, h1, h2⟩
    · cases h1
    · cases h1; exact h4
    · intro i hi; rw [h2] at hi; simp at hi
  rw [List.length_append] at hc
  refine ⟨.inr (.inl ⟨g, 0, c, rfl, by omega, hm, fun i hi => ?_⟩), fun k hk => ?_⟩
  · rw [hb i (by rw [List.length_append]; omega), List.getElem_append_left hi]
  · have h1 := hb (x.length + k) (by rw [List.length_append]; omega)
    rw [Nat.zero_add] at h1
    rw [h1]
    simp

set_option maxRecDepth 100000 in
set_option maxHeartbeats 6000000 in
theorem writes_main (v : Value) (bs : List UInt8) (n : Nat) (b : Bool) (s : ByteArray) (w : World) (hv : Bts w v bs) (hn : n < 18446744073709551616) (h1 : bs.length ≤ 3000) (h2 : s.size ≤ 3000) :
    Calls Try.prog 4 #[v, .int .u64 (n : Int), .bool b, .string s] w fun e w' => e = .returned (.bool true) ∧ w.grownBy w' none := by
  obtain ⟨a, c, rfl, hl, hm⟩ := hv.form
  have zs : s.data.toList.length = s.size := by simp
  have ps := pad_le s.data.toList.length
  obtain ⟨O0, hO0⟩ : ∃ O : Array UInt8, bs ++ word4 (n % 4294967296) = O.toList := ⟨(bs ++ word4 (n % 4294967296)).toArray, by simp⟩
  obtain ⟨N0, hN0⟩ : ∃ N : Nat, (bs ++ word4 (n % 4294967296)).length = N := ⟨_, rfl⟩
  obtain ⟨O1, hO1⟩ : ∃ O : Array UInt8, bs ++ longB n = O.toList := ⟨(bs ++ longB n).toArray, by simp⟩
  obtain ⟨N1, hN1⟩ : ∃ N : Nat, (bs ++ longB n).length = N := ⟨_, rfl⟩
  obtain ⟨O2, hO2⟩ : ∃ O : Array UInt8, bs ++ longB (bits64 (wrap64 (n : Int))) = O.toList := ⟨(bs ++ longB (bits64 (wrap64 (n : Int)))).toArray, by simp⟩
  obtain ⟨N2, hN2⟩ : ∃ N : Nat, (bs ++ longB (bits64 (wrap64 (n : Int)))).length = N := ⟨_, rfl⟩
  obtain ⟨O3, hO3⟩ : ∃ O : Array UInt8, bs ++ flagB b = O.toList := ⟨(bs ++ flagB b).toArray, by simp⟩
  obtain ⟨N3, hN3⟩ : ∃ N : Nat, (bs ++ flagB b).length = N := ⟨_, rfl⟩
  obtain ⟨O4, hO4⟩ : ∃ O : Array UInt8, bs ++ textB s.data.toList = O.toList := ⟨(bs ++ textB s.data.toList).toArray, by simp⟩
  obtain ⟨N4, hN4⟩ : ∃ N : Nat, (bs ++ textB s.data.toList).length = N := ⟨_, rfl⟩
  obtain ⟨O5, hO5⟩ : ∃ O : Array UInt8, bs ++ fixedB s.data.toList = O.toList := ⟨(bs ++ fixedB s.data.toList).toArray, by simp⟩
  obtain ⟨N5, hN5⟩ : ∃ N : Nat, (bs ++ fixedB s.data.toList).length = N := ⟨_, rfl⟩
  have HO0 : Hid (N0 = O0.toList.length) := Lib.hid (by rw [← hN0, hO0])
  have q0 : 0 < N0 ∧ N0 ≤ 4000 := by rw [← hN0, List.length_append, word4_len]; omega
  have WX0 : Hid (∀ (w : World) (v : Value), Bts w v bs → Calls Try.prog 12 #[v, .int .u32 ((n : Int) % 4294967296)] w (Txt w O0 N0)) := Lib.hid (fun w v hv => by
    have h := Word_any v bs (n % 4294967296) w hv (by omega) (by omega)
    rw [show ((n % 4294967296 : Nat) : Int) = (n : Int) % 4294967296 by omega] at h
    exact h.mono fun _ _ h => h.txt O0 N0 hO0 hN0)
  have WR0 : Hid (∀ (w : World) (v : Value), Bts w v bs → Calls Try.prog 28 #[v, .int .u32 ((n : Int) % 4294967296)] w (Txt w O0 N0)) := Lib.hid (fun w v hv => by
    have h := refWord_any v bs (n % 4294967296) w hv (by omega) (by omega)
    rw [show ((n % 4294967296 : Nat) : Int) = (n : Int) % 4294967296 by omega] at h
    exact h.mono fun _ _ h => h.txt O0 N0 hO0 hN0)
  have WX1 : Hid (∀ (w : World) (v : Value), Bts w v bs → Calls Try.prog 11 #[v, .int .u64 (n : Int)] w (Txt w O1 N1)) := Lib.hid (fun w v hv => by
    have h := Long_any v bs n w hv (by omega) hn
    exact h.mono fun _ _ h => h.txt O1 N1 hO1 hN1)
  have WR1 : Hid (∀ (w : World) (v : Value), Bts w v bs → Calls Try.prog 29 #[v, .int .u64 (n : Int)] w (Txt w O1 N1)) := Lib.hid (fun w v hv => by
    have h := refLong_any v bs n w hv (by omega) hn
    exact h.mono fun _ _ h => h.txt O1 N1 hO1 hN1)
  have WX2 : Hid (∀ (w : World) (v : Value), Bts w v bs → Calls Try.prog 24 #[v, .int .i64 (wrap64 (n : Int))] w (Txt w O2 N2)) := Lib.hid (fun w v hv => by
    have h := Int_any v bs (wrap64 (n : Int)) w hv (by omega)
    exact h.mono fun _ _ h => h.txt O2 N2 hO2 hN2)
  have WR2 : Hid (∀ (w : World) (v : Value), Bts w v bs → Calls Try.prog 30 #[v, .int .i64 (wrap64 (n : Int))] w (Txt w O2 N2)) := Lib.hid (fun w v hv => by
    have h := refInt_any v bs (wrap64 (n : Int)) w hv (by omega)
    exact h.mono fun _ _ h => h.txt O2 N2 hO2 hN2)
  have WX3 : Hid (∀ (w : World) (v : Value), Bts w v bs → Calls Try.prog 13 #[v, .bool b] w (Txt w O3 N3)) := Lib.hid (fun w v hv => by
    have h := Flag_any v bs b w hv (by omega)
    exact h.mono fun _ _ h => h.txt O3 N3 hO3 hN3)
  have WR3 : Hid (∀ (w : World) (v : Value), Bts w v bs → Calls Try.prog 31 #[v, .bool b] w (Txt w O3 N3)) := Lib.hid (fun w v hv => by
    have h := refFlag_any v bs b w hv (by omega)
    exact h.mono fun _ _ h => h.txt O3 N3 hO3 hN3)
  have WX4 : Hid (∀ (w : World) (v : Value), Bts w v bs → Calls Try.prog 14 #[v, .string s] w (Txt w O4 N4)) := Lib.hid (fun w v hv => by
    have h := Text_any v bs s w hv (by omega) (by omega)
    exact h.mono fun _ _ h => h.txt O4 N4 hO4 hN4)
  have WR4 : Hid (∀ (w : World) (v : Value), Bts w v bs → Calls Try.prog 32 #[v, .string s] w (Txt w O4 N4)) := Lib.hid (fun w v hv => by
    have h := refText_any v bs s w hv (by omega) (by omega)
    exact h.mono fun _ _ h => h.txt O4 N4 hO4 hN4)
  have WX5 : Hid (∀ (w : World) (v : Value), Bts w v bs → Calls Try.prog 15 #[v, .string s] w (Txt w O5 N5)) := Lib.hid (fun w v hv => by
    have h := Fixed_any v bs s w hv (by omega) (by omega)
    rw [show s.data.toList ++ List.replicate (pad s.size) 0 = fixedB s.data.toList by unfold fixedB; rw [zs]] at h
    exact h.mono fun _ _ h => h.txt O5 N5 hO5 hN5)
  have WR5 : Hid (∀ (w : World) (v : Value), Bts w v bs → Calls Try.prog 33 #[v, .string s] w (Txt w O5 N5)) := Lib.hid (fun w v hv => by
    have h := refFixed_any v bs s w hv (by omega) (by omega)
    exact h.mono fun _ _ h => h.txt O5 N5 hO5 hN5)
  have HV := Lib.hid hv
  have HO := Lib.hid (copy_nil w)
  have HB := Lib.hid (hv.new (World.grownBy_alloc w (.cells #[] 5) none))
  have HL : Hid (Fit [] bs) := Lib.hid (by unfold Fit; simp; omega)
  have HL2 : Hid (Fit ([] ++ bs) sevens) := Lib.hid (by unfold Fit; simp [sevens]; omega)
  have hn2 : (n : Int) ≤ 18446744073709551615 := by omega
  have d1 : decide (3000 < (bs.length : Int)) = false := by rw [decide_eq_false_iff_not]; omega
  have d2 : decide (3000 < (s.size : Int)) = false := by rw [decide_eq_false_iff_not]; omega
  have hq1 : N0 ≤ 4000 := q0.2
  have HQ0 := Lib.hid q0
  clear hv hl hm hn zs ps q0 hO0 hO1 hO2 hO3 hO4 hO5 hN0 hN1 hN2 hN3 hN4 hN5
  generalize hlen : bs.length = m at *
  have HM := Lib.hid hlen; clear hlen
  have siz := siz5
  go_enter Try.func4, Try.ntmps4
  go_wp2_with (first
    | (at_builtin; refine wpList_append_bts rfl (.tmp 27) (.tmp 28) rfl _ _ _ _ _ rfl rfl HO.out HB.out HL.out (by simp) ?_; rintro v5 w5 ⟨h6, h7, h8⟩; obtain ⟨a5, n5, c5, rfl⟩ := h6.bts.shape; have H6 := Lib.hid h6; have H7 := Lib.hid h7; clear h6 h7 h8)
    | (at_builtin; refine wpList_append_bts rfl (.tmp 29) (.tmp 30) rfl w.heap.size _ _ _ sevens rfl rfl (H6.out.new (World.grownBy_alloc w5 _ none)) (bts_lit sevens (heap_alloc_new w5 _) rfl rfl (by simp [sevens])) HL2.out (by have := H7.out.size; simp at *; omega) ?_; rintro v8 w8 ⟨h9, h10, h11⟩; obtain ⟨a8, n8, c8, rfl⟩ := h9.bts.shape; obtain ⟨gi, cur, rfl, x0, x1, _, x3, x4, _⟩ := Own.block h9 (by simp [sevens]); have H9 := Lib.hid h9; have H10 := Lib.hid h10; have X0 := Lib.hid x0; have X1 := Lib.hid x1; have X3 := Lib.hid x3; have X4 := Lib.hid x4; have y1 : m + 8 ≤ c8 := (by have := HM.out; rw [x0] at x3; simp [sevens] at x3; omega); have y2 : c8 ≤ 9223372036854775807 := (by unfold maxLen at x4; omega); clear h9 h10 h11 x0 x1 x3 x4))
  have G : Hid (w.grownBy w8 none) := Lib.hid (grown_own (World.grownBy.trans (grown_own (World.grownBy_alloc _ _ _) H7.out (fun m hm => by cases hm; exact Nat.le_refl _)) (World.grownBy_alloc _ _ _)) H10.out (fun m hm => (H6.out.lt m hm).1))
  have CUT := Lib.hid (own_cut H9.out X0.out X3.out X4.out)
  have BI : Hid (Bts w8 (.slice (some ⟨gi, 0, none⟩) m c8) bs) := Lib.hid (by have h := CUT.out.1; rw [List.nil_append, HM.out] at h; exact h)
  have C7 : Hid (∀ k, k < 8 → w8.cell? ⟨gi, m + k, none⟩ = some (.int .u8 7)) := Lib.hid (fun k hk => by
    have h := CUT.out.2 k (by simpa [sevens] using hk)
    rw [List.nil_append, HM.out] at h
    rw [h]
    match k, hk with
    | 0, _ => rfl
    | 1, _ => rfl
    | 2, _ => rfl
    | 3, _ => rfl
    | 4, _ => rfl
    | 5, _ => rfl
    | 6, _ => rfl
    | 7, _ => rfl)
  have HGI : Hid (gi < w8.heap.size) := Lib.hid (H9.out.lt gi rfl).2
  clear H6 H7 H9 H10 HO HB HL HL2 X0 X3 X4 CUT
  have GI : Hid (w8.grownBy w8 none) := Lib.hid (World.grownBy.refl _ _)
  go_wp2_with fail
  refine (WX0.out _ _ (BI.out.new GI.out)).mono ?_
  rintro e w10 ⟨a10, c10, rfl, hs, ho, hg⟩
  replace GI := Lib.hid (World.grownBy.trans GI.out hg)
  have B0 := Lib.hid ho.bts
  have OW := Lib.hid ho; have HGW : Hid (w8.heap.size ≤ w8.heap.size) := Lib.hid (Nat.le_refl _)
  clear hs ho hg
  go_wp2_with fail
  refine (WX1.out _ _ (BI.out.new GI.out)).mono ?_
  rintro e w11 ⟨a11, c11, rfl, hs, ho, hg⟩
  replace GI := Lib.hid (World.grownBy.trans GI.out hg)
  replace B0 := Lib.hid (B0.out.new hg)
  have B1 := Lib.hid ho.bts
  replace OW := Lib.hid (OW.out.new hg)
  clear hs ho hg
  go_wp2_with fail
  refine (WX2.out _ _ (BI.out.new GI.out)).mono ?_
  rintro e w12 ⟨a12, c12, rfl, hs, ho, hg⟩
  replace GI := Lib.hid (World.grownBy.trans GI.out hg)
  replace B0 := Lib.hid (B0.out.new hg)
  replace B1 := Lib.hid (B1.out.new hg)
  have B2 := Lib.hid ho.bts
  replace OW := Lib.hid (OW.out.new hg)
  clear hs ho hg
  go_wp2_with fail
  refine (WX3.out _ _ (BI.out.new GI.out)).mono ?_
  rintro e w13 ⟨a13, c13, rfl, hs, ho, hg⟩
  replace GI := Lib.hid (World.grownBy.trans GI.out hg)
  replace B0 := Lib.hid (B0.out.new hg)
  replace B1 := Lib.hid (B1.out.new hg)
  replace B2 := Lib.hid (B2.out.new hg)
  have B3 := Lib.hid ho.bts
  replace OW := Lib.hid (OW.out.new hg)
  clear hs ho hg
  go_wp2_with fail
  refine (WX4.out _ _ (BI.out.new GI.out)).mono ?_
  rintro e w14 ⟨a14, c14, rfl, hs, ho, hg⟩
  replace GI := Lib.hid (World.grownBy.trans GI.out hg)
  replace B0 := Lib.hid (B0.out.new hg)
  replace B1 := Lib.hid (B1.out.new hg)
  replace B2 := Lib.hid (B2.out.new hg)
  replace B3 := Lib.hid (B3.out.new hg)
  have B4 := Lib.hid ho.bts
  replace OW := Lib.hid (OW.out.new hg)
  clear hs ho hg
  go_wp2_with fail
  refine (WX5.out _ _ (BI.out.new GI.out)).mono ?_
  rintro e w15 ⟨a15, c15, rfl, hs, ho, hg⟩
  replace GI := Lib.hid (World.grownBy.trans GI.out hg)
  replace B0 := Lib.hid (B0.out.new hg)
  replace B1 := Lib.hid (B1.out.new hg)
  replace B2 := Lib.hid (B2.out.new hg)
  replace B3 := Lib.hid (B3.out.new hg)
  replace B4 := Lib.hid (B4.out.new hg)
  have B5 := Lib.hid ho.bts
  replace OW := Lib.hid (OW.out.new hg)
  clear hs ho hg
  go_wp2_with fail
  have KEEP : Hid (∀ w', w15.grownBy w' none → (w15.grownBy w' none ∧ (convert 23 9 (.slice a10 N0 c10)).run Try.prog w' = .ok (.string ⟨O0⟩) w' ∧ (convert 23 9 (.slice a11 N1 c11)).run Try.prog w' = .ok (.string ⟨O1⟩) w' ∧ (convert 23 9 (.slice a12 N2 c12)).run Try.prog w' = .ok (.string ⟨O2⟩) w' ∧ (convert 23 9 (.slice a13 N3 c13)).run Try.prog w' = .ok (.string ⟨O3⟩) w' ∧ (convert 23 9 (.slice a14 N4 c14)).run Try.prog w' = .ok (.string ⟨O4⟩) w' ∧ (convert 23 9 (.slice a15 N5 c15)).run Try.prog w' = .ok (.string ⟨O5⟩) w')) := Lib.hid (fun w' hg => ⟨hg, (B0.out.new hg).str und22 und5 und9, (B1.out.new hg).str und22 und5 und9, (B2.out.new hg).str und22 und5 und9, (B3.out.new hg).str und22 und5 und9, (B4.out.new hg).str und22 und5 und9, (B5.out.new hg).str und22 und5 und9⟩)
  have GALL := Lib.hid (World.grownBy.trans G.out GI.out)
  refine wp_region_noPanic ?_
  refine wp_region_held_drew (S := fun w' => w15.grownBy w' none ∧ (convert 23 9 (.slice a10 N0 c10)).run Try.prog w' = .ok (.string ⟨O0⟩) w' ∧ (convert 23 9 (.slice a11 N1 c11)).run Try.prog w' = .ok (.string ⟨O1⟩) w' ∧ (convert 23 9 (.slice a12 N2 c12)).run Try.prog w' = .ok (.string ⟨O2⟩) w' ∧ (convert 23 9 (.slice a13 N3 c13)).run Try.prog w' = .ok (.string ⟨O3⟩) w' ∧ (convert 23 9 (.slice a14 N4 c14)).run Try.prog w' = .ok (.string ⟨O4⟩) w' ∧ (convert 23 9 (.slice a15 N5 c15)).run Try.prog w' = .ok (.string ⟨O5⟩) w') (by kernel_rfl) (KEEP.out _ (drew_grown _ _)) (fun hHeld => ?_)
  have HG : Hid (w15.grownBy w15.drew none) := Lib.hid (drew_grown _ _)
  refine wpAnyH_take (i := 0) (v := ?_) (by simp only [List.getElem?_toArray, List.getElem?_cons_zero]; rfl) (by kernel_rfl) (by kernel_rfl) (by kernel_rfl) (fun _ _ _ h => h) (Or.inl ⟨by rfl, ?_⟩) (by assumption) ?_
  rotate_left 1
  · intro w hSw; (try dsimp only at hSw); go_simp; all_goals (with_reducible rfl)
  try simp only [Act.put, List.setIfInBounds_toArray, List.set_cons_zero, List.set_cons_succ]
  refine wpAnyH_take (i := 1) (v := ?_) (by simp only [List.getElem?_toArray, List.getElem?_cons_succ, List.getElem?_cons_zero]; rfl) (by kernel_rfl) (by kernel_rfl) (by kernel_rfl) (fun _ _ _ h => h) (Or.inl ⟨by rfl, ?_⟩) (by assumption) ?_
  rotate_left 1
  · intro w hSw; (try dsimp only at hSw); go_simp; all_goals (with_reducible rfl)
  try simp only [Act.put, List.setIfInBounds_toArray, List.set_cons_zero, List.set_cons_succ]
  refine wpAnyH_take (i := 2) (v := ?_) (by simp only [List.getElem?_toArray, List.getElem?_cons_succ, List.getElem?_cons_zero]; rfl) (by kernel_rfl) (by kernel_rfl) (by kernel_rfl) (fun _ _ _ h => h) (Or.inl ⟨by rfl, ?_⟩) (by assumption) ?_
  rotate_left 1
  · intro w hSw; (try dsimp only at hSw); go_simp; all_goals (with_reducible rfl)
  try simp only [Act.put, List.setIfInBounds_toArray, List.set_cons_zero, List.set_cons_succ]
  refine wpAnyH_take (i := 3) (v := ?_) (by simp only [List.getElem?_toArray, List.getElem?_cons_succ, List.getElem?_cons_zero]; rfl) (by kernel_rfl) (by kernel_rfl) (by kernel_rfl) (fun _ _ _ h => h) (Or.inl ⟨by rfl, ?_⟩) (by assumption) ?_
  rotate_left 1
  · intro w hSw; (try dsimp only at hSw); go_simp; all_goals (with_reducible rfl)
  try simp only [Act.put, List.setIfInBounds_toArray, List.set_cons_zero, List.set_cons_succ]
  refine wpAnyH_take (i := 4) (v := ?_) (by simp only [List.getElem?_toArray, List.getElem?_cons_succ, List.getElem?_cons_zero]; rfl) (by kernel_rfl) (by kernel_rfl) (by kernel_rfl) (fun _ _ _ h => h) (Or.inl ⟨by rfl, ?_⟩) (by assumption) ?_
  rotate_left 1
  · intro w hSw; (try dsimp only at hSw); go_simp; all_goals (with_reducible rfl)
  try simp only [Act.put, List.setIfInBounds_toArray, List.set_cons_zero, List.set_cons_succ]
  refine wpAnyH_ready (rs := [5]) (by kernel_rfl) (by simp) ?_
  refine AllReadyH.cons (by simp only [List.getElem?_toArray, List.getElem?_cons_succ, List.getElem?_cons_zero]; rfl) (fun K hK => ?_) AllReadyH.nil
  go_simp
  refine (WR0.out _ _ (HV.out.new (World.grownBy.trans GALL.out HG.out))).mono ?_
  rintro e w20 ⟨aq, cq, rfl, hsq, hoq, hgq⟩
  clear hHeld
  replace HG := Lib.hid (World.grownBy.trans HG.out hgq)
  clear hgq hoq
  go_wp2_with fail
  refine hK.out _ _ (KEEP.out w20 HG.out) (fun hHeld => ?_)
  clear hK K
  try simp only [Act.put, List.setIfInBounds_toArray, List.set_cons_zero, List.set_cons_succ]
  have HSQ := hsq
  refine wpAnyH_ready (rs := [6]) (by kernel_rfl) (by simp) ?_
  refine AllReadyH.cons (by simp only [List.getElem?_toArray, List.getElem?_cons_succ, List.getElem?_cons_zero]; rfl) (fun K hK => ?_) AllReadyH.nil
  go_simp
  refine hK.out _ _ (KEEP.out w20 HG.out) (fun hHeld => ?_)
  clear hK K
  try simp only [Act.put, List.setIfInBounds_toArray, List.set_cons_zero, List.set_cons_succ]
  clear HSQ hsq
  refine wpAnyH_take (i := 7) (v := ?_) (by simp only [List.getElem?_toArray, List.getElem?_cons_succ, List.getElem?_cons_zero]; rfl) (by kernel_rfl) (by kernel_rfl) (by kernel_rfl) (fun _ _ _ h => h) (Or.inl ⟨by rfl, ?_⟩) (by assumption) ?_
  rotate_left 1
  · intro w hSw; (try dsimp only at hSw); go_simp; all_goals (with_reducible rfl)
  try simp only [Act.put, List.setIfInBounds_toArray, List.set_cons_zero, List.set_cons_succ]
  refine wpAnyH_take (i := 8) (v := ?_) (by simp only [List.getElem?_toArray, List.getElem?_cons_succ, List.getElem?_cons_zero]; rfl) (by kernel_rfl) (by kernel_rfl) (by kernel_rfl) (fun _ _ _ h => h) (Or.inl ⟨by rfl, ?_⟩) (by assumption) ?_
  rotate_left 1
  · intro w hSw; (try dsimp only at hSw); go_simp; all_goals (with_reducible rfl)
  try simp only [Act.put, List.setIfInBounds_toArray, List.set_cons_zero, List.set_cons_succ]
  refine wpAnyH_take (i := 9) (v := ?_) (by simp only [List.getElem?_toArray, List.getElem?_cons_succ, List.getElem?_cons_zero]; rfl) (by kernel_rfl) (by kernel_rfl) (by kernel_rfl) (fun _ _ _ h => h) (Or.inl ⟨by rfl, ?_⟩) (by assumption) ?_
  rotate_left 1
  · intro w hSw; (try dsimp only at hSw); go_simp; all_goals (with_reducible rfl)
  try simp only [Act.put, List.setIfInBounds_toArray, List.set_cons_zero, List.set_cons_succ]
  refine wpAnyH_take (i := 10) (v := ?_) (by simp only [List.getElem?_toArray, List.getElem?_cons_succ, List.getElem?_cons_zero]; rfl) (by kernel_rfl) (by kernel_rfl) (by kernel_rfl) (fun _ _ _ h => h) (Or.inl ⟨by rfl, ?_⟩) (by assumption) ?_
  rotate_left 1
  · intro w hSw; (try dsimp only at hSw); go_simp; all_goals (with_reducible rfl)
  try simp only [Act.put, List.setIfInBounds_toArray, List.set_cons_zero, List.set_cons_succ]
  refine wpAnyH_take (i := 11) (v := ?_) (by simp only [List.getElem?_toArray, List.getElem?_cons_succ, List.getElem?_cons_zero]; rfl) (by kernel_rfl) (by kernel_rfl) (by kernel_rfl) (fun _ _ _ h => h) (Or.inl ⟨by rfl, ?_⟩) (by assumption) ?_
  rotate_left 1
  · intro w hSw; (try dsimp only at hSw); go_simp; all_goals (with_reducible rfl)
  try simp only [Act.put, List.setIfInBounds_toArray, List.set_cons_zero, List.set_cons_succ]
  refine wpAnyH_take (i := 12) (v := ?_) (by simp only [List.getElem?_toArray, List.getElem?_cons_succ, List.getElem?_cons_zero]; rfl) (by kernel_rfl) (by kernel_rfl) (by kernel_rfl) (fun _ _ _ h => h) (Or.inl ⟨by rfl, ?_⟩) (by assumption) ?_
  rotate_left 1
  · intro w hSw; (try dsimp only at hSw); go_simp; all_goals (with_reducible rfl)
  try simp only [Act.put, List.setIfInBounds_toArray, List.set_cons_zero, List.set_cons_succ]
  refine wpAnyH_ready (rs := [13]) (by kernel_rfl) (by simp) ?_
  refine AllReadyH.cons (by simp only [List.getElem?_toArray, List.getElem?_cons_succ, List.getElem?_cons_zero]; rfl) (fun K hK => ?_) AllReadyH.nil
  go_simp
  refine (WR1.out _ _ (HV.out.new (World.grownBy.trans GALL.out HG.out))).mono ?_
  rintro e w21 ⟨aq, cq, rfl, hsq, hoq, hgq⟩
  clear hHeld
  replace HG := Lib.hid (World.grownBy.trans HG.out hgq)
  clear hgq hoq
  go_wp2_with fail
  refine hK.out _ _ (KEEP.out w21 HG.out) (fun hHeld => ?_)
  clear hK K
  try simp only [Act.put, List.setIfInBounds_toArray, List.set_cons_zero, List.set_cons_succ]
  have HSQ := hsq
  refine wpAnyH_ready (rs := [14]) (by kernel_rfl) (by simp) ?_
  refine AllReadyH.cons (by simp only [List.getElem?_toArray, List.getElem?_cons_succ, List.getElem?_cons_zero]; rfl) (fun K hK => ?_) AllReadyH.nil
  go_simp
  refine hK.out _ _ (KEEP.out w21 HG.out) (fun hHeld => ?_)
  clear hK K
  try simp only [Act.put, List.setIfInBounds_toArray, List.set_cons_zero, List.set_cons_succ]
  clear HSQ hsq
  refine wpAnyH_take (i := 15) (v := ?_) (by simp only [List.getElem?_toArray, List.getElem?_cons_succ, List.getElem?_cons_zero]; rfl) (by kernel_rfl) (by kernel_rfl) (by kernel_rfl) (fun _ _ _ h => h) (Or.inl ⟨by rfl, ?_⟩) (by assumption) ?_
  rotate_left 1
  · intro w hSw; (try dsimp only at hSw); go_simp; all_goals (with_reducible rfl)
  try simp only [Act.put, List.setIfInBounds_toArray, List.set_cons_zero, List.set_cons_succ]
  refine wpAnyH_take (i := 16) (v := ?_) (by simp only [List.getElem?_toArray, List.getElem?_cons_succ, List.getElem?_cons_zero]; rfl) (by kernel_rfl) (by kernel_rfl) (by kernel_rfl) (fun _ _ _ h => h) (Or.inl ⟨by rfl, ?_⟩) (by assumption) ?_
  rotate_left 1
  · intro w hSw; (try dsimp only at hSw); go_simp; all_goals (with_reducible rfl)
  try simp only [Act.put, List.setIfInBounds_toArray, List.set_cons_zero, List.set_cons_succ]
  refine wpAnyH_take (i := 17) (v := ?_) (by simp only [List.getElem?_toArray, List.getElem?_cons_succ, List.getElem?_cons_zero]; rfl) (by kernel_rfl) (by kernel_rfl) (by kernel_rfl) (fun _ _ _ h => h) (Or.inl ⟨by rfl, ?_⟩) (by assumption) ?_
  rotate_left 1
  · intro w hSw; (try dsimp only at hSw); go_simp; all_goals (with_reducible rfl)
  try simp only [Act.put, List.setIfInBounds_toArray, List.set_cons_zero, List.set_cons_succ]
  refine wpAnyH_take (i := 18) (v := ?_) (by simp only [List.getElem?_toArray, List.getElem?_cons_succ, List.getElem?_cons_zero]; rfl) (by kernel_rfl) (by kernel_rfl) (by kernel_rfl) (fun _ _ _ h => h) (Or.inl ⟨by rfl, ?_⟩) (by assumption) ?_
  rotate_left 1
  · intro w hSw; (try dsimp only at hSw); go_simp; all_goals (with_reducible rfl)
  try simp only [Act.put, List.setIfInBounds_toArray, List.set_cons_zero, List.set_cons_succ]
  refine wpAnyH_take (i := 19) (v := ?_) (by simp only [List.getElem?_toArray, List.getElem?_cons_succ, List.getElem?_cons_zero]; rfl) (by kernel_rfl) (by kernel_rfl) (by kernel_rfl) (fun _ _ _ h => h) (Or.inl ⟨by rfl, ?_⟩) (by assumption) ?_
  rotate_left 1
  · intro w hSw; (try dsimp only at hSw); go_simp; all_goals (with_reducible rfl)
  try simp only [Act.put, List.setIfInBounds_toArray, List.set_cons_zero, List.set_cons_succ]
  refine wpAnyH_take (i := 20) (v := ?_) (by simp only [List.getElem?_toArray, List.getElem?_cons_succ, List.getElem?_cons_zero]; rfl) (by kernel_rfl) (by kernel_rfl) (by kernel_rfl) (fun _ _ _ h => h) (Or.inl ⟨by rfl, ?_⟩) (by assumption) ?_
  rotate_left 1
  · intro w hSw; (try dsimp only at hSw); go_simp; all_goals (with_reducible rfl)
  try simp only [Act.put, List.setIfInBounds_toArray, List.set_cons_zero, List.set_cons_succ]
  refine wpAnyH_take (i := 21) (v := ?_) (by simp only [List.getElem?_toArray, List.getElem?_cons_succ, List.getElem?_cons_zero]; rfl) (by kernel_rfl) (by kernel_rfl) (by kernel_rfl) (fun _ _ _ h => h) (Or.inl ⟨by rfl, ?_⟩) (by assumption) ?_
  rotate_left 1
  · intro w hSw; (try dsimp only at hSw); go_simp; all_goals (with_reducible rfl)
  try simp only [Act.put, List.setIfInBounds_toArray, List.set_cons_zero, List.set_cons_succ]
  refine wpAnyH_take (i := 22) (v := ?_) (by simp only [List.getElem?_toArray, List.getElem?_cons_succ, List.getElem?_cons_zero]; rfl) (by kernel_rfl) (by kernel_rfl) (by kernel_rfl) (fun _ _ _ h => h) (Or.inl ⟨by rfl, ?_⟩) (by assumption) ?_
  rotate_left 1
  · intro w hSw; (try dsimp only at hSw); go_simp; all_goals (with_reducible rfl)
  try simp only [Act.put, List.setIfInBounds_toArray, List.set_cons_zero, List.set_cons_succ]
  refine wpAnyH_ready (rs := [23]) (by kernel_rfl) (by simp) ?_
  refine AllReadyH.cons (by simp only [List.getElem?_toArray, List.getElem?_cons_succ, List.getElem?_cons_zero]; rfl) (fun K hK => ?_) AllReadyH.nil
  go_simp
  rw [show IntKind.i64.wrap (n : Int) = wrap64 (n : Int) by rw [IntKind.wrap_i64]; unfold wrap64; omega]
  refine (WR2.out _ _ (HV.out.new (World.grownBy.trans GALL.out HG.out))).mono ?_
  rintro e w22 ⟨aq, cq, rfl, hsq, hoq, hgq⟩
  clear hHeld
  replace HG := Lib.hid (World.grownBy.trans HG.out hgq)
  clear hgq hoq
  go_wp2_with fail
  refine hK.out _ _ (KEEP.out w22 HG.out) (fun hHeld => ?_)
  clear hK K
  try simp only [Act.put, List.setIfInBounds_toArray, List.set_cons_zero, List.set_cons_succ]
  have HSQ := hsq
  refine wpAnyH_ready (rs := [24]) (by kernel_rfl) (by simp) ?_
  refine AllReadyH.cons (by simp only [List.getElem?_toArray, List.getElem?_cons_succ, List.getElem?_cons_zero]; rfl) (fun K hK => ?_) AllReadyH.nil
  go_simp
  refine hK.out _ _ (KEEP.out w22 HG.out) (fun hHeld => ?_)
  clear hK K
  try simp only [Act.put, List.setIfInBounds_toArray, List.set_cons_zero, List.set_cons_succ]
  clear HSQ hsq
  refine wpAnyH_take (i := 25) (v := ?_) (by simp only [List.getElem?_toArray, List.getElem?_cons_succ, List.getElem?_cons_zero]; rfl) (by kernel_rfl) (by kernel_rfl) (by kernel_rfl) (fun _ _ _ h => h) (Or.inl ⟨by rfl, ?_⟩) (by assumption) ?_
  rotate_left 1
  · intro w hSw; (try dsimp only at hSw); go_simp; all_goals (with_reducible rfl)
  try simp only [Act.put, List.setIfInBounds_toArray, List.set_cons_zero, List.set_cons_succ]
  refine wpAnyH_take (i := 26) (v := ?_) (by simp only [List.getElem?_toArray, List.getElem?_cons_succ, List.getElem?_cons_zero]; rfl) (by kernel_rfl) (by kernel_rfl) (by kernel_rfl) (fun _ _ _ h => h) (Or.inl ⟨by rfl, ?_⟩) (by assumption) ?_
  rotate_left 1
  · intro w hSw; (try dsimp only at hSw); go_simp; all_goals (with_reducible rfl)
  try simp only [Act.put, List.setIfInBounds_toArray, List.set_cons_zero, List.set_cons_succ]
  refine wpAnyH_take (i := 27) (v := ?_) (by simp only [List.getElem?_toArray, List.getElem?_cons_succ, List.getElem?_cons_zero]; rfl) (by kernel_rfl) (by kernel_rfl) (by kernel_rfl) (fun _ _ _ h => h) (Or.inl ⟨by rfl, ?_⟩) (by assumption) ?_
  rotate_left 1
  · intro w hSw; (try dsimp only at hSw); go_simp; all_goals (with_reducible rfl)
  try simp only [Act.put, List.setIfInBounds_toArray, List.set_cons_zero, List.set_cons_succ]
  refine wpAnyH_take (i := 28) (v := ?_) (by simp only [List.getElem?_toArray, List.getElem?_cons_succ, List.getElem?_cons_zero]; rfl) (by kernel_rfl) (by kernel_rfl) (by kernel_rfl) (fun _ _ _ h => h) (Or.inl ⟨by rfl, ?_⟩) (by assumption) ?_
  rotate_left 1
  · intro w hSw; (try dsimp only at hSw); go_simp; all_goals (with_reducible rfl)
  try simp only [Act.put, List.setIfInBounds_toArray, List.set_cons_zero, List.set_cons_succ]
  refine wpAnyH_take (i := 29) (v := ?_) (by simp only [List.getElem?_toArray, List.getElem?_cons_succ, List.getElem?_cons_zero]; rfl) (by kernel_rfl) (by kernel_rfl) (by kernel_rfl) (fun _ _ _ h => h) (Or.inl ⟨by rfl, ?_⟩) (by assumption) ?_
  rotate_left 1
  · intro w hSw; (try dsimp only at hSw); go_simp; all_goals (with_reducible rfl)
  try simp only [Act.put, List.setIfInBounds_toArray, List.set_cons_zero, List.set_cons_succ]
  refine wpAnyH_take (i := 30) (v := ?_) (by simp only [List.getElem?_toArray, List.getElem?_cons_succ, List.getElem?_cons_zero]; rfl) (by kernel_rfl) (by kernel_rfl) (by kernel_rfl) (fun _ _ _ h => h) (Or.inl ⟨by rfl, ?_⟩) (by assumption) ?_
  rotate_left 1
  · intro w hSw; (try dsimp only at hSw); go_simp; all_goals (with_reducible rfl)
  try simp only [Act.put, List.setIfInBounds_toArray, List.set_cons_zero, List.set_cons_succ]
  refine wpAnyH_take (i := 31) (v := ?_) (by simp only [List.getElem?_toArray, List.getElem?_cons_succ, List.getElem?_cons_zero]; rfl) (by kernel_rfl) (by kernel_rfl) (by kernel_rfl) (fun _ _ _ h => h) (Or.inl ⟨by rfl, ?_⟩) (by assumption) ?_
  rotate_left 1
  · intro w hSw; (try dsimp only at hSw); go_simp; all_goals (with_reducible rfl)
  try simp only [Act.put, List.setIfInBounds_toArray, List.set_cons_zero, List.set_cons_succ]
  refine wpAnyH_ready (rs := [32]) (by kernel_rfl) (by simp) ?_
  refine AllReadyH.cons (by simp only [List.getElem?_toArray, List.getElem?_cons_succ, List.getElem?_cons_zero]; rfl) (fun K hK => ?_) AllReadyH.nil
  go_simp
  refine (WR3.out _ _ (HV.out.new (World.grownBy.trans GALL.out HG.out))).mono ?_
  rintro e w23 ⟨aq, cq, rfl, hsq, hoq, hgq⟩
  clear hHeld
  replace HG := Lib.hid (World.grownBy.trans HG.out hgq)
  clear hgq hoq
  go_wp2_with fail
  refine hK.out _ _ (KEEP.out w23 HG.out) (fun hHeld => ?_)
  clear hK K
  try simp only [Act.put, List.setIfInBounds_toArray, List.set_cons_zero, List.set_cons_succ]
  have HSQ := hsq
  refine wpAnyH_ready (rs := [33]) (by kernel_rfl) (by simp) ?_
  refine AllReadyH.cons (by simp only [List.getElem?_toArray, List.getElem?_cons_succ, List.getElem?_cons_zero]; rfl) (fun K hK => ?_) AllReadyH.nil
  go_simp
  refine hK.out _ _ (KEEP.out w23 HG.out) (fun hHeld => ?_)
  clear hK K
  try simp only [Act.put, List.setIfInBounds_toArray, List.set_cons_zero, List.set_cons_succ]
  clear HSQ hsq
  refine wpAnyH_take (i := 34) (v := ?_) (by simp only [List.getElem?_toArray, List.getElem?_cons_succ, List.getElem?_cons_zero]; rfl) (by kernel_rfl) (by kernel_rfl) (by kernel_rfl) (fun _ _ _ h => h) (Or.inl ⟨by rfl, ?_⟩) (by assumption) ?_
  rotate_left 1
  · intro w hSw; (try dsimp only at hSw); go_simp; all_goals (with_reducible rfl)
  try simp only [Act.put, List.setIfInBounds_toArray, List.set_cons_zero, List.set_cons_succ]
  refine wpAnyH_take (i := 35) (v := ?_) (by simp only [List.getElem?_toArray, List.getElem?_cons_succ, List.getElem?_cons_zero]; rfl) (by kernel_rfl) (by kernel_rfl) (by kernel_rfl) (fun _ _ _ h => h) (Or.inl ⟨by rfl, ?_⟩) (by assumption) ?_
  rotate_left 1
  · intro w hSw; (try dsimp only at hSw); go_simp; all_goals (with_reducible rfl)
  try simp only [Act.put, List.setIfInBounds_toArray, List.set_cons_zero, List.set_cons_succ]
  refine wpAnyH_take (i := 36) (v := ?_) (by simp only [List.getElem?_toArray, List.getElem?_cons_succ, List.getElem?_cons_zero]; rfl) (by kernel_rfl) (by kernel_rfl) (by kernel_rfl) (fun _ _ _ h => h) (Or.inl ⟨by rfl, ?_⟩) (by assumption) ?_
  rotate_left 1
  · intro w hSw; (try dsimp only at hSw); go_simp; all_goals (with_reducible rfl)
  try simp only [Act.put, List.setIfInBounds_toArray, List.set_cons_zero, List.set_cons_succ]
  refine wpAnyH_take (i := 37) (v := ?_) (by simp only [List.getElem?_toArray, List.getElem?_cons_succ, List.getElem?_cons_zero]; rfl) (by kernel_rfl) (by kernel_rfl) (by kernel_rfl) (fun _ _ _ h => h) (Or.inl ⟨by rfl, ?_⟩) (by assumption) ?_
  rotate_left 1
  · intro w hSw; (try dsimp only at hSw); go_simp; all_goals (with_reducible rfl)
  try simp only [Act.put, List.setIfInBounds_toArray, List.set_cons_zero, List.set_cons_succ]
  refine wpAnyH_take (i := 38) (v := ?_) (by simp only [List.getElem?_toArray, List.getElem?_cons_succ, List.getElem?_cons_zero]; rfl) (by kernel_rfl) (by kernel_rfl) (by kernel_rfl) (fun _ _ _ h => h) (Or.inl ⟨by rfl, ?_⟩) (by assumption) ?_
  rotate_left 1
  · intro w hSw; (try dsimp only at hSw); go_simp; all_goals (with_reducible rfl)
  try simp only [Act.put, List.setIfInBounds_toArray, List.set_cons_zero, List.set_cons_succ]
  refine wpAnyH_take (i := 39) (v := ?_) (by simp only [List.getElem?_toArray, List.getElem?_cons_succ, List.getElem?_cons_zero]; rfl) (by kernel_rfl) (by kernel_rfl) (by kernel_rfl) (fun _ _ _ h => h) (Or.inl ⟨by rfl, ?_⟩) (by assumption) ?_
  rotate_left 1
  · intro w hSw; (try dsimp only at hSw); go_simp; all_goals (with_reducible rfl)
  try simp only [Act.put, List.setIfInBounds_toArray, List.set_cons_zero, List.set_cons_succ]
  refine wpAnyH_take (i := 40) (v := ?_) (by simp only [List.getElem?_toArray, List.getElem?_cons_succ, List.getElem?_cons_zero]; rfl) (by kernel_rfl) (by kernel_rfl) (by kernel_rfl) (fun _ _ _ h => h) (Or.inl ⟨by rfl, ?_⟩) (by assumption) ?_
  rotate_left 1
  · intro w hSw; (try dsimp only at hSw); go_simp; all_goals (with_reducible rfl)
  try simp only [Act.put, List.setIfInBounds_toArray, List.set_cons_zero, List.set_cons_succ]
  refine wpAnyH_ready (rs := [41]) (by kernel_rfl) (by simp) ?_
  refine AllReadyH.cons (by simp only [List.getElem?_toArray, List.getElem?_cons_succ, List.getElem?_cons_zero]; rfl) (fun K hK => ?_) AllReadyH.nil
  go_simp
  refine (WR4.out _ _ (HV.out.new (World.grownBy.trans GALL.out HG.out))).mono ?_
  rintro e w24 ⟨aq, cq, rfl, hsq, hoq, hgq⟩
  clear hHeld
  replace HG := Lib.hid (World.grownBy.trans HG.out hgq)
  clear hgq hoq
  go_wp2_with fail
  refine hK.out _ _ (KEEP.out w24 HG.out) (fun hHeld => ?_)
  clear hK K
  try simp only [Act.put, List.setIfInBounds_toArray, List.set_cons_zero, List.set_cons_succ]
  have HSQ := hsq
  refine wpAnyH_ready (rs := [42]) (by kernel_rfl) (by simp) ?_
  refine AllReadyH.cons (by simp only [List.getElem?_toArray, List.getElem?_cons_succ, List.getElem?_cons_zero]; rfl) (fun K hK => ?_) AllReadyH.nil
  go_simp
  refine hK.out _ _ (KEEP.out w24 HG.out) (fun hHeld => ?_)
  clear hK K
  try simp only [Act.put, List.setIfInBounds_toArray, List.set_cons_zero, List.set_cons_succ]
  clear HSQ hsq
  refine wpAnyH_take (i := 43) (v := ?_) (by simp only [List.getElem?_toArray, List.getElem?_cons_succ, List.getElem?_cons_zero]; rfl) (by kernel_rfl) (by kernel_rfl) (by kernel_rfl) (fun _ _ _ h => h) (Or.inl ⟨by rfl, ?_⟩) (by assumption) ?_
  rotate_left 1
  · intro w hSw; (try dsimp only at hSw); go_simp; all_goals (with_reducible rfl)
  try simp only [Act.put, List.setIfInBounds_toArray, List.set_cons_zero, List.set_cons_succ]
  refine wpAnyH_take (i := 44) (v := ?_) (by simp only [List.getElem?_toArray, List.getElem?_cons_succ, List.getElem?_cons_zero]; rfl) (by kernel_rfl) (by kernel_rfl) (by kernel_rfl) (fun _ _ _ h => h) (Or.inl ⟨by rfl, ?_⟩) (by assumption) ?_
  rotate_left 1
  · intro w hSw; (try dsimp only at hSw); go_simp; all_goals (with_reducible rfl)
  try simp only [Act.put, List.setIfInBounds_toArray, List.set_cons_zero, List.set_cons_succ]
  refine wpAnyH_take (i := 45) (v := ?_) (by simp only [List.getElem?_toArray, List.getElem?_cons_succ, List.getElem?_cons_zero]; rfl) (by kernel_rfl) (by kernel_rfl) (by kernel_rfl) (fun _ _ _ h => h) (Or.inl ⟨by rfl, ?_⟩) (by assumption) ?_
  rotate_left 1
  · intro w hSw; (try dsimp only at hSw); go_simp; all_goals (with_reducible rfl)
  try simp only [Act.put, List.setIfInBounds_toArray, List.set_cons_zero, List.set_cons_succ]
  refine wpAnyH_take (i := 46) (v := ?_) (by simp only [List.getElem?_toArray, List.getElem?_cons_succ, List.getElem?_cons_zero]; rfl) (by kernel_rfl) (by kernel_rfl) (by kernel_rfl) (fun _ _ _ h => h) (Or.inl ⟨by rfl, ?_⟩) (by assumption) ?_
  rotate_left 1
  · intro w hSw; (try dsimp only at hSw); go_simp; all_goals (with_reducible rfl)
  try simp only [Act.put, List.setIfInBounds_toArray, List.set_cons_zero, List.set_cons_succ]
  refine wpAnyH_take (i := 47) (v := ?_) (by simp only [List.getElem?_toArray, List.getElem?_cons_succ, List.getElem?_cons_zero]; rfl) (by kernel_rfl) (by kernel_rfl) (by kernel_rfl) (fun _ _ _ h => h) (Or.inl ⟨by rfl, ?_⟩) (by assumption) ?_
  rotate_left 1
  · intro w hSw; (try dsimp only at hSw); go_simp; all_goals (with_reducible rfl)
  try simp only [Act.put, List.setIfInBounds_toArray, List.set_cons_zero, List.set_cons_succ]
  refine wpAnyH_take (i := 48) (v := ?_) (by simp only [List.getElem?_toArray, List.getElem?_cons_succ, List.getElem?_cons_zero]; rfl) (by kernel_rfl) (by kernel_rfl) (by kernel_rfl) (fun _ _ _ h => h) (Or.inl ⟨by rfl, ?_⟩) (by assumption) ?_
  rotate_left 1
  · intro w hSw; (try dsimp only at hSw); go_simp; all_goals (with_reducible rfl)
  try simp only [Act.put, List.setIfInBounds_toArray, List.set_cons_zero, List.set_cons_succ]
  refine wpAnyH_take (i := 49) (v := ?_) (by simp only [List.getElem?_toArray, List.getElem?_cons_succ, List.getElem?_cons_zero]; rfl) (by kernel_rfl) (by kernel_rfl) (by kernel_rfl) (fun _ _ _ h => h) (Or.inl ⟨by rfl, ?_⟩) (by assumption) ?_
  rotate_left 1
  · intro w hSw; (try dsimp only at hSw); go_simp; all_goals (with_reducible rfl)
  try simp only [Act.put, List.setIfInBounds_toArray, List.set_cons_zero, List.set_cons_succ]
  refine wpAnyH_ready (rs := [50]) (by kernel_rfl) (by simp) ?_
  refine AllReadyH.cons (by simp only [List.getElem?_toArray, List.getElem?_cons_succ, List.getElem?_cons_zero]; rfl) (fun K hK => ?_) AllReadyH.nil
  go_simp
  refine (WR5.out _ _ (HV.out.new (World.grownBy.trans GALL.out HG.out))).mono ?_
  rintro e w25 ⟨aq, cq, rfl, hsq, hoq, hgq⟩
  clear hHeld
  replace HG := Lib.hid (World.grownBy.trans HG.out hgq)
  clear hgq hoq
  go_wp2_with fail
  refine hK.out _ _ (KEEP.out w25 HG.out) (fun hHeld => ?_)
  clear hK K
  try simp only [Act.put, List.setIfInBounds_toArray, List.set_cons_zero, List.set_cons_succ]
  have HSQ := hsq
  refine wpAnyH_ready (rs := [51]) (by kernel_rfl) (by simp) ?_
  refine AllReadyH.cons (by simp only [List.getElem?_toArray, List.getElem?_cons_succ, List.getElem?_cons_zero]; rfl) (fun K hK => ?_) AllReadyH.nil
  go_simp
  refine hK.out _ _ (KEEP.out w25 HG.out) (fun hHeld => ?_)
  clear hK K
  try simp only [Act.put, List.setIfInBounds_toArray, List.set_cons_zero, List.set_cons_succ]
  clear HSQ hsq
  refine wpAnyH_take (i := 52) (v := ?_) (by simp only [List.getElem?_toArray, List.getElem?_cons_succ, List.getElem?_cons_zero]; rfl) (by kernel_rfl) (by kernel_rfl) (by kernel_rfl) (fun _ _ _ h => h) (Or.inl ⟨by rfl, ?_⟩) (by assumption) ?_
  rotate_left 1
  · intro w hSw; (try dsimp only at hSw); go_simp; all_goals (with_reducible rfl)
  try simp only [Act.put, List.setIfInBounds_toArray, List.set_cons_zero, List.set_cons_succ]
  refine wpAnyH_take (i := 53) (v := ?_) (by simp only [List.getElem?_toArray, List.getElem?_cons_succ, List.getElem?_cons_zero]; rfl) (by kernel_rfl) (by kernel_rfl) (by kernel_rfl) (fun _ _ _ h => h) (Or.inl ⟨by rfl, ?_⟩) (by assumption) ?_
  rotate_left 1
  · intro w hSw; (try dsimp only at hSw); go_simp; all_goals (with_reducible rfl)
  try simp only [Act.put, List.setIfInBounds_toArray, List.set_cons_zero, List.set_cons_succ]
  refine wpAnyH_take (i := 54) (v := ?_) (by simp only [List.getElem?_toArray, List.getElem?_cons_succ, List.getElem?_cons_zero]; rfl) (by kernel_rfl) (by kernel_rfl) (by kernel_rfl) (fun _ _ _ h => h) (Or.inl ⟨by rfl, ?_⟩) (by assumption) ?_
  rotate_left 1
  · intro w hSw; (try dsimp only at hSw); go_simp; all_goals (with_reducible rfl)
  try simp only [Act.put, List.setIfInBounds_toArray, List.set_cons_zero, List.set_cons_succ]
  refine wpAnyH_done (by kernel_rfl) ?_ _
  refine NoPanic.normal ?_
  have OWN := OW.out.new HG.out
  have e0 := HO0.out
  have q0 := HQ0.out
  obtain ⟨gw, cw, rfl, x0, x1, x2, x3, x4, x5⟩ := Own.block OWN (by rw [← e0]; exact q0.1)
  have BIF : Hid (Bts w25 (.slice (some ⟨gi, 0, none⟩) m c8) bs) := Lib.hid ((BI.out.new GI.out).new HG.out)
  have C7F : Hid (∀ k, k < 8 → w25.cell? ⟨gi, m + k, none⟩ = some (.int .u8 7)) := Lib.hid (fun k hk => HG.out.cell (GI.out.cell (C7.out k hk) (by simp)) (by simp))
  have GF : Hid (w.grownBy w25 none) := Lib.hid (World.grownBy.trans GALL.out HG.out)
  have HNE : Hid (gi < gw ∧ w.heap.size ≤ gw) := Lib.hid (by
    have h1 := HGI.out
    have h2 := G.out.size
    exact ⟨by omega, by omega⟩)
  have X2 := Lib.hid x2; have X5 := Lib.hid x5
  have x4' : c10 ≤ 9223372036854775807 := by unfold maxLen at x4; exact x4
  clear OWN OW B0 B1 B2 B3 B4 B5 KEEP HG GI G BI C7 hHeld x0 x1 x2 x4 x5 e0 q0
  go_wp2_with fail
  go_loopw [17] (fun i w' => ∃ j : Nat, j ≤ N0 ∧ i = .int .i64 j ∧ w25.grownBy w' (some gw) ∧ ∃ cur : Array Value, w'.heap[gw]? = some (.cells cur 5 (0, 0)) ∧ cur.size = c10) (fun i w' => N0 - (intOf i).toNat)
  case atStart => exact ⟨0, Nat.zero_le _, rfl, World.grownBy.refl _ _, cw, X2.out, X5.out⟩
  case round =>
    clear X2 X5
    obtain ⟨j, hj, rfl, hgw, cur, hcur, hsz⟩ := hrel
    have GW := Lib.hid hgw
    have HCUR := Lib.hid hcur
    have HSZ := Lib.hid hsz
    clear hgw hsz
    by_cases hlt : j < N0
    · have hx : ∃ x, wr.cell? ⟨gw, j, none⟩ = some x := ⟨cur[j]'(by have := HSZ.out; omega), by simp [World.cell?, hcur, Array.getElem?_eq_getElem (show j < cur.size by have := HSZ.out; omega)]⟩
      obtain ⟨x, hx⟩ := hx
      have hf : wr.frozen? ⟨gw, j, none⟩ = false := by simp [World.frozen?, hcur]
      have HB2 : Hid ((wr.setCell ⟨gw, j, none⟩ (.int .u8 9)).heap[gw]? = some (.cells (cur.set! j (.int .u8 9)) 5 (0, 0))) := Lib.hid (by simp [World.setCell, Array.getElem?_modify, hcur])
      clear hcur
      go_wp2_with fail
      go_roundw
      case rel => exact ⟨j + 1, by omega, by go_num, Lib.grownBy_setB GW.out _ _, _, HB2.out, by have := HSZ.out; simp; omega⟩
      case measure => simp [intOf]; omega
    · obtain rfl : N0 = j := by omega
      clear hlt hcur HCUR HSZ
      go_wp2_with fail
      obtain ⟨w30, rfl⟩ : ∃ wo : World, wo = wr := ⟨_, rfl⟩
      go_loop [16, 18] (fun b i => b = .bool true ∧ ∃ j : Nat, j ≤ 8 ∧ i = .int .i64 j) (fun _ i => 8 - (intOf i).toNat)
      case atStart => exact ⟨rfl, 0, by omega, rfl⟩
      case round =>
        obtain ⟨rfl, j, hj, rfl⟩ := hrel
        by_cases hlt : j < 8
        · have hc := GW.out.cell (C7F.out j hlt) (by have := HNE.out.1; simp; omega)
          go_wp2_with fail
          go_round
          case rel => exact ⟨rfl, j + 1, by omega, by go_num⟩
          case measure => simp [intOf]; omega
        · obtain rfl : j = 8 := by omega
          clear hlt
          have hs1 := (BIF.out.kept GW.out (.inr (by have := HNE.out.1; simp [Value.ownBlock]; omega))).str und22 und5 und9
          have hs2 := (HV.out.old (Nat.le_refl _) (World.grownBy.trans (grownBy_none GF.out (some gw)) GW.out) (fun k hk => by cases hk; exact HNE.out.2)).str und22 und5 und9
          have HF := Lib.hid (grown_own GF.out GW.out (fun k hk => by cases hk; exact HNE.out.2))
          clear GW GF
          go_wp2_with fail
          go_ret
          exact ⟨rfl, HF.out⟩

theorem writes_walk (v : Value) (bs : List UInt8) (n : Int) (hn : (Lit.int .u64 n).wf = true) (b : Bool) (s : ByteArray) (_hs : s.size ≤ maxLen) (w : World) (hv : Bts w v bs) :
    Calls Try.prog 4 #[v, .int .u64 n, .bool b, .string s] w fun e w' => e = .returned (.bool true) ∧ w.grownBy w' none := by
  have h : 0 ≤ n ∧ n < 18446744073709551616 := by
    simp [Lit.wf, IntKind.min, IntKind.max, IntKind.signed, IntKind.bits] at hn
    omega
  obtain ⟨k, rfl⟩ := Int.eq_ofNat_of_zero_le h.1
  by_cases hl : 3000 < bs.length ∨ 3000 < s.size
  · exact writes_long v bs k b s w hv hl
  · exact writes_main v bs k b s w hv (by omega) (by omega) (by omega)
end Go.Proofs.Ytdjapbgilcainaa
