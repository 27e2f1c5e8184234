/- Results as words: an Attr read. -/
import Derived.Test.YtpklgcinijlmmaaArgR
namespace Go.Proofs.Ytpklgcinijlmmaa
open Go.RowKit

def rAt (s : St) : At × St :=
  (⟨min (rWord s).1 99, (rInt (rWord s).2).1, (rInt (rInt (rWord s).2).2).1, (rInt (rInt (rInt (rWord s).2).2).2).1, (rInt (rInt (rInt (rInt (rWord s).2).2).2).2).1, (rInt (rInt (rInt (rInt (rInt (rWord s).2).2).2).2).2).1, (rInt (rInt (rInt (rInt (rInt (rInt (rWord s).2).2).2).2).2).2).1, (rInt (rInt (rInt (rInt (rInt (rInt (rInt (rWord s).2).2).2).2).2).2).2).1⟩, (rInt (rInt (rInt (rInt (rInt (rInt (rInt (rWord s).2).2).2).2).2).2).2).2)

/-- As RK, but the reader was there. -/
def RQ (W w : World) (R H r : Nat) (g : Option Nat) (t : TypeId) (zs xs : Array Value) (s : St) : Prop :=
  Blk w R t zs ∧ Blk w H t xs ∧ RRdrS w r g s ∧ W.grownBy w (some r) ∧ (W.heap.size ≤ R ∧ W.heap.size ≤ H) ∧ (R ≠ r ∧ H ≠ r ∧ R ≠ H ∧ g ≠ some H ∧ g ≠ some R)
section
variable {W w w' : World} {R H r : Nat} {g : Option Nat} {t : TypeId} {zs xs : Array Value} {s s' : St}
theorem RQ.rdr (h : RQ W w R H r g t zs xs s) : RRdrS w r g s := h.2.2.1
theorem RQ.grown (h : RQ W w R H r g t zs xs s) : W.grownBy w (some r) := h.2.2.2.1
theorem RQ.res (h : RQ W w R H r g t zs xs s) : Blk w R t zs := h.1
theorem RQ.var (h : RQ W w R H r g t zs xs s) : Blk w H t xs := h.2.1
theorem RQ.le (h : RQ W w R H r g t zs xs s) : W.heap.size ≤ R := h.2.2.2.2.1.1
theorem RQ.ne (h : RQ W w R H r g t zs xs s) : R ≠ r ∧ g ≠ some R := ⟨h.2.2.2.2.2.1, h.2.2.2.2.2.2.2.2.2⟩
theorem RQ.next (h : RQ W w R H r g t zs xs s) (k2 : RRdrS w' r g s') (k3 : w.grownBy w' (some r)) : RQ W w' R H r g t zs xs s' := by
  obtain ⟨h1, h2, h3, h4, h5, h6⟩ := h
  exact ⟨h1.kept k3 (by simpa using h6.1), h2.kept k3 (by simpa using h6.2.1), k2, World.grownBy.trans h4 k3, h5, h6⟩
theorem RQ.set (h : RQ W w R H r g t zs xs s) (i : Nat) (u : Value) : RQ W (w.setCell ⟨H, i, none⟩ u) R H r g t zs (xs.setIfInBounds i u) s := by
  obtain ⟨h1, h2, h3, h4, h5, h6⟩ := h
  have hg : w.grownBy (w.setCell ⟨H, i, none⟩ u) (some H) := Lib.grownBy_setB (World.grownBy.refl _ _) _ _
  exact ⟨h1.kept hg (by simpa using h6.2.2.1), h2.set i u, h3.kept hg (by simpa using h6.2.1) (.inr h6.2.2.2.1), grown_row h4 hg h5.2, h5, h6⟩
end

theorem rWord_none' : rWord none = (0, none) := rfl

set_option maxRecDepth 20000 in
set_option maxHeartbeats 8000000 in
theorem attr_s (r : Nat) (g : Option Nat) (s : St) (w : World) (hr : RRdrS w r g s) (hgk : ∀ k, g = some k → k < w.heap.size) :
    Calls Try.prog 62 #[.pointer (some ⟨r, 0, none⟩)] w fun e w' => e = .returned (.agg (atC (rAt s).1)) ∧ RRdrS w' r g (rAt s).2 ∧ w.grownBy w' (some r) := by
  have HI := Lib.hid (fun (s : St) (w : World) (hr : RRdrS w r g s) => refInt_s r g s w hr)
  have HW := Lib.hid (fun (w : World) (hr : RRdrS w r g s) => refWord_s r g s w hr)
  have HRG := Lib.hid (rWord_range s)
  obtain ⟨⟨n0, s0⟩, e0⟩ : ∃ p, rWord s = p := ⟨_, rfl⟩
  rw [e0] at HW HRG
  have HW0 := Lib.hid e0
  dsimp only at HW HRG
  clear e0
  obtain ⟨kk, hkk⟩ : ∃ kk, min n0 99 = kk := ⟨_, rfl⟩
  have HKK := Lib.hid hkk
  have HK2 : Hid (0 ≤ kk ∧ kk ≤ 99) := Lib.hid (by have := HRG.out; omega)
  have fin : (n0 ≤ 99 ∧ kk = n0) ∨ (99 < n0 ∧ kk = 99) := by omega
  clear hkk
  unfold atC
  have hlt := hr.lt
  go_enter Try.func62, Try.ntmps62
  go_upto_region 1 with fail
  have hR := Blk.made w 39 #[.int .u8 0, .int .i64 0, .int .i64 0, .int .i64 0, .int .i64 0, .int .i64 0, .int .i64 0, .int .i64 0]
  have ga := World.grownBy_alloc w (.cells #[.int .u8 0, .int .i64 0, .int .i64 0, .int .i64 0, .int .i64 0, .int .i64 0, .int .i64 0, .int .i64 0] 39) (some r)
  have hr1 := hr.new (World.grownBy_alloc w (.cells #[.int .u8 0, .int .i64 0, .int .i64 0, .int .i64 0, .int .i64 0, .int .i64 0, .int .i64 0, .int .i64 0] 39) none)
  have hs1 : (w.alloc (.cells #[.int .u8 0, .int .i64 0, .int .i64 0, .int .i64 0, .int .i64 0, .int .i64 0, .int .i64 0, .int .i64 0] 39)).heap.size = w.heap.size + 1 := by simp
  obtain ⟨R, hRR⟩ : ∃ R, R = w.heap.size := ⟨_, rfl⟩
  rw [← hRR] at hR ⊢
  have NR : Hid (R ≠ r ∧ g ≠ some R ∧ w.heap.size ≤ R ∧ R < w.heap.size + 1) := Lib.hid ⟨by omega, fun e => by have := hgk _ e; omega, by omega, by omega⟩
  have HS1 := Lib.hid hs1
  have HGK := Lib.hid (And.intro hlt hgk)
  clear hr hRR hgk hs1 hlt
  generalize w.alloc (.cells #[.int .u8 0, .int .i64 0, .int .i64 0, .int .i64 0, .int .i64 0, .int .i64 0, .int .i64 0, .int .i64 0] 39) = w1 at *
  go_wp2_with fail
  refine (HW.out _ hr1).mono ?_; rintro e w2 ⟨rfl, hr2, g1⟩
  have B_r := Lib.hid (hR.kept g1 (by have := NR.out.1; simpa using this))
  have G := Lib.hid (World.grownBy.trans ga g1)
  have RD := Lib.hid hr2
  have HS2 := Lib.hid g1.size
  clear hR ga hr1 g1 hr2
  rcases fin with ⟨f1, rfl⟩ | ⟨f1, h99⟩
  · skip
    have HKK : Hid (min kk 99 = kk) := Lib.hid (by omega)
    have hmod : kk % 256 = kk := by have := HK2.out; omega
    go_upto_region 3 with fail
    try rw [hmod]
    clear hmod
    have hb := Blk.made w2 39 #[.int .u8 kk, .int .i64 0, .int .i64 0, .int .i64 0, .int .i64 0, .int .i64 0, .int .i64 0, .int .i64 0]
    have ga := World.grownBy_alloc w2 (.cells #[.int .u8 kk, .int .i64 0, .int .i64 0, .int .i64 0, .int .i64 0, .int .i64 0, .int .i64 0, .int .i64 0] 39) none
    have hsz2 : R < w2.heap.size ∧ r < w2.heap.size ∧ ∀ k, g = some k → k < w2.heap.size := ⟨B_r.out.lt, RD.out.lt, fun k e => by have := HGK.out.2 k e; have := HS2.out; have := HS1.out; omega⟩
    have HRQ : Hid (RQ w (w2.alloc (.cells #[.int .u8 kk, .int .i64 0, .int .i64 0, .int .i64 0, .int .i64 0, .int .i64 0, .int .i64 0, .int .i64 0] 39)) R w2.heap.size r g 39 #[.int .u8 0, .int .i64 0, .int .i64 0, .int .i64 0, .int .i64 0, .int .i64 0, .int .i64 0, .int .i64 0] #[.int .u8 kk, .int .i64 0, .int .i64 0, .int .i64 0, .int .i64 0, .int .i64 0, .int .i64 0, .int .i64 0] s0) := Lib.hid ⟨B_r.out.new ga, hb, RD.out.new ga, World.grownBy.trans G.out (grownBy_none ga _), ⟨NR.out.2.2.1, by have := G.out.size; omega⟩, NR.out.1, by omega, by omega, fun e => by have := hsz2.2.2 _ e; omega, NR.out.2.1⟩
    clear hb ga hsz2 B_r G RD
    generalize w2.alloc (.cells #[.int .u8 kk, .int .i64 0, .int .i64 0, .int .i64 0, .int .i64 0, .int .i64 0, .int .i64 0, .int .i64 0] 39) = w3 at *
    generalize w2.heap.size = A at *
    go_wp2_with fail
    refine (HI.out _ _ HRQ.out.rdr).mono ?_; rintro e w11 ⟨rfl, k2, k3⟩
    obtain ⟨⟨n1, s1⟩, e1⟩ : ∃ p, rInt s0 = p := ⟨_, rfl⟩
    rw [e1] at k2
    try rw [e1]
    have E1 := Lib.hid e1
    dsimp only at k2
    try dsimp only
    replace HRQ := Lib.hid (HRQ.out.next k2 k3)
    clear k2 k3 e1
    have c0 := HRQ.out.var.cell (i := 1) (x := .int .i64 0) rfl
    have f0 := HRQ.out.var.frozen 1
    go_upto_region 4 with fail
    replace HRQ := Lib.hid (HRQ.out.set 1 (.int .i64 n1))
    simp only [List.setIfInBounds_toArray, List.set_cons_succ, List.set_cons_zero] at HRQ
    clear c0 f0
    generalize World.setCell _ _ (.int .i64 n1) = x1 at *
    go_wp2_with fail
    refine (HI.out _ _ HRQ.out.rdr).mono ?_; rintro e w12 ⟨rfl, k2, k3⟩
    obtain ⟨⟨n2, s2⟩, e2⟩ : ∃ p, rInt s1 = p := ⟨_, rfl⟩
    rw [e2] at k2
    try rw [e2]
    have E2 := Lib.hid e2
    dsimp only at k2
    try dsimp only
    replace HRQ := Lib.hid (HRQ.out.next k2 k3)
    clear k2 k3 e2
    have c0 := HRQ.out.var.cell (i := 2) (x := .int .i64 0) rfl
    have f0 := HRQ.out.var.frozen 2
    go_upto_region 5 with fail
    replace HRQ := Lib.hid (HRQ.out.set 2 (.int .i64 n2))
    simp only [List.setIfInBounds_toArray, List.set_cons_succ, List.set_cons_zero] at HRQ
    clear c0 f0
    generalize World.setCell _ _ (.int .i64 n2) = x2 at *
    go_wp2_with fail
    refine (HI.out _ _ HRQ.out.rdr).mono ?_; rintro e w13 ⟨rfl, k2, k3⟩
    obtain ⟨⟨n3, s3⟩, e3⟩ : ∃ p, rInt s2 = p := ⟨_, rfl⟩
    rw [e3] at k2
    try rw [e3]
    have E3 := Lib.hid e3
    dsimp only at k2
    try dsimp only
    replace HRQ := Lib.hid (HRQ.out.next k2 k3)
    clear k2 k3 e3
    have c0 := HRQ.out.var.cell (i := 3) (x := .int .i64 0) rfl
    have f0 := HRQ.out.var.frozen 3
    go_upto_region 6 with fail
    replace HRQ := Lib.hid (HRQ.out.set 3 (.int .i64 n3))
    simp only [List.setIfInBounds_toArray, List.set_cons_succ, List.set_cons_zero] at HRQ
    clear c0 f0
    generalize World.setCell _ _ (.int .i64 n3) = x3 at *
    go_wp2_with fail
    refine (HI.out _ _ HRQ.out.rdr).mono ?_; rintro e w14 ⟨rfl, k2, k3⟩
    obtain ⟨⟨n4, s4⟩, e4⟩ : ∃ p, rInt s3 = p := ⟨_, rfl⟩
    rw [e4] at k2
    try rw [e4]
    have E4 := Lib.hid e4
    dsimp only at k2
    try dsimp only
    replace HRQ := Lib.hid (HRQ.out.next k2 k3)
    clear k2 k3 e4
    have c0 := HRQ.out.var.cell (i := 4) (x := .int .i64 0) rfl
    have f0 := HRQ.out.var.frozen 4
    go_upto_region 7 with fail
    replace HRQ := Lib.hid (HRQ.out.set 4 (.int .i64 n4))
    simp only [List.setIfInBounds_toArray, List.set_cons_succ, List.set_cons_zero] at HRQ
    clear c0 f0
    generalize World.setCell _ _ (.int .i64 n4) = x4 at *
    go_wp2_with fail
    refine (HI.out _ _ HRQ.out.rdr).mono ?_; rintro e w15 ⟨rfl, k2, k3⟩
    obtain ⟨⟨n5, s5⟩, e5⟩ : ∃ p, rInt s4 = p := ⟨_, rfl⟩
    rw [e5] at k2
    try rw [e5]
    have E5 := Lib.hid e5
    dsimp only at k2
    try dsimp only
    replace HRQ := Lib.hid (HRQ.out.next k2 k3)
    clear k2 k3 e5
    have c0 := HRQ.out.var.cell (i := 5) (x := .int .i64 0) rfl
    have f0 := HRQ.out.var.frozen 5
    go_upto_region 8 with fail
    replace HRQ := Lib.hid (HRQ.out.set 5 (.int .i64 n5))
    simp only [List.setIfInBounds_toArray, List.set_cons_succ, List.set_cons_zero] at HRQ
    clear c0 f0
    generalize World.setCell _ _ (.int .i64 n5) = x5 at *
    go_wp2_with fail
    refine (HI.out _ _ HRQ.out.rdr).mono ?_; rintro e w16 ⟨rfl, k2, k3⟩
    obtain ⟨⟨n6, s6⟩, e6⟩ : ∃ p, rInt s5 = p := ⟨_, rfl⟩
    rw [e6] at k2
    try rw [e6]
    have E6 := Lib.hid e6
    dsimp only at k2
    try dsimp only
    replace HRQ := Lib.hid (HRQ.out.next k2 k3)
    clear k2 k3 e6
    have c0 := HRQ.out.var.cell (i := 6) (x := .int .i64 0) rfl
    have f0 := HRQ.out.var.frozen 6
    go_upto_region 9 with fail
    replace HRQ := Lib.hid (HRQ.out.set 6 (.int .i64 n6))
    simp only [List.setIfInBounds_toArray, List.set_cons_succ, List.set_cons_zero] at HRQ
    clear c0 f0
    generalize World.setCell _ _ (.int .i64 n6) = x6 at *
    go_wp2_with fail
    refine (HI.out _ _ HRQ.out.rdr).mono ?_; rintro e w17 ⟨rfl, k2, k3⟩
    obtain ⟨⟨n7, s7⟩, e7⟩ : ∃ p, rInt s6 = p := ⟨_, rfl⟩
    rw [e7] at k2
    try rw [e7]
    have E7 := Lib.hid e7
    dsimp only at k2
    try dsimp only
    replace HRQ := Lib.hid (HRQ.out.next k2 k3)
    clear k2 k3 e7
    have c0 := HRQ.out.var.cell (i := 7) (x := .int .i64 0) rfl
    have f0 := HRQ.out.var.frozen 7
    go_upto_region 10 with fail
    replace HRQ := Lib.hid (HRQ.out.set 7 (.int .i64 n7))
    simp only [List.setIfInBounds_toArray, List.set_cons_succ, List.set_cons_zero] at HRQ
    clear c0 f0
    generalize World.setCell _ _ (.int .i64 n7) = x7 at *
    have c0 := HRQ.out.var.cell (i := 0) (x := .int .u8 kk) rfl
    have c1 := HRQ.out.var.cell (i := 1) (x := .int .i64 n1) rfl
    have c2 := HRQ.out.var.cell (i := 2) (x := .int .i64 n2) rfl
    have c3 := HRQ.out.var.cell (i := 3) (x := .int .i64 n3) rfl
    have c4 := HRQ.out.var.cell (i := 4) (x := .int .i64 n4) rfl
    have c5 := HRQ.out.var.cell (i := 5) (x := .int .i64 n5) rfl
    have c6 := HRQ.out.var.cell (i := 6) (x := .int .i64 n6) rfl
    have c7 := HRQ.out.var.cell (i := 7) (x := .int .i64 n7) rfl
    go_wp2_with (refine wpList_store_row rfl 39 (.tmp 2) (.tmp 32) rfl R #[.int .u8 kk, .int .i64 n1, .int .i64 n2, .int .i64 n3, .int .i64 n4, .int .i64 n5, .int .i64 n6, .int .i64 n7] rfl rfl 39 #[.int .u8 0, .int .i64 0, .int .i64 0, .int .i64 0, .int .i64 0, .int .i64 0, .int .i64 0, .int .i64 0] HRQ.out.res (by kernel_rfl) (by kernel_rfl) (by kernel_rfl) ?_)
    have hb := HRQ.out.res.row #[.int .u8 kk, .int .i64 n1, .int .i64 n2, .int .i64 n3, .int .i64 n4, .int .i64 n5, .int .i64 n6, .int .i64 n7]
    have hg := grown_row HRQ.out.grown (setRow_grown x7 R #[.int .u8 kk, .int .i64 n1, .int .i64 n2, .int .i64 n3, .int .i64 n4, .int .i64 n5, .int .i64 n6, .int .i64 n7]) HRQ.out.le
    have hrd := HRQ.out.rdr.kept (setRow_grown x7 R #[.int .u8 kk, .int .i64 n1, .int .i64 n2, .int .i64 n3, .int .i64 n4, .int .i64 n5, .int .i64 n6, .int .i64 n7]) (by have := HRQ.out.ne; simpa using this.1) (.inr HRQ.out.ne.2)
    clear c0 c1 c2 c3 c4 c5 c6 c7
    generalize World.setRow _ _ _ = wE at *
    have k0 := hb.cell (i := 0) (x := .int .u8 kk) rfl
    have k1 := hb.cell (i := 1) (x := .int .i64 n1) rfl
    have k2 := hb.cell (i := 2) (x := .int .i64 n2) rfl
    have k3 := hb.cell (i := 3) (x := .int .i64 n3) rfl
    have k4 := hb.cell (i := 4) (x := .int .i64 n4) rfl
    have k5 := hb.cell (i := 5) (x := .int .i64 n5) rfl
    have k6 := hb.cell (i := 6) (x := .int .i64 n6) rfl
    have k7 := hb.cell (i := 7) (x := .int .i64 n7) rfl
    have HR : rAt s = (⟨kk, n1, n2, n3, n4, n5, n6, n7⟩, s7) := by
      unfold rAt
      rw [HW0.out]
      dsimp only
      rw [E1.out, E2.out, E3.out, E4.out, E5.out, E6.out, E7.out]
      dsimp only
      rw [HKK.out]
    refine bodyPost_ret (v := .agg #[.int .u8 kk, .int .i64 n1, .int .i64 n2, .int .i64 n3, .int .i64 n4, .int .i64 n5, .int .i64 n6, .int .i64 n7]) (by simp [results, Try.results62, go_sem, k0, k1, k2, k3, k4, k5, k6, k7]) rfl ?_
    rw [HR]
    exact ⟨rfl, hrd, hg⟩
  · skip
    have HKK : Hid (min n0 99 = 99) := Lib.hid (by omega)
    go_upto_region 3 with fail
    have hb := Blk.made w2 39 #[.int .u8 99, .int .i64 0, .int .i64 0, .int .i64 0, .int .i64 0, .int .i64 0, .int .i64 0, .int .i64 0]
    have ga := World.grownBy_alloc w2 (.cells #[.int .u8 99, .int .i64 0, .int .i64 0, .int .i64 0, .int .i64 0, .int .i64 0, .int .i64 0, .int .i64 0] 39) none
    have hsz2 : R < w2.heap.size ∧ r < w2.heap.size ∧ ∀ k, g = some k → k < w2.heap.size := ⟨B_r.out.lt, RD.out.lt, fun k e => by have := HGK.out.2 k e; have := HS2.out; have := HS1.out; omega⟩
    have HRQ : Hid (RQ w (w2.alloc (.cells #[.int .u8 99, .int .i64 0, .int .i64 0, .int .i64 0, .int .i64 0, .int .i64 0, .int .i64 0, .int .i64 0] 39)) R w2.heap.size r g 39 #[.int .u8 0, .int .i64 0, .int .i64 0, .int .i64 0, .int .i64 0, .int .i64 0, .int .i64 0, .int .i64 0] #[.int .u8 99, .int .i64 0, .int .i64 0, .int .i64 0, .int .i64 0, .int .i64 0, .int .i64 0, .int .i64 0] s0) := Lib.hid ⟨B_r.out.new ga, hb, RD.out.new ga, World.grownBy.trans G.out (grownBy_none ga _), ⟨NR.out.2.2.1, by have := G.out.size; omega⟩, NR.out.1, by omega, by omega, fun e => by have := hsz2.2.2 _ e; omega, NR.out.2.1⟩
    clear hb ga hsz2 B_r G RD
    generalize w2.alloc (.cells #[.int .u8 99, .int .i64 0, .int .i64 0, .int .i64 0, .int .i64 0, .int .i64 0, .int .i64 0, .int .i64 0] 39) = w3 at *
    generalize w2.heap.size = A at *
    go_wp2_with fail
    refine (HI.out _ _ HRQ.out.rdr).mono ?_; rintro e w11 ⟨rfl, k2, k3⟩
    obtain ⟨⟨n1, s1⟩, e1⟩ : ∃ p, rInt s0 = p := ⟨_, rfl⟩
    rw [e1] at k2
    try rw [e1]
    have E1 := Lib.hid e1
    dsimp only at k2
    try dsimp only
    replace HRQ := Lib.hid (HRQ.out.next k2 k3)
    clear k2 k3 e1
    have c0 := HRQ.out.var.cell (i := 1) (x := .int .i64 0) rfl
    have f0 := HRQ.out.var.frozen 1
    go_upto_region 4 with fail
    replace HRQ := Lib.hid (HRQ.out.set 1 (.int .i64 n1))
    simp only [List.setIfInBounds_toArray, List.set_cons_succ, List.set_cons_zero] at HRQ
    clear c0 f0
    generalize World.setCell _ _ (.int .i64 n1) = x1 at *
    go_wp2_with fail
    refine (HI.out _ _ HRQ.out.rdr).mono ?_; rintro e w12 ⟨rfl, k2, k3⟩
    obtain ⟨⟨n2, s2⟩, e2⟩ : ∃ p, rInt s1 = p := ⟨_, rfl⟩
    rw [e2] at k2
    try rw [e2]
    have E2 := Lib.hid e2
    dsimp only at k2
    try dsimp only
    replace HRQ := Lib.hid (HRQ.out.next k2 k3)
    clear k2 k3 e2
    have c0 := HRQ.out.var.cell (i := 2) (x := .int .i64 0) rfl
    have f0 := HRQ.out.var.frozen 2
    go_upto_region 5 with fail
    replace HRQ := Lib.hid (HRQ.out.set 2 (.int .i64 n2))
    simp only [List.setIfInBounds_toArray, List.set_cons_succ, List.set_cons_zero] at HRQ
    clear c0 f0
    generalize World.setCell _ _ (.int .i64 n2) = x2 at *
    go_wp2_with fail
    refine (HI.out _ _ HRQ.out.rdr).mono ?_; rintro e w13 ⟨rfl, k2, k3⟩
    obtain ⟨⟨n3, s3⟩, e3⟩ : ∃ p, rInt s2 = p := ⟨_, rfl⟩
    rw [e3] at k2
    try rw [e3]
    have E3 := Lib.hid e3
    dsimp only at k2
    try dsimp only
    replace HRQ := Lib.hid (HRQ.out.next k2 k3)
    clear k2 k3 e3
    have c0 := HRQ.out.var.cell (i := 3) (x := .int .i64 0) rfl
    have f0 := HRQ.out.var.frozen 3
    go_upto_region 6 with fail
    replace HRQ := Lib.hid (HRQ.out.set 3 (.int .i64 n3))
    simp only [List.setIfInBounds_toArray, List.set_cons_succ, List.set_cons_zero] at HRQ
    clear c0 f0
    generalize World.setCell _ _ (.int .i64 n3) = x3 at *
    go_wp2_with fail
    refine (HI.out _ _ HRQ.out.rdr).mono ?_; rintro e w14 ⟨rfl, k2, k3⟩
    obtain ⟨⟨n4, s4⟩, e4⟩ : ∃ p, rInt s3 = p := ⟨_, rfl⟩
    rw [e4] at k2
    try rw [e4]
    have E4 := Lib.hid e4
    dsimp only at k2
    try dsimp only
    replace HRQ := Lib.hid (HRQ.out.next k2 k3)
    clear k2 k3 e4
    have c0 := HRQ.out.var.cell (i := 4) (x := .int .i64 0) rfl
    have f0 := HRQ.out.var.frozen 4
    go_upto_region 7 with fail
    replace HRQ := Lib.hid (HRQ.out.set 4 (.int .i64 n4))
    simp only [List.setIfInBounds_toArray, List.set_cons_succ, List.set_cons_zero] at HRQ
    clear c0 f0
    generalize World.setCell _ _ (.int .i64 n4) = x4 at *
    go_wp2_with fail
    refine (HI.out _ _ HRQ.out.rdr).mono ?_; rintro e w15 ⟨rfl, k2, k3⟩
    obtain ⟨⟨n5, s5⟩, e5⟩ : ∃ p, rInt s4 = p := ⟨_, rfl⟩
    rw [e5] at k2
    try rw [e5]
    have E5 := Lib.hid e5
    dsimp only at k2
    try dsimp only
    replace HRQ := Lib.hid (HRQ.out.next k2 k3)
    clear k2 k3 e5
    have c0 := HRQ.out.var.cell (i := 5) (x := .int .i64 0) rfl
    have f0 := HRQ.out.var.frozen 5
    go_upto_region 8 with fail
    replace HRQ := Lib.hid (HRQ.out.set 5 (.int .i64 n5))
    simp only [List.setIfInBounds_toArray, List.set_cons_succ, List.set_cons_zero] at HRQ
    clear c0 f0
    generalize World.setCell _ _ (.int .i64 n5) = x5 at *
    go_wp2_with fail
    refine (HI.out _ _ HRQ.out.rdr).mono ?_; rintro e w16 ⟨rfl, k2, k3⟩
    obtain ⟨⟨n6, s6⟩, e6⟩ : ∃ p, rInt s5 = p := ⟨_, rfl⟩
    rw [e6] at k2
    try rw [e6]
    have E6 := Lib.hid e6
    dsimp only at k2
    try dsimp only
    replace HRQ := Lib.hid (HRQ.out.next k2 k3)
    clear k2 k3 e6
    have c0 := HRQ.out.var.cell (i := 6) (x := .int .i64 0) rfl
    have f0 := HRQ.out.var.frozen 6
    go_upto_region 9 with fail
    replace HRQ := Lib.hid (HRQ.out.set 6 (.int .i64 n6))
    simp only [List.setIfInBounds_toArray, List.set_cons_succ, List.set_cons_zero] at HRQ
    clear c0 f0
    generalize World.setCell _ _ (.int .i64 n6) = x6 at *
    go_wp2_with fail
    refine (HI.out _ _ HRQ.out.rdr).mono ?_; rintro e w17 ⟨rfl, k2, k3⟩
    obtain ⟨⟨n7, s7⟩, e7⟩ : ∃ p, rInt s6 = p := ⟨_, rfl⟩
    rw [e7] at k2
    try rw [e7]
    have E7 := Lib.hid e7
    dsimp only at k2
    try dsimp only
    replace HRQ := Lib.hid (HRQ.out.next k2 k3)
    clear k2 k3 e7
    have c0 := HRQ.out.var.cell (i := 7) (x := .int .i64 0) rfl
    have f0 := HRQ.out.var.frozen 7
    go_upto_region 10 with fail
    replace HRQ := Lib.hid (HRQ.out.set 7 (.int .i64 n7))
    simp only [List.setIfInBounds_toArray, List.set_cons_succ, List.set_cons_zero] at HRQ
    clear c0 f0
    generalize World.setCell _ _ (.int .i64 n7) = x7 at *
    have c0 := HRQ.out.var.cell (i := 0) (x := .int .u8 99) rfl
    have c1 := HRQ.out.var.cell (i := 1) (x := .int .i64 n1) rfl
    have c2 := HRQ.out.var.cell (i := 2) (x := .int .i64 n2) rfl
    have c3 := HRQ.out.var.cell (i := 3) (x := .int .i64 n3) rfl
    have c4 := HRQ.out.var.cell (i := 4) (x := .int .i64 n4) rfl
    have c5 := HRQ.out.var.cell (i := 5) (x := .int .i64 n5) rfl
    have c6 := HRQ.out.var.cell (i := 6) (x := .int .i64 n6) rfl
    have c7 := HRQ.out.var.cell (i := 7) (x := .int .i64 n7) rfl
    go_wp2_with (refine wpList_store_row rfl 39 (.tmp 2) (.tmp 32) rfl R #[.int .u8 99, .int .i64 n1, .int .i64 n2, .int .i64 n3, .int .i64 n4, .int .i64 n5, .int .i64 n6, .int .i64 n7] rfl rfl 39 #[.int .u8 0, .int .i64 0, .int .i64 0, .int .i64 0, .int .i64 0, .int .i64 0, .int .i64 0, .int .i64 0] HRQ.out.res (by kernel_rfl) (by kernel_rfl) (by kernel_rfl) ?_)
    have hb := HRQ.out.res.row #[.int .u8 99, .int .i64 n1, .int .i64 n2, .int .i64 n3, .int .i64 n4, .int .i64 n5, .int .i64 n6, .int .i64 n7]
    have hg := grown_row HRQ.out.grown (setRow_grown x7 R #[.int .u8 99, .int .i64 n1, .int .i64 n2, .int .i64 n3, .int .i64 n4, .int .i64 n5, .int .i64 n6, .int .i64 n7]) HRQ.out.le
    have hrd := HRQ.out.rdr.kept (setRow_grown x7 R #[.int .u8 99, .int .i64 n1, .int .i64 n2, .int .i64 n3, .int .i64 n4, .int .i64 n5, .int .i64 n6, .int .i64 n7]) (by have := HRQ.out.ne; simpa using this.1) (.inr HRQ.out.ne.2)
    clear c0 c1 c2 c3 c4 c5 c6 c7
    generalize World.setRow _ _ _ = wE at *
    have k0 := hb.cell (i := 0) (x := .int .u8 99) rfl
    have k1 := hb.cell (i := 1) (x := .int .i64 n1) rfl
    have k2 := hb.cell (i := 2) (x := .int .i64 n2) rfl
    have k3 := hb.cell (i := 3) (x := .int .i64 n3) rfl
    have k4 := hb.cell (i := 4) (x := .int .i64 n4) rfl
    have k5 := hb.cell (i := 5) (x := .int .i64 n5) rfl
    have k6 := hb.cell (i := 6) (x := .int .i64 n6) rfl
    have k7 := hb.cell (i := 7) (x := .int .i64 n7) rfl
    have HR : rAt s = (⟨99, n1, n2, n3, n4, n5, n6, n7⟩, s7) := by
      unfold rAt
      rw [HW0.out]
      dsimp only
      rw [E1.out, E2.out, E3.out, E4.out, E5.out, E6.out, E7.out]
      dsimp only
      rw [HKK.out]
    refine bodyPost_ret (v := .agg #[.int .u8 99, .int .i64 n1, .int .i64 n2, .int .i64 n3, .int .i64 n4, .int .i64 n5, .int .i64 n6, .int .i64 n7]) (by simp [results, Try.results62, go_sem, k0, k1, k2, k3, k4, k5, k6, k7]) rfl ?_
    rw [HR]
    exact ⟨rfl, hrd, hg⟩
end Go.Proofs.Ytpklgcinijlmmaa
