/- Results as words, the code: two results compared. -/
import Derived.Test.YtpklgcinijlmmaaHanF
import Derived.Test.YtpklgcinijlmmaaArgR
import Derived.Test.YtpklgcinijlmmaaLaw
import Derived.ProofKit
import Derived.WideShapes
import Derived.Deep.Strs
import Derived.Lib.SmallJoins
import Derived.SizedLaws
import Derived.Test.YtpklgcinijlmmaaArgB
import Derived.LoopTactic
import Derived.Test.YtpklgcinijlmmaaArcF
import Derived.Deep.DeepCutAuto
import Derived.Laws.MakeOwn
import Derived.Laws.StructEq
namespace Go.Proofs.Ytpklgcinijlmmaa
open Go.RowKit

theorem one_may : hMay ⟨0, 1, 0⟩ := by decide
theorem hB_16 (h : Hn) : (⟨(hB fnv h).toArray⟩ : ByteArray).extract 0 16 = ⟨(h16 h).toArray⟩ := by
  rw [extract_mid]
  rfl

end Go.Proofs.Ytpklgcinijlmmaa
namespace Go.Proofs.Ytpklgcinijlmmaa
open Go.RowKit

def rAt (s : St) : At × St :=
  (⟨min (rWord s).1 99, (rInt (rWord s).2).1, (rInt (rInt (rWord s).2).2).1, (rInt (rInt (rInt (rWord s).2).2).2).1, (rInt (rInt (rInt (rInt (rWord s).2).2).2).2).1, (rInt (rInt (rInt (rInt (rInt (rWord s).2).2).2).2).2).1, (rInt (rInt (rInt (rInt (rInt (rInt (rWord s).2).2).2).2).2).2).1, (rInt (rInt (rInt (rInt (rInt (rInt (rInt (rWord s).2).2).2).2).2).2).2).1⟩, (rInt (rInt (rInt (rInt (rInt (rInt (rInt (rWord s).2).2).2).2).2).2).2).2)

/-- As RK, but the reader was there. -/
def RQ (W w : World) (R H r : Nat) (g : Option Nat) (t : TypeId) (zs xs : Array Value) (s : St) : Prop :=
  Blk w R t zs ∧ Blk w H t xs ∧ RRdrS w r g s ∧ W.grownBy w (some r) ∧ (W.heap.size ≤ R ∧ W.heap.size ≤ H) ∧ (R ≠ r ∧ H ≠ r ∧ R ≠ H ∧ g ≠ some H ∧ g ≠ some R)
section
variable {W w w' : World} {R H r : Nat} {g : Option Nat} {t : TypeId} {zs xs : Array Value} {s s' : St}
theorem RQ.rdr (h : RQ W w R H r g t zs xs s) : RRdrS w r g s := h.2.2.1
theorem RQ.grown (h : RQ W w R H r g t zs xs s) : W.grownBy w (some r) := h.2.2.2.1
theorem RQ.res (h : RQ W w R H r g t zs xs s) : Blk w R t zs := h.1
theorem RQ.var (h : RQ W w R H r g t zs xs s) : Blk w H t xs := h.2.1
theorem RQ.le (h : RQ W w R H r g t zs xs s) : W.heap.size ≤ R := h.2.2.2.2.1.1
theorem RQ.ne (h : RQ W w R H r g t zs xs s) : R ≠ r ∧ g ≠ some R := ⟨h.2.2.2.2.2.1, h.2.2.2.2.2.2.2.2.2⟩
theorem RQ.next (h : RQ W w R H r g t zs xs s) (k2 : RRdrS w' r g s') (k3 : w.grownBy w' (some r)) : RQ W w' R H r g t zs xs s' := by
  obtain ⟨h1, h2, h3, h4, h5, h6⟩ := h
  exact ⟨h1.kept k3 (by simpa using h6.1), h2.kept k3 (by simpa using h6.2.1), k2, World.grownBy.trans h4 k3, h5, h6⟩
theorem RQ.set (h : RQ W w R H r g t zs xs s) (i : Nat) (u : Value) : RQ W (w.setCell ⟨H, i, none⟩ u) R H r g t zs (xs.setIfInBounds i u) s := by
  obtain ⟨h1, h2, h3, h4, h5, h6⟩ := h
  have hg : w.grownBy (w.setCell ⟨H, i, none⟩ u) (some H) := Lib.grownBy_setB (World.grownBy.refl _ _) _ _
  exact ⟨h1.kept hg (by simpa using h6.2.2.1), h2.set i u, h3.kept hg (by simpa using h6.2.1) (.inr h6.2.2.2.1), grown_row h4 hg h5.2, h5, h6⟩
end

theorem rWord_none' : rWord none = (0, none) := rfl

set_option maxRecDepth 20000 in
set_option maxHeartbeats 8000000 in
theorem attr_s (r : Nat) (g : Option Nat) (s : St) (w : World) (hr : RRdrS w r g s) (hgk : ∀ k, g = some k → k < w.heap.size) :
    Calls Try.prog 62 #[.pointer (some ⟨r, 0, none⟩)] w fun e w' => e = .returned (.agg (atC (rAt s).1)) ∧ RRdrS w' r g (rAt s).2 ∧ w.grownBy w' (some r) := by
  have HI := Lib.hid (fun (s : St) (w : World) (hr : RRdrS w r g s) => refInt_s r g s w hr)
  have HW := Lib.hid (fun (w : World) (hr : RRdrS w r g s) => refWord_s r g s w hr)
  have HRG := Lib.hid (rWord_range s)
  obtain ⟨⟨n0, s0⟩, e0⟩ : ∃ p, rWord s = p := ⟨_, rfl⟩
  rw [e0] at HW HRG
  have HW0 := Lib.hid e0
  dsimp only at HW HRG
  clear e0
  obtain ⟨kk, hkk⟩ : ∃ kk, min n0 99 = kk := ⟨_, rfl⟩
  have HKK := Lib.hid hkk
  have HK2 : Hid (0 ≤ kk ∧ kk ≤ 99) := Lib.hid (by have := HRG.out; omega)
  have fin : (n0 ≤ 99 ∧ kk = n0) ∨ (99 < n0 ∧ kk = 99) := by omega
  clear hkk
  unfold atC
  have hlt := hr.lt
  go_enter Try.func62, Try.ntmps62
  go_upto_region 1 with fail
  have hR := Blk.made w 39 #[.int .u8 0, .int .i64 0, .int .i64 0, .int .i64 0, .int .i64 0, .int .i64 0, .int .i64 0, .int .i64 0]
  have ga := World.grownBy_alloc w (.cells #[.int .u8 0, .int .i64 0, .int .i64 0, .int .i64 0, .int .i64 0, .int .i64 0, .int .i64 0, .int .i64 0] 39) (some r)
  have hr1 := hr.new (World.grownBy_alloc w (.cells #[.int .u8 0, .int .i64 0, .int .i64 0, .int .i64 0, .int .i64 0, .int .i64 0, .int .i64 0, .int .i64 0] 39) none)
  have hs1 : (w.alloc (.cells #[.int .u8 0, .int .i64 0, .int .i64 0, .int .i64 0, .int .i64 0, .int .i64 0, .int .i64 0, .int .i64 0] 39)).heap.size = w.heap.size + 1 := by simp
  obtain ⟨R, hRR⟩ : ∃ R, R = w.heap.size := ⟨_, rfl⟩
  rw [← hRR] at hR ⊢
  have NR : Hid (R ≠ r ∧ g ≠ some R ∧ w.heap.size ≤ R ∧ R < w.heap.size + 1) := Lib.hid ⟨by omega, fun e => by have := hgk _ e; omega, by omega, by omega⟩
  have HS1 := Lib.hid hs1
  have HGK := Lib.hid (And.intro hlt hgk)
  clear hr hRR hgk hs1 hlt
  generalize w.alloc (.cells #[.int .u8 0, .int .i64 0, .int .i64 0, .int .i64 0, .int .i64 0, .int .i64 0, .int .i64 0, .int .i64 0] 39) = w1 at *
  go_wp2_with fail
  refine (HW.out _ hr1).mono ?_; rintro e w2 ⟨rfl, hr2, g1⟩
  have B_r := Lib.hid (hR.kept g1 (by have := NR.out.1; simpa using this))
  have G := Lib.hid (World.grownBy.trans ga g1)
  have RD := Lib.hid hr2
  have HS2 := Lib.hid g1.size
  clear hR ga hr1 g1 hr2
  rcases fin with ⟨f1, rfl⟩ | ⟨f1, h99⟩
  · skip
    have HKK : Hid (min kk 99 = kk) := Lib.hid (by omega)
    have hmod : kk % 256 = kk := by have := HK2.out; omega
    go_upto_region 3 with fail
    try rw [hmod]
    clear hmod
    have hb := Blk.made w2 39 #[.int .u8 kk, .int .i64 0, .int .i64 0, .int .i64 0, .int .i64 0, .int .i64 0, .int .i64 0, .int .i64 0]
    have ga := World.grownBy_alloc w2 (.cells #[.int .u8 kk, .int .i64 0, .int .i64 0, .int .i64 0, .int .i64 0, .int .i64 0, .int .i64 0, .int .i64 0] 39) none
    have hsz2 : R < w2.heap.size ∧ r < w2.heap.size ∧ ∀ k, g = some k → k < w2.heap.size := ⟨B_r.out.lt, RD.out.lt, fun k e => by have := HGK.out.2 k e; have := HS2.out; have := HS1.out; omega⟩
    have HRQ : Hid (RQ w (w2.alloc (.cells #[.int .u8 kk, .int .i64 0, .int .i64 0, .int .i64 0, .int .i64 0, .int .i64 0, .int .i64 0, .int .i64 0] 39)) R w2.heap.size r g 39 #[.int .u8 0, .int .i64 0, .int .i64 0, .int .i64 0, .int .i64 0, .int .i64 0, .int .i64 0, .int .i64 0] #[.int .u8 kk, .int .i64 0, .int .i64 0, .int .i64 0, .int .i64 0, .int .i64 0, .int .i64 0, .int .i64 0] s0) := Lib.hid ⟨B_r.out.new ga, hb, RD.out.new ga, World.grownBy.trans G.out (grownBy_none ga _), ⟨NR.out.2.2.1, by have := G.out.size; omega⟩, NR.out.1, by omega, by omega, fun e => by have := hsz2.2.2 _ e; omega, NR.out.2.1⟩
    clear hb ga hsz2 B_r G RD
    generalize w2.alloc (.cells #[.int .u8 kk, .int .i64 0, .int .i64 0, .int .i64 0, .int .i64 0, .int .i64 0, .int .i64 0, .int .i64 0] 39) = w3 at *
    generalize w2.heap.size = A at *
    go_wp2_with fail
    refine (HI.out _ _ HRQ.out.rdr).mono ?_; rintro e w11 ⟨rfl, k2, k3⟩
    obtain ⟨⟨n1, s1⟩, e1⟩ : ∃ p, rInt s0 = p := ⟨_, rfl⟩
    rw [e1] at k2
    try rw [e1]
    have E1 := Lib.hid e1
    dsimp only at k2
    try dsimp only
    replace HRQ := Lib.hid (HRQ.out.next k2 k3)
    clear k2 k3 e1
    have c0 := HRQ.out.var.cell (i := 1) (x := .int .i64 0) rfl
    have f0 := HRQ.out.var.frozen 1
    go_upto_region 4 with fail
    replace HRQ := Lib.hid (HRQ.out.set 1 (.int .i64 n1))
    simp only [List.setIfInBounds_toArray, List.set_cons_succ, List.set_cons_zero] at HRQ
    clear c0 f0
    generalize World.setCell _ _ (.int .i64 n1) = x1 at *
    go_wp2_with fail
    refine (HI.out _ _ HRQ.out.rdr).mono ?_; rintro e w12 ⟨rfl, k2, k3⟩
    obtain ⟨⟨n2, s2⟩, e2⟩ : ∃ p, rInt s1 = p := ⟨_, rfl⟩
    rw [e2] at k2
    try rw [e2]
    have E2 := Lib.hid e2
    dsimp only at k2
    try dsimp only
    replace HRQ := Lib.hid (HRQ.out.next k2 k3)
    clear k2 k3 e2
    have c0 := HRQ.out.var.cell (i := 2) (x := .int .i64 0) rfl
    have f0 := HRQ.out.var.frozen 2
    go_upto_region 5 with fail
    replace HRQ := Lib.hid (HRQ.out.set 2 (.int .i64 n2))
    simp only [List.setIfInBounds_toArray, List.set_cons_succ, List.set_cons_zero] at HRQ
    clear c0 f0
    generalize World.setCell _ _ (.int .i64 n2) = x2 at *
    go_wp2_with fail
    refine (HI.out _ _ HRQ.out.rdr).mono ?_; rintro e w13 ⟨rfl, k2, k3⟩
    obtain ⟨⟨n3, s3⟩, e3⟩ : ∃ p, rInt s2 = p := ⟨_, rfl⟩
    rw [e3] at k2
    try rw [e3]
    have E3 := Lib.hid e3
    dsimp only at k2
    try dsimp only
    replace HRQ := Lib.hid (HRQ.out.next k2 k3)
    clear k2 k3 e3
    have c0 := HRQ.out.var.cell (i := 3) (x := .int .i64 0) rfl
    have f0 := HRQ.out.var.frozen 3
    go_upto_region 6 with fail
    replace HRQ := Lib.hid (HRQ.out.set 3 (.int .i64 n3))
    simp only [List.setIfInBounds_toArray, List.set_cons_succ, List.set_cons_zero] at HRQ
    clear c0 f0
    generalize World.setCell _ _ (.int .i64 n3) = x3 at *
    go_wp2_with fail
    refine (HI.out _ _ HRQ.out.rdr).mono ?_; rintro e w14 ⟨rfl, k2, k3⟩
    obtain ⟨⟨n4, s4⟩, e4⟩ : ∃ p, rInt s3 = p := ⟨_, rfl⟩
    rw [e4] at k2
    try rw [e4]
    have E4 := Lib.hid e4
    dsimp only at k2
    try dsimp only
    replace HRQ := Lib.hid (HRQ.out.next k2 k3)
    clear k2 k3 e4
    have c0 := HRQ.out.var.cell (i := 4) (x := .int .i64 0) rfl
    have f0 := HRQ.out.var.frozen 4
    go_upto_region 7 with fail
    replace HRQ := Lib.hid (HRQ.out.set 4 (.int .i64 n4))
    simp only [List.setIfInBounds_toArray, List.set_cons_succ, List.set_cons_zero] at HRQ
    clear c0 f0
    generalize World.setCell _ _ (.int .i64 n4) = x4 at *
    go_wp2_with fail
    refine (HI.out _ _ HRQ.out.rdr).mono ?_; rintro e w15 ⟨rfl, k2, k3⟩
    obtain ⟨⟨n5, s5⟩, e5⟩ : ∃ p, rInt s4 = p := ⟨_, rfl⟩
    rw [e5] at k2
    try rw [e5]
    have E5 := Lib.hid e5
    dsimp only at k2
    try dsimp only
    replace HRQ := Lib.hid (HRQ.out.next k2 k3)
    clear k2 k3 e5
    have c0 := HRQ.out.var.cell (i := 5) (x := .int .i64 0) rfl
    have f0 := HRQ.out.var.frozen 5
    go_upto_region 8 with fail
    replace HRQ := Lib.hid (HRQ.out.set 5 (.int .i64 n5))
    simp only [List.setIfInBounds_toArray, List.set_cons_succ, List.set_cons_zero] at HRQ
    clear c0 f0
    generalize World.setCell _ _ (.int .i64 n5) = x5 at *
    go_wp2_with fail
    refine (HI.out _ _ HRQ.out.rdr).mono ?_; rintro e w16 ⟨rfl, k2, k3⟩
    obtain ⟨⟨n6, s6⟩, e6⟩ : ∃ p, rInt s5 = p := ⟨_, rfl⟩
    rw [e6] at k2
    try rw [e6]
    have E6 := Lib.hid e6
    dsimp only at k2
    try dsimp only
    replace HRQ := Lib.hid (HRQ.out.next k2 k3)
    clear k2 k3 e6
    have c0 := HRQ.out.var.cell (i := 6) (x := .int .i64 0) rfl
    have f0 := HRQ.out.var.frozen 6
    go_upto_region 9 with fail
    replace HRQ := Lib.hid (HRQ.out.set 6 (.int .i64 n6))
    simp only [List.setIfInBounds_toArray, List.set_cons_succ, List.set_cons_zero] at HRQ
    clear c0 f0
    generalize World.setCell _ _ (.int .i64 n6) = x6 at *
    go_wp2_with fail
    refine (HI.out _ _ HRQ.out.rdr).mono ?_; rintro e w17 ⟨rfl, k2, k3⟩
    obtain ⟨⟨n7, s7⟩, e7⟩ : ∃ p, rInt s6 = p := ⟨_, rfl⟩
    rw [e7] at k2
    try rw [e7]
    have E7 := Lib.hid e7
    dsimp only at k2
    try dsimp only
    replace HRQ := Lib.hid (HRQ.out.next k2 k3)
    clear k2 k3 e7
    have c0 := HRQ.out.var.cell (i := 7) (x := .int .i64 0) rfl
    have f0 := HRQ.out.var.frozen 7
    go_upto_region 10 with fail
    replace HRQ := Lib.hid (HRQ.out.set 7 (.int .i64 n7))
    simp only [List.setIfInBounds_toArray, List.set_cons_succ, List.set_cons_zero] at HRQ
    clear c0 f0
    generalize World.setCell _ _ (.int .i64 n7) = x7 at *
    have c0 := HRQ.out.var.cell (i := 0) (x := .int .u8 kk) rfl
    have c1 := HRQ.out.var.cell (i := 1) (x := .int .i64 n1) rfl
    have c2 := HRQ.out.var.cell (i := 2) (x := .int .i64 n2) rfl
    have c3 := HRQ.out.var.cell (i := 3) (x := .int .i64 n3) rfl
    have c4 := HRQ.out.var.cell (i := 4) (x := .int .i64 n4) rfl
    have c5 := HRQ.out.var.cell (i := 5) (x := .int .i64 n5) rfl
    have c6 := HRQ.out.var.cell (i := 6) (x := .int .i64 n6) rfl
    have c7 := HRQ.out.var.cell (i := 7) (x := .int .i64 n7) rfl
    go_wp2_with (refine wpList_store_row rfl 39 (.tmp 2) (.tmp 32) rfl R #[.int .u8 kk, .int .i64 n1, .int .i64 n2, .int .i64 n3, .int .i64 n4, .int .i64 n5, .int .i64 n6, .int .i64 n7] rfl rfl 39 #[.int .u8 0, .int .i64 0, .int .i64 0, .int .i64 0, .int .i64 0, .int .i64 0, .int .i64 0, .int .i64 0] HRQ.out.res (by kernel_rfl) (by kernel_rfl) (by kernel_rfl) ?_)
    have hb := HRQ.out.res.row #[.int .u8 kk, .int .i64 n1, .int .i64 n2, .int .i64 n3, .int .i64 n4, .int .i64 n5, .int .i64 n6, .int .i64 n7]
    have hg := grown_row HRQ.out.grown (setRow_grown x7 R #[.int .u8 kk, .int .i64 n1, .int .i64 n2, .int .i64 n3, .int .i64 n4, .int .i64 n5, .int .i64 n6, .int .i64 n7]) HRQ.out.le
    have hrd := HRQ.out.rdr.kept (setRow_grown x7 R #[.int .u8 kk, .int .i64 n1, .int .i64 n2, .int .i64 n3, .int .i64 n4, .int .i64 n5, .int .i64 n6, .int .i64 n7]) (by have := HRQ.out.ne; simpa using this.1) (.inr HRQ.out.ne.2)
    clear c0 c1 c2 c3 c4 c5 c6 c7
    generalize World.setRow _ _ _ = wE at *
    have k0 := hb.cell (i := 0) (x := .int .u8 kk) rfl
    have k1 := hb.cell (i := 1) (x := .int .i64 n1) rfl
    have k2 := hb.cell (i := 2) (x := .int .i64 n2) rfl
    have k3 := hb.cell (i := 3) (x := .int .i64 n3) rfl
    have k4 := hb.cell (i := 4) (x := .int .i64 n4) rfl
    have k5 := hb.cell (i := 5) (x := .int .i64 n5) rfl
    have k6 := hb.cell (i := 6) (x := .int .i64 n6) rfl
    have k7 := hb.cell (i := 7) (x := .int .i64 n7) rfl
    have HR : rAt s = (⟨kk, n1, n2, n3, n4, n5, n6, n7⟩, s7) := by
      unfold rAt
      rw [HW0.out]
      dsimp only
      rw [E1.out, E2.out, E3.out, E4.out, E5.out, E6.out, E7.out]
      dsimp only
      rw [HKK.out]
    refine bodyPost_ret (v := .agg #[.int .u8 kk, .int .i64 n1, .int .i64 n2, .int .i64 n3, .int .i64 n4, .int .i64 n5, .int .i64 n6, .int .i64 n7]) (by simp [results, Try.results62, go_sem, k0, k1, k2, k3, k4, k5, k6, k7]) rfl ?_
    rw [HR]
    exact ⟨rfl, hrd, hg⟩
  · skip
    have HKK : Hid (min n0 99 = 99) := Lib.hid (by omega)
    go_upto_region 3 with fail
    have hb := Blk.made w2 39 #[.int .u8 99, .int .i64 0, .int .i64 0, .int .i64 0, .int .i64 0, .int .i64 0, .int .i64 0, .int .i64 0]
    have ga := World.grownBy_alloc w2 (.cells #[.int .u8 99, .int .i64 0, .int .i64 0, .int .i64 0, .int .i64 0, .int .i64 0, .int .i64 0, .int .i64 0] 39) none
    have hsz2 : R < w2.heap.size ∧ r < w2.heap.size ∧ ∀ k, g = some k → k < w2.heap.size := ⟨B_r.out.lt, RD.out.lt, fun k e => by have := HGK.out.2 k e; have := HS2.out; have := HS1.out; omega⟩
    have HRQ : Hid (RQ w (w2.alloc (.cells #[.int .u8 99, .int .i64 0, .int .i64 0, .int .i64 0, .int .i64 0, .int .i64 0, .int .i64 0, .int .i64 0] 39)) R w2.heap.size r g 39 #[.int .u8 0, .int .i64 0, .int .i64 0, .int .i64 0, .int .i64 0, .int .i64 0, .int .i64 0, .int .i64 0] #[.int .u8 99, .int .i64 0, .int .i64 0, .int .i64 0, .int .i64 0, .int .i64 0, .int .i64 0, .int .i64 0] s0) := Lib.hid ⟨B_r.out.new ga, hb, RD.out.new ga, World.grownBy.trans G.out (grownBy_none ga _), ⟨NR.out.2.2.1, by have := G.out.size; omega⟩, NR.out.1, by omega, by omega, fun e => by have := hsz2.2.2 _ e; omega, NR.out.2.1⟩
    clear hb ga hsz2 B_r G RD
    generalize w2.alloc (.cells #[.int .u8 99, .int .i64 0, .int .i64 0, .int .i64 0, .int .i64 0, .int .i64 0, .int .i64 0, .int .i64 0] 39) = w3 at *
    generalize w2.heap.size = A at *
    go_wp2_with fail
    refine (HI.out _ _ HRQ.out.rdr).mono ?_; rintro e w11 ⟨rfl, k2, k3⟩
    obtain ⟨⟨n1, s1⟩, e1⟩ : ∃ p, rInt s0 = p := ⟨_, rfl⟩
    rw [e1] at k2
    try rw [e1]
    have E1 := Lib.hid e1
    dsimp only at k2
    try dsimp only
    replace HRQ := Lib.hid (HRQ.out.next k2 k3)
    clear k2 k3 e1
    have c0 := HRQ.out.var.cell (i := 1) (x := .int .i64 0) rfl
    have f0 := HRQ.out.var.frozen 1
    go_upto_region 4 with fail
    replace HRQ := Lib.hid (HRQ.out.set 1 (.int .i64 n1))
    simp only [List.setIfInBounds_toArray, List.set_cons_succ, List.set_cons_zero] at HRQ
    clear c0 f0
    generalize World.setCell _ _ (.int .i64 n1) = x1 at *
    go_wp2_with fail
    refine (HI.out _ _ HRQ.out.rdr).mono ?_; rintro e w12 ⟨rfl, k2, k3⟩
    obtain ⟨⟨n2, s2⟩, e2⟩ : ∃ p, rInt s1 = p := ⟨_, rfl⟩
    rw [e2] at k2
    try rw [e2]
    have E2 := Lib.hid e2
    dsimp only at k2
    try dsimp only
    replace HRQ := Lib.hid (HRQ.out.next k2 k3)
    clear k2 k3 e2
    have c0 := HRQ.out.var.cell (i := 2) (x := .int .i64 0) rfl
    have f0 := HRQ.out.var.frozen 2
    go_upto_region 5 with fail
    replace HRQ := Lib.hid (HRQ.out.set 2 (.int .i64 n2))
    simp only [List.setIfInBounds_toArray, List.set_cons_succ, List.set_cons_zero] at HRQ
    clear c0 f0
    generalize World.setCell _ _ (.int .i64 n2) = x2 at *
    go_wp2_with fail
    refine (HI.out _ _ HRQ.out.rdr).mono ?_; rintro e w13 ⟨rfl, k2, k3⟩
    obtain ⟨⟨n3, s3⟩, e3⟩ : ∃ p, rInt s2 = p := ⟨_, rfl⟩
    rw [e3] at k2
    try rw [e3]
    have E3 := Lib.hid e3
    dsimp only at k2
    try dsimp only
    replace HRQ := Lib.hid (HRQ.out.next k2 k3)
    clear k2 k3 e3
    have c0 := HRQ.out.var.cell (i := 3) (x := .int .i64 0) rfl
    have f0 := HRQ.out.var.frozen 3
    go_upto_region 6 with fail
    replace HRQ := Lib.hid (HRQ.out.set 3 (.int .i64 n3))
    simp only [List.setIfInBounds_toArray, List.set_cons_succ, List.set_cons_zero] at HRQ
    clear c0 f0
    generalize World.setCell _ _ (.int .i64 n3) = x3 at *
    go_wp2_with fail
    refine (HI.out _ _ HRQ.out.rdr).mono ?_; rintro e w14 ⟨rfl, k2, k3⟩
    obtain ⟨⟨n4, s4⟩, e4⟩ : ∃ p, rInt s3 = p := ⟨_, rfl⟩
    rw [e4] at k2
    try rw [e4]
    have E4 := Lib.hid e4
    dsimp only at k2
    try dsimp only
    replace HRQ := Lib.hid (HRQ.out.next k2 k3)
    clear k2 k3 e4
    have c0 := HRQ.out.var.cell (i := 4) (x := .int .i64 0) rfl
    have f0 := HRQ.out.var.frozen 4
    go_upto_region 7 with fail
    replace HRQ := Lib.hid (HRQ.out.set 4 (.int .i64 n4))
    simp only [List.setIfInBounds_toArray, List.set_cons_succ, List.set_cons_zero] at HRQ
    clear c0 f0
    generalize World.setCell _ _ (.int .i64 n4) = x4 at *
    go_wp2_with fail
    refine (HI.out _ _ HRQ.out.rdr).mono ?_; rintro e w15 ⟨rfl, k2, k3⟩
    obtain ⟨⟨n5, s5⟩, e5⟩ : ∃ p, rInt s4 = p := ⟨_, rfl⟩
    rw [e5] at k2
    try rw [e5]
    have E5 := Lib.hid e5
    dsimp only at k2
    try dsimp only
    replace HRQ := Lib.hid (HRQ.out.next k2 k3)
    clear k2 k3 e5
    have c0 := HRQ.out.var.cell (i := 5) (x := .int .i64 0) rfl
    have f0 := HRQ.out.var.frozen 5
    go_upto_region 8 with fail
    replace HRQ := Lib.hid (HRQ.out.set 5 (.int .i64 n5))
    simp only [List.setIfInBounds_toArray, List.set_cons_succ, List.set_cons_zero] at HRQ
    clear c0 f0
    generalize World.setCell _ _ (.int .i64 n5) = x5 at *
    go_wp2_with fail
    refine (HI.out _ _ HRQ.out.rdr).mono ?_; rintro e w16 ⟨rfl, k2, k3⟩
    obtain ⟨⟨n6, s6⟩, e6⟩ : ∃ p, rInt s5 = p := ⟨_, rfl⟩
    rw [e6] at k2
    try rw [e6]
    have E6 := Lib.hid e6
    dsimp only at k2
    try dsimp only
    replace HRQ := Lib.hid (HRQ.out.next k2 k3)
    clear k2 k3 e6
    have c0 := HRQ.out.var.cell (i := 6) (x := .int .i64 0) rfl
    have f0 := HRQ.out.var.frozen 6
    go_upto_region 9 with fail
    replace HRQ := Lib.hid (HRQ.out.set 6 (.int .i64 n6))
    simp only [List.setIfInBounds_toArray, List.set_cons_succ, List.set_cons_zero] at HRQ
    clear c0 f0
    generalize World.setCell _ _ (.int .i64 n6) = x6 at *
    go_wp2_with fail
    refine (HI.out _ _ HRQ.out.rdr).mono ?_; rintro e w17 ⟨rfl, k2, k3⟩
    obtain ⟨⟨n7, s7⟩, e7⟩ : ∃ p, rInt s6 = p := ⟨_, rfl⟩
    rw [e7] at k2
    try rw [e7]
    have E7 := Lib.hid e7
    dsimp only at k2
    try dsimp only
    replace HRQ := Lib.hid (HRQ.out.next k2 k3)
    clear k2 k3 e7
    have c0 := HRQ.out.var.cell (i := 7) (x := .int .i64 0) rfl
    have f0 := HRQ.out.var.frozen 7
    go_upto_region 10 with fail
    replace HRQ := Lib.hid (HRQ.out.set 7 (.int .i64 n7))
    simp only [List.setIfInBounds_toArray, List.set_cons_succ, List.set_cons_zero] at HRQ
    clear c0 f0
    generalize World.setCell _ _ (.int .i64 n7) = x7 at *
    have c0 := HRQ.out.var.cell (i := 0) (x := .int .u8 99) rfl
    have c1 := HRQ.out.var.cell (i := 1) (x := .int .i64 n1) rfl
    have c2 := HRQ.out.var.cell (i := 2) (x := .int .i64 n2) rfl
    have c3 := HRQ.out.var.cell (i := 3) (x := .int .i64 n3) rfl
    have c4 := HRQ.out.var.cell (i := 4) (x := .int .i64 n4) rfl
    have c5 := HRQ.out.var.cell (i := 5) (x := .int .i64 n5) rfl
    have c6 := HRQ.out.var.cell (i := 6) (x := .int .i64 n6) rfl
    have c7 := HRQ.out.var.cell (i := 7) (x := .int .i64 n7) rfl
    go_wp2_with (refine wpList_store_row rfl 39 (.tmp 2) (.tmp 32) rfl R #[.int .u8 99, .int .i64 n1, .int .i64 n2, .int .i64 n3, .int .i64 n4, .int .i64 n5, .int .i64 n6, .int .i64 n7] rfl rfl 39 #[.int .u8 0, .int .i64 0, .int .i64 0, .int .i64 0, .int .i64 0, .int .i64 0, .int .i64 0, .int .i64 0] HRQ.out.res (by kernel_rfl) (by kernel_rfl) (by kernel_rfl) ?_)
    have hb := HRQ.out.res.row #[.int .u8 99, .int .i64 n1, .int .i64 n2, .int .i64 n3, .int .i64 n4, .int .i64 n5, .int .i64 n6, .int .i64 n7]
    have hg := grown_row HRQ.out.grown (setRow_grown x7 R #[.int .u8 99, .int .i64 n1, .int .i64 n2, .int .i64 n3, .int .i64 n4, .int .i64 n5, .int .i64 n6, .int .i64 n7]) HRQ.out.le
    have hrd := HRQ.out.rdr.kept (setRow_grown x7 R #[.int .u8 99, .int .i64 n1, .int .i64 n2, .int .i64 n3, .int .i64 n4, .int .i64 n5, .int .i64 n6, .int .i64 n7]) (by have := HRQ.out.ne; simpa using this.1) (.inr HRQ.out.ne.2)
    clear c0 c1 c2 c3 c4 c5 c6 c7
    generalize World.setRow _ _ _ = wE at *
    have k0 := hb.cell (i := 0) (x := .int .u8 99) rfl
    have k1 := hb.cell (i := 1) (x := .int .i64 n1) rfl
    have k2 := hb.cell (i := 2) (x := .int .i64 n2) rfl
    have k3 := hb.cell (i := 3) (x := .int .i64 n3) rfl
    have k4 := hb.cell (i := 4) (x := .int .i64 n4) rfl
    have k5 := hb.cell (i := 5) (x := .int .i64 n5) rfl
    have k6 := hb.cell (i := 6) (x := .int .i64 n6) rfl
    have k7 := hb.cell (i := 7) (x := .int .i64 n7) rfl
    have HR : rAt s = (⟨99, n1, n2, n3, n4, n5, n6, n7⟩, s7) := by
      unfold rAt
      rw [HW0.out]
      dsimp only
      rw [E1.out, E2.out, E3.out, E4.out, E5.out, E6.out, E7.out]
      dsimp only
      rw [HKK.out]
    refine bodyPost_ret (v := .agg #[.int .u8 99, .int .i64 n1, .int .i64 n2, .int .i64 n3, .int .i64 n4, .int .i64 n5, .int .i64 n6, .int .i64 n7]) (by simp [results, Try.results62, go_sem, k0, k1, k2, k3, k4, k5, k6, k7]) rfl ?_
    rw [HR]
    exact ⟨rfl, hrd, hg⟩
end Go.Proofs.Ytpklgcinijlmmaa
namespace Go.Proofs.Ytpklgcinijlmmaa
open Go.RowKit

structure En where
  n : List UInt8
  i : Int
  c : Int
deriving DecidableEq
/-- A result. -/
structure PR where
  e : Int
  h : Hn
  a : At
  x : List UInt8
  n : Int
  f : Int
  u : Int
  d : Bool
  es : List En
  v : Int
deriving DecidableEq
def noPR : PR := ⟨0, noHn, noAt, [], 0, 0, 0, false, [], 0⟩
def prC (p : PR) (ev : Value) : Array Value := #[.int .i64 p.e, .int .i64 p.h.s, .int .i64 p.h.i, .int .i64 p.h.g, .int .u8 p.a.k, .int .i64 p.a.m, .int .i64 p.a.l, .int .i64 p.a.s, .int .i64 p.a.mt, .int .i64 p.a.ct, .int .i64 p.a.i, .int .i64 p.a.g, txt p.x, .int .i64 p.n, .int .i64 p.f, .int .u64 p.u, .bool p.d, ev, .int .u64 p.v]
/-- The cells of entries. -/
def enAt (es : List En) (i : Nat) : Value := if i % 3 = 0 then txt (es.getD (i / 3) ⟨[], 0, 0⟩).n else if i % 3 = 1 then .int .i64 (es.getD (i / 3) ⟨[], 0, 0⟩).i else .int .i64 (es.getD (i / 3) ⟨[], 0, 0⟩).c
def Ents (w : World) (v : Value) (es : List En) : Prop := Elems w v 3 es.length (enAt es)
theorem Ents.form {w : World} {v : Value} {es : List En} (h : Ents w v es) : ∃ a c, v = .slice a es.length c ∧ es.length ≤ maxLen := Elems.form h
theorem Ents.at {w : World} {a : Option Addr} {c : Nat} {es : List En} (h : Ents w (.slice a es.length c) es) (h0 : 0 < es.length) : ∃ b o, a = some ⟨b, o, none⟩ ∧ ∀ j (_ : j < es.length), w.cell? ⟨b, o + j * 3, none⟩ = some (txt (es.getD j ⟨[], 0, 0⟩).n) ∧ w.cell? ⟨b, o + j * 3 + 1, none⟩ = some (.int .i64 (es.getD j ⟨[], 0, 0⟩).i) ∧ w.cell? ⟨b, o + j * 3 + 2, none⟩ = some (.int .i64 (es.getD j ⟨[], 0, 0⟩).c) := by
  obtain ⟨b, o, e, hc⟩ := Elems.cells h h0
  refine ⟨b, o, e, fun j hj => ?_⟩
  have c0 := hc (j * 3) (by omega)
  have c1 := hc (j * 3 + 1) (by omega)
  have c2 := hc (j * 3 + 2) (by omega)
  unfold enAt at c0 c1 c2
  rw [if_pos (by omega), show j * 3 / 3 = j by omega] at c0
  rw [if_neg (by omega), if_pos (by omega), show (j * 3 + 1) / 3 = j by omega] at c1
  rw [if_neg (by omega), if_neg (by omega), show (j * 3 + 2) / 3 = j by omega] at c2
  exact ⟨c0, c1, c2⟩
theorem Ents.new {w w' : World} {v : Value} {es : List En} (h : Ents w v es) (hg : w.grownBy w' none) : Ents w' v es := by
  rcases h with h | ⟨b, o, c, h1, h2, h3, h4⟩ | h
  · exact .inl h
  · exact .inr (.inl ⟨b, o, c, h1, h2, h3, fun i hi => hg.cell (h4 i hi) (by simp)⟩)
  · exact .inr (.inr h)

def rbad1 (l : List UInt8) (p : PR) : Bool := (decide (72 ∈ l) && !decide (hMay p.h)) || (!decide (72 ∈ l) && decide (p.h ≠ noHn)) || (decide (65 ∈ l) && (decide (p.a.k < 1) || decide (3 < p.a.k))) || (!decide (65 ∈ l) && decide (p.a ≠ noAt))
def rbad2 (l : List UInt8) (p : PR) : Bool := (!decide (116 ∈ l) && p.x != []) || (!decide (78 ∈ l) && p.n != 0) || (!decide (102 ∈ l) && p.f != 0) || (!decide (117 ∈ l) && p.u != 0) || (!decide (101 ∈ l) && p.d) || (!decide (69 ∈ l) && decide (0 < p.es.length)) || (!decide (118 ∈ l) && p.v != 0)
def rMay (l : List UInt8) (p : PR) : Bool := !rbad1 l p && !rbad2 l p && p.es.all (fun e => decide (e.n.length ≤ 255)) && (decide (p.x.length ≤ 2048) && decide (p.es.length ≤ 64))
def mayRes (k : Nat) (p : PR) : Bool := decide (0 ≤ p.e ∧ p.e ≤ 63) && rMay (if p.e = 0 then tells k else []) p

theorem rMay_1 {l : List UInt8} {p : PR} (h : rbad1 l p = true) : rMay l p = false := by simp [rMay, h]
theorem rMay_2 {l : List UInt8} {p : PR} (h : rbad2 l p = true) : rMay l p = false := by simp [rMay, h]
theorem rMay_3 {l : List UInt8} {p : PR} {j : Nat} (hj : j < p.es.length) (h : 255 < (p.es.getD j ⟨[], 0, 0⟩).n.length) : rMay l p = false := by
  have e : p.es.all (fun e => decide (e.n.length ≤ 255)) = false := by
    rw [List.all_eq_false]
    refine ⟨p.es[j], List.getElem_mem hj, ?_⟩
    simp only [List.getD, List.getElem?_eq_getElem hj, Option.getD_some] at h
    simp only [decide_eq_true_eq]
    omega
  simp [rMay, e]
theorem at_parts {a1 a2 a3 a4 a5 a6 a7 a8 : Int} (h : (⟨a1, a2, a3, a4, a5, a6, a7, a8⟩ : At) ≠ noAt) : ¬ a1 = 0 ∨ a1 = 0 ∧ ¬ a2 = 0 ∨ a1 = 0 ∧ a2 = 0 ∧ ¬ a3 = 0 ∨ a1 = 0 ∧ a2 = 0 ∧ a3 = 0 ∧ ¬ a4 = 0 ∨ a1 = 0 ∧ a2 = 0 ∧ a3 = 0 ∧ a4 = 0 ∧ ¬ a5 = 0 ∨ a1 = 0 ∧ a2 = 0 ∧ a3 = 0 ∧ a4 = 0 ∧ a5 = 0 ∧ ¬ a6 = 0 ∨ a1 = 0 ∧ a2 = 0 ∧ a3 = 0 ∧ a4 = 0 ∧ a5 = 0 ∧ a6 = 0 ∧ ¬ a7 = 0 ∨ a1 = 0 ∧ a2 = 0 ∧ a3 = 0 ∧ a4 = 0 ∧ a5 = 0 ∧ a6 = 0 ∧ a7 = 0 ∧ ¬ a8 = 0 := by
  by_cases h1 : a1 = 0
  rotate_left 1
  · exact .inl h1
  by_cases h2 : a2 = 0
  rotate_left 1
  · exact .inr (.inl ⟨h1, h2⟩)
  by_cases h3 : a3 = 0
  rotate_left 1
  · exact .inr (.inr (.inl ⟨h1, h2, h3⟩))
  by_cases h4 : a4 = 0
  rotate_left 1
  · exact .inr (.inr (.inr (.inl ⟨h1, h2, h3, h4⟩)))
  by_cases h5 : a5 = 0
  rotate_left 1
  · exact .inr (.inr (.inr (.inr (.inl ⟨h1, h2, h3, h4, h5⟩))))
  by_cases h6 : a6 = 0
  rotate_left 1
  · exact .inr (.inr (.inr (.inr (.inr (.inl ⟨h1, h2, h3, h4, h5, h6⟩)))))
  by_cases h7 : a7 = 0
  rotate_left 1
  · exact .inr (.inr (.inr (.inr (.inr (.inr (.inl ⟨h1, h2, h3, h4, h5, h6, h7⟩))))))
  by_cases h8 : a8 = 0
  rotate_left 1
  · exact .inr (.inr (.inr (.inr (.inr (.inr (.inr (⟨h1, h2, h3, h4, h5, h6, h7, h8⟩)))))))
  exact absurd (by subst h1 h2 h3 h4 h5 h6 h7 h8; rfl) h
theorem at_none {a1 a2 a3 a4 a5 a6 a7 a8 : Int} (h : ¬ (⟨a1, a2, a3, a4, a5, a6, a7, a8⟩ : At) ≠ noAt) : a1 = 0 ∧ a2 = 0 ∧ a3 = 0 ∧ a4 = 0 ∧ a5 = 0 ∧ a6 = 0 ∧ a7 = 0 ∧ a8 = 0 := by
  have e := Decidable.not_not.1 h
  unfold noAt at e
  simpa only [At.mk.injEq] using e
end Go.Proofs.Ytpklgcinijlmmaa
namespace Go.Proofs.Ytpklgcinijlmmaa
open Go.RowKit

section
variable {H : Type} {enc : TypeId × Value → H} {P : Program}
open Go.ChangeShapes Go.WideShapes Go.ChangeAt

/-- A struct of three numbers that came in. -/
theorem open_handle {t : TypeId} {f0 f1 f2 : Field} (ht : P.underlying t = some (.struct #[f0, f1, f2])) (ct : P.cellsOf t = 3) (o0 : f0.offset = 0) (o1 : f1.offset = 1) (o2 : f2.offset = 2)
    (c0 : P.cellsOf f0.type = 1) (c1 : P.cellsOf f1.type = 1) (c2 : P.cellsOf f2.type = 1)
    (h0 : P.underlying f0.type = some (.int .i64)) (h1 : P.underlying f1.type = some (.int .i64)) (h2 : P.underlying f2.type = some (.int .i64))
    {W : World} {base : Nat} {v : Value} {d : DataW H} {p : List MemPlace} (hval : Value.okWide P W .any base t v) (h : DataW.Trod enc P W 0 (fun _ => true) true t v d p) :
    ∃ h : Hn, v = hnV h := by
  obtain ⟨cs, rfl, hcs⟩ := okWide_struct ht hval
  rw [ct] at hcs
  obtain ⟨fuel, hf⟩ := h
  obtain ⟨y0, y1, y2, n, hd, _, g0, g1, g2⟩ := Deep.trod_struct3 ht hf
  obtain ⟨l⟩ := cs
  match l, hcs with
  | [x0, x1, x2], _ =>
    rw [o0, c0] at g0; rw [o1, c1] at g1; rw [o2, c2] at g2
    obtain ⟨a, e0, _, w0⟩ := DataW.trod_int h0 g0
    obtain ⟨b, e1, _, w1⟩ := DataW.trod_int h1 g1
    obtain ⟨c, e2, _, w2⟩ := DataW.trod_int h2 g2
    simp [Value.cells] at e0 e1 e2
    subst e0 e1 e2
    exact ⟨⟨a, b, c⟩, rfl⟩
end

def hnC (h : Hn) : Array Value := #[.int .i64 h.s, .int .i64 h.i, .int .i64 h.g]

/-- Two values boxed, one behind the other; and three. -/
theorem boxes2 (w : World) (t : TypeId) (x y : Array Value) : Blk ((w.alloc (.cells x t)).alloc (.cells y t)) w.heap.size t x ∧ Blk ((w.alloc (.cells x t)).alloc (.cells y t)) (w.heap.size + 1) t y ∧ w.grownBy ((w.alloc (.cells x t)).alloc (.cells y t)) none := by
  have hsz : (w.alloc (.cells x t)).heap.size = w.heap.size + 1 := by simp
  have h2 := Blk.made (w.alloc (.cells x t)) t y
  rw [hsz] at h2
  exact ⟨(Blk.made w t x).new (World.grownBy_alloc _ _ none), h2, World.grownBy.trans (World.grownBy_alloc _ _ none) (World.grownBy_alloc _ _ none)⟩
theorem boxes3 (w : World) (t : TypeId) (x y z : Array Value) : Blk (((w.alloc (.cells x t)).alloc (.cells y t)).alloc (.cells z t)) w.heap.size t x ∧ Blk (((w.alloc (.cells x t)).alloc (.cells y t)).alloc (.cells z t)) (w.heap.size + 1) t y ∧
    Blk (((w.alloc (.cells x t)).alloc (.cells y t)).alloc (.cells z t)) (w.heap.size + 1 + 1) t z ∧ w.grownBy (((w.alloc (.cells x t)).alloc (.cells y t)).alloc (.cells z t)) none := by
  obtain ⟨h1, h2, h3⟩ := boxes2 w t x y
  have hsz : ((w.alloc (.cells x t)).alloc (.cells y t)).heap.size = w.heap.size + 1 + 1 := by simp
  have h4 := Blk.made ((w.alloc (.cells x t)).alloc (.cells y t)) t z
  rw [hsz] at h4
  exact ⟨h1.new (World.grownBy_alloc _ _ none), h2.new (World.grownBy_alloc _ _ none), h4, World.grownBy.trans h3 (World.grownBy_alloc _ _ none)⟩

theorem parts (a b : Hn) (h : a ≠ b) : ¬ a.s = b.s ∨ a.s = b.s ∧ ¬ a.i = b.i ∨ a.s = b.s ∧ a.i = b.i ∧ ¬ a.g = b.g := by
  rw [ne_eq, hn_eq] at h
  omega
end Go.Proofs.Ytpklgcinijlmmaa
namespace Go.Proofs.Ytpklgcinijlmmaa
open Go.RowKit

set_option maxRecDepth 20000 in
set_option maxHeartbeats 2000000 in
theorem Changes_any (k : Int) (p : PA) (w : World) : Calls Try.prog 20 #[.int .i64 k, paV p] w fun e w' => e = .returned (.bool (pChanges k p)) ∧ w.grownBy w' none := by
  have HV : Hid ((k = 6 ∧ pChanges k p = (p.b != 0)) ∨ (k = 2 ∧ pChanges k p = true) ∨ (k = 7 ∧ pChanges k p = true) ∨ (k = 8 ∧ pChanges k p = true) ∨ (k = 9 ∧ pChanges k p = true) ∨ (k = 10 ∧ pChanges k p = true) ∨ (k = 11 ∧ pChanges k p = true) ∨ (k = 12 ∧ pChanges k p = true) ∨ (k = 13 ∧ pChanges k p = true) ∨ (k = 17 ∧ pChanges k p = true) ∨ (k = 18 ∧ pChanges k p = true) ∨ ((¬ k = 6 ∧ ¬ k = 2 ∧ ¬ k = 7 ∧ ¬ k = 8 ∧ ¬ k = 9 ∧ ¬ k = 10 ∧ ¬ k = 11 ∧ ¬ k = 12 ∧ ¬ k = 13 ∧ ¬ k = 17 ∧ ¬ k = 18) ∧ pChanges k p = false)) := Lib.hid (by
    unfold pChanges
    by_cases h6 : k = 6
    · exact .inl ⟨h6, if_pos h6⟩
    · rw [if_neg h6]
      by_cases h2 : k = 2
      · exact .inr (.inl ⟨h2, by simp [h2]⟩)
      · by_cases h17 : k = 17
        · subst h17; simp
        · by_cases h18 : k = 18
          · subst h18; simp
          · by_cases h7 : 7 ≤ k ∧ k ≤ 13
            · rcases (show k = 7 ∨ k = 8 ∨ k = 9 ∨ k = 10 ∨ k = 11 ∨ k = 12 ∨ k = 13 by omega) with rfl | rfl | rfl | rfl | rfl | rfl | rfl <;> simp
            · refine .inr (.inr (.inr (.inr (.inr (.inr (.inr (.inr (.inr (.inr (.inr ⟨⟨h6, h2, by omega, by omega, by omega, by omega, by omega, by omega, by omega, h17, h18⟩, ?_⟩))))))))))
              simp [h2, h17, h18]
              omega)
  generalize pChanges k p = B at *
  obtain ⟨⟨h1, h2, h3⟩, ⟨t1, t2, t3⟩, n, o, x, a, q, m, s, b, g, v⟩ := p
  unfold paV paC txt
  dsimp only at HV ⊢
  rcases HV.out with ⟨rfl, rfl⟩ | ⟨rfl, rfl⟩ | ⟨rfl, rfl⟩ | ⟨rfl, rfl⟩ | ⟨rfl, rfl⟩ | ⟨rfl, rfl⟩ | ⟨rfl, rfl⟩ | ⟨rfl, rfl⟩ | ⟨rfl, rfl⟩ | ⟨rfl, rfl⟩ | ⟨rfl, rfl⟩ | ⟨⟨k1, k2, k3, k4, k5, k6, k7, k8, k9, k10, k11⟩, rfl⟩
  all_goals
    clear HV
    go_enter Try.func20, Try.ntmps20
    go_wp2_with fail
    go_ret
    exact ⟨rfl, World.grownBy_alloc _ _ _⟩

/-- Are the texts of arguments more than a statement goes through? -/
def longA (p : PA) : Bool := decide (10000 < (p.n.length : Int)) || (decide (10000 < (p.o.length : Int)) || decide (10000 < (p.x.length : Int)))

set_option maxRecDepth 20000 in
set_option maxHeartbeats 2000000 in
theorem long_args (p : PA) (w : World) (hn : p.n.length ≤ maxLen) (ho : p.o.length ≤ maxLen) (hx : p.x.length ≤ maxLen) : Calls Try.prog 21 #[paV p, .agg (prC noPR (.slice none 0 0))] w fun e w' => e = .returned (.bool (longA p)) ∧ w.grownBy w' none := by
  unfold longA
  obtain ⟨⟨h1, h2, h3⟩, ⟨t1, t2, t3⟩, n, o, x, a, q, m, s, b, g, v⟩ := p
  unfold paV paC prC noPR noHn noAt txt
  dsimp only at *
  unfold maxLen at hn ho hx
  have z1 : (⟨n.toArray⟩ : ByteArray).size = n.length := rfl
  have z2 : (⟨o.toArray⟩ : ByteArray).size = o.length := rfl
  have z3 : (⟨x.toArray⟩ : ByteArray).size = x.length := rfl
  go_enter Try.func21, Try.ntmps21
  go_wp2_with fail
  have g1 := World.grownBy_alloc w (.cells #[.int .i64 h1, .int .i64 h2, .int .i64 h3, .int .i64 t1, .int .i64 t2, .int .i64 t3, .string ⟨n.toArray⟩, .string ⟨o.toArray⟩, .string ⟨x.toArray⟩, .int .i64 a, .int .i64 q, .int .i64 m, .int .i64 s, .int .i64 b, .int .i64 g, .int .u64 v] 27) none
  have b1 := Blk.made w 27 #[.int .i64 h1, .int .i64 h2, .int .i64 h3, .int .i64 t1, .int .i64 t2, .int .i64 t3, .string ⟨n.toArray⟩, .string ⟨o.toArray⟩, .string ⟨x.toArray⟩, .int .i64 a, .int .i64 q, .int .i64 m, .int .i64 s, .int .i64 b, .int .i64 g, .int .u64 v]
  have g2 := World.grownBy_alloc (w.alloc (.cells #[.int .i64 h1, .int .i64 h2, .int .i64 h3, .int .i64 t1, .int .i64 t2, .int .i64 t3, .string ⟨n.toArray⟩, .string ⟨o.toArray⟩, .string ⟨x.toArray⟩, .int .i64 a, .int .i64 q, .int .i64 m, .int .i64 s, .int .i64 b, .int .i64 g, .int .u64 v] 27)) (.cells #[.int .i64 0, .int .i64 0, .int .i64 0, .int .i64 0, .int .u8 0, .int .i64 0, .int .i64 0, .int .i64 0, .int .i64 0, .int .i64 0, .int .i64 0, .int .i64 0, .string ⟨#[]⟩, .int .i64 0, .int .i64 0, .int .u64 0, .bool false, .slice none 0 0, .int .u64 0] 42) none
  have b2 := Blk.made (w.alloc (.cells #[.int .i64 h1, .int .i64 h2, .int .i64 h3, .int .i64 t1, .int .i64 t2, .int .i64 t3, .string ⟨n.toArray⟩, .string ⟨o.toArray⟩, .string ⟨x.toArray⟩, .int .i64 a, .int .i64 q, .int .i64 m, .int .i64 s, .int .i64 b, .int .i64 g, .int .u64 v] 27)) 42 #[.int .i64 0, .int .i64 0, .int .i64 0, .int .i64 0, .int .u8 0, .int .i64 0, .int .i64 0, .int .i64 0, .int .i64 0, .int .i64 0, .int .i64 0, .int .i64 0, .string ⟨#[]⟩, .int .i64 0, .int .i64 0, .int .u64 0, .bool false, .slice none 0 0, .int .u64 0]
  have hs : (w.alloc (.cells #[.int .i64 h1, .int .i64 h2, .int .i64 h3, .int .i64 t1, .int .i64 t2, .int .i64 t3, .string ⟨n.toArray⟩, .string ⟨o.toArray⟩, .string ⟨x.toArray⟩, .int .i64 a, .int .i64 q, .int .i64 m, .int .i64 s, .int .i64 b, .int .i64 g, .int .u64 v] 27)).heap.size = w.heap.size + 1 := by simp
  rw [hs] at b2
  have b1 := b1.new g2
  have hg := World.grownBy.trans g1 g2
  clear g1 g2 hs
  generalize (w.alloc (.cells #[.int .i64 h1, .int .i64 h2, .int .i64 h3, .int .i64 t1, .int .i64 t2, .int .i64 t3, .string ⟨n.toArray⟩, .string ⟨o.toArray⟩, .string ⟨x.toArray⟩, .int .i64 a, .int .i64 q, .int .i64 m, .int .i64 s, .int .i64 b, .int .i64 g, .int .u64 v] 27)).alloc (.cells #[.int .i64 0, .int .i64 0, .int .i64 0, .int .i64 0, .int .u8 0, .int .i64 0, .int .i64 0, .int .i64 0, .int .i64 0, .int .i64 0, .int .i64 0, .int .i64 0, .string ⟨#[]⟩, .int .i64 0, .int .i64 0, .int .u64 0, .bool false, .slice none 0 0, .int .u64 0] 42) = w2 at *
  have HG := Lib.hid hg
  have c6 := b1.cell (i := 6) (x := .string ⟨n.toArray⟩) rfl
  have c7 := b1.cell (i := 7) (x := .string ⟨o.toArray⟩) rfl
  have c8 := b1.cell (i := 8) (x := .string ⟨x.toArray⟩) rfl
  have d12 := b2.cell (i := 12) (x := .string ⟨#[]⟩) rfl
  have d17 := b2.cell (i := 17) (x := .slice none 0 0) rfl
  clear hg b1 b2
  go_loop [5, 6] (fun n i => n = .int .i64 0 ∧ i = .int .i64 0) (fun _ _ => 0)
  case atStart => exact ⟨rfl, rfl⟩
  case round =>
    obtain ⟨rfl, rfl⟩ := hrel
    go_wp2_with fail
    all_goals
      go_ret
      have y1 : (⟨n.toArray⟩ : ByteArray).size = n.length := rfl
      have y2 : (⟨o.toArray⟩ : ByteArray).size = o.length := rfl
      have y3 : (⟨x.toArray⟩ : ByteArray).size = x.length := rfl
      exact ⟨by first | rfl | (simp; done) | (simp [Bool.or_assoc]; done), HG.out⟩

end Go.Proofs.Ytpklgcinijlmmaa
namespace Go.Proofs.Ytpklgcinijlmmaa
open Go.RowKit

section
variable {H : Type} {enc : TypeId × Value → H}
open Go.ChangeShapes Go.WideShapes Go.ChangeAt

theorem cells_args : Try.prog.cellsOf 27 = 16 := by kernel_rfl
theorem cells_hn : Try.prog.cellsOf 24 = 3 := by kernel_rfl
theorem cells_int : Try.prog.cellsOf 3 = 1 := by kernel_rfl
theorem cells_str : Try.prog.cellsOf 9 = 1 := by kernel_rfl
theorem cells_u64 : Try.prog.cellsOf 25 = 1 := by kernel_rfl

theorem i64_of {a : Int} (h : (Lit.int .i64 a).wf = true) : -9223372036854775808 ≤ a ∧ a ≤ 9223372036854775807 := by
  simp [Lit.wf, IntKind.min, IntKind.max, IntKind.signed, IntKind.bits] at h
  omega
theorem u64_of {a : Int} (h : (Lit.int .u64 a).wf = true) : 0 ≤ a ∧ a < 18446744073709551616 := by
  simp [Lit.wf, IntKind.min, IntKind.max, IntKind.signed, IntKind.bits] at h
  omega

theorem hn_of {W : World} {n : Nat} {x0 x1 x2 : Value} {y : DataW H × List MemPlace} (h : DataW.trod enc Try.prog W 0 (fun _ => true) true n 24 [x0, x1, x2] = some y) : ∃ a b c : Int, x0 = .int .i64 a ∧ x1 = .int .i64 b ∧ x2 = .int .i64 c := by
  obtain ⟨xs, m, _, _, _, hlen, hg⟩ := DataW.trod_struct Try.underlying24 h
  match xs, hlen with
  | [z0, z1, z2], _ =>
    have g0 := hg 0 _ rfl
    have g1 := hg 1 _ rfl
    have g2 := hg 2 _ rfl
    simp [cells_int] at g0 g1 g2
    obtain ⟨a, e0, _, _⟩ := DataW.trod_int Try.underlying3 g0
    obtain ⟨b, e1, _, _⟩ := DataW.trod_int Try.underlying3 g1
    obtain ⟨c, e2, _, _⟩ := DataW.trod_int Try.underlying3 g2
    simp at e0 e1 e2
    exact ⟨a, b, c, e0, e1, e2⟩

/-- Arguments that came in. -/
def PAin (v : Value) : Prop := ∃ p : PA, v = paV p ∧ PAok p ∧ p.n.length ≤ maxLen ∧ p.o.length ≤ maxLen ∧ p.x.length ≤ maxLen

set_option maxRecDepth 20000 in
set_option maxHeartbeats 2000000 in
theorem open_args {W : World} {base : Nat} {v : Value} {d : DataW H} {p : List MemPlace} (hval : Value.okWide Try.prog W .any base 27 v) (h : DataW.Trod enc Try.prog W 0 (fun _ => true) true 27 v d p) : PAin v := by
  obtain ⟨cs, rfl, hcs⟩ := okWide_struct Try.underlying27 hval
  rw [cells_args] at hcs
  obtain ⟨fuel, hf⟩ := h
  obtain ⟨l⟩ := cs
  match l, hcs with
  | [x0, x1, x2, x3, x4, x5, x6, x7, x8, x9, x10, x11, x12, x13, x14, x15], _ =>
    obtain ⟨xs, n, _, hx, _, hlen, hg⟩ := DataW.trod_struct Try.underlying27 hf
    match xs, hlen with
    | [y0, y1, y2, y3, y4, y5, y6, y7, y8, y9, y10, y11], _ =>
      have g0 := hg 0 _ rfl
      have g1 := hg 1 _ rfl
      have g2 := hg 2 _ rfl
      have g3 := hg 3 _ rfl
      have g4 := hg 4 _ rfl
      have g5 := hg 5 _ rfl
      have g6 := hg 6 _ rfl
      have g7 := hg 7 _ rfl
      have g8 := hg 8 _ rfl
      have g9 := hg 9 _ rfl
      have g10 := hg 10 _ rfl
      have g11 := hg 11 _ rfl
      simp [Value.cells, cells_hn, cells_int, cells_str, cells_u64] at g0 g1 g2 g3 g4 g5 g6 g7 g8 g9 g10 g11
      obtain ⟨h1, h2, h3, rfl, rfl, rfl⟩ := hn_of g0
      obtain ⟨t1, t2, t3, rfl, rfl, rfl⟩ := hn_of g1
      obtain ⟨s2, e2, _, w2⟩ := DataW.trod_string Try.underlying9 g2
      obtain ⟨s3, e3, _, w3⟩ := DataW.trod_string Try.underlying9 g3
      obtain ⟨s4, e4, _, w4⟩ := DataW.trod_string Try.underlying9 g4
      obtain ⟨a5, e5, _, w5⟩ := DataW.trod_int Try.underlying3 g5
      obtain ⟨a6, e6, _, w6⟩ := DataW.trod_int Try.underlying3 g6
      obtain ⟨a7, e7, _, w7⟩ := DataW.trod_int Try.underlying3 g7
      obtain ⟨a8, e8, _, w8⟩ := DataW.trod_int Try.underlying3 g8
      obtain ⟨a9, e9, _, w9⟩ := DataW.trod_int Try.underlying3 g9
      obtain ⟨a10, e10, _, w10⟩ := DataW.trod_int Try.underlying3 g10
      obtain ⟨a11, e11, _, w11⟩ := DataW.trod_int Try.underlying25 g11
      simp at e2 e3 e4 e5 e6 e7 e8 e9 e10 e11
      subst e2 e3 e4 e5 e6 e7 e8 e9 e10 e11
      refine ⟨⟨⟨h1, h2, h3⟩, ⟨t1, t2, t3⟩, s2.data.toList, s3.data.toList, s4.data.toList, a5, a6, a7, a8, a9, a10, a11⟩, ?_, ⟨u64_of w11, i64_of w5, i64_of w6, i64_of w7, i64_of w8, i64_of w9, i64_of w10⟩, by simpa using w2, by simpa using w3, by simpa using w4⟩
      unfold paV paC txt
      dsimp only
end
end Go.Proofs.Ytpklgcinijlmmaa
namespace Go.Proofs.Ytpklgcinijlmmaa
open Go.RowKit

def isR (c : UInt8) : Prop := c = 72 ∨ c = 65 ∨ c = 116 ∨ c = 78 ∨ c = 102 ∨ c = 117 ∨ c = 101 ∨ c = 69 ∨ c = 118
/-- The field that a letter names, of a result that lies at block R (0: E): as a value that is handed on. -/
def resV (R : Nat) (c : UInt8) : Value :=
  if c = 72 then .iface 105 (.pointer (some ⟨R, 1, none⟩)) else
  if c = 65 then .iface 106 (.pointer (some ⟨R, 4, none⟩)) else
  if c = 116 then .iface 102 (.agg #[.pointer (some ⟨R, 12, none⟩), .int .i64 2048]) else
  if c = 78 then .iface 97 (.pointer (some ⟨R, 13, none⟩)) else
  if c = 102 then .iface 97 (.pointer (some ⟨R, 14, none⟩)) else
  if c = 117 then .iface 98 (.pointer (some ⟨R, 15, none⟩)) else
  if c = 101 then .iface 99 (.pointer (some ⟨R, 16, none⟩)) else
  if c = 69 then .iface 110 (.pointer (some ⟨R, 17, none⟩)) else
  if c = 118 then .iface 98 (.pointer (some ⟨R, 18, none⟩)) else
  if c = 0 then .iface 104 (.pointer (some ⟨R, 0, none⟩)) else .nilIface

set_option maxRecDepth 20000 in
set_option maxHeartbeats 1000000 in
theorem res_any (R : Nat) (c : UInt8) (hc : isR c) (w : World) : Calls Try.prog 83 #[.pointer (some ⟨R, 0, none⟩), .int .u8 (c.toNat : Int)] w (Says w (resV R c)) := by
  rcases hc with rfl | rfl | rfl | rfl | rfl | rfl | rfl | rfl | rfl
  · rw [show resV R 72 = .iface 105 (.pointer (some ⟨R, 1, none⟩)) from rfl, show (((72 : UInt8).toNat : Nat) : Int) = 72 from rfl]
    go_enter Try.func83, Try.ntmps83
    go_wp2_with fail
    go_ret
    exact ⟨rfl, rfl⟩
  · rw [show resV R 65 = .iface 106 (.pointer (some ⟨R, 4, none⟩)) from rfl, show (((65 : UInt8).toNat : Nat) : Int) = 65 from rfl]
    go_enter Try.func83, Try.ntmps83
    go_wp2_with fail
    go_ret
    exact ⟨rfl, rfl⟩
  · rw [show resV R 116 = .iface 102 (.agg #[.pointer (some ⟨R, 12, none⟩), .int .i64 2048]) from rfl, show (((116 : UInt8).toNat : Nat) : Int) = 116 from rfl]
    go_enter Try.func83, Try.ntmps83
    go_wp2_with fail
    go_ret
    exact ⟨rfl, rfl⟩
  · rw [show resV R 78 = .iface 97 (.pointer (some ⟨R, 13, none⟩)) from rfl, show (((78 : UInt8).toNat : Nat) : Int) = 78 from rfl]
    go_enter Try.func83, Try.ntmps83
    go_wp2_with fail
    go_ret
    exact ⟨rfl, rfl⟩
  · rw [show resV R 102 = .iface 97 (.pointer (some ⟨R, 14, none⟩)) from rfl, show (((102 : UInt8).toNat : Nat) : Int) = 102 from rfl]
    go_enter Try.func83, Try.ntmps83
    go_wp2_with fail
    go_ret
    exact ⟨rfl, rfl⟩
  · rw [show resV R 117 = .iface 98 (.pointer (some ⟨R, 15, none⟩)) from rfl, show (((117 : UInt8).toNat : Nat) : Int) = 117 from rfl]
    go_enter Try.func83, Try.ntmps83
    go_wp2_with fail
    go_ret
    exact ⟨rfl, rfl⟩
  · rw [show resV R 101 = .iface 99 (.pointer (some ⟨R, 16, none⟩)) from rfl, show (((101 : UInt8).toNat : Nat) : Int) = 101 from rfl]
    go_enter Try.func83, Try.ntmps83
    go_wp2_with fail
    go_ret
    exact ⟨rfl, rfl⟩
  · rw [show resV R 69 = .iface 110 (.pointer (some ⟨R, 17, none⟩)) from rfl, show (((69 : UInt8).toNat : Nat) : Int) = 69 from rfl]
    go_enter Try.func83, Try.ntmps83
    go_wp2_with fail
    go_ret
    exact ⟨rfl, rfl⟩
  · rw [show resV R 118 = .iface 98 (.pointer (some ⟨R, 18, none⟩)) from rfl, show (((118 : UInt8).toNat : Nat) : Int) = 118 from rfl]
    go_enter Try.func83, Try.ntmps83
    go_wp2_with fail
    go_ret
    exact ⟨rfl, rfl⟩

/-- The fields of an Attr, of an entry. -/
def attrVs (R o : Nat) : List Value := [.iface 103 (.pointer (some ⟨R, o, none⟩)), .iface 97 (.pointer (some ⟨R, o + 1, none⟩)), .iface 97 (.pointer (some ⟨R, o + 2, none⟩)), .iface 97 (.pointer (some ⟨R, o + 3, none⟩)), .iface 97 (.pointer (some ⟨R, o + 4, none⟩)), .iface 97 (.pointer (some ⟨R, o + 5, none⟩)), .iface 97 (.pointer (some ⟨R, o + 6, none⟩)), .iface 97 (.pointer (some ⟨R, o + 7, none⟩))]
def entVs (R o : Nat) : List Value := [.iface 102 (.agg #[.pointer (some ⟨R, o, none⟩), .int .i64 255]), .iface 97 (.pointer (some ⟨R, o + 1, none⟩)), .iface 97 (.pointer (some ⟨R, o + 2, none⟩))]
/-- New fields, told. -/
def Vals (w : World) (vs : List Value) (e : Ending) (w' : World) : Prop := ∃ b, e = .returned (.slice (some ⟨b, 0, none⟩) vs.length vs.length) ∧ Blk w' b 20 vs.toArray ∧ w.heap.size ≤ b ∧ w.grownBy w' none

set_option maxRecDepth 20000 in
set_option maxHeartbeats 4000000 in
theorem attrParts_any (R o : Nat) (w : World) : Calls Try.prog 70 #[.pointer (some ⟨R, o, none⟩)] w (Vals w (attrVs R o)) := by
  go_enter Try.func70, Try.ntmps70
  go_upto_region 1 with fail
  refine wp_region_noPanic ?_
  refine wp_region_held_drew (S := fun w' => True) (by kernel_rfl) (trivial) (fun hHeld => ?_)
  refine wpAnyH_take (i := 0) (v := ?_) (by simp only [List.getElem?_toArray, List.getElem?_cons_zero]; rfl) (by kernel_rfl) (by kernel_rfl) (by kernel_rfl) (fun _ _ _ h => h) (Or.inl ⟨by rfl, ?_⟩) (by assumption) ?_
  rotate_left 1
  · intro w hSw; (try dsimp only at hSw); go_simp; all_goals (with_reducible rfl)
  try simp only [Act.put, List.setIfInBounds_toArray, List.set_cons_zero, List.set_cons_succ]
  refine wpAnyH_take (i := 1) (v := ?_) (by simp only [List.getElem?_toArray, List.getElem?_cons_succ, List.getElem?_cons_zero]; rfl) (by kernel_rfl) (by kernel_rfl) (by kernel_rfl) (fun _ _ _ h => h) (Or.inl ⟨by rfl, ?_⟩) (by assumption) ?_
  rotate_left 1
  · intro w hSw; (try dsimp only at hSw); go_simp; all_goals (with_reducible rfl)
  try simp only [Act.put, List.setIfInBounds_toArray, List.set_cons_zero, List.set_cons_succ]
  refine wpAnyH_take (i := 2) (v := ?_) (by simp only [List.getElem?_toArray, List.getElem?_cons_succ, List.getElem?_cons_zero]; rfl) (by kernel_rfl) (by kernel_rfl) (by kernel_rfl) (fun _ _ _ h => h) (Or.inl ⟨by rfl, ?_⟩) (by assumption) ?_
  rotate_left 1
  · intro w hSw; (try dsimp only at hSw); go_simp; all_goals (with_reducible rfl)
  try simp only [Act.put, List.setIfInBounds_toArray, List.set_cons_zero, List.set_cons_succ]
  refine wpAnyH_take (i := 3) (v := ?_) (by simp only [List.getElem?_toArray, List.getElem?_cons_succ, List.getElem?_cons_zero]; rfl) (by kernel_rfl) (by kernel_rfl) (by kernel_rfl) (fun _ _ _ h => h) (Or.inl ⟨by rfl, ?_⟩) (by assumption) ?_
  rotate_left 1
  · intro w hSw; (try dsimp only at hSw); go_simp; all_goals (with_reducible rfl)
  try simp only [Act.put, List.setIfInBounds_toArray, List.set_cons_zero, List.set_cons_succ]
  refine wpAnyH_take (i := 4) (v := ?_) (by simp only [List.getElem?_toArray, List.getElem?_cons_succ, List.getElem?_cons_zero]; rfl) (by kernel_rfl) (by kernel_rfl) (by kernel_rfl) (fun _ _ _ h => h) (Or.inl ⟨by rfl, ?_⟩) (by assumption) ?_
  rotate_left 1
  · intro w hSw; (try dsimp only at hSw); go_simp; all_goals (with_reducible rfl)
  try simp only [Act.put, List.setIfInBounds_toArray, List.set_cons_zero, List.set_cons_succ]
  refine wpAnyH_take (i := 5) (v := ?_) (by simp only [List.getElem?_toArray, List.getElem?_cons_succ, List.getElem?_cons_zero]; rfl) (by kernel_rfl) (by kernel_rfl) (by kernel_rfl) (fun _ _ _ h => h) (Or.inl ⟨by rfl, ?_⟩) (by assumption) ?_
  rotate_left 1
  · intro w hSw; (try dsimp only at hSw); go_simp; all_goals (with_reducible rfl)
  try simp only [Act.put, List.setIfInBounds_toArray, List.set_cons_zero, List.set_cons_succ]
  refine wpAnyH_take (i := 6) (v := ?_) (by simp only [List.getElem?_toArray, List.getElem?_cons_succ, List.getElem?_cons_zero]; rfl) (by kernel_rfl) (by kernel_rfl) (by kernel_rfl) (fun _ _ _ h => h) (Or.inl ⟨by rfl, ?_⟩) (by assumption) ?_
  rotate_left 1
  · intro w hSw; (try dsimp only at hSw); go_simp; all_goals (with_reducible rfl)
  try simp only [Act.put, List.setIfInBounds_toArray, List.set_cons_zero, List.set_cons_succ]
  refine wpAnyH_take (i := 7) (v := ?_) (by simp only [List.getElem?_toArray, List.getElem?_cons_succ, List.getElem?_cons_zero]; rfl) (by kernel_rfl) (by kernel_rfl) (by kernel_rfl) (fun _ _ _ h => h) (Or.inl ⟨by rfl, ?_⟩) (by assumption) ?_
  rotate_left 1
  · intro w hSw; (try dsimp only at hSw); go_simp; all_goals (with_reducible rfl)
  try simp only [Act.put, List.setIfInBounds_toArray, List.set_cons_zero, List.set_cons_succ]
  refine wpAnyH_take (i := 8) (v := ?_) (by simp only [List.getElem?_toArray, List.getElem?_cons_succ, List.getElem?_cons_zero]; rfl) (by kernel_rfl) (by kernel_rfl) (by kernel_rfl) (fun _ _ _ h => h) (Or.inl ⟨by rfl, ?_⟩) (by assumption) ?_
  rotate_left 1
  · intro w hSw; (try dsimp only at hSw); go_simp; all_goals (with_reducible rfl)
  try simp only [Act.put, List.setIfInBounds_toArray, List.set_cons_zero, List.set_cons_succ]
  refine wpAnyH_take (i := 9) (v := ?_) (by simp only [List.getElem?_toArray, List.getElem?_cons_succ, List.getElem?_cons_zero]; rfl) (by kernel_rfl) (by kernel_rfl) (by kernel_rfl) (fun _ _ _ h => h) (Or.inl ⟨by rfl, ?_⟩) (by assumption) ?_
  rotate_left 1
  · intro w hSw; (try dsimp only at hSw); go_simp; all_goals (with_reducible rfl)
  try simp only [Act.put, List.setIfInBounds_toArray, List.set_cons_zero, List.set_cons_succ]
  refine wpAnyH_take (i := 10) (v := ?_) (by simp only [List.getElem?_toArray, List.getElem?_cons_succ, List.getElem?_cons_zero]; rfl) (by kernel_rfl) (by kernel_rfl) (by kernel_rfl) (fun _ _ _ h => h) (Or.inl ⟨by rfl, ?_⟩) (by assumption) ?_
  rotate_left 1
  · intro w hSw; (try dsimp only at hSw); go_simp; all_goals (with_reducible rfl)
  try simp only [Act.put, List.setIfInBounds_toArray, List.set_cons_zero, List.set_cons_succ]
  refine wpAnyH_take (i := 11) (v := ?_) (by simp only [List.getElem?_toArray, List.getElem?_cons_succ, List.getElem?_cons_zero]; rfl) (by kernel_rfl) (by kernel_rfl) (by kernel_rfl) (fun _ _ _ h => h) (Or.inl ⟨by rfl, ?_⟩) (by assumption) ?_
  rotate_left 1
  · intro w hSw; (try dsimp only at hSw); go_simp; all_goals (with_reducible rfl)
  try simp only [Act.put, List.setIfInBounds_toArray, List.set_cons_zero, List.set_cons_succ]
  refine wpAnyH_take (i := 12) (v := ?_) (by simp only [List.getElem?_toArray, List.getElem?_cons_succ, List.getElem?_cons_zero]; rfl) (by kernel_rfl) (by kernel_rfl) (by kernel_rfl) (fun _ _ _ h => h) (Or.inl ⟨by rfl, ?_⟩) (by assumption) ?_
  rotate_left 1
  · intro w hSw; (try dsimp only at hSw); go_simp; all_goals (with_reducible rfl)
  try simp only [Act.put, List.setIfInBounds_toArray, List.set_cons_zero, List.set_cons_succ]
  refine wpAnyH_take (i := 13) (v := ?_) (by simp only [List.getElem?_toArray, List.getElem?_cons_succ, List.getElem?_cons_zero]; rfl) (by kernel_rfl) (by kernel_rfl) (by kernel_rfl) (fun _ _ _ h => h) (Or.inl ⟨by rfl, ?_⟩) (by assumption) ?_
  rotate_left 1
  · intro w hSw; (try dsimp only at hSw); go_simp; all_goals (with_reducible rfl)
  try simp only [Act.put, List.setIfInBounds_toArray, List.set_cons_zero, List.set_cons_succ]
  refine wpAnyH_take (i := 14) (v := ?_) (by simp only [List.getElem?_toArray, List.getElem?_cons_succ, List.getElem?_cons_zero]; rfl) (by kernel_rfl) (by kernel_rfl) (by kernel_rfl) (fun _ _ _ h => h) (Or.inl ⟨by rfl, ?_⟩) (by assumption) ?_
  rotate_left 1
  · intro w hSw; (try dsimp only at hSw); go_simp; all_goals (with_reducible rfl)
  try simp only [Act.put, List.setIfInBounds_toArray, List.set_cons_zero, List.set_cons_succ]
  refine wpAnyH_take (i := 15) (v := ?_) (by simp only [List.getElem?_toArray, List.getElem?_cons_succ, List.getElem?_cons_zero]; rfl) (by kernel_rfl) (by kernel_rfl) (by kernel_rfl) (fun _ _ _ h => h) (Or.inl ⟨by rfl, ?_⟩) (by assumption) ?_
  rotate_left 1
  · intro w hSw; (try dsimp only at hSw); go_simp; all_goals (with_reducible rfl)
  try simp only [Act.put, List.setIfInBounds_toArray, List.set_cons_zero, List.set_cons_succ]
  refine wpAnyH_take (i := 16) (v := ?_) (by simp only [List.getElem?_toArray, List.getElem?_cons_succ, List.getElem?_cons_zero]; rfl) (by kernel_rfl) (by kernel_rfl) (by kernel_rfl) (fun _ _ _ h => h) (Or.inl ⟨by rfl, ?_⟩) (by assumption) ?_
  rotate_left 1
  · intro w hSw; (try dsimp only at hSw); go_simp; all_goals (with_reducible rfl)
  try simp only [Act.put, List.setIfInBounds_toArray, List.set_cons_zero, List.set_cons_succ]
  refine wpAnyH_take (i := 17) (v := ?_) (by simp only [List.getElem?_toArray, List.getElem?_cons_succ, List.getElem?_cons_zero]; rfl) (by kernel_rfl) (by kernel_rfl) (by kernel_rfl) (fun _ _ _ h => h) (Or.inl ⟨by rfl, ?_⟩) (by assumption) ?_
  rotate_left 1
  · intro w hSw; (try dsimp only at hSw); go_simp; all_goals (with_reducible rfl)
  try simp only [Act.put, List.setIfInBounds_toArray, List.set_cons_zero, List.set_cons_succ]
  refine wpAnyH_take (i := 18) (v := ?_) (by simp only [List.getElem?_toArray, List.getElem?_cons_succ, List.getElem?_cons_zero]; rfl) (by kernel_rfl) (by kernel_rfl) (by kernel_rfl) (fun _ _ _ h => h) (Or.inl ⟨by rfl, ?_⟩) (by assumption) ?_
  rotate_left 1
  · intro w hSw; (try dsimp only at hSw); go_simp; all_goals (with_reducible rfl)
  try simp only [Act.put, List.setIfInBounds_toArray, List.set_cons_zero, List.set_cons_succ]
  refine wpAnyH_take (i := 19) (v := ?_) (by simp only [List.getElem?_toArray, List.getElem?_cons_succ, List.getElem?_cons_zero]; rfl) (by kernel_rfl) (by kernel_rfl) (by kernel_rfl) (fun _ _ _ h => h) (Or.inl ⟨by rfl, ?_⟩) (by assumption) ?_
  rotate_left 1
  · intro w hSw; (try dsimp only at hSw); go_simp; all_goals (with_reducible rfl)
  try simp only [Act.put, List.setIfInBounds_toArray, List.set_cons_zero, List.set_cons_succ]
  refine wpAnyH_take (i := 20) (v := ?_) (by simp only [List.getElem?_toArray, List.getElem?_cons_succ, List.getElem?_cons_zero]; rfl) (by kernel_rfl) (by kernel_rfl) (by kernel_rfl) (fun _ _ _ h => h) (Or.inl ⟨by rfl, ?_⟩) (by assumption) ?_
  rotate_left 1
  · intro w hSw; (try dsimp only at hSw); go_simp; all_goals (with_reducible rfl)
  try simp only [Act.put, List.setIfInBounds_toArray, List.set_cons_zero, List.set_cons_succ]
  refine wpAnyH_take (i := 21) (v := ?_) (by simp only [List.getElem?_toArray, List.getElem?_cons_succ, List.getElem?_cons_zero]; rfl) (by kernel_rfl) (by kernel_rfl) (by kernel_rfl) (fun _ _ _ h => h) (Or.inl ⟨by rfl, ?_⟩) (by assumption) ?_
  rotate_left 1
  · intro w hSw; (try dsimp only at hSw); go_simp; all_goals (with_reducible rfl)
  try simp only [Act.put, List.setIfInBounds_toArray, List.set_cons_zero, List.set_cons_succ]
  refine wpAnyH_take (i := 22) (v := ?_) (by simp only [List.getElem?_toArray, List.getElem?_cons_succ, List.getElem?_cons_zero]; rfl) (by kernel_rfl) (by kernel_rfl) (by kernel_rfl) (fun _ _ _ h => h) (Or.inl ⟨by rfl, ?_⟩) (by assumption) ?_
  rotate_left 1
  · intro w hSw; (try dsimp only at hSw); go_simp; all_goals (with_reducible rfl)
  try simp only [Act.put, List.setIfInBounds_toArray, List.set_cons_zero, List.set_cons_succ]
  refine wpAnyH_take (i := 23) (v := ?_) (by simp only [List.getElem?_toArray, List.getElem?_cons_succ, List.getElem?_cons_zero]; rfl) (by kernel_rfl) (by kernel_rfl) (by kernel_rfl) (fun _ _ _ h => h) (Or.inl ⟨by rfl, ?_⟩) (by assumption) ?_
  rotate_left 1
  · intro w hSw; (try dsimp only at hSw); go_simp; all_goals (with_reducible rfl)
  try simp only [Act.put, List.setIfInBounds_toArray, List.set_cons_zero, List.set_cons_succ]
  refine wpAnyH_take (i := 24) (v := ?_) (by simp only [List.getElem?_toArray, List.getElem?_cons_succ, List.getElem?_cons_zero]; rfl) (by kernel_rfl) (by kernel_rfl) (by kernel_rfl) (fun _ _ _ h => h) (Or.inl ⟨by rfl, ?_⟩) (by assumption) ?_
  rotate_left 1
  · intro w hSw; (try dsimp only at hSw); go_simp; all_goals (with_reducible rfl)
  try simp only [Act.put, List.setIfInBounds_toArray, List.set_cons_zero, List.set_cons_succ]
  refine wpAnyH_take (i := 25) (v := ?_) (by simp only [List.getElem?_toArray, List.getElem?_cons_succ, List.getElem?_cons_zero]; rfl) (by kernel_rfl) (by kernel_rfl) (by kernel_rfl) (fun _ _ _ h => h) (Or.inl ⟨by rfl, ?_⟩) (by assumption) ?_
  rotate_left 1
  · intro w hSw; (try dsimp only at hSw); go_simp; all_goals (with_reducible rfl)
  try simp only [Act.put, List.setIfInBounds_toArray, List.set_cons_zero, List.set_cons_succ]
  refine wpAnyH_take (i := 26) (v := ?_) (by simp only [List.getElem?_toArray, List.getElem?_cons_succ, List.getElem?_cons_zero]; rfl) (by kernel_rfl) (by kernel_rfl) (by kernel_rfl) (fun _ _ _ h => h) (Or.inl ⟨by rfl, ?_⟩) (by assumption) ?_
  rotate_left 1
  · intro w hSw; (try dsimp only at hSw); go_simp; all_goals (with_reducible rfl)
  try simp only [Act.put, List.setIfInBounds_toArray, List.set_cons_zero, List.set_cons_succ]
  refine wpAnyH_take (i := 27) (v := ?_) (by simp only [List.getElem?_toArray, List.getElem?_cons_succ, List.getElem?_cons_zero]; rfl) (by kernel_rfl) (by kernel_rfl) (by kernel_rfl) (fun _ _ _ h => h) (Or.inl ⟨by rfl, ?_⟩) (by assumption) ?_
  rotate_left 1
  · intro w hSw; (try dsimp only at hSw); go_simp; all_goals (with_reducible rfl)
  try simp only [Act.put, List.setIfInBounds_toArray, List.set_cons_zero, List.set_cons_succ]
  refine wpAnyH_take (i := 28) (v := ?_) (by simp only [List.getElem?_toArray, List.getElem?_cons_succ, List.getElem?_cons_zero]; rfl) (by kernel_rfl) (by kernel_rfl) (by kernel_rfl) (fun _ _ _ h => h) (Or.inl ⟨by rfl, ?_⟩) (by assumption) ?_
  rotate_left 1
  · intro w hSw; (try dsimp only at hSw); go_simp; all_goals (with_reducible rfl)
  try simp only [Act.put, List.setIfInBounds_toArray, List.set_cons_zero, List.set_cons_succ]
  refine wpAnyH_take (i := 29) (v := ?_) (by simp only [List.getElem?_toArray, List.getElem?_cons_succ, List.getElem?_cons_zero]; rfl) (by kernel_rfl) (by kernel_rfl) (by kernel_rfl) (fun _ _ _ h => h) (Or.inl ⟨by rfl, ?_⟩) (by assumption) ?_
  rotate_left 1
  · intro w hSw; (try dsimp only at hSw); go_simp; all_goals (with_reducible rfl)
  try simp only [Act.put, List.setIfInBounds_toArray, List.set_cons_zero, List.set_cons_succ]
  refine wpAnyH_take (i := 30) (v := ?_) (by simp only [List.getElem?_toArray, List.getElem?_cons_succ, List.getElem?_cons_zero]; rfl) (by kernel_rfl) (by kernel_rfl) (by kernel_rfl) (fun _ _ _ h => h) (Or.inl ⟨by rfl, ?_⟩) (by assumption) ?_
  rotate_left 1
  · intro w hSw; (try dsimp only at hSw); go_simp; all_goals (with_reducible rfl)
  try simp only [Act.put, List.setIfInBounds_toArray, List.set_cons_zero, List.set_cons_succ]
  refine wpAnyH_take (i := 31) (v := ?_) (by simp only [List.getElem?_toArray, List.getElem?_cons_succ, List.getElem?_cons_zero]; rfl) (by kernel_rfl) (by kernel_rfl) (by kernel_rfl) (fun _ _ _ h => h) (Or.inl ⟨by rfl, ?_⟩) (by assumption) ?_
  rotate_left 1
  · intro w hSw; (try dsimp only at hSw); go_simp; all_goals (with_reducible rfl)
  try simp only [Act.put, List.setIfInBounds_toArray, List.set_cons_zero, List.set_cons_succ]
  refine wpAnyH_ready (rs := [32]) (by kernel_rfl) (by simp) ?_
  refine AllReadyH.cons (by simp only [List.getElem?_toArray, List.getElem?_cons_succ, List.getElem?_cons_zero]; rfl) (fun K hK => ?_) AllReadyH.nil
  go_simp
  refine hK.out _ _ (trivial) (fun hHeld => ?_)
  clear hK K
  try simp only [Act.put, List.setIfInBounds_toArray, List.set_cons_zero, List.set_cons_succ]
  refine wpAnyH_take (i := 33) (v := ?_) (by simp only [List.getElem?_toArray, List.getElem?_cons_succ, List.getElem?_cons_zero]; rfl) (by kernel_rfl) (by kernel_rfl) (by kernel_rfl) (fun _ _ _ h => h) (Or.inl ⟨by rfl, ?_⟩) (by assumption) ?_
  rotate_left 1
  · intro w hSw; (try dsimp only at hSw); go_simp; all_goals (with_reducible rfl)
  try simp only [Act.put, List.setIfInBounds_toArray, List.set_cons_zero, List.set_cons_succ]
  refine wpAnyH_done (by kernel_rfl) ?_ _
  refine NoPanic.normal ?_
  go_wp2_with fail
  go_ret
  exact ⟨w.heap.size, rfl, Blk.made w.drew _ _, Nat.le_refl _, World.grownBy.trans (drew_new w) (World.grownBy_alloc _ _ _)⟩

set_option maxRecDepth 20000 in
set_option maxHeartbeats 4000000 in
theorem entryParts_any (R o : Nat) (w : World) : Calls Try.prog 71 #[.pointer (some ⟨R, o, none⟩)] w (Vals w (entVs R o)) := by
  go_enter Try.func71, Try.ntmps71
  go_upto_region 1 with fail
  refine wp_region_noPanic ?_
  refine wp_region_held_drew (S := fun w' => True) (by kernel_rfl) (trivial) (fun hHeld => ?_)
  refine wpAnyH_take (i := 0) (v := ?_) (by simp only [List.getElem?_toArray, List.getElem?_cons_zero]; rfl) (by kernel_rfl) (by kernel_rfl) (by kernel_rfl) (fun _ _ _ h => h) (Or.inl ⟨by rfl, ?_⟩) (by assumption) ?_
  rotate_left 1
  · intro w hSw; (try dsimp only at hSw); go_simp; all_goals (with_reducible rfl)
  try simp only [Act.put, List.setIfInBounds_toArray, List.set_cons_zero, List.set_cons_succ]
  refine wpAnyH_take (i := 1) (v := ?_) (by simp only [List.getElem?_toArray, List.getElem?_cons_succ, List.getElem?_cons_zero]; rfl) (by kernel_rfl) (by kernel_rfl) (by kernel_rfl) (fun _ _ _ h => h) (Or.inl ⟨by rfl, ?_⟩) (by assumption) ?_
  rotate_left 1
  · intro w hSw; (try dsimp only at hSw); go_simp; all_goals (with_reducible rfl)
  try simp only [Act.put, List.setIfInBounds_toArray, List.set_cons_zero, List.set_cons_succ]
  refine wpAnyH_take (i := 2) (v := ?_) (by simp only [List.getElem?_toArray, List.getElem?_cons_succ, List.getElem?_cons_zero]; rfl) (by kernel_rfl) (by kernel_rfl) (by kernel_rfl) (fun _ _ _ h => h) (Or.inl ⟨by rfl, ?_⟩) (by assumption) ?_
  rotate_left 1
  · intro w hSw; (try dsimp only at hSw); go_simp; all_goals (with_reducible rfl)
  try simp only [Act.put, List.setIfInBounds_toArray, List.set_cons_zero, List.set_cons_succ]
  refine wpAnyH_take (i := 3) (v := ?_) (by simp only [List.getElem?_toArray, List.getElem?_cons_succ, List.getElem?_cons_zero]; rfl) (by kernel_rfl) (by kernel_rfl) (by kernel_rfl) (fun _ _ _ h => h) (Or.inl ⟨by rfl, ?_⟩) (by assumption) ?_
  rotate_left 1
  · intro w hSw; (try dsimp only at hSw); go_simp; all_goals (with_reducible rfl)
  try simp only [Act.put, List.setIfInBounds_toArray, List.set_cons_zero, List.set_cons_succ]
  refine wpAnyH_take (i := 4) (v := ?_) (by simp only [List.getElem?_toArray, List.getElem?_cons_succ, List.getElem?_cons_zero]; rfl) (by kernel_rfl) (by kernel_rfl) (by kernel_rfl) (fun _ _ _ h => h) (Or.inl ⟨by rfl, ?_⟩) (by assumption) ?_
  rotate_left 1
  · intro w hSw; (try dsimp only at hSw); go_simp; all_goals (with_reducible rfl)
  try simp only [Act.put, List.setIfInBounds_toArray, List.set_cons_zero, List.set_cons_succ]
  refine wpAnyH_take (i := 5) (v := ?_) (by simp only [List.getElem?_toArray, List.getElem?_cons_succ, List.getElem?_cons_zero]; rfl) (by kernel_rfl) (by kernel_rfl) (by kernel_rfl) (fun _ _ _ h => h) (Or.inl ⟨by rfl, ?_⟩) (by assumption) ?_
  rotate_left 1
  · intro w hSw; (try dsimp only at hSw); go_simp; all_goals (with_reducible rfl)
  try simp only [Act.put, List.setIfInBounds_toArray, List.set_cons_zero, List.set_cons_succ]
  refine wpAnyH_take (i := 6) (v := ?_) (by simp only [List.getElem?_toArray, List.getElem?_cons_succ, List.getElem?_cons_zero]; rfl) (by kernel_rfl) (by kernel_rfl) (by kernel_rfl) (fun _ _ _ h => h) (Or.inl ⟨by rfl, ?_⟩) (by assumption) ?_
  rotate_left 1
  · intro w hSw; (try dsimp only at hSw); go_simp; all_goals (with_reducible rfl)
  try simp only [Act.put, List.setIfInBounds_toArray, List.set_cons_zero, List.set_cons_succ]
  refine wpAnyH_take (i := 7) (v := ?_) (by simp only [List.getElem?_toArray, List.getElem?_cons_succ, List.getElem?_cons_zero]; rfl) (by kernel_rfl) (by kernel_rfl) (by kernel_rfl) (fun _ _ _ h => h) (Or.inl ⟨by rfl, ?_⟩) (by assumption) ?_
  rotate_left 1
  · intro w hSw; (try dsimp only at hSw); go_simp; all_goals (with_reducible rfl)
  try simp only [Act.put, List.setIfInBounds_toArray, List.set_cons_zero, List.set_cons_succ]
  refine wpAnyH_take (i := 8) (v := ?_) (by simp only [List.getElem?_toArray, List.getElem?_cons_succ, List.getElem?_cons_zero]; rfl) (by kernel_rfl) (by kernel_rfl) (by kernel_rfl) (fun _ _ _ h => h) (Or.inl ⟨by rfl, ?_⟩) (by assumption) ?_
  rotate_left 1
  · intro w hSw; (try dsimp only at hSw); go_simp; all_goals (with_reducible rfl)
  try simp only [Act.put, List.setIfInBounds_toArray, List.set_cons_zero, List.set_cons_succ]
  refine wpAnyH_take (i := 9) (v := ?_) (by simp only [List.getElem?_toArray, List.getElem?_cons_succ, List.getElem?_cons_zero]; rfl) (by kernel_rfl) (by kernel_rfl) (by kernel_rfl) (fun _ _ _ h => h) (Or.inl ⟨by rfl, ?_⟩) (by assumption) ?_
  rotate_left 1
  · intro w hSw; (try dsimp only at hSw); go_simp; all_goals (with_reducible rfl)
  try simp only [Act.put, List.setIfInBounds_toArray, List.set_cons_zero, List.set_cons_succ]
  refine wpAnyH_take (i := 10) (v := ?_) (by simp only [List.getElem?_toArray, List.getElem?_cons_succ, List.getElem?_cons_zero]; rfl) (by kernel_rfl) (by kernel_rfl) (by kernel_rfl) (fun _ _ _ h => h) (Or.inl ⟨by rfl, ?_⟩) (by assumption) ?_
  rotate_left 1
  · intro w hSw; (try dsimp only at hSw); go_simp; all_goals (with_reducible rfl)
  try simp only [Act.put, List.setIfInBounds_toArray, List.set_cons_zero, List.set_cons_succ]
  refine wpAnyH_take (i := 11) (v := ?_) (by simp only [List.getElem?_toArray, List.getElem?_cons_succ, List.getElem?_cons_zero]; rfl) (by kernel_rfl) (by kernel_rfl) (by kernel_rfl) (fun _ _ _ h => h) (Or.inl ⟨by rfl, ?_⟩) (by assumption) ?_
  rotate_left 1
  · intro w hSw; (try dsimp only at hSw); go_simp; all_goals (with_reducible rfl)
  try simp only [Act.put, List.setIfInBounds_toArray, List.set_cons_zero, List.set_cons_succ]
  refine wpAnyH_take (i := 12) (v := ?_) (by simp only [List.getElem?_toArray, List.getElem?_cons_succ, List.getElem?_cons_zero]; rfl) (by kernel_rfl) (by kernel_rfl) (by kernel_rfl) (fun _ _ _ h => h) (Or.inl ⟨by rfl, ?_⟩) (by assumption) ?_
  rotate_left 1
  · intro w hSw; (try dsimp only at hSw); go_simp; all_goals (with_reducible rfl)
  try simp only [Act.put, List.setIfInBounds_toArray, List.set_cons_zero, List.set_cons_succ]
  refine wpAnyH_ready (rs := [13]) (by kernel_rfl) (by simp) ?_
  refine AllReadyH.cons (by simp only [List.getElem?_toArray, List.getElem?_cons_succ, List.getElem?_cons_zero]; rfl) (fun K hK => ?_) AllReadyH.nil
  go_simp
  refine hK.out _ _ (trivial) (fun hHeld => ?_)
  clear hK K
  try simp only [Act.put, List.setIfInBounds_toArray, List.set_cons_zero, List.set_cons_succ]
  refine wpAnyH_take (i := 14) (v := ?_) (by simp only [List.getElem?_toArray, List.getElem?_cons_succ, List.getElem?_cons_zero]; rfl) (by kernel_rfl) (by kernel_rfl) (by kernel_rfl) (fun _ _ _ h => h) (Or.inl ⟨by rfl, ?_⟩) (by assumption) ?_
  rotate_left 1
  · intro w hSw; (try dsimp only at hSw); go_simp; all_goals (with_reducible rfl)
  try simp only [Act.put, List.setIfInBounds_toArray, List.set_cons_zero, List.set_cons_succ]
  refine wpAnyH_done (by kernel_rfl) ?_ _
  refine NoPanic.normal ?_
  go_wp2_with fail
  go_ret
  exact ⟨w.heap.size, rfl, Blk.made w.drew _ _, Nat.le_refl _, World.grownBy.trans (drew_new w) (World.grownBy_alloc _ _ _)⟩

set_option maxRecDepth 20000 in
set_option maxHeartbeats 1000000 in
theorem words_bool {w : World} {A : Addr} (b : Bool) (hc : w.cell? A = some (.bool b)) : Calls Try.prog 29 #[.iface 99 (.pointer (some A))] w (New w (flagB b)) := by
  have HW := Lib.hid (Flag_any (.slice none 0 0) [] b w (Bts.nil w) (by simp))
  have t0 := fun (w : World) (v : Value) => ta_2_0 w v
  have t1 := fun (w : World) (v : Value) => ta_2_1 w v
  have t2 := fun (w : World) (v : Value) => ta_2_2 w v
  go_enter Try.func29, Try.ntmps29
  go_wp2_with fail
  refine HW.out.mono ?_; rintro e w2 ⟨v2, rfl, h1, h2⟩
  obtain ⟨a2, n2, c2, rfl⟩ := h1.bts.shape
  have H1 := Lib.hid h1; have H2 := Lib.hid h2
  clear h1 h2
  go_wp2_with fail
  go_ret
  exact ⟨_, rfl, H1.out, H2.out⟩

set_option maxRecDepth 20000 in
set_option maxHeartbeats 1000000 in
theorem words_u8 {w : World} {A : Addr} (n : Nat) (hn : n < 256) (hc : w.cell? A = some (.int .u8 (n : Int))) : Calls Try.prog 29 #[.iface 103 (.pointer (some A))] w (New w (word4 n)) := by
  have HW := Lib.hid (Word_any (.slice none 0 0) [] n w (Bts.nil w) (by simp) (by omega))
  have hn2 : (n : Int) ≤ 255 := by omega
  clear hn
  have t0 := fun (w : World) (v : Value) => ta_4_0 w v
  have t1 := fun (w : World) (v : Value) => ta_4_1 w v
  have t2 := fun (w : World) (v : Value) => ta_4_2 w v
  have t3 := fun (w : World) (v : Value) => ta_4_3 w v
  have t4 := fun (w : World) (v : Value) => ta_4_4 w v
  go_enter Try.func29, Try.ntmps29
  go_wp2_with fail
  refine HW.out.mono ?_; rintro e w2 ⟨v2, rfl, h1, h2⟩
  obtain ⟨a2, n2, c2, rfl⟩ := h1.bts.shape
  have H1 := Lib.hid h1; have H2 := Lib.hid h2
  clear h1 h2
  go_wp2_with fail
  go_ret
  exact ⟨_, rfl, H1.out, H2.out⟩

/-- The lowest 32 bits. -/
def lo32 (z : Int) : Nat := (z % 4294967296).toNat
theorem wrap_lo32 (z : Int) : IntKind.u32.wrap z = (lo32 z : Int) := by rw [IntKind.wrap_u32]; unfold lo32; omega

set_option maxRecDepth 20000 in
set_option maxHeartbeats 1000000 in
theorem words_errno {w : World} {A : Addr} (z : Int) (hc : w.cell? A = some (.int .i64 z)) : Calls Try.prog 29 #[.iface 104 (.pointer (some A))] w (New w (word4 (lo32 z))) := by
  have HW := Lib.hid (Word_any (.slice none 0 0) [] (lo32 z) w (Bts.nil w) (by simp) (by unfold lo32; omega))
  have hwr := wrap_lo32 z
  have t0 := fun (w : World) (v : Value) => ta_5_0 w v
  have t1 := fun (w : World) (v : Value) => ta_5_1 w v
  have t2 := fun (w : World) (v : Value) => ta_5_2 w v
  have t3 := fun (w : World) (v : Value) => ta_5_3 w v
  have t4 := fun (w : World) (v : Value) => ta_5_4 w v
  have t5 := fun (w : World) (v : Value) => ta_5_5 w v
  go_enter Try.func29, Try.ntmps29
  go_wp2_with fail
  refine HW.out.mono ?_; rintro e w2 ⟨v2, rfl, h1, h2⟩
  obtain ⟨a2, n2, c2, rfl⟩ := h1.bts.shape
  have H1 := Lib.hid h1; have H2 := Lib.hid h2
  clear h1 h2
  go_wp2_with fail
  go_ret
  exact ⟨_, rfl, H1.out, H2.out⟩


set_option maxRecDepth 20000 in
set_option maxHeartbeats 2000000 in
/-- The words of fields, one behind the other. -/
theorem wordsOfAll_any (b : Nat) (fs : List (Value × List UInt8)) (w : World) (hb : Blk w b 20 (fs.map (·.1)).toArray) (hs : ∀ f ∈ fs, f.1 ≠ .nilIface ∧ ∃ t v, f.1 = .iface t v) (hl : fs.length ≤ 8) (hlen : ∀ f ∈ fs, f.2.length ≤ 1000000000)
    (hw : ∀ f ∈ fs, ∀ w', w.grownBy w' none → Calls Try.prog 29 #[f.1] w' (New w' f.2)) :
    Calls Try.prog 69 #[.slice (some ⟨b, 0, none⟩) fs.length fs.length] w (New w (fs.flatMap (·.2))) := by
  have HB := Lib.hid hb
  have HS := Lib.hid hs
  have HW := Lib.hid hw
  have HLN := Lib.hid hlen
  have HSUM : Hid (∀ j, ((fs.take j).flatMap (·.2)).length ≤ 1000000000 * 8) := Lib.hid (fun j => by
    have key : ∀ (l : List (Value × List UInt8)), (∀ f ∈ l, f.2.length ≤ 1000000000) → (l.flatMap (·.2)).length ≤ 1000000000 * l.length := by
      intro l
      induction l with
      | nil => intro _; simp
      | cons f l ih =>
        intro h
        have h1 := h f (by simp)
        have h2 := ih (fun g hg => h g (by simp [hg]))
        rw [List.flatMap_cons, List.length_append, List.length_cons]
        omega
    have h := key (fs.take j) (fun f hf => hlen f (List.mem_of_mem_take hf))
    have h2 : (fs.take j).length ≤ 8 := by rw [List.length_take]; omega
    omega)
  obtain ⟨n, hn⟩ : ∃ n, fs.length = n := ⟨_, rfl⟩
  have HN := Lib.hid hn
  have hn8 : (n : Int) ≤ 8 := by omega
  rw [hn]
  clear hb hs hw hlen hl hn
  go_enter Try.func69, Try.ntmps69
  go_wp2_with fail
  go_loopw [3, 8] (fun v i w' => ∃ j : Nat, j ≤ n ∧ i = .int .i64 j ∧ Own w' w.heap.size v ((fs.take j).flatMap (·.2)) ∧ w.grownBy w' none) (fun _ i w' => n - (intOf i).toNat)
  case atStart => exact ⟨0, Nat.zero_le _, rfl, Own.nil _ _, World.grownBy.refl _ _⟩
  case round =>
    obtain ⟨j, hj, rfl, hown, hgr⟩ := hrel
    have HO := Lib.hid hown
    have HG := Lib.hid hgr
    clear hown hgr
    by_cases hlt : j < n
    · have hlt' : j < fs.length := by have := HN.out; omega
      have hmem := List.getElem_mem hlt'
      obtain ⟨t, u, hf⟩ := (HS.out _ hmem).2
      have hcell := (HB.out.new HG.out).cell (i := j) (x := fs[j].1) (by simp [hlt'])
      have hW := HW.out _ hmem _ HG.out
      have HT : Hid ((fs.take (j + 1)).flatMap (·.2) = (fs.take j).flatMap (·.2) ++ fs[j].2) := Lib.hid (by rw [List.take_succ_eq_append_getElem hlt', List.flatMap_append]; simp)
      have HLJ := Lib.hid (HLN.out _ hmem)
      have hsum := HSUM.out j
      rw [hf] at hcell hW
      generalize fs[j].2 = bs at *
      generalize (fs.take j).flatMap (·.2) = ws at *
      have HWW := Lib.hid hW
      have HLE : Hid (ws.length + bs.length ≤ 140737488355328) := Lib.hid (by have := HLJ.out; omega)
      obtain ⟨a3, n3, c3, rfl⟩ := HO.out.bts.shape
      clear hW hmem hf hsum
      go_wp2_with fail
      refine HWW.out.mono ?_; rintro e w2 ⟨v2, rfl, h1, h2⟩
      obtain ⟨a2, n2, c2, rfl⟩ := h1.bts.shape
      have HO2 := Lib.hid (HO.out.new h2)
      have H1 := Lib.hid h1.bts
      have HG2 := Lib.hid (World.grownBy.trans HG.out h2)
      clear h1 h2
      go_wp2_with (at_builtin; refine wpList_append_bts rfl _ _ rfl w.heap.size _ _ ws bs rfl rfl HO2.out H1.out HLE.out HG2.out.size ?_; rintro v5 w5 ⟨h6, h7, h8⟩; obtain ⟨a5, n5, c5, rfl⟩ := h6.bts.shape; have H6 := Lib.hid h6; have H7 := Lib.hid h7; clear h6 h7 h8)
      go_roundw
      case rel => exact ⟨j + 1, by omega, by go_num, by rw [HT.out]; exact H6.out, grown_own HG2.out H7.out (fun m hm => (HO2.out.lt m hm).1)⟩
      case measure => simp [intOf]; omega
    · obtain rfl : j = n := by omega
      obtain ⟨a3, n3, c3, rfl⟩ := HO.out.bts.shape
      clear hlt
      go_wp2_with fail
      go_ret
      have h := HO.out
      rw [List.take_of_length_le (by have := HN.out; omega)] at h
      exact ⟨_, rfl, h, HG.out⟩

theorem attrB_eq (a : At) (R o : Nat) : ((attrVs R o).zip [word4 a.k.toNat, longB (bits64 a.m), longB (bits64 a.l), longB (bits64 a.s), longB (bits64 a.mt), longB (bits64 a.ct), longB (bits64 a.i), longB (bits64 a.g)]).flatMap (·.2) = attrB a := by
  simp [attrVs, attrB, ints, at7]
set_option maxRecDepth 20000 in
set_option maxHeartbeats 2000000 in
theorem words_attr {w : World} {R o : Nat} (a : At) (hk : 0 ≤ a.k ∧ a.k < 256) (c0 : w.cell? ⟨R, o, none⟩ = some (.int .u8 a.k)) (c1 : w.cell? ⟨R, o + 1, none⟩ = some (.int .i64 a.m)) (c2 : w.cell? ⟨R, o + 2, none⟩ = some (.int .i64 a.l)) (c3 : w.cell? ⟨R, o + 3, none⟩ = some (.int .i64 a.s)) (c4 : w.cell? ⟨R, o + 4, none⟩ = some (.int .i64 a.mt)) (c5 : w.cell? ⟨R, o + 5, none⟩ = some (.int .i64 a.ct)) (c6 : w.cell? ⟨R, o + 6, none⟩ = some (.int .i64 a.i)) (c7 : w.cell? ⟨R, o + 7, none⟩ = some (.int .i64 a.g)) :
    Calls Try.prog 29 #[.iface 106 (.pointer (some ⟨R, o, none⟩))] w (New w (attrB a)) := by
  obtain ⟨n, hn⟩ := Int.eq_ofNat_of_zero_le hk.1
  rw [hn] at c0
  have HWA : Hid (∀ w1 b, w.grownBy w1 none → Blk w1 b 20 (attrVs R o).toArray → Calls Try.prog 69 #[.slice (some ⟨b, 0, none⟩) 8 8] w1 (New w1 (attrB a))) := Lib.hid (fun w1 b g hb => by
    rw [← attrB_eq a R o]
    refine wordsOfAll_any b ((attrVs R o).zip [word4 a.k.toNat, longB (bits64 a.m), longB (bits64 a.l), longB (bits64 a.s), longB (bits64 a.mt), longB (bits64 a.ct), longB (bits64 a.i), longB (bits64 a.g)]) w1 hb ?_ (by simp [attrVs]) ?_ ?_
    · intro f hf
      simp [attrVs] at hf
      rcases hf with rfl | rfl | rfl | rfl | rfl | rfl | rfl | rfl <;> exact ⟨by simp, _, _, rfl⟩
    · intro f hf
      simp [attrVs] at hf
      rcases hf with rfl | rfl | rfl | rfl | rfl | rfl | rfl | rfl <;> (dsimp only; first | (rw [longB_len]; omega) | (rw [word4_len]; omega))
    · intro f hf w2 g2
      have g3 := World.grownBy.trans g g2
      simp [attrVs] at hf
      rcases hf with rfl | rfl | rfl | rfl | rfl | rfl | rfl | rfl
      · have := words_u8 n (by omega) (g3.cell c0 (by simp))
        rw [show a.k.toNat = n by omega]
        exact this
      · exact words_int a.m (g3.cell c1 (by simp))
      · exact words_int a.l (g3.cell c2 (by simp))
      · exact words_int a.s (g3.cell c3 (by simp))
      · exact words_int a.mt (g3.cell c4 (by simp))
      · exact words_int a.ct (g3.cell c5 (by simp))
      · exact words_int a.i (g3.cell c6 (by simp))
      · exact words_int a.g (g3.cell c7 (by simp)))
  clear c0 c1 c2 c3 c4 c5 c6 c7
  have HWP := Lib.hid (fun w => attrParts_any R o w)
  have t0 := fun (w : World) (v : Value) => ta_7_0 w v
  have t1 := fun (w : World) (v : Value) => ta_7_1 w v
  have t2 := fun (w : World) (v : Value) => ta_7_2 w v
  have t3 := fun (w : World) (v : Value) => ta_7_3 w v
  have t4 := fun (w : World) (v : Value) => ta_7_4 w v
  have t5 := fun (w : World) (v : Value) => ta_7_5 w v
  have t6 := fun (w : World) (v : Value) => ta_7_6 w v
  have t7 := fun (w : World) (v : Value) => ta_7_7 w v
  go_enter Try.func29, Try.ntmps29
  go_wp2_with fail
  refine (HWP.out w).mono ?_; rintro e w1 ⟨b, rfl, hb, h2, g1⟩
  have HG := Lib.hid g1
  have HB := Lib.hid hb
  clear h2 g1 hb
  go_wp2_with fail
  refine (HWA.out w1 b HG.out HB.out).mono ?_; rintro e w2 ⟨v2, rfl, h1, h2⟩
  obtain ⟨a2, n2, c2, rfl⟩ := h1.bts.shape
  have H1 := Lib.hid (h1.base HG.out.size); have H2 := Lib.hid (World.grownBy.trans HG.out h2)
  clear h1 h2
  go_wp2_with fail
  go_ret
  exact ⟨_, rfl, H1.out, H2.out⟩

/-- The words of an entry, of entries. -/
def enB (e : En) : List UInt8 := textB e.n ++ (longB (bits64 e.i) ++ longB (bits64 e.c))
def ensB (es : List En) : List UInt8 := word4 es.length ++ es.flatMap enB
theorem enB_len (e : En) (h : e.n.length ≤ 100000) : (enB e).length ≤ 100030 := by
  unfold enB
  have k1 := textB_len e.n
  have p1 := pad_le e.n.length
  rw [List.length_append, List.length_append, longB_len, longB_len]
  omega
theorem ensB_len (es : List En) (h : ∀ e ∈ es, e.n.length ≤ 100000) : (es.flatMap enB).length ≤ 100030 * es.length := by
  induction es with
  | nil => simp
  | cons e l ih =>
    have h1 := enB_len e (h e (by simp))
    have h2 := ih (fun g hg => h g (by simp [hg]))
    rw [List.flatMap_cons, List.length_append, List.length_cons]
    omega

theorem words_entry {w w1 : World} {E b : Nat} (en : En) (h0 : en.n.length ≤ 100000) (hE : Blk w E 44 #[txt en.n, .int .i64 en.i, .int .i64 en.c]) (g : w.grownBy w1 none) (hb : Blk w1 b 20 (entVs E 0).toArray) :
    Calls Try.prog 69 #[.slice (some ⟨b, 0, none⟩) 3 3] w1 (New w1 (enB en)) := by
  have e1 : enB en = ((entVs E 0).zip [textB en.n, longB (bits64 en.i), longB (bits64 en.c)]).flatMap (·.2) := by simp [entVs, enB]
  rw [e1]
  refine wordsOfAll_any b ((entVs E 0).zip [textB en.n, longB (bits64 en.i), longB (bits64 en.c)]) w1 hb ?_ (by simp [entVs]) ?_ ?_
  · intro f hf
    simp [entVs] at hf
    rcases hf with rfl | rfl | rfl <;> exact ⟨by simp, _, _, rfl⟩
  · intro f hf
    simp [entVs] at hf
    have k1 := textB_len en.n
    have p1 := pad_le en.n.length
    rcases hf with rfl | rfl | rfl <;> (dsimp only; first | omega | (rw [longB_len]; omega))
  · intro f hf w2 g2
    have hE2 := (hE.new g).new g2
    simp [entVs] at hf
    rcases hf with rfl | rfl | rfl
    · exact words_text en.n 255 (by omega) (hE2.cell rfl)
    · exact words_int en.i (hE2.cell rfl)
    · exact words_int en.c (hE2.cell rfl)

end Go.Proofs.Ytpklgcinijlmmaa
namespace Go.Proofs.Ytpklgcinijlmmaa
open Go.RowKit

set_option maxRecDepth 20000 in
set_option maxHeartbeats 4000000 in
theorem words_entries {w : World} {A : Addr} (ev : Value) (es : List En) (hc : w.cell? A = some ev) (hv : Ents w ev es) (hl : es.length ≤ 100000) (hn : ∀ e ∈ es, e.n.length ≤ 100000) :
    Calls Try.prog 29 #[.iface 110 (.pointer (some A))] w (New w (ensB es)) := by
  have HWD := Lib.hid (Word_any (.slice none 0 0) [] es.length w (Bts.nil w) (by simp) (by omega))
  have HPT := Lib.hid (fun E w => entryParts_any E 0 w)
  have HV := Lib.hid hv
  have HNN := Lib.hid hn
  have HEN : Hid (∀ j (h : j < es.length) w w1 E b, Blk w E 44 #[txt es[j].n, .int .i64 es[j].i, .int .i64 es[j].c] → w.grownBy w1 none → Blk w1 b 20 (entVs E 0).toArray → Calls Try.prog 69 #[.slice (some ⟨b, 0, none⟩) 3 3] w1 (New w1 (enB es[j]))) := Lib.hid (fun j h w w1 E b hE g hb => words_entry es[j] (hn _ (List.getElem_mem h)) hE g hb)
  have HSUM : Hid (∀ j, ((es.take j).flatMap enB).length ≤ 100030 * 100000) := Lib.hid (fun j => by
    have := ensB_len (es.take j) (fun e he => hn e (List.mem_of_mem_take he))
    have h2 : (es.take j).length ≤ 100000 := by rw [List.length_take]; omega
    omega)
  obtain ⟨a1, c1, rfl, hm⟩ := hv.form
  have HAT := Lib.hid (fun h0 : 0 < es.length => hv.at h0)
  obtain ⟨n, hnn⟩ : ∃ n, es.length = n := ⟨_, rfl⟩
  have HN := Lib.hid hnn
  have hn8 : (n : Int) ≤ 100000 := by omega
  have hwr : IntKind.u32.wrap (n : Int) = (n : Int) := by rw [IntKind.wrap_u32]; omega
  unfold ensB
  rw [hnn] at HWD HV hc ⊢
  clear hv hn hl hnn hm
  have t0 := fun (w : World) (v : Value) => ta_8_0 w v
  have t1 := fun (w : World) (v : Value) => ta_8_1 w v
  have t2 := fun (w : World) (v : Value) => ta_8_2 w v
  have t3 := fun (w : World) (v : Value) => ta_8_3 w v
  have t4 := fun (w : World) (v : Value) => ta_8_4 w v
  have t5 := fun (w : World) (v : Value) => ta_8_5 w v
  have t6 := fun (w : World) (v : Value) => ta_8_6 w v
  have t7 := fun (w : World) (v : Value) => ta_8_7 w v
  have t8 := fun (w : World) (v : Value) => ta_8_8 w v
  go_enter Try.func29, Try.ntmps29
  go_wp2_with fail
  try rw [hwr]
  refine HWD.out.mono ?_; rintro e w2 ⟨v2, rfl, h1, h2⟩
  obtain ⟨a2, n2, c2, rfl⟩ := h1.bts.shape
  have H1 := Lib.hid h1; have H2 := Lib.hid h2
  have hc2 := h2.cell hc (by simp)
  clear h1 h2 hwr HWD
  go_wp2_with fail
  clear hc hc2
  go_loopw [14, 94] (fun v i w' => ∃ j : Nat, j ≤ n ∧ i = .int .i64 j ∧ Own w' w.heap.size v (word4 n ++ (es.take j).flatMap enB) ∧ w.grownBy w' none) (fun _ i w' => n - (intOf i).toNat)
  case atStart => exact ⟨0, Nat.zero_le _, rfl, by simpa using H1.out, H2.out⟩
  case round =>
    obtain ⟨j, hj, rfl, hown, hgr⟩ := hrel
    have HO := Lib.hid hown
    have HG := Lib.hid hgr
    clear hown hgr
    by_cases hlt : j < n
    · have hlt' : j < es.length := by have := HN.out; omega
      obtain ⟨b, o, rfl, hat⟩ := HAT.out (by omega)
      obtain ⟨k0, k1, k2⟩ := hat j hlt'
      have hgd : es.getD j ⟨[], 0, 0⟩ = es[j] := by simp [List.getD, hlt']
      rw [hgd] at k0 k1 k2
      have k0 := HG.out.cell k0 (by simp)
      have k1 := HG.out.cell k1 (by simp)
      have k2 := HG.out.cell k2 (by simp)
      have HT : Hid (word4 n ++ (es.take (j + 1)).flatMap enB = (word4 n ++ (es.take j).flatMap enB) ++ enB es[j]) := Lib.hid (by rw [List.take_succ_eq_append_getElem hlt', List.flatMap_append]; simp)
      have HLE : Hid ((word4 n ++ (es.take j).flatMap enB).length + (enB es[j]).length ≤ 140737488355328) := Lib.hid (by
        have h1 := HSUM.out j
        have h2 := enB_len es[j] (HNN.out _ (List.getElem_mem hlt'))
        rw [List.length_append, word4_len]; omega)
      have HE := Lib.hid (fun w w1 E b hE g hb => HEN.out j hlt' w w1 E b hE g hb)
      generalize enB es[j] = bs at *
      generalize word4 n ++ (es.take j).flatMap enB = ws at *
      obtain ⟨⟨nm, ei, ec⟩, hz⟩ : ∃ z, es[j] = z := ⟨_, rfl⟩
      rw [hz] at k0 k1 k2 HE
      clear hz
      unfold txt at k0 HE
      dsimp only at k0 k1 k2 HE
      obtain ⟨a3, n3, c3, rfl⟩ := HO.out.bts.shape
      clear hat hgd
      go_upto_region 33 with fail
      have hE := Blk.made wr 44 #[.string ⟨nm.toArray⟩, .int .i64 ei, .int .i64 ec]
      have ga := World.grownBy_alloc wr (.cells #[.string ⟨nm.toArray⟩, .int .i64 ei, .int .i64 ec] 44) none
      replace HO := Lib.hid (HO.out.new ga)
      replace HG := Lib.hid (World.grownBy.trans HG.out ga)
      have HEB := Lib.hid hE
      clear hE ga k0 k1 k2
      generalize wr.alloc (.cells #[.string ⟨nm.toArray⟩, .int .i64 ei, .int .i64 ec] 44) = w3 at *
      generalize wr.heap.size = E at *
      go_wp2_with fail
      refine (HPT.out E w3).mono ?_; rintro e w4 ⟨b4, rfl, hb4, _, g4⟩
      have HC4 := Lib.hid (HE.out w3 w4 E b4 HEB.out g4 hb4)
      replace HO := Lib.hid (HO.out.new g4)
      replace HG := Lib.hid (World.grownBy.trans HG.out g4)
      clear hb4 g4 HE
      go_wp2_with fail
      refine HC4.out.mono ?_; rintro e w5 ⟨v5, rfl, h5, g5⟩
      obtain ⟨a5, n5, c5, rfl⟩ := h5.bts.shape
      replace HO := Lib.hid (HO.out.new g5)
      replace HG := Lib.hid (World.grownBy.trans HG.out g5)
      have H5 := Lib.hid h5.bts
      clear h5 g5 HC4
      go_wp2_with (at_builtin; refine wpList_append_bts rfl _ _ rfl w.heap.size _ _ ws bs rfl rfl HO.out H5.out HLE.out HG.out.size ?_; rintro v6 w6 ⟨h6, h7, h8⟩; obtain ⟨a6, n6, c6, rfl⟩ := h6.bts.shape; have H6 := Lib.hid h6; have H7 := Lib.hid h7; clear h6 h7 h8)
      go_roundw
      case rel => exact ⟨j + 1, by omega, by go_num, by rw [HT.out]; exact H6.out, grown_own HG.out H7.out (fun m hm => (HO.out.lt m hm).1)⟩
      case measure => simp [intOf]; omega
    · obtain rfl : j = n := by omega
      obtain ⟨a3, n3, c3, rfl⟩ := HO.out.bts.shape
      clear hlt
      go_wp2_with fail
      go_ret
      have h := HO.out
      rw [List.take_of_length_le (by have := HN.out; omega)] at h
      exact ⟨_, rfl, h, HG.out⟩

end Go.Proofs.Ytpklgcinijlmmaa
namespace Go.Proofs.Ytpklgcinijlmmaa
open Go.RowKit

theorem n4_nonneg (a b c d : UInt8) : 0 ≤ n4 a b c d := (num4_lt _ _ _ _ a.toNat_lt b.toNat_lt c.toNat_lt d.toNat_lt).1
theorem rCount_range (m : Int) (hm : 0 ≤ m) (s : St) : 0 ≤ (rCount m s).1 ∧ (rCount m s).1 ≤ m := by
  match s with
  | none => exact ⟨Int.le_refl _, hm⟩
  | some [] => exact ⟨Int.le_refl _, hm⟩
  | some [_] => exact ⟨Int.le_refl _, hm⟩
  | some [_, _] => exact ⟨Int.le_refl _, hm⟩
  | some [_, _, _] => exact ⟨Int.le_refl _, hm⟩
  | some (a :: b :: c :: d :: bs) =>
    unfold rCount
    dsimp only
    split
    · exact ⟨n4_nonneg a b c d, by assumption⟩
    · exact ⟨Int.le_refl _, hm⟩

section
variable {w : World} {R r i : Nat} {g : Option Nat} {t : TypeId} {xs : Array Value} {s : St}
set_option maxRecDepth 20000 in
set_option maxHeartbeats 1000000 in
theorem read_u8 {x : Value} (hb : Blk w R t xs) (hx : xs[i]? = some x) (hr : RdrS w r g s) (hR : R ≠ r) (hg : g ≠ some R) :
    Calls Try.prog 32 #[.pointer (some ⟨r, 0, none⟩), .iface 103 (.pointer (some ⟨R, i, none⟩))] w (RF w R r g t (xs.setIfInBounds i (.int .u8 (rCount 3 s).1)) (rCount 3 s).2 (decide (1 ≤ (rCount 3 s).1))) := by
  have HC := Lib.hid (count_s r g s 3 w hr)
  have hn := rCount_range 3 (by omega) s
  have hlt : i < xs.size := (Array.getElem?_eq_some_iff.1 hx).1
  have HB := Lib.hid hb
  have HX := Lib.hid hx
  have HR := Lib.hid hR
  have HG := Lib.hid hg
  clear hb hx hr hR hg
  generalize (rCount 3 s).1 = u at *
  generalize (rCount 3 s).2 = s' at *
  have hwr : IntKind.u8.wrap u = u := by rw [IntKind.wrap_u8]; omega
  have HLT := Lib.hid hlt
  obtain ⟨ok, hok⟩ : ∃ ok, decide (1 ≤ u) = ok := ⟨_, rfl⟩
  rw [hok]
  have HK := Lib.hid hok
  clear hlt hok
  have t0 := fun (w : World) (v : Value) => ta_4_0 w v
  have t1 := fun (w : World) (v : Value) => ta_4_1 w v
  have t2 := fun (w : World) (v : Value) => ta_4_2 w v
  have t3 := fun (w : World) (v : Value) => ta_4_3 w v
  have t4 := fun (w : World) (v : Value) => ta_4_4 w v
  go_enter Try.func32, Try.ntmps32
  go_wp2_with fail
  refine HC.out.mono ?_; rintro e w1 ⟨rfl, h1, h2⟩
  have hb1 := HB.out.kept h2 (by have := HR.out; simpa using this)
  have c0 := hb1.cell HX.out
  have f0 := hb1.frozen i
  have HB1 := Lib.hid hb1
  have H1 := Lib.hid h1
  have H2 := Lib.hid (KeepB.of (S := fun k => k = R ∨ k = r) h2 (fun k e => by cases e; exact .inr rfl))
  clear hb1 h1 h2
  go_upto_region 17 with fail
  have hE := RF_end (w := w) HB1.out H1.out H2.out HR.out HG.out (i := i) (.int .u8 u) ok
  have c1 := hE.2.1.cell (i := i) (x := .int .u8 u) (by have := HLT.out; simp [this])
  have HE := Lib.hid hE
  clear hE c0 f0
  generalize World.setCell _ _ _ = w2 at *
  go_wp2_with fail
  go_ret
  have h := HE.out
  exact ⟨by first | (rw [← HK.out]; done) | (rw [← HK.out]; simp; done) | (simp [← HK.out]), h.2⟩
end

/-- Have all been read well? -/
def okAll (f : Nat → Bool) : Nat → Bool
  | 0 => true
  | n + 1 => f n && okAll f n

set_option maxRecDepth 20000 in
set_option maxHeartbeats 2000000 in
/-- Fields read, one behind the other. J: what holds behind so many. -/
theorem readAll_any (b r : Nat) (fs : List Value) (J : Nat → World → Prop) (okf : Nat → Bool) (w : World) (hb : Blk w b 20 fs.toArray) (h0 : J 0 w) (hl : fs.length ≤ 8) (hif : ∀ f ∈ fs, ∃ t v, f = .iface t v)
    (hstep : ∀ j (h : j < fs.length) w', J j w' → b < w'.heap.size → Calls Try.prog 32 #[.pointer (some ⟨r, 0, none⟩), fs[j]] w' fun e w'' => e = .returned (.bool (okf j)) ∧ J (j + 1) w'' ∧ w''.heap[b]? = w'.heap[b]?) :
    Calls Try.prog 80 #[.pointer (some ⟨r, 0, none⟩), .slice (some ⟨b, 0, none⟩) fs.length fs.length] w fun e w' => e = .returned (.bool (okAll okf fs.length)) ∧ J fs.length w' := by
  have HB := Lib.hid hb
  have H0 := Lib.hid h0
  have HF := Lib.hid hif
  have HSt := Lib.hid hstep
  obtain ⟨n, hn⟩ : ∃ n, fs.length = n := ⟨_, rfl⟩
  have HN := Lib.hid hn
  have hn8 : (n : Int) ≤ 8 := by omega
  rw [hn]
  clear hb h0 hif hstep hl hn
  go_enter Try.func80, Try.ntmps80
  go_wp2_with fail
  go_loopw [5, 10] (fun v i w' => ∃ j : Nat, j ≤ n ∧ i = .int .i64 j ∧ v = .bool (okAll okf j) ∧ J j w' ∧ Blk w' b 20 fs.toArray) (fun _ i w' => n - (intOf i).toNat)
  case atStart => exact ⟨0, Nat.zero_le _, rfl, rfl, H0.out, HB.out⟩
  case round =>
    obtain ⟨j, hj, rfl, rfl, hJ, hB⟩ := hrel
    have HJ := Lib.hid hJ
    have HBB := Lib.hid hB
    clear hJ hB
    by_cases hlt : j < n
    · have hlt' : j < fs.length := by have := HN.out; omega
      obtain ⟨t, u, hf⟩ := HF.out _ (List.getElem_mem hlt')
      have hcell := HBB.out.cell (i := j) (x := fs[j]) (by simp [hlt'])
      have hW := HSt.out j hlt' _ HJ.out HBB.out.lt
      rw [hf] at hcell hW
      have HOK : Hid (okAll okf (j + 1) = (okf j && okAll okf j)) := Lib.hid rfl
      generalize okf j = o1 at *
      generalize okAll okf j = o2 at *
      have HWW := Lib.hid hW
      clear hW hf
      go_wp2_with fail
      refine HWW.out.mono ?_; rintro e w2 ⟨rfl, h1, h2⟩
      have H1 := Lib.hid h1
      have H2 : Hid (Blk w2 b 20 fs.toArray) := Lib.hid (by have h := HBB.out; unfold Blk at *; rw [h2]; exact h)
      clear h1 h2
      cases o1
      all_goals
        go_wp2_with fail
        go_roundw
        case rel => exact ⟨j + 1, by omega, by go_num, by rw [HOK.out]; simp, H1.out, H2.out⟩
        case measure => simp [intOf]; omega
    · obtain rfl : j = n := by omega
      go_wp2_with fail
      go_ret
      exact ⟨rfl, HJ.out⟩

/-- An Attr read, field by field: the reader's state, the value, the cells. -/
def aSt (s : St) : Nat → St
  | 0 => s
  | 1 => (rCount 3 s).2
  | j + 2 => (rInt (aSt s (j + 1))).2
def aVal (s : St) : Nat → Value
  | 0 => .int .u8 (rCount 3 s).1
  | j + 1 => .int .i64 (rInt (aSt s (j + 1))).1
def aCells (xs : Array Value) (o : Nat) (s : St) : Nat → Array Value
  | 0 => xs
  | j + 1 => (aCells xs o s j).setIfInBounds (o + j) (aVal s j)
theorem aCells_size (xs : Array Value) (o : Nat) (s : St) : ∀ j, (aCells xs o s j).size = xs.size
  | 0 => rfl
  | j + 1 => by
    show ((aCells xs o s j).setIfInBounds (o + j) (aVal s j)).size = _
    rw [Array.size_setIfInBounds]
    exact aCells_size xs o s j
def okA (s : St) (j : Nat) : Bool := if j = 0 then decide (1 ≤ (rCount 3 s).1) else true
theorem okA_all (s : St) : okAll (okA s) 8 = decide (1 ≤ (rCount 3 s).1) := by
  simp [okAll, okA]

set_option maxRecDepth 20000 in
set_option maxHeartbeats 2000000 in
theorem read_attr {w : World} {R r o : Nat} {g : Option Nat} {t : TypeId} {xs : Array Value} {s : St} (hb : Blk w R t xs) (ho : o + 8 ≤ xs.size) (hr : RdrS w r g s) (hR : R ≠ r) (hg : g ≠ some R) :
    Calls Try.prog 32 #[.pointer (some ⟨r, 0, none⟩), .iface 106 (.pointer (some ⟨R, o, none⟩))] w (RF w R r g t (aCells xs o s 8) (aSt s 8) (decide (1 ≤ (rCount 3 s).1))) := by
  have hRl := hb.lt
  have hrl := hr.lt
  have HRA : Hid (∀ w1 b, w.heap.size ≤ b → w.grownBy w1 none → Blk w1 b 20 (attrVs R o).toArray → Calls Try.prog 80 #[.pointer (some ⟨r, 0, none⟩), .slice (some ⟨b, 0, none⟩) 8 8] w1 (RF w R r g t (aCells xs o s 8) (aSt s 8) (decide (1 ≤ (rCount 3 s).1)))) := Lib.hid (fun w1 b hlt g1 hb1 => by
    refine (readAll_any b r (attrVs R o) (fun j w' => Blk w' R t (aCells xs o s j) ∧ RdrS w' r g (aSt s j) ∧ KeepB (fun k => k = R ∨ k = r) w w') (okA s) w1 hb1 ⟨hb.new g1, hr.new g1, KeepB.new g1⟩ (by simp [attrVs]) ?_ ?_).mono ?_
    · intro f hf
      simp [attrVs] at hf
      rcases hf with rfl | rfl | rfl | rfl | rfl | rfl | rfl | rfl <;> exact ⟨_, _, rfl⟩
    · intro j hj w' hJ hbl
      obtain ⟨j1, j2, j3⟩ := hJ
      have hj8 : j < 8 := hj
      have hx : ∃ x, (aCells xs o s j)[o + j]? = some x := ⟨_, Array.getElem?_eq_getElem (by rw [aCells_size]; omega)⟩
      obtain ⟨x, hx⟩ := hx
      have fin : ∀ e w'', RF w' R r g t (aCells xs o s (j + 1)) (aSt s (j + 1)) (okA s j) e w'' → (e = .returned (.bool (okA s j)) ∧ (Blk w'' R t (aCells xs o s (j + 1)) ∧ RdrS w'' r g (aSt s (j + 1)) ∧ KeepB (fun k => k = R ∨ k = r) w w'') ∧ w''.heap[b]? = w'.heap[b]?) := fun e w'' h => ⟨h.1, ⟨h.2.1, h.2.2.1, j3.trans h.2.2.2⟩, h.2.2.2.block b hbl (by omega)⟩
      rcases (show j = 0 ∨ j = 1 ∨ j = 2 ∨ j = 3 ∨ j = 4 ∨ j = 5 ∨ j = 6 ∨ j = 7 by omega) with rfl | rfl | rfl | rfl | rfl | rfl | rfl | rfl
      · exact (read_u8 (i := o) j1 hx j2 hR hg).mono fin
      · exact (read_int (i := o + 1) j1 hx j2 hR hg).mono fin
      · exact (read_int (i := o + 2) j1 hx j2 hR hg).mono fin
      · exact (read_int (i := o + 3) j1 hx j2 hR hg).mono fin
      · exact (read_int (i := o + 4) j1 hx j2 hR hg).mono fin
      · exact (read_int (i := o + 5) j1 hx j2 hR hg).mono fin
      · exact (read_int (i := o + 6) j1 hx j2 hR hg).mono fin
      · exact (read_int (i := o + 7) j1 hx j2 hR hg).mono fin
    · intro e w' h
      obtain ⟨h1, h2, h3, h4⟩ := h
      refine ⟨?_, h2, h3, h4⟩
      rw [h1, show (attrVs R o).length = 8 from rfl, okA_all])
  clear hb ho hr hRl hrl
  have HWP := Lib.hid (fun w => attrParts_any R o w)
  have t0 := fun (w : World) (v : Value) => ta_7_0 w v
  have t1 := fun (w : World) (v : Value) => ta_7_1 w v
  have t2 := fun (w : World) (v : Value) => ta_7_2 w v
  have t3 := fun (w : World) (v : Value) => ta_7_3 w v
  have t4 := fun (w : World) (v : Value) => ta_7_4 w v
  have t5 := fun (w : World) (v : Value) => ta_7_5 w v
  have t6 := fun (w : World) (v : Value) => ta_7_6 w v
  have t7 := fun (w : World) (v : Value) => ta_7_7 w v
  go_enter Try.func32, Try.ntmps32
  go_wp2_with fail
  refine (HWP.out w).mono ?_; rintro e w1 ⟨b, rfl, hb, h2, g1⟩
  have HG := Lib.hid g1
  have HB := Lib.hid hb
  have HL := Lib.hid h2
  clear h2 g1 hb
  go_wp2_with fail
  refine (HRA.out w1 b HL.out HG.out HB.out).mono ?_; rintro e w2 ⟨rfl, h1, h2, h3⟩
  have H1 := Lib.hid h1; have H2 := Lib.hid h2; have H3 := Lib.hid h3
  clear h1 h2 h3
  go_wp2_with fail
  go_ret
  exact ⟨rfl, H1.out, H2.out, H3.out⟩

end Go.Proofs.Ytpklgcinijlmmaa
namespace Go.Proofs.Ytpklgcinijlmmaa
open Go.RowKit

/-- An entry read; the reader's state behind so many; the entries. -/
def rEn (s : St) : En × St := (⟨(rText 255 s).1, (rInt (rText 255 s).2).1, (rInt (rInt (rText 255 s).2).2).1⟩, (rInt (rInt (rText 255 s).2).2).2)
def eSt (s : St) : Nat → St
  | 0 => s
  | j + 1 => (rEn (eSt s j)).2
def eList (s : St) (n : Nat) : List En := (List.range n).map fun j => (rEn (eSt s j)).1
def eVal (s : St) (i : Nat) : Value := if i % 3 = 0 then txt (rEn (eSt s (i / 3))).1.n else if i % 3 = 1 then .int .i64 (rEn (eSt s (i / 3))).1.i else .int .i64 (rEn (eSt s (i / 3))).1.c
def z3 : Array Value := #[.string ⟨#[]⟩, .int .i64 0, .int .i64 0]
/-- The cells of n entries, j of which are read. -/
def mC (n : Nat) (s : St) (j : Nat) : Array Value := (Array.range (n * 3)).map fun i => if i < j * 3 then eVal s i else z3[i % 3]!
theorem mC_size (n : Nat) (s : St) (j : Nat) : (mC n s j).size = n * 3 := by simp [mC]
theorem mC_zero (n : Nat) (s : St) : madeCells z3 (n * 3) = mC n s 0 := by
  unfold madeCells mC
  apply Array.ext
  · simp
  · intro i h1 h2
    simp [z3]
theorem mC_get (n : Nat) (s : St) (j i : Nat) : (mC n s j)[i]? = if i < n * 3 then some (if i < j * 3 then eVal s i else z3[i % 3]!) else none := by
  by_cases hi : i < n * 3
  · rw [if_pos hi, Array.getElem?_eq_getElem (by rw [mC_size]; exact hi)]
    simp only [mC, Array.getElem_map, Array.getElem_range]
  · rw [if_neg hi, Array.getElem?_eq_none (by rw [mC_size]; omega)]
theorem mC_step (n : Nat) (s : St) (j : Nat) (hj : j < n) :
    (((mC n s j).setIfInBounds (j * 3) (txt (rEn (eSt s j)).1.n)).setIfInBounds (j * 3 + 1) (.int .i64 (rEn (eSt s j)).1.i)).setIfInBounds (j * 3 + 2) (.int .i64 (rEn (eSt s j)).1.c) = mC n s (j + 1) := by
  apply Array.ext_getElem?
  intro i
  rw [Array.getElem?_setIfInBounds, Array.getElem?_setIfInBounds, Array.getElem?_setIfInBounds, mC_get, mC_get]
  simp only [Array.size_setIfInBounds, mC_size]
  by_cases e2 : j * 3 + 2 = i
  · rw [if_pos e2, if_pos (by omega), if_pos (by omega), if_pos (by omega)]
    unfold eVal
    rw [if_neg (by omega), if_neg (by omega), show i / 3 = j by omega]
  · rw [if_neg e2]
    by_cases e1 : j * 3 + 1 = i
    · rw [if_pos e1, if_pos (by omega), if_pos (by omega), if_pos (by omega)]
      unfold eVal
      rw [if_neg (by omega), if_pos (by omega), show i / 3 = j by omega]
    · rw [if_neg e1]
      by_cases e0 : j * 3 = i
      · rw [if_pos e0, if_pos (by omega), if_pos (by omega), if_pos (by omega)]
        unfold eVal
        rw [if_pos (by omega), show i / 3 = j by omega]
      · rw [if_neg e0]
        by_cases hlt : i < j * 3
        · rw [if_pos hlt, if_pos (show i < (j + 1) * 3 by omega)]
        · rw [if_neg hlt, if_neg (show ¬ i < (j + 1) * 3 by omega)]
theorem mC_ents {w : World} {M : Nat} {t : TypeId} {n : Nat} {s : St} (h : Blk w M t (mC n s n)) (hn : n ≤ 1000) : Ents w (.slice (some ⟨M, 0, none⟩) n n) (eList s n) := by
  have hl : (eList s n).length = n := by simp [eList]
  unfold Ents
  rw [hl]
  refine .inr (.inl ⟨M, 0, n, rfl, Nat.le_refl _, by unfold maxLen; omega, fun i hi => ?_⟩)
  rw [Nat.zero_add]
  refine h.cell ?_
  have hi2 : i < (mC n s n).size := by rw [mC_size]; exact hi
  rw [Array.getElem?_eq_getElem hi2]
  congr 1
  simp only [mC, Array.getElem_map, Array.getElem_range]
  rw [if_pos hi]
  have hd : i / 3 < n := by omega
  have hg : (eList s n).getD (i / 3) ⟨[], 0, 0⟩ = (rEn (eSt s (i / 3))).1 := by simp [eList, List.getD, hd]
  unfold eVal enAt
  rw [hg]

theorem inf_en : (Try.prog.info? 44).map (fun i => (i.zero, i.size, i.bytes)) = some (some (.agg z3), 3, 32) := by kernel_rfl
theorem make_ents (n : Nat) (hn : n ≤ 64) (s : St) (w : World) : (Instr.makeSlice 40 (.int .i64 n) (.int .i64 n)).run Try.prog w = .ok (.slice (some ⟨w.heap.size, 0, none⟩) n n) (w.alloc (.cells (mC n s 0) 44)) := by
  rcases hi : Try.prog.info? 44 with _ | i
  · have := inf_en; rw [hi] at this; cases this
  · have h := inf_en
    rw [hi] at h
    simp only [Option.map_some, Option.some.injEq, Prod.mk.injEq] at h
    have hr := run_make (P := Try.prog) w 40 44 i _ Try.underlying40 hi h.1 .i64 .i64 n n (by omega) (Int.le_refl _) (by rw [h.2.2]; omega) (by omega)
    rw [h.2.1, Int.toNat_natCast] at hr
    rw [hr, ← mC_zero]
    rfl

theorem KeepB.step {S T : Nat → Prop} {w a b : World} (h : KeepB S w a) (k : KeepB T a b) (hT : ∀ i, T i → S i ∨ w.heap.size ≤ i) : KeepB S w b :=
  ⟨k.os.trans h.os, k.tape.trans h.tape, k.output.trans h.output, Nat.le_trans h.size k.size, fun i hi hs => (k.block i (Nat.lt_of_lt_of_le hi h.size) (fun e => by rcases hT i e with h1 | h1; exact hs h1; omega)).trans (h.block i hi hs)⟩

/-- What holds behind so many fields of an entry. -/
def JE (w : World) (M r : Nat) (g : Option Nat) (t : TypeId) (xs : Array Value) (o : Nat) (s : St) : Nat → World → Prop
  | 0, w' => Blk w' M t xs ∧ RdrS w' r g s ∧ KeepB (fun k => k = M ∨ k = r) w w'
  | 1, w' => Blk w' M t (xs.setIfInBounds o (txt (rText 255 s).1)) ∧ RdrS w' r g (rText 255 s).2 ∧ KeepB (fun k => k = M ∨ k = r) w w'
  | 2, w' => Blk w' M t ((xs.setIfInBounds o (txt (rText 255 s).1)).setIfInBounds (o + 1) (.int .i64 (rInt (rText 255 s).2).1)) ∧ RdrS w' r g (rInt (rText 255 s).2).2 ∧ KeepB (fun k => k = M ∨ k = r) w w'
  | _, w' => Blk w' M t (((xs.setIfInBounds o (txt (rText 255 s).1)).setIfInBounds (o + 1) (.int .i64 (rInt (rText 255 s).2).1)).setIfInBounds (o + 2) (.int .i64 (rInt (rInt (rText 255 s).2).2).1)) ∧ RdrS w' r g (rInt (rInt (rText 255 s).2).2).2 ∧ KeepB (fun k => k = M ∨ k = r) w w'

theorem read_entry {w w1 : World} {M r o b : Nat} {g : Option Nat} {t : TypeId} {xs : Array Value} {s : St} (hb : Blk w M t xs) (ho : o + 3 ≤ xs.size) (hr : RdrS w r g s) (hR : M ≠ r) (hg : g ≠ some M) (hlt : w.heap.size ≤ b) (g1 : w.grownBy w1 none) (hb1 : Blk w1 b 20 (entVs M o).toArray) :
    Calls Try.prog 80 #[.pointer (some ⟨r, 0, none⟩), .slice (some ⟨b, 0, none⟩) 3 3] w1 fun e w' => e = .returned (.bool true) ∧ JE w M r g t xs o s 3 w' := by
  have hMl := hb.lt
  have hrl := hr.lt
  refine (readAll_any b r (entVs M o) (JE w M r g t xs o s) (fun _ => true) w1 hb1 ⟨hb.new g1, hr.new g1, KeepB.new g1⟩ (by simp [entVs]) ?_ ?_).mono ?_
  · intro f hf
    simp [entVs] at hf
    rcases hf with rfl | rfl | rfl <;> exact ⟨_, _, rfl⟩
  · intro j hj w' hJ hbl
    have hj3 : j < 3 := hj
    have fin : ∀ (a : World) (X : Array Value) (S : St) e w'', KeepB (fun k => k = M ∨ k = r) w a → a = w' → RF a M r g t X S true e w'' → e = .returned (.bool true) ∧ (Blk w'' M t X ∧ RdrS w'' r g S ∧ KeepB (fun k => k = M ∨ k = r) w w'') ∧ w''.heap[b]? = w'.heap[b]? := fun a X S e w'' hk ea h => by
      subst ea
      exact ⟨h.1, ⟨h.2.1, h.2.2.1, hk.trans h.2.2.2⟩, h.2.2.2.block b hbl (by omega)⟩
    rcases (show j = 0 ∨ j = 1 ∨ j = 2 by omega) with rfl | rfl | rfl
    · obtain ⟨j1, j2, j3⟩ := hJ
      exact (read_text (i := o) 255 j1 (Array.getElem?_eq_getElem (by omega)) j2 hR hg j2.lt).mono (fun e w'' h => fin w' _ _ e w'' j3 rfl h)
    · obtain ⟨j1, j2, j3⟩ := hJ
      exact (read_int (i := o + 1) j1 (Array.getElem?_eq_getElem (by simp; omega)) j2 hR hg).mono (fun e w'' h => fin w' _ _ e w'' j3 rfl h)
    · obtain ⟨j1, j2, j3⟩ := hJ
      exact (read_int (i := o + 2) j1 (Array.getElem?_eq_getElem (by simp; omega)) j2 hR hg).mono (fun e w'' h => fin w' _ _ e w'' j3 rfl h)
  · intro e w' h
    exact ⟨h.1, h.2⟩

set_option maxRecDepth 20000 in
set_option maxHeartbeats 4000000 in
theorem read_entries {w : World} {R r i : Nat} {g : Option Nat} {t : TypeId} {xs : Array Value} {s : St} {x : Value} (hb : Blk w R t xs) (hx : xs[i]? = some x) (hr : RdrS w r g s) (hR : R ≠ r) (hg : g ≠ some R) (hgl : ∀ k, g = some k → k < w.heap.size) :
    Calls Try.prog 32 #[.pointer (some ⟨r, 0, none⟩), .iface 110 (.pointer (some ⟨R, i, none⟩))] w fun e w' => e = .returned (.bool true) ∧
      ∃ M, Blk w' R t (xs.setIfInBounds i (.slice (some ⟨M, 0, none⟩) (rCount 64 s).1.toNat (rCount 64 s).1.toNat)) ∧ Blk w' M 44 (mC (rCount 64 s).1.toNat (rCount 64 s).2 (rCount 64 s).1.toNat) ∧ w.heap.size ≤ M ∧ RdrS w' r g (eSt (rCount 64 s).2 (rCount 64 s).1.toNat) ∧ KeepB (fun k => k = R ∨ k = r) w w' := by
  have HC := Lib.hid (count_s r g s 64 w hr)
  have hn := rCount_range 64 (by omega) s
  have hlt : i < xs.size := (Array.getElem?_eq_some_iff.1 hx).1
  have HRL : Hid (R < w.heap.size ∧ r < w.heap.size ∧ ∀ k, g = some k → k < w.heap.size) := Lib.hid ⟨hb.lt, hr.lt, hgl⟩
  have HB := Lib.hid hb
  have HX := Lib.hid hx
  have HR := Lib.hid hR
  have HG := Lib.hid hg
  clear hb hx hr hR hg hgl
  generalize (rCount 64 s).2 = s1 at *
  obtain ⟨n, hnn⟩ := Int.eq_ofNat_of_zero_le hn.1
  rw [hnn] at HC ⊢
  rw [Int.toNat_natCast]
  have hn64 : n ≤ 64 := by omega
  have hn64i : (n : Int) ≤ 64 := by omega
  have HLT := Lib.hid hlt
  have HNN := Lib.hid hn64
  have hmk := fun w => make_ents n hn64 s1 w
  have HPT := Lib.hid (fun E o w => entryParts_any E o w)
  have HENT := Lib.hid (fun (w w1 : World) (M o b : Nat) (xs : Array Value) (s : St) (hb : Blk w M 44 xs) (ho : o + 3 ≤ xs.size) (hr : RdrS w r g s) (hR : M ≠ r) (hg : g ≠ some M) (hlt : w.heap.size ≤ b) (g1 : w.grownBy w1 none) (hb1 : Blk w1 b 20 (entVs M o).toArray) => read_entry hb ho hr hR hg hlt g1 hb1)
  clear hn hnn hlt hn64
  have t0 := fun (w : World) (v : Value) => ta_8_0 w v
  have t1 := fun (w : World) (v : Value) => ta_8_1 w v
  have t2 := fun (w : World) (v : Value) => ta_8_2 w v
  have t3 := fun (w : World) (v : Value) => ta_8_3 w v
  have t4 := fun (w : World) (v : Value) => ta_8_4 w v
  have t5 := fun (w : World) (v : Value) => ta_8_5 w v
  have t6 := fun (w : World) (v : Value) => ta_8_6 w v
  have t7 := fun (w : World) (v : Value) => ta_8_7 w v
  have t8 := fun (w : World) (v : Value) => ta_8_8 w v
  go_enter Try.func32, Try.ntmps32
  go_wp2_with fail
  refine HC.out.mono ?_; rintro e w1 ⟨rfl, h1, h2⟩
  have hb1 := HB.out.kept h2 (by have := HR.out; simpa using this)
  have HK1 := Lib.hid (KeepB.of (S := fun k => k = R ∨ k = r) h2 (fun k e => by cases e; exact .inr rfl))
  have ga := World.grownBy_alloc w1 (.cells (mC n s1 0) 44) none
  have hM := Blk.made w1 44 (mC n s1 0)
  have hb2 := hb1.new ga
  have c0 := hb2.cell HX.out
  have f0 := hb2.frozen i
  have HB2 := Lib.hid hb2
  have HM := Lib.hid hM
  have H1 := Lib.hid (h1.new ga)
  have HK2 := Lib.hid (HK1.out.trans (KeepB.new ga))
  have HW1 := Lib.hid h2.size
  clear hb1 h1 h2 ga hM hb2 HK1
  go_upto_region 32 with fail
  clear c0 f0 hmk
  have gs : (w1.alloc (.cells (mC n s1 0) 44)).grownBy ((w1.alloc (.cells (mC n s1 0) 44)).setCell ⟨R, i, none⟩ (.slice (some ⟨w1.heap.size, 0, none⟩) n n)) (some R) := Lib.grownBy_setB (World.grownBy.refl _ _) _ _
  have HMG : Hid (w.heap.size ≤ w1.heap.size ∧ w1.heap.size ≠ R ∧ w1.heap.size ≠ r ∧ g ≠ some w1.heap.size) := Lib.hid ⟨HW1.out, by have := HRL.out.1; have := HW1.out; omega, by have := HRL.out.2.1; have := HW1.out; omega, fun e => by have := HRL.out.2.2 _ e; have := HW1.out; omega⟩
  have HB3 := Lib.hid (HB2.out.set i (.slice (some ⟨w1.heap.size, 0, none⟩) n n))
  have HM3 := Lib.hid (HM.out.kept gs (by have := HMG.out.2.1; simpa using this))
  have H3 := Lib.hid (H1.out.kept gs (by have := HR.out; simpa using this) (.inr HG.out))
  have HK3 := Lib.hid (HK2.out.trans (KeepB.of gs (fun k e => by cases e; exact .inl rfl)))
  clear gs HB2 HM H1 HK2 HW1
  generalize (w1.alloc (.cells (mC n s1 0) 44)).setCell ⟨R, i, none⟩ (.slice (some ⟨w1.heap.size, 0, none⟩) n n) = w2 at *
  generalize w1.heap.size = M at *
  have HXN : Hid ((xs.setIfInBounds i (.slice (some ⟨M, 0, none⟩) n n))[i]? = some (.slice (some ⟨M, 0, none⟩) n n)) := Lib.hid (by have := HLT.out; simp [this])
  have c0 := HB3.out.cell HXN.out
  go_wp2_with fail
  clear c0
  go_loopw [99] (fun i2 w' => ∃ j : Nat, j ≤ n ∧ i2 = .int .i64 j ∧ Blk w' M 44 (mC n s1 j) ∧ RdrS w' r g (eSt s1 j) ∧ Blk w' R t (xs.setIfInBounds i (.slice (some ⟨M, 0, none⟩) n n)) ∧ KeepB (fun k => k = R ∨ k = r) w w') (fun i2 w' => n - (intOf i2).toNat)
  case atStart => exact ⟨0, Nat.zero_le _, rfl, HM3.out, H3.out, HB3.out, HK3.out⟩
  case round =>
    obtain ⟨j, hj, rfl, k1, k2, k3, k4⟩ := hrel
    have K1 := Lib.hid k1
    have K2 := Lib.hid k2
    have K3 := Lib.hid k3
    have K4 := Lib.hid k4
    clear k1 k2 k3 k4
    by_cases hlt : j < n
    · have c0 := K3.out.cell HXN.out
      go_wp2_with fail
      refine (HPT.out M (j * 3) wr).mono ?_; rintro e w4 ⟨b4, rfl, hb4, hl4, g4⟩
      have HC4 := Lib.hid (HENT.out wr w4 M (j * 3) b4 (mC n s1 j) (eSt s1 j) K1.out (by rw [mC_size]; omega) K2.out HMG.out.2.2.1 HMG.out.2.2.2 hl4 g4 hb4)
      clear hb4 hl4 g4 c0
      go_wp2_with fail
      refine HC4.out.mono ?_; rintro e w5 ⟨rfl, j1, j2, j3⟩
      have J1 : Hid (Blk w5 M 44 (mC n s1 (j + 1))) := Lib.hid (by rw [← mC_step n s1 j hlt]; exact j1)
      have J2 : Hid (RdrS w5 r g (eSt s1 (j + 1))) := Lib.hid j2
      have J3 := Lib.hid (j3.blk K3.out (fun e => by
        have := HMG.out; have := HR.out
        rcases e with e | e
        · exact this (by omega)
        · omega))
      have J4 := Lib.hid (K4.out.step j3 (fun k e => by
        rcases e with e | e
        · exact .inr (by have := HMG.out; omega)
        · exact .inl (.inr e)))
      clear j1 j2 j3 HC4
      go_wp2_with fail
      go_roundw
      case rel => exact ⟨j + 1, by omega, by go_num, J1.out, J2.out, J3.out, J4.out⟩
      case measure => simp [intOf]; omega
    · obtain rfl : j = n := by omega
      clear hlt
      go_wp2_with fail
      go_ret
      exact ⟨rfl, M, K3.out, K1.out, HMG.out.1, K2.out, K4.out⟩

end Go.Proofs.Ytpklgcinijlmmaa
namespace Go.Proofs.Ytpklgcinijlmmaa
open Go.RowKit

theorem neq_ent (a b : En) (w : World) : (binOp .neq 44 (.agg #[txt a.n, .int .i64 a.i, .int .i64 a.c]) (.agg #[txt b.n, .int .i64 b.i, .int .i64 b.c])).run Try.prog w = .ok (.bool (decide (a ≠ b))) w := by
  obtain ⟨n, i, c⟩ := a
  obtain ⟨n', i', c'⟩ := b
  unfold txt
  dsimp only
  go_simp
  by_cases e0 : n = n'
  rotate_left
  · rw [if_neg e0]; simp [e0]
  rw [if_pos e0]
  by_cases e1 : i = i'
  rotate_left
  · rw [if_neg e1]; simp [e1]
  rw [if_pos e1]
  by_cases e2 : c = c'
  rotate_left
  · rw [if_neg e2]; simp [e2]
  rw [if_pos e2]
  simp [e0, e1, e2]
theorem eql_hn (a b : Hn) (w : World) : (binOp .eql 24 (.agg #[.int .i64 a.s, .int .i64 a.i, .int .i64 a.g]) (.agg #[.int .i64 b.s, .int .i64 b.i, .int .i64 b.g])).run Try.prog w = .ok (.bool (decide (a = b))) w := by
  obtain ⟨n, i, c⟩ := a
  obtain ⟨n', i', c'⟩ := b
  dsimp only
  go_simp
  by_cases e0 : n = n'
  rotate_left
  · rw [if_neg e0]; simp [e0]
  rw [if_pos e0]
  by_cases e1 : i = i'
  rotate_left
  · rw [if_neg e1]; simp [e1]
  rw [if_pos e1]
  by_cases e2 : c = c'
  rotate_left
  · rw [if_neg e2]; simp [e2]
  rw [if_pos e2]
  simp [e0, e1, e2]
theorem eql_at (a b : At) (w : World) : (binOp .eql 39 (.agg (atC a)) (.agg (atC b))).run Try.prog w = .ok (.bool (decide (a = b))) w := by
  obtain ⟨a0, a1, a2, a3, a4, a5, a6, a7⟩ := a
  obtain ⟨b0, b1, b2, b3, b4, b5, b6, b7⟩ := b
  unfold atC
  dsimp only
  go_simp
  by_cases e0 : a0 = b0
  rotate_left
  · rw [if_neg e0]; simp [e0]
  rw [if_pos e0]
  by_cases e1 : a1 = b1
  rotate_left
  · rw [if_neg e1]; simp [e1]
  rw [if_pos e1]
  by_cases e2 : a2 = b2
  rotate_left
  · rw [if_neg e2]; simp [e2]
  rw [if_pos e2]
  by_cases e3 : a3 = b3
  rotate_left
  · rw [if_neg e3]; simp [e3]
  rw [if_pos e3]
  by_cases e4 : a4 = b4
  rotate_left
  · rw [if_neg e4]; simp [e4]
  rw [if_pos e4]
  by_cases e5 : a5 = b5
  rotate_left
  · rw [if_neg e5]; simp [e5]
  rw [if_pos e5]
  by_cases e6 : a6 = b6
  rotate_left
  · rw [if_neg e6]; simp [e6]
  rw [if_pos e6]
  by_cases e7 : a7 = b7
  rotate_left
  · rw [if_neg e7]; simp [e7]
  rw [if_pos e7]
  simp [e0, e1, e2, e3, e4, e5, e6, e7]

section
variable {ops : Array Oper} {rest : List Oper} {o : Oper} {a : Act} {Q : Exit → Act → World → Prop}
/-- Two structs compared, the answer known. -/
theorem wpList_eql_run {w : World} (hw : Region.wanted o (yielded ops a.tmps) = true) (t tt : TypeId) (x y : Operand) (hop : o.op = Op.binOp .eql t x y tt) (X Y : Array Value) (D : Bool) (hx : a.eval x = .agg X) (hy : a.eval y = .agg Y)
    (hgt : Try.prog.eqGuardType Try.prog.depth t = false) (hrun : (binOp .eql t (.agg X) (.agg Y)).run Try.prog w = .ok (.bool D) w)
    (hK : wpList Try.prog ops Q rest (a.put o.dst (.bool D)) w) : wpList Try.prog ops Q (o :: rest) a w := by
  refine BigFrame.wpList_want hw fun K' hK' => ?_
  have hgd : (eqGuard .eql t x y (.agg X) (.agg Y)).run Try.prog w = .ok () w := run_eqGuard_agg (P := Try.prog) w .eql t x y X Y hgt
  unfold Oper.wp
  simp [execOp, hop, hx, hy, hrun, hgd, Result.andThen]
  exact hK' _ _ hK
end

set_option maxRecDepth 20000 in
set_option maxHeartbeats 4000000 in
/-- slices.Equal of entries. -/
theorem entEq_any (v1 v2 : Value) (es fs : List En) (w : World) (h1 : Ents w v1 es) (h2 : Ents w v2 fs) : Calls Try.prog 84 #[v1, v2] w fun e w' => e = .returned (.bool (decide (es = fs))) ∧ w.grownBy w' none := by
  obtain ⟨a1, c1, rfl, hm1⟩ := h1.form
  obtain ⟨a2, c2, rfl, hm2⟩ := h2.form
  have HA1 := Lib.hid (fun h0 : 0 < es.length => h1.at h0)
  have HA2 := Lib.hid (fun h0 : 0 < fs.length => h2.at h0)
  unfold maxLen at hm1 hm2
  have z1 : (es.length : Int) ≤ 9223372036854775807 := by omega
  have z2 : (fs.length : Int) ≤ 9223372036854775807 := by omega
  obtain ⟨D, hD⟩ : ∃ D, decide (es = fs) = D := ⟨_, rfl⟩
  have HD := Lib.hid hD
  rw [hD]
  by_cases hl : es.length = fs.length
  · obtain ⟨n, hn⟩ : ∃ n, es.length = n := ⟨_, rfl⟩
    have hn2 : fs.length = n := by omega
    have HN := Lib.hid hn
    have HN2 := Lib.hid hn2
    rw [hn] at z1 ⊢
    rw [hn2]
    clear h1 h2 hm1 hm2 hl hn hn2 z2 hD
    go_enter Try.func84, Try.ntmps84
    go_wp2_with fail
    go_loopw [13] (fun i w' => ∃ j : Nat, j ≤ n ∧ i = .int .i64 j ∧ (∀ q, q < j → es.getD q ⟨[], 0, 0⟩ = fs.getD q ⟨[], 0, 0⟩) ∧ w.grownBy w' none) (fun i w' => n - (intOf i).toNat)
    case atStart => exact ⟨0, Nat.zero_le _, rfl, fun q h => absurd h (by omega), World.grownBy.refl _ _⟩
    case round =>
      obtain ⟨j, hj, rfl, hall, hg⟩ := hrel
      have HALL := Lib.hid hall
      have HG := Lib.hid hg
      clear hall hg
      by_cases hlt : j < n
      · have hlt1 : j < es.length := by have := HN.out; omega
        have hlt2 : j < fs.length := by have := HN2.out; omega
        obtain ⟨b1, o1, rfl, hat1⟩ := HA1.out (by omega)
        obtain ⟨b2, o2, rfl, hat2⟩ := HA2.out (by omega)
        obtain ⟨k0, k1, k2⟩ := hat1 j hlt1
        obtain ⟨m0, m1, m2⟩ := hat2 j hlt2
        have k0 := HG.out.cell k0 (by simp)
        have k1 := HG.out.cell k1 (by simp)
        have k2 := HG.out.cell k2 (by simp)
        have m0 := HG.out.cell m0 (by simp)
        have m1 := HG.out.cell m1 (by simp)
        have m2 := HG.out.cell m2 (by simp)
        have hne := fun w => neq_ent (es.getD j ⟨[], 0, 0⟩) (fs.getD j ⟨[], 0, 0⟩) w
        have HEQ := Lib.hid (show decide (es.getD j ⟨[], 0, 0⟩ ≠ fs.getD j ⟨[], 0, 0⟩) = decide (es.getD j ⟨[], 0, 0⟩ ≠ fs.getD j ⟨[], 0, 0⟩) from rfl)
        obtain ⟨B, hB⟩ : ∃ B, decide (es.getD j ⟨[], 0, 0⟩ ≠ fs.getD j ⟨[], 0, 0⟩) = B := ⟨_, rfl⟩
        have HB := Lib.hid hB
        rw [hB] at hne
        clear hB HEQ hat1 hat2
        obtain ⟨⟨nx, ix, cx⟩, hx⟩ : ∃ x, es.getD j ⟨[], 0, 0⟩ = x := ⟨_, rfl⟩
        obtain ⟨⟨ny, iy, cy⟩, hy⟩ : ∃ x, fs.getD j ⟨[], 0, 0⟩ = x := ⟨_, rfl⟩
        rw [hx] at k0 k1 k2 hne
        rw [hy] at m0 m1 m2 hne
        clear hx hy
        unfold txt at k0 m0 hne
        dsimp only at k0 k1 k2 m0 m1 m2 hne
        have hjn : (j : Int) < n := by omega
        go_upto_region 6 with fail
        refine wp_region_noPanic ?_
        refine wp_region_held_drew (S := fun w' => w'.cell? ⟨b1, o1 + j * 3, none⟩ = some (.string ⟨nx.toArray⟩) ∧ w'.cell? ⟨b1, o1 + j * 3 + 1, none⟩ = some (.int .i64 ix) ∧ w'.cell? ⟨b1, o1 + j * 3 + 2, none⟩ = some (.int .i64 cx) ∧ w'.cell? ⟨b2, o2 + j * 3, none⟩ = some (.string ⟨ny.toArray⟩) ∧ w'.cell? ⟨b2, o2 + j * 3 + 1, none⟩ = some (.int .i64 iy) ∧ w'.cell? ⟨b2, o2 + j * 3 + 2, none⟩ = some (.int .i64 cy)) (by kernel_rfl) (⟨(drew_new wr).cell k0 (by simp), (drew_new wr).cell k1 (by simp), (drew_new wr).cell k2 (by simp), (drew_new wr).cell m0 (by simp), (drew_new wr).cell m1 (by simp), (drew_new wr).cell m2 (by simp)⟩) (fun hHeld => ?_)
        refine wpAnyH_take (i := 0) (v := ?_) (by simp only [List.getElem?_toArray, List.getElem?_cons_zero]; rfl) (by kernel_rfl) (by kernel_rfl) (by kernel_rfl) (fun _ _ _ h => h) (Or.inl ⟨by rfl, ?_⟩) (by assumption) ?_
        rotate_left 1
        · intro w hSw; (try dsimp only at hSw); go_simp; all_goals (with_reducible rfl)
        try simp only [Act.put, List.setIfInBounds_toArray, List.set_cons_zero, List.set_cons_succ]
        refine wpAnyH_take (i := 1) (v := ?_) (by simp only [List.getElem?_toArray, List.getElem?_cons_succ, List.getElem?_cons_zero]; rfl) (by kernel_rfl) (by kernel_rfl) (by kernel_rfl) (fun _ _ _ h => h) (Or.inl ⟨by rfl, ?_⟩) (by assumption) ?_
        rotate_left 1
        · intro w hSw; (try dsimp only at hSw); go_simp; all_goals (with_reducible rfl)
        try simp only [Act.put, List.setIfInBounds_toArray, List.set_cons_zero, List.set_cons_succ]
        refine wpAnyH_take (i := 2) (v := ?_) (by simp only [List.getElem?_toArray, List.getElem?_cons_succ, List.getElem?_cons_zero]; rfl) (by kernel_rfl) (by kernel_rfl) (by kernel_rfl) (fun _ _ _ h => h) (Or.inl ⟨by rfl, ?_⟩) (by assumption) ?_
        rotate_left 1
        · intro w hSw; (try dsimp only at hSw); go_simp; all_goals (with_reducible rfl)
        try simp only [Act.put, List.setIfInBounds_toArray, List.set_cons_zero, List.set_cons_succ]
        refine wpAnyH_take (i := 3) (v := ?_) (by simp only [List.getElem?_toArray, List.getElem?_cons_succ, List.getElem?_cons_zero]; rfl) (by kernel_rfl) (by kernel_rfl) (by kernel_rfl) (fun _ _ _ h => h) (Or.inl ⟨by rfl, ?_⟩) (by assumption) ?_
        rotate_left 1
        · intro w hSw; (try dsimp only at hSw); go_simp; all_goals (with_reducible rfl)
        try simp only [Act.put, List.setIfInBounds_toArray, List.set_cons_zero, List.set_cons_succ]
        refine wpAnyH_take (i := 4) (v := ?_) (by simp only [List.getElem?_toArray, List.getElem?_cons_succ, List.getElem?_cons_zero]; rfl) (by kernel_rfl) (by kernel_rfl) (by kernel_rfl) (fun _ _ _ h => h) (Or.inl ⟨by rfl, ?_⟩) (by assumption) ?_
        rotate_left 1
        · intro w hSw; (try dsimp only at hSw); go_simp; all_goals (with_reducible rfl)
        try simp only [Act.put, List.setIfInBounds_toArray, List.set_cons_zero, List.set_cons_succ]
        refine wpAnyH_take (i := 5) (v := ?_) (by simp only [List.getElem?_toArray, List.getElem?_cons_succ, List.getElem?_cons_zero]; rfl) (by kernel_rfl) (by kernel_rfl) (by kernel_rfl) (fun _ _ _ h => h) (Or.inl ⟨by rfl, ?_⟩) (by assumption) ?_
        rotate_left 1
        · intro w hSw; (try dsimp only at hSw); go_simp; all_goals (with_reducible rfl)
        try simp only [Act.put, List.setIfInBounds_toArray, List.set_cons_zero, List.set_cons_succ]
        refine wpAnyH_take (i := 6) (v := ?_) (by simp only [List.getElem?_toArray, List.getElem?_cons_succ, List.getElem?_cons_zero]; rfl) (by kernel_rfl) (by kernel_rfl) (by kernel_rfl) (fun _ _ _ h => h) (Or.inl ⟨by rfl, ?_⟩) (by assumption) ?_
        rotate_left 1
        · intro w hSw; (try dsimp only at hSw); go_simp; all_goals (with_reducible rfl)
        try simp only [Act.put, List.setIfInBounds_toArray, List.set_cons_zero, List.set_cons_succ]
        refine wpAnyH_take (i := 7) (v := ?_) (by simp only [List.getElem?_toArray, List.getElem?_cons_succ, List.getElem?_cons_zero]; rfl) (by kernel_rfl) (by kernel_rfl) (by kernel_rfl) (fun _ _ _ h => h) (Or.inl ⟨by rfl, ?_⟩) (by assumption) ?_
        rotate_left 1
        · intro w hSw; (try dsimp only at hSw); go_simp; all_goals (with_reducible rfl)
        try simp only [Act.put, List.setIfInBounds_toArray, List.set_cons_zero, List.set_cons_succ]
        refine wpAnyH_take (i := 8) (v := ?_) (by simp only [List.getElem?_toArray, List.getElem?_cons_succ, List.getElem?_cons_zero]; rfl) (by kernel_rfl) (by kernel_rfl) (by kernel_rfl) (fun _ _ _ h => h) (Or.inl ⟨by rfl, ?_⟩) (by assumption) ?_
        rotate_left 1
        · intro w hSw; (try dsimp only at hSw); go_simp; all_goals (with_reducible rfl)
        try simp only [Act.put, List.setIfInBounds_toArray, List.set_cons_zero, List.set_cons_succ]
        refine wpAnyH_done (by kernel_rfl) ?_ _
        refine NoPanic.normal ?_
        clear hne k0 k1 k2 m0 m1 m2
        have HG2 := Lib.hid (World.grownBy.trans HG.out (drew_new wr))
        cases B
        · have hq : es.getD j ⟨[], 0, 0⟩ = fs.getD j ⟨[], 0, 0⟩ := by simpa using HB.out
          have HQ := Lib.hid hq
          clear hq HB
          go_wp2_with fail
          go_roundw
          case rel => exact ⟨j + 1, by omega, by go_num, fun q hq => by
            by_cases h : q = j
            · subst h; exact HQ.out
            · exact HALL.out q (by omega), HG2.out⟩
          case measure => simp [intOf]; omega
        · have hq : ¬ es.getD j ⟨[], 0, 0⟩ = fs.getD j ⟨[], 0, 0⟩ := by simpa using HB.out
          have HF : Hid (false = D) := Lib.hid (by rw [← HD.out, eq_comm, decide_eq_false_iff_not]; intro e; exact hq (by rw [e]))
          clear hq HB
          go_wp2_with fail
          go_ret
          exact ⟨retB HF.out, HG2.out⟩
      · obtain rfl : j = n := by omega
        have HF : Hid (true = D) := Lib.hid (by
          rw [← HD.out, eq_comm, decide_eq_true_eq]
          apply List.ext_getElem
          · rw [HN.out, HN2.out]
          · intro q h1 h2
            have := HALL.out q (by have := HN.out; omega)
            simpa [List.getD, h1, h2] using this)
        clear hlt
        go_wp2_with fail
        go_ret
        exact ⟨retB HF.out, HG.out⟩
  · have hne : ((es.length : Int) != (fs.length : Int)) = true := by simp; omega
    have hne2 : ((es.length : Int) == (fs.length : Int)) = false := by simp; omega
    have HF : Hid (false = D) := Lib.hid (by rw [← hD, eq_comm, decide_eq_false_iff_not]; intro e; exact hl (by rw [e]))
    clear h1 h2 hD
    go_enter Try.func84, Try.ntmps84
    go_wp2_with fail
    go_ret
    exact ⟨retB HF.out, World.grownBy.refl _ _⟩

end Go.Proofs.Ytpklgcinijlmmaa
