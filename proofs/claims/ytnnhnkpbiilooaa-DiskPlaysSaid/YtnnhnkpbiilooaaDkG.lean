/- disk: Read; what is forgotten; maps and rows cloned. -/
import Derived.Test.YtnnhnkpbiilooaaDkF
import Derived.StillTailTactics
import Derived.Deep.DeepCutAuto
namespace Go.Proofs.Ytnnhnkpbiilooaa
open Go.RowKit Go.Maps

theorem results_cell_tmp' {P : Program} {fn : Func} {p q : Tmp} {ty : TypeId} (h : fn.results = #[.cell p ty, .tmp q]) (tmps : Array Value) (w : World) (g : Nat) (t : TypeId) (cs : Array Value) (fr : Nat × Nat) (d : TypeDesc)
    (hp : tmps.getD p undef = .pointer (some ⟨g, 0, none⟩)) (hg : w.heap[g]? = some (.cells cs t fr))
    (hu : P.underlying ty = some d) (hd : (match d with | .struct _ | .array _ _ => true | _ => false) = true) (hi : (P.info? ty).map (·.size) = some cs.size) :
    (results fn tmps).run P w = .ok (.tuple #[.agg cs, tmps.getD q undef]) w := by
  have hp' : tmps[p]?.getD undef = .pointer (some ⟨g, 0, none⟩) := by simpa using hp
  simp [results, h, hp', asAddr, run_loadVar_row w g t ty cs fr d hg hu hd hi]

/-- A block, and a number, are told; memory may be made. -/
def Gives (w : World) (b : Bk) (z : Int) (e : Ending) (w' : World) : Prop := e = .returned (.tuple #[.agg b.v, .int .i64 z]) ∧ w.grownBy w' none

theorem grown_new {w a b : World} {g : Nat} (h : w.grownBy a none) (k : a.grownBy b (some g)) (hg : w.heap.size ≤ g) : w.grownBy b none := grown_own h k (fun n hn => by cases hn; exact hg)
theorem grown_two {w a b : World} (h : w.grownBy a none) (k : a.grownBy b none) : w.grownBy b none := World.grownBy.trans h k

set_option maxRecDepth 20000 in
set_option maxHeartbeats 1000000 in
theorem Read_any {w : World} {base : Nat} {F : Foot} {s : DS} (h : Dk w base F s) (k : Int) (hk : -9223372036854775808 ≤ k ∧ k ≤ 9223372036854775807) : Calls Try.prog 12 #[dptr F.p, .int .i64 k] w (Gives w (s.read k).1 (s.read k).2) := by
  have H0 := Lib.hid h
  have HK := Lib.hid hk
  by_cases h0 : s.has k = 0
  · have e1 : s.read k = (s.at k.toNat, 0) := by unfold DS.read; rw [if_pos h0]
    rw [e1]
    have HH := Lib.hid h0
    have hr : 0 ≤ k ∧ k < (s.n : Int) := by
      rcases hd : s.dd with _ | _
      · by_cases hh : k < 0 ∨ (s.n : Int) ≤ k
        · rw [DS.has_off hd hh] at h0; cases h0
        · omega
      · rw [DS.has_dead hd] at h0; cases h0
    have hn := h.hn
    obtain ⟨j, rfl⟩ := Int.eq_ofNat_of_zero_le hr.1
    have hj : j < s.n := by omega
    rw [Int.toNat_natCast]
    have hov : s.at j = (over s.fl (nwOf s.wt) j).getD Bk.zero := by rw [over_nwOf]; rfl
    obtain ⟨c, hmc, _⟩ := h.c
    have HM1 := Lib.hid hmc
    have HM2 := Lib.hid h.nw
    obtain ⟨kv, -, h1, -⟩ := h.kvx
    have HB := Lib.hid h1
    rcases hg : nwOf s.wt j with _ | y
    · have e2 : s.at j = (s.fl j).getD Bk.zero := by rw [hov]; unfold over; rw [hg]
      rw [e2]
      have HG := Lib.hid hg
      have HJ : Hid ((j : Int) ≤ 9223372036854775807) := Lib.hid (by omega)
      clear e1 e2 hr hk h hov hg hmc h1 h0 hj hn
      unfold dptr
      go_enter Try.func12, Try.ntmps12
      go_wp2_with (first
        | (refine wpAllocB rfl rfl ?_; intro g1 w1 hn1; have N1 := Lib.hid hn1; clear hn1)
        | fail)
      refine (has_any (H0.out.new N1.out.grown) _ HK.out).mono ?_; rintro e w2 ⟨rfl, rfl⟩
      rw [HH.out]
      have hB1 := HB.out.new N1.out.grown
      have c3 := hB1.cell (i := 3) (x := .map (some F.m2)) rfl
      have c1 := hB1.cell (i := 1) (x := .map (some F.m1)) rfl
      have HB1 := Lib.hid hB1
      clear hB1
      go_upto_region 4 with fail
      go_wp2_with (first
        | (refine wpMpOk rfl _ _ rfl F.m2 _ _ j rfl rfl HJ.out (HM2.out.new N1.out.grown) ?_; rw [HG.out]; simp only [Option.getD_none, Option.isSome_none])
        | (refine wpAllocB rfl rfl ?_; intro g2 w2 hn2; have N2 := Lib.hid hn2; clear hn2)
        | (refine wpStoreB rfl (.tmp 7) (.tmp 23) rfl g2 _ _ rfl rfl N2.out.blk ?_; intro w3 hb3 hg3; have B3 := Lib.hid hb3; have G3 := Lib.hid (grown_new (grown_two N1.out.grown N2.out.grown) hg3 (Nat.le_trans N1.out.grown.size N2.out.ge)); have K3 := Lib.hid ((N1.out.blk.new N2.out.grown).kept hg3 (by have := N2.out.ge; have := N1.out.blk.lt; simp; omega)); clear hb3 hg3; have c1 := (HB.out.new G3.out).cell (i := 1) (x := .map (some F.m1)) rfl)
        | (refine wpMpAt rfl _ _ rfl F.m1 _ _ j rfl rfl HJ.out (HM1.out.new G3.out) ?_)
        | (refine wpStoreB rfl (.tmp 4) (.tmp 32) rfl g1 _ _ rfl rfl K3.out ?_; intro w4 hb4 hg4; have B4 := Lib.hid hb4; have G4 := Lib.hid (grown_new G3.out hg4 N1.out.ge); clear hb4 hg4))
      exact bodyPost_ret (results_cell_tmp' Try.results12 _ _ g1 _ _ (0, 0) _ rfl B4.out undB rfl (rowB _)) rfl ⟨rfl, G4.out⟩
    · have e2 : s.at j = y := by rw [hov]; unfold over; rw [hg]; rfl
      rw [e2]
      have HG := Lib.hid hg
      have HJ : Hid ((j : Int) ≤ 9223372036854775807) := Lib.hid (by omega)
      clear e1 e2 hr hk h hov hg hmc h1 h0 hj hn
      unfold dptr
      go_enter Try.func12, Try.ntmps12
      go_wp2_with (first
        | (refine wpAllocB rfl rfl ?_; intro g1 w1 hn1; have N1 := Lib.hid hn1; clear hn1)
        | fail)
      refine (has_any (H0.out.new N1.out.grown) _ HK.out).mono ?_; rintro e w2 ⟨rfl, rfl⟩
      rw [HH.out]
      have hB1 := HB.out.new N1.out.grown
      have c3 := hB1.cell (i := 3) (x := .map (some F.m2)) rfl
      have HB1 := Lib.hid hB1
      clear hB1
      go_upto_region 4 with fail
      go_wp2_with (first
        | (refine wpMpOk rfl _ _ rfl F.m2 _ _ j rfl rfl HJ.out (HM2.out.new N1.out.grown) ?_; rw [HG.out]; simp only [Option.getD_some, Option.isSome_some])
        | (refine wpAllocB rfl rfl ?_; intro g2 w2 hn2; have N2 := Lib.hid hn2; clear hn2)
        | (refine wpStoreB rfl (.tmp 7) (.tmp 23) rfl g2 _ _ rfl rfl N2.out.blk ?_; intro w3 hb3 hg3; have B3 := Lib.hid hb3; have G3 := Lib.hid (grown_new (grown_two N1.out.grown N2.out.grown) hg3 (Nat.le_trans N1.out.grown.size N2.out.ge)); have K3 := Lib.hid ((N1.out.blk.new N2.out.grown).kept hg3 (by have := N2.out.ge; have := N1.out.blk.lt; simp; omega)); clear hb3 hg3)
        | (refine wpLoadB rfl (.tmp 7) rfl g2 _ rfl B3.out ?_)
        | (refine wpStoreB rfl (.tmp 4) (.tmp 26) rfl g1 _ _ rfl rfl K3.out ?_; intro w4 hb4 hg4; have B4 := Lib.hid hb4; have G4 := Lib.hid (grown_new G3.out hg4 N1.out.ge); clear hb4 hg4))
      exact bodyPost_ret (results_cell_tmp' Try.results12 _ _ g1 _ _ (0, 0) _ rfl B4.out undB rfl (rowB _)) rfl ⟨rfl, G4.out⟩
  · have e1 : s.read k = (Bk.zero, s.has k) := by unfold DS.read; rw [if_neg h0]
    rw [e1]
    generalize hz : s.has k = z at *
    have HH := Lib.hid hz
    clear e1 hk h hz
    unfold dptr
    go_enter Try.func12, Try.ntmps12
    go_wp2_with (first
      | (refine wpAllocB rfl rfl ?_; intro g1 w1 hn1; have N1 := Lib.hid hn1; clear hn1)
      | fail)
    refine (has_any (H0.out.new N1.out.grown) _ HK.out).mono ?_; rintro e w2 ⟨rfl, rfl⟩
    rw [HH.out]
    go_wp2_with (first
      | (refine wpBuildB rfl rfl ?_)
      | (refine wpStoreB rfl (.tmp 4) (.tmp 14) rfl g1 _ _ rfl rfl N1.out.blk ?_; intro w4 hb4 hg4; have B4 := Lib.hid hb4; have G4 := Lib.hid (grown_new N1.out.grown hg4 N1.out.ge); clear hb4 hg4))
    exact bodyPost_ret (results_cell_tmp' Try.results12 _ _ g1 _ _ (0, 0) _ rfl B4.out undB rfl (rowB _)) rfl ⟨rfl, G4.out⟩
end Go.Proofs.Ytnnhnkpbiilooaa
