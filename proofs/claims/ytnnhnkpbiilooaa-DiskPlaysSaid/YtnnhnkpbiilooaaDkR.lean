/- disk: DiskNames: the examples, the limits and the errors. -/
import Derived.Test.YtnnhnkpbiilooaaDkQ
namespace Go.Proofs.Ytnnhnkpbiilooaa
open Go.RowKit Go.Maps

theorem Blk.bls {w : World} {r : Nat} {ks : List Bool} (h : Blk w r 4 (ks.map Value.bool).toArray) (hl : ks.length ≤ maxLen := by decide) : Bls w (.slice (some ⟨r, 0, none⟩) ks.length ks.length) ks :=
  .inr (.inl ⟨r, 0, ks.length, rfl, Nat.le_refl _, hl, fun i hi => by
    rw [Nat.mul_one] at hi
    have hn := h.cell (i := 0 + i) (x := .bool (ks.getD i false)) (by simp [hi, List.getD])
    exact hn⟩)
set_option maxRecDepth 20000 in
theorem Read_nil (k : Int) (w : World) : Calls Try.prog 12 #[.pointer none, .int .i64 k] w (Gives w Bk.zero 2) := by
  go_enter Try.func12, Try.ntmps12
  go_upto_region 1 with (refine wpAllocB rfl rfl ?_; intro g1 w1 hn1; have N1 := Lib.hid hn1; clear hn1)
  go_wp2_with fail
  refine (has_nil _ _).mono ?_; rintro e w2 ⟨rfl, rfl⟩
  go_wp2_with (first
    | (refine wpBuildB rfl rfl ?_)
    | (refine wpStoreB rfl (.tmp 4) (.tmp 14) rfl g1 _ _ rfl rfl N1.out.blk ?_; intro w4 hb4 hg4; have B4 := Lib.hid hb4; have G4 := Lib.hid (grown_new N1.out.grown hg4 N1.out.ge); clear hb4 hg4))
  exact bodyPost_ret (results_cell_tmp' Try.results12 _ _ g1 _ _ (0, 0) _ rfl B4.out undB rfl (rowB _)) rfl ⟨rfl, G4.out⟩
def nm0 : DS := DS.new 8192
theorem nm0m : nm0.m ≤ 100000000 := by decide
theorem nme0 : nm0.dd = false := by kernel_rfl
theorem nme1 : nm0.read 8192 = (Bk.zero, 1) := by kernel_rfl
theorem nme2 : nm0.read (-1) = (Bk.zero, 1) := by kernel_rfl
theorem nme3 : ((nm0.n : Nat) : Int) = 8192 := by kernel_rfl
def nm1 : DS := (nm0.write 8192 (Bk.of 1)).1
theorem nm1m : nm1.m ≤ 100000000 := by decide
theorem nme4 : nm0.write 8192 (Bk.of 1) = (nm1, 1) := by kernel_rfl
def nm2 : DS := (nm1.write (-1) (Bk.of 1)).1
theorem nm2m : nm2.m ≤ 100000000 := by decide
theorem nme5 : nm1.write (-1) (Bk.of 1) = (nm2, 1) := by kernel_rfl
def nm3 : DS := (nm2.cut (-1) []).1
theorem nm3m : nm3.m ≤ 100000000 := by decide
theorem nme6 : nm2.cut (-1) [] = (nm3, 1) := by kernel_rfl
theorem nme7 : nm3.read 8191 = (Bk.zero, 0) := by kernel_rfl
def nm4 : DS := (nm3.write 8191 (Bk.of 1)).1
theorem nm4m : nm4.m ≤ 100000000 := by decide
theorem nme8 : nm3.write 8191 (Bk.of 1) = (nm4, 0) := by kernel_rfl
def nm5 : DS := (nm4.cut 1 []).1
theorem nm5m : nm5.m ≤ 100000000 := by decide
theorem nme9 : nm4.cut 1 [] = (nm5, 0) := by kernel_rfl
def nm6 : DS := (nm5.cut 0 []).1
theorem nm6m : nm6.m ≤ 100000000 := by decide
theorem nme10 : nm5.cut 0 [] = (nm6, 0) := by kernel_rfl
def nm7 : DS := nm6.flush.1
theorem nm7m : nm7.m ≤ 100000000 := by decide
theorem nme11 : nm6.flush = (nm7, 0) := by kernel_rfl
def nm8 : DS := (nm7.cut 1 []).1
theorem nm8m : nm8.m ≤ 100000000 := by decide
theorem nme12 : nm7.cut 1 [] = (nm8, 0) := by kernel_rfl
def nm9 : DS := (nm8.cut 2 [true, false]).1
theorem nm9m : nm9.m ≤ 100000000 := by decide
theorem nme13 : nm8.cut 2 [true, false] = (nm9, 0) := by kernel_rfl
def nm10 : DS := (nm9.write 9000 (Bk.of 2)).1
theorem nm10m : nm10.m ≤ 100000000 := by decide
theorem nme14 : nm9.write 9000 (Bk.of 2) = (nm10, 1) := by kernel_rfl
def nm11 : DS := (nm10.write 7 (Bk.of 2)).1
theorem nm11m : nm11.m ≤ 100000000 := by decide
theorem nme15 : nm10.write 7 (Bk.of 2) = (nm11, 0) := by kernel_rfl
def nm12 : DS := (nm11.write 8191 (Bk.of 3)).1
theorem nm12m : nm12.m ≤ 100000000 := by decide
theorem nme16 : nm11.write 8191 (Bk.of 3) = (nm12, 51) := by kernel_rfl
theorem nme17 : nm12.read 7 = (Bk.zero, 51) := by kernel_rfl
theorem nme18 : nm12.dd = true := by kernel_rfl
theorem nme19 : ((nm12.wt.length : Nat) : Int) = 0 := by kernel_rfl
def nm13 : DS := (nm12.write 7 (Bk.of 1)).1
theorem nm13m : nm13.m ≤ 100000000 := by decide
theorem nme20 : nm12.write 7 (Bk.of 1) = (nm13, 51) := by kernel_rfl
def nm14 : DS := nm13.flush.1
theorem nm14m : nm14.m ≤ 100000000 := by decide
theorem nme21 : nm13.flush = (nm14, 51) := by kernel_rfl
def nm15 : DS := (nm14.cut 1 []).1
theorem nm15m : nm15.m ≤ 100000000 := by decide
theorem nme22 : nm14.cut 1 [] = (nm15, 51) := by kernel_rfl
def nm16 : DS := (nm15.fail []).1
theorem nm16m : nm16.m ≤ 100000000 := by decide
theorem nme23 : nm15.fail [] = (nm16, 51) := by kernel_rfl
def nm17 : DS := (nm16.write (-1) (Bk.of 1)).1
theorem nm17m : nm17.m ≤ 100000000 := by decide
theorem nme24 : nm16.write (-1) (Bk.of 1) = (nm17, 51) := by kernel_rfl
theorem nme25 : nm17.dd = true := by kernel_rfl
def nm18 : DS := nm17.anew
theorem nm18m : nm18.m ≤ 100000000 := by decide
theorem nme26 : nm17.dd = true := by kernel_rfl
def nm19 : DS := nm17.anew
theorem nm19m : nm19.m ≤ 100000000 := by decide
theorem nme27 : nm18.read 7 = ((Bk.of 2), 0) := by kernel_rfl
theorem nme28 : nm18.read 8191 = ((Bk.of 1), 0) := by kernel_rfl
def nm20 : DS := (nm18.write 7 (Bk.of 5)).1
theorem nm20m : nm20.m ≤ 100000000 := by decide
theorem nme29 : nm18.write 7 (Bk.of 5) = (nm20, 0) := by kernel_rfl
def nm21 : DS := nm20.flush.1
theorem nm21m : nm21.m ≤ 100000000 := by decide
theorem nme30 : nm20.flush = (nm21, 0) := by kernel_rfl
theorem nme31 : nm19.read 7 = ((Bk.of 2), 0) := by kernel_rfl
theorem nme32 : nm17.dd = true := by kernel_rfl
def nm22 : DS := nm17.anew
theorem nm22m : nm22.m ≤ 100000000 := by decide
theorem nme33 : nm22.read 7 = ((Bk.of 2), 0) := by kernel_rfl
def nm23 : DS := (nm21.write 8 (Bk.of 6)).1
theorem nm23m : nm23.m ≤ 100000000 := by decide
theorem nme34 : nm21.write 8 (Bk.of 6) = (nm23, 0) := by kernel_rfl
def nm24 : DS := (nm23.cut 1 [true]).1
theorem nm24m : nm24.m ≤ 100000000 := by decide
theorem nme35 : nm23.cut 1 [true] = (nm24, 0) := by kernel_rfl
def nm25 : DS := nm24.flush.1
theorem nm25m : nm25.m ≤ 100000000 := by decide
theorem nme36 : nm24.flush = (nm25, 51) := by kernel_rfl
theorem nme37 : nm24.dd = false := by kernel_rfl
def nm26 : DS := (nm24.cut 0 []).1
theorem nm26m : nm26.m ≤ 100000000 := by decide
theorem nme38 : nm24.cut 0 [] = (nm26, 0) := by kernel_rfl
def nm27 : DS := nm26.flush.1
theorem nm27m : nm27.m ≤ 100000000 := by decide
theorem nme39 : nm26.flush = (nm27, 0) := by kernel_rfl
theorem nme40 : nm27.read 8 = ((Bk.of 6), 0) := by kernel_rfl
theorem nme41 : nm25.dd = true := by kernel_rfl
def nm28 : DS := nm25.anew
theorem nm28m : nm28.m ≤ 100000000 := by decide
theorem nme42 : nm28.read 8 = ((Bk.of 6), 0) := by kernel_rfl
def nm29 : DS := (nm27.write 9 (Bk.of 4)).1
theorem nm29m : nm29.m ≤ 100000000 := by decide
theorem nme43 : nm27.write 9 (Bk.of 4) = (nm29, 0) := by kernel_rfl
def nm30 : DS := (nm29.cut 1 [true]).1
theorem nm30m : nm30.m ≤ 100000000 := by decide
theorem nme44 : nm29.cut 1 [true] = (nm30, 0) := by kernel_rfl
def nm31 : DS := nm30.flush.1
theorem nm31m : nm31.m ≤ 100000000 := by decide
theorem nme45 : nm30.flush = (nm31, 51) := by kernel_rfl
theorem nme46 : nm31.dd = true := by kernel_rfl
def nm32 : DS := nm31.anew
theorem nm32m : nm32.m ≤ 100000000 := by decide
theorem nme47 : nm32.read 9 = ((Bk.of 4), 0) := by kernel_rfl

set_option maxRecDepth 100000 in
set_option maxHeartbeats 8000000 in
theorem names_main (w : World) : Calls Try.prog 3 #[] w (Asks w true) := by
  have L0 := Lib.hid (Law.start w)
  go_enter Try.func3, Try.ntmps3
  go_wp2_with fail
  refine (works_any _).mono ?_; rintro e w1 ⟨rfl, hg⟩
  have L1 := Lib.hid (L0.out.new hg); clear hg
  go_wp2_with fail
  refine (New_off 63 _ (by omega)).mono ?_; rintro e w' ⟨rfl, rfl⟩
  go_wp2_with fail
  refine (New_off 8193 _ (by omega)).mono ?_; rintro e w' ⟨rfl, rfl⟩
  go_wp2_with fail
  have hcall := lNew L1.out 8192 (by omega) (by omega)
  refine hcall.mono ?_; clear hcall; rintro e w2 ⟨p1, rfl, hl, hg⟩
  have L2 := Lib.hid hl; clear hl hg
  have L2 : Hid (Law w _ _ ([(p1, nm0)])) := L2
  go_wp2_with fail
  refine (lBoot_no L2.out (i := 0) rfl nme0).mono ?_; rintro e w' ⟨rfl, rfl⟩
  have hrd := lRead L2.out (i := 0) rfl 8192 (by decide)
  rw [nme1] at hrd
  go_wp2_with fail
  refine hrd.mono ?_; clear hrd; rintro e w3 ⟨rfl, hg⟩
  have L3 := Lib.hid (L2.out.new hg); clear hg
  go_wp2_with (first
    | (refine wpAllocB rfl rfl ?_; intro gl wl hnl; have NL := Lib.hid hnl; clear hnl)
    | (refine wpStoreB rfl (.tmp 9) (.tmp 60) rfl gl _ _ rfl rfl NL.out.blk ?_; intro w4 hbl hgl; have hg := grown_new NL.out.grown hgl NL.out.ge; clear hbl hgl; have L4 := Lib.hid (L3.out.new hg); clear hg))
  have hrd := lRead L4.out (i := 0) rfl (-1) (by decide)
  rw [nme2] at hrd
  go_wp2_with fail
  refine hrd.mono ?_; clear hrd; rintro e w5 ⟨rfl, hg⟩
  have L5 := Lib.hid (L4.out.new hg); clear hg
  go_wp2_with (first
    | (refine wpAllocB rfl rfl ?_; intro gl wl hnl; have NL := Lib.hid hnl; clear hnl)
    | (refine wpStoreB rfl (.tmp 11) (.tmp 65) rfl gl _ _ rfl rfl NL.out.blk ?_; intro w6 hbl hgl; have hg := grown_new NL.out.grown hgl NL.out.ge; clear hbl hgl; have L6 := Lib.hid (L5.out.new hg); clear hg))
  go_wp2_with fail
  refine (lBlocks L6.out (i := 0) rfl).mono ?_; rintro e w' ⟨rfl, rfl⟩; rw [nme3]
  go_wp2_with fail
  refine (block_lit 1 1 rfl _).mono ?_; rintro e w7 ⟨rfl, hg⟩
  have L7 := Lib.hid (L6.out.new hg); clear hg
  go_wp2_with fail
  have hcall := dWrite L7.out 0 rfl nm0m 8192 (by decide) (Bk.of 1) nme4 rfl
  refine hcall.mono ?_; clear hcall; rintro e w8 ⟨rfl, hl, hk⟩
  have L8 := Lib.hid hl; clear hl hk
  go_wp2_with fail
  refine (block_lit 1 1 rfl _).mono ?_; rintro e w9 ⟨rfl, hg⟩
  have L9 := Lib.hid (L8.out.new hg); clear hg
  go_wp2_with fail
  have hcall := dWrite L9.out 0 rfl nm1m (-1) (by decide) (Bk.of 1) nme5 rfl
  refine hcall.mono ?_; clear hcall; rintro e w10 ⟨rfl, hl, hk⟩
  have L10 := Lib.hid hl; clear hl hk
  go_wp2_with fail
  have hcall := dCut L10.out 0 rfl (-1) (by decide) (Bls.nil _) (by decide) nme6 rfl
  refine hcall.mono ?_; clear hcall; rintro e w11 ⟨rfl, hl, hk⟩
  have L11 := Lib.hid hl; clear hl hk
  go_wp2_with fail
  have hcall := dIs L11.out 0 rfl 8191 (by decide) 0 0 rfl _ nme7 true isB_zero
  refine hcall.mono ?_; clear hcall; rintro e w12 ⟨rfl, hg⟩
  have L12 := Lib.hid (L11.out.new hg); clear hg
  go_wp2_with fail
  refine (block_lit 1 1 rfl _).mono ?_; rintro e w13 ⟨rfl, hg⟩
  have L13 := Lib.hid (L12.out.new hg); clear hg
  go_wp2_with fail
  have hcall := dWrite L13.out 0 rfl nm3m 8191 (by decide) (Bk.of 1) nme8 rfl
  refine hcall.mono ?_; clear hcall; rintro e w14 ⟨rfl, hl, hk⟩
  have L14 := Lib.hid hl; clear hl hk
  go_wp2_with fail
  have hcall := dCut L14.out 0 rfl 1 (by decide) (Bls.nil _) (by decide) nme9 rfl
  refine hcall.mono ?_; clear hcall; rintro e w15 ⟨rfl, hl, hk⟩
  have L15 := Lib.hid hl; clear hl hk
  go_wp2_with fail
  have hcall := dCut L15.out 0 rfl 0 (by decide) (Bls.nil _) (by decide) nme10 rfl
  refine hcall.mono ?_; clear hcall; rintro e w16 ⟨rfl, hl, hk⟩
  have L16 := Lib.hid hl; clear hl hk
  go_wp2_with fail
  have hcall := dFlush L16.out 0 rfl (Nat.le_trans nm6m (by decide)) nme11 rfl
  refine hcall.mono ?_; clear hcall; rintro e w17 ⟨rfl, hl, hk⟩
  have L17 := Lib.hid hl; clear hl hk
  go_wp2_with fail
  have hcall := dCut L17.out 0 rfl 1 (by decide) (Bls.nil _) (by decide) nme12 rfl
  refine hcall.mono ?_; clear hcall; rintro e w18 ⟨rfl, hl, hk⟩
  have L18 := Lib.hid hl; clear hl hk
  go_wp2_with fail
  have L18 := Lib.hid (L18.out.new (World.grownBy_alloc _ (.cells (([true, false] : List Bool).map Value.bool).toArray 4) none))
  go_wp2_with fail
  have hcall := dCut L18.out 0 rfl 2 (by decide) (Bls.lit _ [true, false] (by decide)) (by decide) nme13 rfl
  refine hcall.mono ?_; clear hcall; rintro e w19 ⟨rfl, hl, hk⟩
  have L19 := Lib.hid hl; clear hl hk
  go_wp2_with fail
  refine (block_lit 2 2 rfl _).mono ?_; rintro e w20 ⟨rfl, hg⟩
  have L20 := Lib.hid (L19.out.new hg); clear hg
  go_wp2_with fail
  have hcall := dWrite L20.out 0 rfl nm9m 9000 (by decide) (Bk.of 2) nme14 rfl
  refine hcall.mono ?_; clear hcall; rintro e w21 ⟨rfl, hl, hk⟩
  have L21 := Lib.hid hl; clear hl hk
  go_wp2_with fail
  refine (block_lit 2 2 rfl _).mono ?_; rintro e w22 ⟨rfl, hg⟩
  have L22 := Lib.hid (L21.out.new hg); clear hg
  go_wp2_with fail
  have hcall := dWrite L22.out 0 rfl nm10m 7 (by decide) (Bk.of 2) nme15 rfl
  refine hcall.mono ?_; clear hcall; rintro e w23 ⟨rfl, hl, hk⟩
  have L23 := Lib.hid hl; clear hl hk
  go_wp2_with fail
  refine (block_lit 3 3 rfl _).mono ?_; rintro e w24 ⟨rfl, hg⟩
  have L24 := Lib.hid (L23.out.new hg); clear hg
  go_wp2_with fail
  have hcall := dWrite L24.out 0 rfl nm11m 8191 (by decide) (Bk.of 3) nme16 rfl
  refine hcall.mono ?_; clear hcall; rintro e w25 ⟨rfl, hl, hk⟩
  have L25 := Lib.hid hl; clear hl hk
  have hrd := lRead L25.out (i := 0) rfl 7 (by decide)
  rw [nme17] at hrd
  go_wp2_with fail
  refine hrd.mono ?_; clear hrd; rintro e w26 ⟨rfl, hg⟩
  have L26 := Lib.hid (L25.out.new hg); clear hg
  go_wp2_with (first
    | (refine wpAllocB rfl rfl ?_; intro gl wl hnl; have NL := Lib.hid hnl; clear hnl)
    | (refine wpStoreB rfl (.tmp 13) (.tmp 167) rfl gl _ _ rfl rfl NL.out.blk ?_; intro w27 hbl hgl; have hg := grown_new NL.out.grown hgl NL.out.ge; clear hbl hgl; have L27 := Lib.hid (L26.out.new hg); clear hg))
  go_wp2_with fail
  refine (lDead L27.out (i := 0) rfl).mono ?_; rintro e w' ⟨rfl, rfl⟩; rw [nme18]
  go_wp2_with fail
  refine (lWaiting L27.out (i := 0) rfl).mono ?_; rintro e w' ⟨rfl, rfl⟩; rw [nme19]
  go_wp2_with fail
  refine (block_lit 1 1 rfl _).mono ?_; rintro e w28 ⟨rfl, hg⟩
  have L28 := Lib.hid (L27.out.new hg); clear hg
  go_wp2_with fail
  have hcall := dWrite L28.out 0 rfl nm12m 7 (by decide) (Bk.of 1) nme20 rfl
  refine hcall.mono ?_; clear hcall; rintro e w29 ⟨rfl, hl, hk⟩
  have L29 := Lib.hid hl; clear hl hk
  go_wp2_with fail
  have hcall := dFlush L29.out 0 rfl (Nat.le_trans nm13m (by decide)) nme21 rfl
  refine hcall.mono ?_; clear hcall; rintro e w30 ⟨rfl, hl, hk⟩
  have L30 := Lib.hid hl; clear hl hk
  go_wp2_with fail
  have hcall := dCut L30.out 0 rfl 1 (by decide) (Bls.nil _) (by decide) nme22 rfl
  refine hcall.mono ?_; clear hcall; rintro e w31 ⟨rfl, hl, hk⟩
  have L31 := Lib.hid hl; clear hl hk
  go_wp2_with fail
  have hcall := dFail L31.out 0 rfl (Nat.le_trans nm15m (by decide)) (Bls.nil _) nme23 rfl
  refine hcall.mono ?_; clear hcall; rintro e w32 ⟨rfl, hl, hk⟩
  have L32 := Lib.hid hl; clear hl hk
  go_wp2_with fail
  refine (block_lit 1 1 rfl _).mono ?_; rintro e w33 ⟨rfl, hg⟩
  have L33 := Lib.hid (L32.out.new hg); clear hg
  go_wp2_with fail
  have hcall := dWrite L33.out 0 rfl nm16m (-1) (by decide) (Bk.of 1) nme24 rfl
  refine hcall.mono ?_; clear hcall; rintro e w34 ⟨rfl, hl, hk⟩
  have L34 := Lib.hid hl; clear hl hk
  go_wp2_with fail
  have hcall := lBooted L34.out (i := 0) rfl (Nat.le_trans nm17m (by decide)) nme25
  refine hcall.mono ?_; clear hcall; rintro e w35 ⟨p34, rfl, hl, hg⟩
  have L35 := Lib.hid hl; clear hl hg
  have L35 : Hid (Law w _ _ ([(p34, nm18), (p1, nm17)])) := L35
  go_wp2_with fail
  have hcall := lBooted L35.out (i := 1) rfl (Nat.le_trans nm17m (by decide)) nme26
  refine hcall.mono ?_; clear hcall; rintro e w36 ⟨p35, rfl, hl, hg⟩
  have L36 := Lib.hid hl; clear hl hg
  have L36 : Hid (Law w _ _ ([(p35, nm19), (p34, nm18), (p1, nm17)])) := L36
  go_wp2_with fail
  have hcall := dIs L36.out 1 rfl 7 (by decide) 2 2 rfl _ nme27 true (isB_of 2 (by decide))
  refine hcall.mono ?_; clear hcall; rintro e w37 ⟨rfl, hg⟩
  have L37 := Lib.hid (L36.out.new hg); clear hg
  go_wp2_with fail
  have hcall := dIs L37.out 1 rfl 8191 (by decide) 1 1 rfl _ nme28 true (isB_of 1 (by decide))
  refine hcall.mono ?_; clear hcall; rintro e w38 ⟨rfl, hg⟩
  have L38 := Lib.hid (L37.out.new hg); clear hg
  go_wp2_with fail
  refine (block_lit 5 5 rfl _).mono ?_; rintro e w39 ⟨rfl, hg⟩
  have L39 := Lib.hid (L38.out.new hg); clear hg
  go_wp2_with fail
  have hcall := dWrite L39.out 1 rfl nm18m 7 (by decide) (Bk.of 5) nme29 rfl
  refine hcall.mono ?_; clear hcall; rintro e w40 ⟨rfl, hl, hk⟩
  have L40 := Lib.hid hl; clear hl hk
  go_wp2_with fail
  have hcall := dFlush L40.out 1 rfl (Nat.le_trans nm20m (by decide)) nme30 rfl
  refine hcall.mono ?_; clear hcall; rintro e w41 ⟨rfl, hl, hk⟩
  have L41 := Lib.hid hl; clear hl hk
  go_wp2_with fail
  have hcall := dIs L41.out 0 rfl 7 (by decide) 2 2 rfl _ nme31 true (isB_of 2 (by decide))
  refine hcall.mono ?_; clear hcall; rintro e w42 ⟨rfl, hg⟩
  have L42 := Lib.hid (L41.out.new hg); clear hg
  go_wp2_with fail
  have hcall := lBooted L42.out (i := 2) rfl (Nat.le_trans nm17m (by decide)) nme32
  refine hcall.mono ?_; clear hcall; rintro e w43 ⟨p42, rfl, hl, hg⟩
  have L43 := Lib.hid hl; clear hl hg
  have L43 : Hid (Law w _ _ ([(p42, nm22), (p35, nm19), (p34, nm21), (p1, nm17)])) := L43
  go_wp2_with fail
  have hcall := dIs L43.out 0 rfl 7 (by decide) 2 2 rfl _ nme33 true (isB_of 2 (by decide))
  refine hcall.mono ?_; clear hcall; rintro e w44 ⟨rfl, hg⟩
  have L44 := Lib.hid (L43.out.new hg); clear hg
  go_wp2_with fail
  refine (block_lit 6 6 rfl _).mono ?_; rintro e w45 ⟨rfl, hg⟩
  have L45 := Lib.hid (L44.out.new hg); clear hg
  go_wp2_with fail
  have hcall := dWrite L45.out 2 rfl nm21m 8 (by decide) (Bk.of 6) nme34 rfl
  refine hcall.mono ?_; clear hcall; rintro e w46 ⟨rfl, hl, hk⟩
  have L46 := Lib.hid hl; clear hl hk
  go_wp2_with fail
  have L46 := Lib.hid (L46.out.new (World.grownBy_alloc _ (.cells (([true] : List Bool).map Value.bool).toArray 4) none))
  go_wp2_with fail
  have hcall := dCut L46.out 2 rfl 1 (by decide) (Bls.lit _ [true] (by decide)) (by decide) nme35 rfl
  refine hcall.mono ?_; clear hcall; rintro e w47 ⟨rfl, hl, hk⟩
  have L47 := Lib.hid hl; clear hl hk
  go_wp2_with fail
  have hcall := lCopy L47.out (i := 2) rfl (Nat.le_trans nm24m (by decide))
  refine hcall.mono ?_; clear hcall; rintro e w48 ⟨p47, rfl, hl, hg⟩
  have L48 := Lib.hid hl; clear hl hg
  have L48 : Hid (Law w _ _ ([(p47, nm24), (p42, nm22), (p35, nm19), (p34, nm24), (p1, nm17)])) := L48
  go_wp2_with fail
  have hcall := dFlush L48.out 3 rfl (Nat.le_trans nm24m (by decide)) nme36 rfl
  refine hcall.mono ?_; clear hcall; rintro e w49 ⟨rfl, hl, hk⟩
  have L49 := Lib.hid hl; clear hl hk
  go_wp2_with fail
  refine (lDead L49.out (i := 0) rfl).mono ?_; rintro e w' ⟨rfl, rfl⟩; rw [nme37]
  go_wp2_with fail
  have hcall := dCut L49.out 0 rfl 0 (by decide) (Bls.nil _) (by decide) nme38 rfl
  refine hcall.mono ?_; clear hcall; rintro e w50 ⟨rfl, hl, hk⟩
  have L50 := Lib.hid hl; clear hl hk
  go_wp2_with fail
  have hcall := dFlush L50.out 0 rfl (Nat.le_trans nm26m (by decide)) nme39 rfl
  refine hcall.mono ?_; clear hcall; rintro e w51 ⟨rfl, hl, hk⟩
  have L51 := Lib.hid hl; clear hl hk
  go_wp2_with fail
  have hcall := dIs L51.out 0 rfl 8 (by decide) 6 6 rfl _ nme40 true (isB_of 6 (by decide))
  refine hcall.mono ?_; clear hcall; rintro e w52 ⟨rfl, hg⟩
  have L52 := Lib.hid (L51.out.new hg); clear hg
  go_wp2_with fail
  have hcall := lBooted L52.out (i := 3) rfl (Nat.le_trans nm25m (by decide)) nme41
  refine hcall.mono ?_; clear hcall; rintro e w53 ⟨p52, rfl, hl, hg⟩
  have L53 := Lib.hid hl; clear hl hg
  have L53 : Hid (Law w _ _ ([(p52, nm28), (p47, nm27), (p42, nm22), (p35, nm19), (p34, nm25), (p1, nm17)])) := L53
  go_wp2_with fail
  have hcall := dIs L53.out 0 rfl 8 (by decide) 6 6 rfl _ nme42 true (isB_of 6 (by decide))
  refine hcall.mono ?_; clear hcall; rintro e w54 ⟨rfl, hg⟩
  have L54 := Lib.hid (L53.out.new hg); clear hg
  go_upto_region 26 with fail
  have HO := Lib.hid (Blk.made w54 4 #[Value.bool true])
  have LO := Lib.hid (L54.out.mark (World.grownBy_alloc w54 (.cells #[Value.bool true] 4) none) (Nat.le_refl _) (by simp))
  generalize hr : w54.heap.size = r at *
  clear hr
  generalize w54.alloc (.cells #[Value.bool true] 4) = wo at *
  have L55 := LO
  go_wp2_with fail
  refine (block_lit 4 4 rfl _).mono ?_; rintro e w56 ⟨rfl, hg⟩
  have HO := Lib.hid (HO.out.new hg)
  have L56 := Lib.hid (L55.out.new hg); clear hg
  go_wp2_with fail
  have hcall := dWrite L56.out 1 rfl nm27m 9 (by decide) (Bk.of 4) nme43 rfl
  refine hcall.mono ?_; clear hcall; rintro e w57 ⟨rfl, hl, hk⟩
  have HO := Lib.hid (KeptD.blk hk HO.out (by decide) (by decide))
  have L57 := Lib.hid hl; clear hl hk
  go_wp2_with fail
  have hcall := dCut L57.out 1 rfl 1 (by decide) (Blk.bls (ks := [true]) HO.out) (by decide) nme44 rfl
  refine hcall.mono ?_; clear hcall; rintro e w58 ⟨rfl, hl, hk⟩
  have HO := Lib.hid (KeptD.blk hk HO.out (by decide) (by decide))
  have L58 := Lib.hid hl; clear hl hk
  have k0 := HO.out.cell (i := 0) (x := .bool true) rfl
  have f0 := HO.out.frozen 0
  go_upto_region 29 with fail
  have hg := HO.out.setG 0 (.bool false)
  have hl := L58.out.own HO.out (by decide) (by decide) (by simp) hg
  clear k0 f0 hg HO
  generalize World.setCell _ _ _ = wq at *
  have L59 := Lib.hid hl
  clear hl
  go_wp2_with fail
  have hcall := dFlush L59.out 1 rfl (Nat.le_trans nm30m (by decide)) nme45 rfl
  refine hcall.mono ?_; clear hcall; rintro e w60 ⟨rfl, hl, hk⟩
  have L60 := Lib.hid hl; clear hl hk
  go_wp2_with fail
  have hcall := lBooted L60.out (i := 1) rfl (Nat.le_trans nm31m (by decide)) nme46
  refine hcall.mono ?_; clear hcall; rintro e w61 ⟨p60, rfl, hl, hg⟩
  have L61 := Lib.hid hl; clear hl hg
  have L61 : Hid (Law w _ _ ([(p60, nm32), (p52, nm28), (p47, nm31), (p42, nm22), (p35, nm19), (p34, nm25), (p1, nm17)])) := L61
  go_wp2_with fail
  have hcall := dIs L61.out 0 rfl 9 (by decide) 4 4 rfl _ nme47 true (isB_of 4 (by decide))
  refine hcall.mono ?_; clear hcall; rintro e w62 ⟨rfl, hg⟩
  have L62 := Lib.hid (L61.out.new hg); clear hg
  go_wp2_with fail
  refine (Read_nil 0 _).mono ?_; rintro e w63 ⟨rfl, hg⟩
  have L63 := Lib.hid (L62.out.new hg); clear hg
  go_wp2_with (first
    | (refine wpAllocB rfl rfl ?_; intro gl wl hnl; have NL := Lib.hid hnl; clear hnl)
    | (refine wpStoreB rfl (.tmp 20) (.tmp 315) rfl gl _ _ rfl rfl NL.out.blk ?_; intro w64 hbl hgl; have hg := grown_new NL.out.grown hgl NL.out.ge; clear hbl hgl; have L64 := Lib.hid (L63.out.new hg); clear hg))
  go_wp2_with fail
  refine (Boot_nil _).mono ?_; rintro e w' ⟨rfl, rfl⟩
  go_wp2_with fail
  refine (block_lit 0 0 rfl _).mono ?_; rintro e w65 ⟨rfl, hg⟩
  have L65 := Lib.hid (L64.out.new hg); clear hg
  go_wp2_with fail
  refine (Write_nil 0 (Bk.of 0) _).mono ?_; rintro e w66 ⟨rfl, hg⟩
  have L66 := Lib.hid (L65.out.new hg); clear hg
  go_wp2_with fail
  refine (Flush_nil _).mono ?_; rintro e w' ⟨rfl, rfl⟩
  go_wp2_with fail
  refine (Cut_nil 0 _ _).mono ?_; rintro e w' ⟨rfl, rfl⟩
  go_wp2_with fail
  refine (Fail_nil _ _).mono ?_; rintro e w' ⟨rfl, rfl⟩
  go_wp2_with fail
  refine (Blocks_nil _).mono ?_; rintro e w' ⟨rfl, rfl⟩
  go_wp2_with fail
  refine (Waiting_nil _).mono ?_; rintro e w' ⟨rfl, rfl⟩
  go_wp2_with fail
  refine (Dead_nil _).mono ?_; rintro e w' ⟨rfl, rfl⟩
  go_wp2_with fail
  refine (Copy_nil _).mono ?_; rintro e w' ⟨rfl, rfl⟩
  go_wp2_with fail
  go_ret
  exact ⟨rfl, L66.out.grown⟩
end Go.Proofs.Ytnnhnkpbiilooaa
