/- RecordNames, walked. -/
import Derived.Test.YtahmpgaohjopeaaRefW
import Derived.Test.YtahmpgaohjopeaaChunks
import Derived.Test.YtahmpgaohjopeaaBack2
import Derived.Laws.OwnMore
namespace Go.Proofs.Ytahmpgaohjopeaa
open Go.RowKit

set_option maxHeartbeats 400000 in
theorem held_nil (w : World) : Calls Try.prog 15 #[.pointer none] w fun e w' => e = .returned (.int .i64 0) ∧ w = w' := by
  go_enter Try.func15, Try.ntmps15
  go_wp2
  go_ret
  exact ⟨rfl, rfl⟩
set_option maxHeartbeats 400000 in
theorem shut_nil (w : World) : Calls Try.prog 17 #[.pointer none] w fun e w' => e = .returned (.bool false) ∧ w = w' := by
  go_enter Try.func17, Try.ntmps17
  go_wp2
  go_ret
  exact ⟨rfl, rfl⟩
set_option maxHeartbeats 400000 in
theorem copy_nil (w : World) : Calls Try.prog 11 #[.pointer none] w fun e w' => e = .returned (.pointer none) ∧ w = w' := by
  go_enter Try.func11, Try.ntmps11
  go_wp2
  go_ret
  exact ⟨rfl, rfl⟩

/-- A literal's bytes. -/
theorem lit_bts (w : World) (bs : List UInt8) (cs : Array Value) (h : cs = (bs.map u8v).toArray) (hl : bs.length ≤ 1000000) (n : Nat) (hn : n = bs.length) : Bts (w.alloc (.cells cs 5)) (.slice (some ⟨w.heap.size, 0, none⟩) n n) bs := by
  subst hn
  refine .inr (.inl ⟨w.heap.size, 0, bs.length, rfl, Nat.le_refl _, by unfold maxLen; omega, fun i hi => ?_⟩)
  rw [Nat.zero_add]
  refine (Blk.made w 5 cs).cell ?_
  rw [h]
  simp [List.getElem?_map, List.getElem?_eq_getElem hi, u8v]

theorem lit_apart {w : World} {r : Nat} {v : Value} {s : Ms} (hr : RS w r v s) (o : Obj) (c : List UInt8) (n m : Nat) : Apart c (.slice (some ⟨w.heap.size, 0, none⟩) n m) v r (w.alloc o).heap.size := fun _ => by
  refine ⟨fun g hg => by cases hg; simp, fun e => ?_, .inr fun e => ?_⟩
  · obtain ⟨_, _, _, _, hb, _, _⟩ := hr
    have h1 := hb.lt
    have h2 : w.heap.size = r := by simpa [Value.ownBlock] using e
    omega
  · have h1 : w.heap.size < w.heap.size := (hr.lt _ e.symm).1
    omega

theorem Duo.new {W w w' : World} {r1 r2 : Nat} {v1 v2 a p : Value} {s1 s2 : Ms} {xs ys : List (List UInt8)} (h : Duo W w r1 v1 s1 r2 v2 s2 a xs p ys) (hg : w.grownBy w' none) : Duo W w' r1 v1 s1 r2 v2 s2 a xs p ys :=
  ⟨h.one.new hg, h.two.new hg, h.ta.new hg, h.tp.new hg, h.fv, h.ft, World.grownBy.trans h.gr hg, h.lo1, h.lo2, h.ne, h.lv⟩

def m4 : Ms := ⟨[0, 0, 16, 0], 4096, false, [], 4, false⟩
def mz (z : List UInt8) : Ms := ⟨[], 0, false, z, 4100, false⟩
theorem run_a : Ms.new.run [128, 0, 0, 0, 128, 0, 16, 1] = (.dead, [[]]) := by decide
theorem run_b (l : List UInt8) : Ms.dead.run l = (.dead, []) := Ms.run_shut _ _ rfl
theorem run_c : Ms.new.run [0, 0, 16, 0] = (m4, []) := by decide
theorem run_d (z : List UInt8) (hz : z.length = 4096) : m4.run z = (mz z, []) := by
  have h := Ms.run_whole m4 z rfl rfl hz (fun e => by rw [e] at hz; cases hz)
  rw [h, hz]
  rfl
theorem opened_dead (s : Ms) (n : Nat) (h : 4096 - s.body.length < n % 2147483648) : s.opened n = .dead := if_pos h
theorem run_e (z : List UInt8) (hz : z.length = 4096) : (mz z).run [128, 0, 0, 1] = (.dead, []) := by
  have hh : headN [128, 0, 0, 1] = 2147483649 := by decide
  have ho : (⟨[] ++ [128, 0, 0, 1], 0, false, z, 4104, false⟩ : Ms).opened (headN ([] ++ [128, 0, 0, 1])) = .dead := by
    refine opened_dead _ _ ?_
    rw [List.nil_append, hh]
    dsimp only
    rw [hz]
    decide
  have h := Ms.run_open (mz z) [128, 0, 0, 1] rfl rfl (by simp) .dead ho.symm
  rw [h]
  rfl
theorem ok_m4 : m4.Ok false := ⟨by decide, by decide, by decide, by decide, by intro h; cases h⟩
theorem ok_mz (z : List UInt8) (hz : z.length = 4096) : (mz z).Ok false := by
  refine ⟨?_, ?_, fun _ => ⟨rfl, rfl⟩, ?_, ?_⟩
  · exact Nat.zero_le _
  · intro h; cases h
  · exact Nat.le_of_eq hz
  · intro h; cases h

theorem cut_abc : cutR [97, 98, 99] 2 = ([0, 0, 0, 2, 97, 98, 128, 0, 0, 1, 99], 0) := by
  unfold cutR
  rw [if_neg (by decide), if_neg (by decide), show (2 : Int).toNat = 2 from rfl, cutB_step 2 _ (by decide) (by decide), cutB_end 2 _ (by decide)]
  rfl
theorem cut_none : cutR [] 5 = ([128, 0, 0, 0], 0) := by
  unfold cutR
  rw [if_neg (by decide), if_neg (by decide), cutB_end _ _ (by decide)]
  rfl

/-- Noughts, made. -/
theorem make_run (n : Nat) (hn : n ≤ 1000000) (w : World) : (Instr.makeSlice 30 (.int .i64 n) (.int .i64 n)).run Try.prog w = .ok (.slice (some ⟨w.heap.size, 0, none⟩) n n) (w.alloc (.cells ((List.replicate n (0 : UInt8)).map u8v).toArray 5)) := by
  obtain ⟨i, hi, hz0, hz1, hz2⟩ := info_parts inf5
  have h := run_makeSlice (P := Try.prog) w 30 5 i _ und22 hi hz0 .i64 .i64 n n (by omega) (Int.le_refl _) (by rw [hz1]; simp; omega) (by rw [hz2]; omega) (by omega)
  rw [hz1, Int.toNat_natCast, Nat.mul_one] at h
  have e : madeCells (Value.int .u8 0).cells n = ((List.replicate n (0 : UInt8)).map u8v).toArray := by
    apply Array.ext'
    rw [show (Value.int .u8 0).cells = #[Value.int .u8 0] from rfl, toList_madeCells_one, List.map_replicate]
    rfl
  rw [e] at h
  exact h

set_option maxRecDepth 100000 in
set_option maxHeartbeats 1600000 in
theorem names_walk (W : World) : Calls Try.prog 5 #[] W fun e w' => e = .returned (.bool true) ∧ W.grownBy w' none := by
  go_enter Try.func5, Try.ntmps5
  go_wp2_with fail
  refine (feed_nil _ [] _ (Bts.nil _)).mono ?_; rintro e w1 ⟨rfl, rfl⟩
  go_wp2_with fail
  refine (new_any W).mono ?_; rintro e w2 ⟨r, rfl, hr1, hg1, hle1⟩
  have HS : Hid (Solo W w2 r (.slice none 0 0) .new (.slice none 0 0) []) := Lib.hid ⟨hr1, Texts.nil _ _, hg1, hle1, fun g hg => by cases hg⟩
  clear hr1 hg1 hle1
  go_wp2_with fail
  have hb := lit_bts w2 [128, 0, 0, 0, 128, 0, 16, 1] #[.int .u8 128, .int .u8 0, .int .u8 0, .int .u8 0, .int .u8 128, .int .u8 0, .int .u8 16, .int .u8 1] rfl (by decide) 8 rfl
  refine (feed_any r _ _ .new [128, 0, 0, 0, 128, 0, 16, 1] _ (HS.out.new (World.grownBy_alloc _ _ _)).rs Ms.Ok.new (by decide) (by decide) hb (lit_apart HS.out.rs _ _ _ _)).mono ?_
  rintro e w3 hf
  obtain ⟨v3, a3, k3, rfl, q1, q2, q3⟩ := hf.of run_a
  obtain ⟨d1, d2⟩ := (HS.out.new (World.grownBy_alloc _ _ _)).feed q1 q2 q3
  have HS3 : Hid (Solo W w3 r v3 .dead (.slice a3 1 k3) [[]]) := Lib.hid ⟨d1.rs, d2, d1.gr, d1.lo, d1.lv⟩
  clear hb hf q1 q2 q3 d1 d2 HS
  simp only [List.length_cons, List.length_nil, Nat.reduceAdd, show Ms.dead.shut = true from rfl, if_true] at *
  go_wp2_with fail
  have hb := lit_bts w3 [128, 0, 0, 0] #[.int .u8 128, .int .u8 0, .int .u8 0, .int .u8 0] rfl (by decide) 4 rfl
  refine (feed_any r _ _ .dead [128, 0, 0, 0] _ (HS3.out.new (World.grownBy_alloc _ _ _)).rs Ms.Ok.dead (by decide) (by decide) hb (lit_apart HS3.out.rs _ _ _ _)).mono ?_
  rintro e w4 hf
  obtain ⟨v4, a4, k4, rfl, q1, q2, q3⟩ := hf.of (run_b _)
  obtain ⟨d1, d2⟩ := (HS3.out.new (World.grownBy_alloc _ _ _)).feed q1 q2 q3
  have HS4 := Lib.hid d1
  clear hb hf q1 q2 q3 d1 d2 HS3
  simp only [List.length_nil, show Ms.dead.shut = true from rfl, if_true] at *
  go_wp2_with fail
  refine (new_any w4).mono ?_; rintro e w5 ⟨s, rfl, hr1, hg1, hle1⟩
  have hne : r ≠ s := by
    obtain ⟨_, _, _, _, hb', _, _⟩ := HS4.out.rs
    have := hb'.lt
    omega
  have HD5 : Hid (Duo W w5 r v4 .dead s (.slice none 0 0) .new (.slice a3 1 k3) [[]] (.slice none 0 0) []) :=
    Lib.hid ⟨HS4.out.rs.new hg1, hr1, HS4.out.tp.new hg1, Texts.nil _ _, far_nil _, far_nil _, World.grownBy.trans HS4.out.gr hg1, HS4.out.lo, Nat.le_trans HS4.out.gr.size hle1, hne, fun g hg => by cases hg⟩
  clear hr1 hg1 hle1 hne HS4
  go_wp2_with fail
  have hb := lit_bts w5 [0, 0, 16, 0] #[.int .u8 0, .int .u8 0, .int .u8 16, .int .u8 0] rfl (by decide) 4 rfl
  refine (feed_any s _ _ .new [0, 0, 16, 0] _ (HD5.out.new (World.grownBy_alloc _ _ _)).two Ms.Ok.new (by decide) (by decide) hb (lit_apart HD5.out.two _ _ _ _)).mono ?_
  rintro e w6 hf
  obtain ⟨v6, a6, k6, rfl, q1, q2, q3⟩ := hf.of run_c
  obtain ⟨d1, d2, d3, d4⟩ := (HD5.out.new (World.grownBy_alloc _ _ _)).feed q1 q2 q3
  have HD6 := Lib.hid d1
  clear hb hf q1 q2 q3 d1 d2 d3 d4 HD5
  simp only [List.length_nil, show m4.shut = false from rfl, if_neg (Bool.false_ne_true)] at *
  go_wp2_with fail
  refine (held_any s v6 m4 w6 HD6.out.two (by decide)).mono ?_; rintro e w7 ⟨rfl, rfl⟩
  simp only [show m4.came = 4 from rfl, Int.cast_ofNat_Int]
  have hmk := make_run 4096 (by decide)
  have hmk1 := make_run 4097 (by decide)
  obtain ⟨z, hz⟩ : ∃ z : List UInt8, z = List.replicate 4096 0 := ⟨_, rfl⟩
  obtain ⟨y, hy⟩ : ∃ y : List UInt8, y = List.replicate 4097 0 := ⟨_, rfl⟩
  have hzl : z.length = 4096 := by rw [hz]; exact List.length_replicate
  have hyl : y.length = 4097 := by rw [hy]; exact List.length_replicate
  rw [← hz] at hmk
  rw [← hy] at hmk1
  clear hz hy
  simp only [Int.cast_ofNat_Int] at hmk hmk1
  have hcz : ∀ w : World, (convert 30 9 (.slice (some ⟨w.heap.size, 0, none⟩) 4096 4096)).run Try.prog (w.alloc (.cells (z.map u8v).toArray 5)) = .ok (.string ⟨z.toArray⟩) (w.alloc (.cells (z.map u8v).toArray 5)) := fun w => (lit_bts w z _ rfl (by omega) 4096 hzl.symm).str und22 und5 und9
  have hcy : ∀ w : World, (convert 30 9 (.slice (some ⟨w.heap.size, 0, none⟩) 4097 4097)).run Try.prog (w.alloc (.cells (y.map u8v).toArray 5)) = .ok (.string ⟨y.toArray⟩) (w.alloc (.cells (y.map u8v).toArray 5)) := fun w => (lit_bts w y _ rfl (by omega) 4097 hyl.symm).str und22 und5 und9
  have HZL := Lib.hid hzl; have HYL := Lib.hid hyl
  clear hzl hyl
  go_wp2_with fail
  have hb := lit_bts w6 z (z.map u8v).toArray rfl (by have := HZL.out; omega) 4096 HZL.out.symm
  refine (feed_any s _ _ m4 z _ (HD6.out.new (World.grownBy_alloc _ _ _)).two ok_m4 (by rw [HZL.out]; decide) (by rw [HZL.out]; decide) hb (lit_apart HD6.out.two _ _ _ _)).mono ?_
  rintro e w7 hf
  obtain ⟨v7, a7, k7, rfl, q1, q2, q3⟩ := hf.of (run_d z HZL.out)
  obtain ⟨d1, d2, d3, d4⟩ := (HD6.out.new (World.grownBy_alloc _ _ _)).feed q1 q2 q3
  have HD7 := Lib.hid d1
  clear hb hf q1 q2 q3 d1 d2 d3 d4 HD6
  simp only [List.length_nil, show (mz z).shut = false from rfl, if_neg (Bool.false_ne_true)] at *
  go_wp2_with fail
  have hb := lit_bts w7 [128, 0, 0, 1] #[.int .u8 128, .int .u8 0, .int .u8 0, .int .u8 1] rfl (by decide) 4 rfl
  refine (feed_any s _ _ (mz z) [128, 0, 0, 1] _ (HD7.out.new (World.grownBy_alloc _ _ _)).two (ok_mz z HZL.out) (by show 4100 + 4 ≤ _; decide) (by decide) hb (lit_apart HD7.out.two _ _ _ _)).mono ?_
  rintro e w8 hf
  obtain ⟨v8, a8, k8, rfl, q1, q2, q3⟩ := hf.of (run_e z HZL.out)
  obtain ⟨d1, d2, d3, d4⟩ := (HD7.out.new (World.grownBy_alloc _ _ _)).feed q1 q2 q3
  have HD8 := Lib.hid d1
  clear hb hf q1 q2 q3 d1 d2 d3 d4 HD7
  simp only [List.length_nil, show Ms.dead.shut = true from rfl, if_true] at *
  go_wp2_with fail
  have h1 := cut_any ⟨#[97, 98, 99]⟩ 2 w8 (by decide) (by decide)
  rw [show cutR (⟨#[97, 98, 99]⟩ : ByteArray).data.toList 2 = ([0, 0, 0, 2, 97, 98, 128, 0, 0, 1, 99], 0) from cut_abc] at h1
  refine h1.mono ?_
  rintro e w9 ⟨vj, rfl, j1, j2⟩
  replace j1 : Own w9 w8.heap.size vj [0, 0, 0, 2, 97, 98, 128, 0, 0, 1, 99] := j1
  obtain ⟨aj, cj, rfl, _, _⟩ := j1.bts.form
  have HJ := Lib.hid j1.bts; have HD9 := Lib.hid (HD8.out.new j2)
  clear h1 j1 j2 HD8
  go_wp2_with fail
  have h1 := cut_any ⟨#[]⟩ 5 w9 (by decide) (by decide)
  rw [show cutR (⟨#[]⟩ : ByteArray).data.toList 5 = ([128, 0, 0, 0], 0) from cut_none] at h1
  refine h1.mono ?_
  rintro e w10 ⟨vm, rfl, j1, j2⟩
  replace j1 : Own w10 w9.heap.size vm [128, 0, 0, 0] := j1
  obtain ⟨am, cm, rfl, _, _⟩ := j1.bts.form
  have HM := Lib.hid j1.bts; have HD10 := Lib.hid (HD9.out.new j2); have HJ10 := Lib.hid (HJ.out.new j2)
  clear h1 j1 j2 HD9 HJ
  simp only [List.length_cons, List.length_nil, Nat.reduceAdd] at *
  go_wp2_with fail
  have h1 := write_any ⟨y.toArray⟩ (w10.alloc (.cells (y.map u8v).toArray 5)) (by show y.length ≤ _; rw [HYL.out]; decide)
  rw [show writeR (⟨y.toArray⟩ : ByteArray).data.toList = ([], 40) from if_pos (by show 4096 < y.length; rw [HYL.out]; decide)] at h1
  refine h1.mono ?_
  rintro e w11 ⟨vo, rfl, j1, j2⟩
  replace j2 := World.grownBy.trans (World.grownBy_alloc w10 _ _) j2
  obtain ⟨ao, no, co, rfl⟩ := j1.bts.shape
  have HM11 := Lib.hid (HM.out.new j2); have HD11 := Lib.hid (HD10.out.new j2); have HJ11 := Lib.hid (HJ10.out.new j2)
  clear h1 j1 j2 HD10 HJ10 HM
  dsimp only
  go_wp2_with fail
  have h1 := write_any ⟨z.toArray⟩ (w11.alloc (.cells (z.map u8v).toArray 5)) (by show z.length ≤ _; rw [HZL.out]; decide)
  rw [show writeR (⟨z.toArray⟩ : ByteArray).data.toList = (fragB z true, 0) from if_neg (by show ¬ 4096 < z.length; rw [HZL.out]; decide)] at h1
  refine h1.mono ?_
  rintro e w12 ⟨vo, rfl, j1, j2⟩
  replace j2 := World.grownBy.trans (World.grownBy_alloc w11 _ _) j2
  obtain ⟨ap, np, cp, rfl⟩ := j1.bts.shape
  have HM12 := Lib.hid (HM11.out.new j2); have HD12 := Lib.hid (HD11.out.new j2); have HJ12 := Lib.hid (HJ11.out.new j2)
  clear h1 j1 j2 HD11 HJ11 HM11
  dsimp only
  go_wp2_with fail
  have h1 := cut_arg ⟨#[97]⟩ 0 w12 (by decide) (by decide)
  refine h1.mono ?_
  rintro e w13 ⟨rfl, rfl⟩
  clear h1
  go_wp2_with fail
  have h1 := cut_large ⟨y.toArray⟩ 0 (w12.alloc (.cells (y.map u8v).toArray 5)) (by show 4096 < y.length; rw [HYL.out]; decide) (by show y.length ≤ _; rw [HYL.out]; decide)
  refine h1.mono ?_
  rintro e w13 ⟨rfl, rfl⟩
  clear h1
  have j2 := World.grownBy_alloc w12 (.cells (y.map u8v).toArray 5) none
  have HM13 := Lib.hid (HM12.out.new j2); have HD13 := Lib.hid (HD12.out.new j2); have HJ13 := Lib.hid (HJ12.out.new j2)
  clear j2 HD12 HJ12 HM12 hmk hmk1 hcz hcy
  generalize w12.alloc (.cells (y.map u8v).toArray 5) = w13 at *
  obtain ⟨gb, cb, eb, _, hcb⟩ := HD13.out.ta.cells (by decide)
  cases eb
  have hcb0 := hcb 0 (by decide)
  simp only [List.getElem_cons_zero, txt] at hcb0
  have hsj := HJ13.out.str und22 und5 und9
  have hsm := HM13.out.str und22 und5 und9
  have HHR := Lib.hid (held_any r v4 .dead w13 HD13.out.one (by decide)); have HSR := Lib.hid (shut_any r v4 .dead w13 HD13.out.one)
  clear hcb
  go_wp2_with fail
  refine (held_nil _).mono ?_; rintro e w14 ⟨rfl, rfl⟩
  go_wp2_with fail
  refine (shut_nil _).mono ?_; rintro e w14 ⟨rfl, rfl⟩
  go_wp2_with fail
  refine (copy_nil _).mono ?_; rintro e w14 ⟨rfl, rfl⟩
  go_wp2_with fail
  refine HSR.out.mono ?_; rintro e w14 ⟨rfl, rfl⟩
  simp only [show Ms.dead.shut = true from rfl]
  go_wp2_with fail
  refine HHR.out.mono ?_; rintro e w14 ⟨rfl, rfl⟩
  simp only [show Ms.dead.came = 0 from rfl, Int.cast_ofNat_Int]
  go_wp2_with fail
  refine (awake_any _).mono ?_; rintro e w14 ⟨rfl, hg14⟩
  have HG14 := Lib.hid hg14; clear hg14
  go_wp2_with fail
  go_ret
  exact ⟨rfl, World.grownBy.trans HD13.out.gr HG14.out⟩
end Go.Proofs.Ytahmpgaohjopeaa
