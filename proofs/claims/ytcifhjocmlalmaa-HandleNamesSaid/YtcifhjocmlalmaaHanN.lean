/- HandleNames, call by call. -/
import Derived.Test.YtcifhjocmlalmaaHanO
namespace Go.Proofs.Ytcifhjocmlalmaa
open Go.RowKit

/-- Noughts, made. -/
theorem make_run (n : Nat) (hn : n ≤ 1000000) (w : World) : (Instr.makeSlice 33 (.int .i64 n) (.int .i64 n)).run Try.prog w = .ok (.slice (some ⟨w.heap.size, 0, none⟩) n n) (w.alloc (.cells ((List.replicate n (0 : UInt8)).map u8v).toArray 5)) := by
  obtain ⟨i, hi, hz0, hz1, hz2⟩ := info_parts inf5
  have h := run_makeSlice (P := Try.prog) w 33 5 i _ und22 hi hz0 .i64 .i64 n n (by omega) (Int.le_refl _) (by rw [hz1]; simp; omega) (by rw [hz2]; omega) (by omega)
  rw [hz1, Int.toNat_natCast, Nat.mul_one] at h
  have e : madeCells (Value.int .u8 0).cells n = ((List.replicate n (0 : UInt8)).map u8v).toArray := by
    apply Array.ext'
    rw [show (Value.int .u8 0).cells = #[Value.int .u8 0] from rfl, toList_madeCells_one, List.map_replicate]
    rfl
  rw [e] at h
  exact h

theorem zeros_str (n : Nat) (hn : n ≤ maxLen) (w : World) : (convert 33 9 (.slice (some ⟨w.heap.size, 0, none⟩) n n)).run Try.prog (w.alloc (.cells ((List.replicate n (0 : UInt8)).map u8v).toArray 5)) = .ok (.string ⟨(List.replicate n (0 : UInt8)).toArray⟩) (w.alloc (.cells ((List.replicate n (0 : UInt8)).map u8v).toArray 5)) := by
  have h := (made_bts w (List.replicate n (0 : UInt8)) 5 (by simpa using hn)).str und22 und5 und9
  rw [List.length_replicate] at h
  exact h

set_option maxRecDepth 10000 in
set_option maxHeartbeats 4000000 in
theorem names_walk (w : World) : Calls Try.prog 4 #[] w (OK w) := by
  have HW := Lib.hid (fun w => awake_any w)
  have HE1 := Lib.hid (fun w => Enc_any ⟨0, 0, 0⟩ w)
  rw [hEnc_not (by decide)] at HE1
  have HE2 := Lib.hid (fun w => Enc_any ⟨2147483647, 2147483647, 2147483647⟩ w)
  rw [hEnc_of (by decide)] at HE2
  have HE3 := Lib.hid (fun w => Enc_any ⟨2147483648, 1, 0⟩ w)
  rw [hEnc_not (by decide)] at HE3
  have HD23 := Lib.hid (fun w => Dec_any (List.replicate 23 0) w (by decide))
  rw [show hDec fnv (List.replicate 23 0) = (noHn, 4) from if_neg (fun q => by cases q.1)] at HD23
  have HD24 := Lib.hid (fun w => Dec_any (List.replicate 24 0) w (by decide))
  rw [show hDec fnv (List.replicate 24 0) = (noHn, 4) from if_neg (fun q => absurd q.2.1 (by decide))] at HD24
  have HROOT := Lib.hid (fun w => root_any 7 w)
  have HSD := Lib.hid (fun w => snapDir_any w)
  have HMAY := Lib.hid (fun w => may_any ⟨0, 1, -1⟩ w)
  rw [decide_eq_false (by decide)] at HMAY
  have hl : (((hB fnv ⟨2147483647, 2147483647, 2147483647⟩).length : Nat) : Int) = 24 := rfl
  have z23 := zeros_str 23 (by decide)
  have z24 := zeros_str 24 (by decide)
  have m23 : ∀ w, (Instr.makeSlice 33 (.int .i64 23) (.int .i64 23)).run Try.prog w = .ok (.slice (some ⟨w.heap.size, 0, none⟩) 23 23) (w.alloc (.cells ((List.replicate 23 (0 : UInt8)).map u8v).toArray 5)) := make_run 23 (by decide)
  have m24 : ∀ w, (Instr.makeSlice 33 (.int .i64 24) (.int .i64 24)).run Try.prog w = .ok (.slice (some ⟨w.heap.size, 0, none⟩) 24 24) (w.alloc (.cells ((List.replicate 24 (0 : UInt8)).map u8v).toArray 5)) := make_run 24 (by decide)
  generalize ((List.replicate 23 (0 : UInt8)).map u8v).toArray = x23 at *
  generalize ((List.replicate 24 (0 : UInt8)).map u8v).toArray = x24 at *
  generalize List.replicate 23 (0 : UInt8) = l23 at *
  generalize List.replicate 24 (0 : UInt8) = l24 at *
  generalize hB fnv ⟨2147483647, 2147483647, 2147483647⟩ = tb at *
  unfold noHn at *
  unfold hnV at *
  dsimp only at HE1 HE2 HE3 HD23 HD24 HROOT HSD HMAY
  go_enter Try.func4, Try.ntmps4
  go_wp2_with fail
  refine (HE1.out _).mono ?_; rintro e u1 ⟨rfl, hg⟩
  have G := Lib.hid (hg)
  clear hg
  try unfold txt
  go_wp2_with fail
  have hg := World.grownBy_alloc u1 (.cells x23 5) none
  replace G := Lib.hid (World.grownBy.trans G.out hg)
  generalize u1.alloc (.cells x23 5) = u2 at *
  clear hg
  refine (HD23.out _).mono ?_; rintro e u3 ⟨rfl, hg⟩
  replace G := Lib.hid (World.grownBy.trans G.out hg)
  clear hg
  try unfold hnV
  go_upto_region 3 with fail
  have hb := Blk.made u3 23 #[.int .i64 0, .int .i64 0, .int .i64 0]
  have hg := World.grownBy_alloc u3 (.cells #[.int .i64 0, .int .i64 0, .int .i64 0] 23) none
  replace G := Lib.hid (World.grownBy.trans G.out hg)
  generalize u3.alloc (.cells #[.int .i64 0, .int .i64 0, .int .i64 0] 23) = u4 at *
  generalize u3.heap.size = K_x at *
  have B_x := Lib.hid hb
  clear hb hg
  clear B_x
  go_wp2_with fail
  have hg := World.grownBy_alloc u4 (.cells x24 5) none
  replace G := Lib.hid (World.grownBy.trans G.out hg)
  generalize u4.alloc (.cells x24 5) = u5 at *
  clear hg
  refine (HD24.out _).mono ?_; rintro e u6 ⟨rfl, hg⟩
  replace G := Lib.hid (World.grownBy.trans G.out hg)
  clear hg
  try unfold hnV
  go_upto_region 4 with fail
  have hb := Blk.made u6 23 #[.int .i64 0, .int .i64 0, .int .i64 0]
  have hg := World.grownBy_alloc u6 (.cells #[.int .i64 0, .int .i64 0, .int .i64 0] 23) none
  replace G := Lib.hid (World.grownBy.trans G.out hg)
  generalize u6.alloc (.cells #[.int .i64 0, .int .i64 0, .int .i64 0] 23) = u7 at *
  generalize u6.heap.size = K_y at *
  have B_y := Lib.hid hb
  clear hb hg
  clear B_y
  go_wp2_with fail
  refine (HE2.out _).mono ?_; rintro e u8 ⟨rfl, hg⟩
  replace G := Lib.hid (World.grownBy.trans G.out hg)
  clear hg
  try unfold txt
  go_wp2_with fail
  refine (HE3.out _).mono ?_; rintro e u9 ⟨rfl, hg⟩
  replace G := Lib.hid (World.grownBy.trans G.out hg)
  clear hg
  try unfold txt
  go_wp2_with fail
  refine (HROOT.out _).mono ?_; rintro e u10 ⟨rfl, hg⟩
  replace G := Lib.hid (World.grownBy.trans G.out hg)
  clear hg
  go_wp2_with fail
  refine (HSD.out _).mono ?_; rintro e u11 ⟨rfl, hg⟩
  replace G := Lib.hid (World.grownBy.trans G.out hg)
  clear hg
  go_wp2_with fail
  refine (HMAY.out _).mono ?_; rintro e u12 ⟨rfl, hg⟩
  replace G := Lib.hid (World.grownBy.trans G.out hg)
  clear hg
  go_wp2_with fail
  refine (HW.out _).mono ?_; rintro e u13 ⟨rfl, hg⟩
  replace G := Lib.hid (World.grownBy.trans G.out hg)
  clear hg
  go_wp2_with fail
  go_ret
  exact ⟨rfl, G.out⟩
end Go.Proofs.Ytcifhjocmlalmaa
