/- CallNames, walked. -/
import Derived.Test.YtkhlmfnfcdhceaaCallNp
import Derived.Deep.DeepCutAuto
namespace Go.Proofs.Ytkhlmfnfcdhceaa
open Go.RowKit

set_option maxRecDepth 100000 in
set_option maxHeartbeats 20000000 in
theorem cnames_walk (W : World) : Calls Try.prog 3 #[] W fun e w' => e = .returned (.bool true) ∧ W.grownBy w' none := by
  have HS_x0 := Lib.hid (fun (w : World) c t => words_at (c := c) (t := t) [7, 0, 284, 3, 1, 18] (w := w) rfl rfl (by simp))
  have HS_x1 := Lib.hid (fun (w : World) c t => words_at (c := c) (t := t) [7, 0, 284, 3, 1] (w := w) rfl rfl (by simp))
  have HS_x2 := Lib.hid (fun (w : World) c t => words_at (c := c) (t := t) [7, 1, 284, 3, 1, 1] (w := w) rfl rfl (by simp))
  have HS_x3 := Lib.hid (fun (w : World) c t => words_at (c := c) (t := t) [7, 0, 1, 3, 0, 1] (w := w) rfl rfl (by simp))
  have HS_x4 := Lib.hid (fun (w : World) c t => words_at (c := c) (t := t) [7, 0, 284, 2, 1, 99] (w := w) rfl rfl (by simp))
  have HS_x5 := Lib.hid (fun (w : World) c t => words_at (c := c) (t := t) [7, 0, 284, 3, 1, -1] (w := w) rfl rfl (by simp))
  have HS_x6 := Lib.hid (fun (w : World) c t => words_at (c := c) (t := t) [9, 0, 1, 3, 4, 99] (w := w) rfl rfl (by simp))
  have HS_x7 := Lib.hid (fun (w : World) c t => words_at (c := c) (t := t) [-1, 0, 284, 3, 4, 99] (w := w) rfl rfl (by simp))
  have HS_x8 := Lib.hid (fun (w : World) c t => words_at (c := c) (t := t) [-1, 1, 0, 5] (w := w) rfl rfl (by simp))
  have HS_x9 := Lib.hid (fun (w : World) c t => words_at (c := c) (t := t) [7, 1, 62, 5] (w := w) rfl rfl (by simp))
  have HS_x10 := Lib.hid (fun (w : World) c t => words_at (c := c) (t := t) [7, 1, 1] (w := w) rfl rfl (by simp))
  have HS_x11 := Lib.hid (fun (w : World) c t => words_at (c := c) (t := t) [7, 0, 0] (w := w) rfl rfl (by simp))
  have HS_x12 := Lib.hid (fun (w : World) c t => words_at (c := c) (t := t) [7, 1] (w := w) rfl rfl (by simp))
  have HS_x13 := Lib.hid (fun (w : World) c t => words_at (c := c) (t := t) [7, 1, 0] (w := w) rfl rfl (by simp))
  have HS_x14 := Lib.hid (fun (w : World) c t => words_at (c := c) (t := t) [5] (w := w) rfl rfl (by simp))
  have HM_m1 := Lib.hid (fun w => many_any 4072 (by decide) w)
  rw [show List.replicate 4072 (0 : UInt8) = zs 4072 from rfl] at HM_m1
  have HM_m2 := Lib.hid (fun w => many_any 4076 (by decide) w)
  rw [show List.replicate 4076 (0 : UInt8) = zs 4076 from rfl] at HM_m2
  have HM_m3 := Lib.hid (fun w => many_any 4075 (by decide) w)
  rw [show List.replicate 4075 (0 : UInt8) = zs 4075 from rfl] at HM_m3
  have HM_m4 := Lib.hid (fun w => many_any 2 (by decide) w)
  rw [show List.replicate 2 (0 : UInt8) = zs 2 from rfl] at HM_m4
  have HM_m5 := Lib.hid (fun w => many_any 8 (by decide) w)
  rw [show List.replicate 8 (0 : UInt8) = zs 8 from rfl] at HM_m5
  have HM_m6 := Lib.hid (fun w => many_any 4 (by decide) w)
  rw [show List.replicate 4 (0 : UInt8) = zs 4 from rfl] at HM_m6
  have HM_m7 := Lib.hid (fun w => many_any 3 (by decide) w)
  rw [show List.replicate 3 (0 : UInt8) = zs 3 from rfl] at HM_m7
  have HW0 := Lib.hid (fun w => Write_any ⟨16, 4294967295, 4294967295, zs 4072⟩ w (by unfold isI; simp) (by unfold isI; simp) (by show (zs 4072).length ≤ _; rw [zs_len]; unfold maxLen; omega))
  rw [cn_w0] at HW0
  have HW1 := Lib.hid (fun w => Write_any ⟨1, 0, 0, zs 4076⟩ w (by unfold isI; simp) (by unfold isI; simp) (by show (zs 4076).length ≤ _; rw [zs_len]; unfold maxLen; omega))
  rw [cn_w1] at HW1
  have HW2 := Lib.hid (fun w => Write_any ⟨1, 0, 0, zs 4075⟩ w (by unfold isI; simp) (by unfold isI; simp) (by show (zs 4075).length ≤ _; rw [zs_len]; unfold maxLen; omega))
  rw [cn_w2] at HW2
  have HW3 := Lib.hid (fun w => Write_any ⟨0, 0, 0, []⟩ w (by unfold isI; simp) (by unfold isI; simp) (by simp))
  rw [cn_w3] at HW3
  have HW4 := Lib.hid (fun w => Write_any ⟨17, 0, 0, []⟩ w (by unfold isI; simp) (by unfold isI; simp) (by simp))
  rw [cn_w4] at HW4
  have HW5 := Lib.hid (fun w => Write_any ⟨1, (-1), 0, []⟩ w (by unfold isI; simp) (by unfold isI; simp) (by simp))
  rw [cn_w5] at HW5
  have HW6 := Lib.hid (fun w => Write_any ⟨1, 4294967296, 0, []⟩ w (by unfold isI; simp) (by unfold isI; simp) (by simp))
  rw [cn_w6] at HW6
  have HW7 := Lib.hid (fun w => Write_any ⟨1, 0, (-1), []⟩ w (by unfold isI; simp) (by unfold isI; simp) (by simp))
  rw [cn_w7] at HW7
  have HW8 := Lib.hid (fun w => Write_any ⟨1, 0, 4294967296, []⟩ w (by unfold isI; simp) (by unfold isI; simp) (by simp))
  rw [cn_w8] at HW8
  have ht0 : (((hdB ⟨16, 4294967295, 4294967295, zs 4072⟩).length : Nat) : Int) = 4096 := by rw [hdB_len, zs_len]; rfl
  generalize hdB ⟨16, 4294967295, 4294967295, zs 4072⟩ = t0 at *
  have HR0 := Lib.hid (fun w => Read_l (cat ([7, 0, 284, 3, 1, 18].map w32) ++ zs 4072) w (le_app _ _ (by decide) (by decide)))
  rw [two_of cn_r0] at HR0
  generalize (cRead (cat ([7, 0, 284, 3, 1, 18].map w32) ++ zs 4072)).1 = g0 at *
  obtain ⟨gc0, gx0, gp0, gb0⟩ := g0
  have HR1 := Lib.hid (fun w => Read_l (cat ([7, 0, 284, 3, 1, 18].map w32) ++ zs 4076) w (le_app _ _ (by decide) (by decide)))
  rw [two_of cn_r1] at HR1
  generalize (cRead (cat ([7, 0, 284, 3, 1, 18].map w32) ++ zs 4076)).1 = g1 at *
  obtain ⟨gc1, gx1, gp1, gb1⟩ := g1
  have HR2 := Lib.hid (fun w => Read_l (cat ([7, 0, 284, 3, 1, 18].map w32) ++ zs 2) w (le_app _ _ (by decide) (by decide)))
  rw [two_of cn_r2] at HR2
  generalize (cRead (cat ([7, 0, 284, 3, 1, 18].map w32) ++ zs 2)).1 = g2 at *
  obtain ⟨gc2, gx2, gp2, gb2⟩ := g2
  have HR3 := Lib.hid (fun w => Read_l (cat ([7, 0, 284, 3, 1].map w32)) w (le_cat _ (by decide)))
  rw [two_of cn_r3] at HR3
  generalize (cRead (cat ([7, 0, 284, 3, 1].map w32))).1 = g3 at *
  obtain ⟨gc3, gx3, gp3, gb3⟩ := g3
  have HR4 := Lib.hid (fun w => Read_l [] w (Nat.zero_le _))
  rw [two_of cn_r4] at HR4
  generalize (cRead []).1 = g4 at *
  obtain ⟨gc4, gx4, gp4, gb4⟩ := g4
  have HR5 := Lib.hid (fun w => Read_l (cat ([7, 1, 284, 3, 1, 1].map w32)) w (le_cat _ (by decide)))
  rw [two_of cn_r5] at HR5
  generalize (cRead (cat ([7, 1, 284, 3, 1, 1].map w32))).1 = g5 at *
  obtain ⟨gc5, gx5, gp5, gb5⟩ := g5
  have HR6 := Lib.hid (fun w => Read_l (cat ([7, 0, 1, 3, 0, 1].map w32)) w (le_cat _ (by decide)))
  rw [two_of cn_r6] at HR6
  generalize (cRead (cat ([7, 0, 1, 3, 0, 1].map w32))).1 = g6 at *
  obtain ⟨gc6, gx6, gp6, gb6⟩ := g6
  have HR7 := Lib.hid (fun w => Read_l (cat ([7, 0, 284, 2, 1, 99].map w32)) w (le_cat _ (by decide)))
  rw [two_of cn_r7] at HR7
  generalize (cRead (cat ([7, 0, 284, 2, 1, 99].map w32))).1 = g7 at *
  obtain ⟨gc7, gx7, gp7, gb7⟩ := g7
  have HR8 := Lib.hid (fun w => Read_l (cat ([7, 0, 284, 3, 1, -1].map w32)) w (le_cat _ (by decide)))
  rw [two_of cn_r8] at HR8
  generalize (cRead (cat ([7, 0, 284, 3, 1, -1].map w32))).1 = g8 at *
  obtain ⟨gc8, gx8, gp8, gb8⟩ := g8
  have HRa := Lib.hid (fun w => Read_l (cat ([9, 0, 1, 3, 4, 99].map w32) ++ zs 8) w (le_app _ _ (by decide) (by decide)))
  rw [cn_a] at HRa
  have HRb := Lib.hid (fun w => Read_l (cat ([-1, 0, 284, 3, 4, 99].map w32) ++ zs 8) w (le_app _ _ (by decide) (by decide)))
  rw [cn_b] at HRb
  have HHc := Lib.hid (fun w => Hear_l (cat ([-1, 1, 0, 5].map w32)) w (le_cat _ (by decide)))
  rw [cn_c] at HHc
  have HH1 := Lib.hid (fun w => Hear_l (cat ([7, 1, 62, 5].map w32)) w (le_cat _ (by decide)))
  rw [two_of cn_h1] at HH1
  generalize (cHear (cat ([7, 1, 62, 5].map w32))).1 = k1 at *
  obtain ⟨ky1, kf1, kd1⟩ := k1
  have HH2 := Lib.hid (fun w => Hear_l (cat ([7, 1, 1].map w32)) w (le_cat _ (by decide)))
  rw [two_of cn_h2] at HH2
  generalize (cHear (cat ([7, 1, 1].map w32))).1 = k2 at *
  obtain ⟨ky2, kf2, kd2⟩ := k2
  have HH3 := Lib.hid (fun w => Hear_l (cat ([7, 0, 0].map w32)) w (le_cat _ (by decide)))
  rw [two_of cn_h3] at HH3
  generalize (cHear (cat ([7, 0, 0].map w32))).1 = k3 at *
  obtain ⟨ky3, kf3, kd3⟩ := k3
  have HH4 := Lib.hid (fun w => Hear_l (cat ([7, 1].map w32)) w (le_cat _ (by decide)))
  rw [two_of cn_h4] at HH4
  generalize (cHear (cat ([7, 1].map w32))).1 = k4 at *
  obtain ⟨ky4, kf4, kd4⟩ := k4
  have HH5 := Lib.hid (fun w => Hear_l ((cat ([7, 1, 0].map w32)) ++ [97]) w (le_one _ _ (by decide)))
  rw [two_of cn_h5] at HH5
  generalize (cHear ((cat ([7, 1, 0].map w32)) ++ [97])).1 = k5 at *
  obtain ⟨ky5, kf5, kd5⟩ := k5
  have HT1 := Lib.hid (fun w => Tell_any ⟨0, 1, []⟩ w (by unfold isI; simp) (by show ([] : List UInt8).length ≤ _; simp))
  rw [cn_t1] at HT1
  have HT2 := Lib.hid (fun w => Tell_any ⟨0, 4, zs 4⟩ w (by unfold isI; simp) (by show (zs 4 : List UInt8).length ≤ _; rw [zs_len]; omega))
  rw [cn_t2] at HT2
  have HT3 := Lib.hid (fun w => Tell_any ⟨0, 0, zs 3⟩ w (by unfold isI; simp) (by show (zs 3 : List UInt8).length ≤ _; rw [zs_len]; omega))
  rw [cn_t3] at HT3
  have HT4 := Lib.hid (fun w => Tell_any ⟨4294967296, 0, []⟩ w (by unfold isI; simp) (by show ([] : List UInt8).length ≤ _; simp))
  rw [cn_t4] at HT4
  have l_x0 : (((cat ([7, 0, 284, 3, 1, 18].map w32)).length : Nat) : Int) = 24 := by rw [cat_len]; rfl
  have l_x1 : (((cat ([7, 0, 284, 3, 1].map w32)).length : Nat) : Int) = 20 := by rw [cat_len]; rfl
  have l_x2 : (((cat ([7, 1, 284, 3, 1, 1].map w32)).length : Nat) : Int) = 24 := by rw [cat_len]; rfl
  have l_x3 : (((cat ([7, 0, 1, 3, 0, 1].map w32)).length : Nat) : Int) = 24 := by rw [cat_len]; rfl
  have l_x4 : (((cat ([7, 0, 284, 2, 1, 99].map w32)).length : Nat) : Int) = 24 := by rw [cat_len]; rfl
  have l_x5 : (((cat ([7, 0, 284, 3, 1, -1].map w32)).length : Nat) : Int) = 24 := by rw [cat_len]; rfl
  have l_x6 : (((cat ([9, 0, 1, 3, 4, 99].map w32)).length : Nat) : Int) = 24 := by rw [cat_len]; rfl
  have l_x7 : (((cat ([-1, 0, 284, 3, 4, 99].map w32)).length : Nat) : Int) = 24 := by rw [cat_len]; rfl
  have l_x8 : (((cat ([-1, 1, 0, 5].map w32)).length : Nat) : Int) = 16 := by rw [cat_len]; rfl
  have l_x9 : (((cat ([7, 1, 62, 5].map w32)).length : Nat) : Int) = 16 := by rw [cat_len]; rfl
  have l_x10 : (((cat ([7, 1, 1].map w32)).length : Nat) : Int) = 12 := by rw [cat_len]; rfl
  have l_x11 : (((cat ([7, 0, 0].map w32)).length : Nat) : Int) = 12 := by rw [cat_len]; rfl
  have l_x12 : (((cat ([7, 1].map w32)).length : Nat) : Int) = 8 := by rw [cat_len]; rfl
  have l_x13 : (((cat ([7, 1, 0].map w32)).length : Nat) : Int) = 12 := by rw [cat_len]; rfl
  have l_x14 : (((cat ([5].map w32)).length : Nat) : Int) = 4 := by rw [cat_len]; rfl
  have l_m1 : (((zs 4072).length : Nat) : Int) = 4072 := by rw [zs_len]; rfl
  have l_m2 : (((zs 4076).length : Nat) : Int) = 4076 := by rw [zs_len]; rfl
  have l_m3 : (((zs 4075).length : Nat) : Int) = 4075 := by rw [zs_len]; rfl
  have l_m4 : (((zs 2).length : Nat) : Int) = 2 := by rw [zs_len]; rfl
  have l_m5 : (((zs 8).length : Nat) : Int) = 8 := by rw [zs_len]; rfl
  have l_m6 : (((zs 4).length : Nat) : Int) = 4 := by rw [zs_len]; rfl
  have l_m7 : (((zs 3).length : Nat) : Int) = 3 := by rw [zs_len]; rfl
  have HA_x0_m1 := Lib.hid (str_app (cat ([7, 0, 284, 3, 1, 18].map w32)) (zs 4072))
  have HA_x0_m2 := Lib.hid (str_app (cat ([7, 0, 284, 3, 1, 18].map w32)) (zs 4076))
  have HA_x0_m4 := Lib.hid (str_app (cat ([7, 0, 284, 3, 1, 18].map w32)) (zs 2))
  have HA_x6_m5 := Lib.hid (str_app (cat ([9, 0, 1, 3, 4, 99].map w32)) (zs 8))
  have HA_x7_m5 := Lib.hid (str_app (cat ([-1, 0, 284, 3, 4, 99].map w32)) (zs 8))
  have HA_h := Lib.hid (str_app (cat ([7, 1, 0].map w32)) [97])
  generalize cat ([7, 0, 284, 3, 1, 18].map w32) = x0 at *
  generalize cat ([7, 0, 284, 3, 1].map w32) = x1 at *
  generalize cat ([7, 1, 284, 3, 1, 1].map w32) = x2 at *
  generalize cat ([7, 0, 1, 3, 0, 1].map w32) = x3 at *
  generalize cat ([7, 0, 284, 2, 1, 99].map w32) = x4 at *
  generalize cat ([7, 0, 284, 3, 1, -1].map w32) = x5 at *
  generalize cat ([9, 0, 1, 3, 4, 99].map w32) = x6 at *
  generalize cat ([-1, 0, 284, 3, 4, 99].map w32) = x7 at *
  generalize cat ([-1, 1, 0, 5].map w32) = x8 at *
  generalize cat ([7, 1, 62, 5].map w32) = x9 at *
  generalize cat ([7, 1, 1].map w32) = x10 at *
  generalize cat ([7, 0, 0].map w32) = x11 at *
  generalize cat ([7, 1].map w32) = x12 at *
  generalize cat ([7, 1, 0].map w32) = x13 at *
  generalize cat ([5].map w32) = x14 at *
  generalize zs 4072 = m1 at *
  generalize zs 4076 = m2 at *
  generalize zs 4075 = m3 at *
  generalize zs 2 = m4 at *
  generalize zs 8 = m5 at *
  generalize zs 4 = m6 at *
  generalize zs 3 = m7 at *
  unfold hdV txt at HW0
  unfold hdV txt at HW1
  unfold hdV txt at HW2
  unfold hdV txt at HW3
  unfold hdV txt at HW4
  unfold hdV txt at HW5
  unfold hdV txt at HW6
  unfold hdV txt at HW7
  unfold hdV txt at HW8
  unfold anV txt at HT1
  unfold anV txt at HT2
  unfold anV txt at HT3
  unfold anV txt at HT4
  have HL := Lib.hid (And.intro l_x0 (And.intro l_x1 (And.intro l_x2 (And.intro l_x3 (And.intro l_x4 (And.intro l_x5 (And.intro l_x6 (And.intro l_x7 (And.intro l_x8 (And.intro l_x9 (And.intro l_x10 (And.intro l_x11 (And.intro l_x12 (And.intro l_x13 (And.intro l_x14 (And.intro l_m1 (And.intro l_m2 (And.intro l_m3 (And.intro l_m4 (And.intro l_m5 (And.intro l_m6 l_m7)))))))))))))))))))))
  have HT0 := Lib.hid ht0
  clear ht0 l_x0 l_x1 l_x2 l_x3 l_x4 l_x5 l_x6 l_x7 l_x8 l_x9 l_x10 l_x11 l_x12 l_x13 l_x14 l_m1 l_m2 l_m3 l_m4 l_m5 l_m6 l_m7
  replace HR0 : Hid (∀ w, Calls Try.prog 13 #[.string (⟨x0.toArray⟩ ++ ⟨m1.toArray⟩)] w (HT w (⟨gc0, gx0, gp0, gb0⟩, 0))) := Lib.hid (fun w => by rw [HA_x0_m1.out]; exact HR0.out w)
  replace HR1 : Hid (∀ w, Calls Try.prog 13 #[.string (⟨x0.toArray⟩ ++ ⟨m2.toArray⟩)] w (HT w (⟨gc1, gx1, gp1, gb1⟩, 4))) := Lib.hid (fun w => by rw [HA_x0_m2.out]; exact HR1.out w)
  replace HR2 : Hid (∀ w, Calls Try.prog 13 #[.string (⟨x0.toArray⟩ ++ ⟨m4.toArray⟩)] w (HT w (⟨gc2, gx2, gp2, gb2⟩, 4))) := Lib.hid (fun w => by rw [HA_x0_m4.out]; exact HR2.out w)
  replace HRa : Hid (∀ w, Calls Try.prog 13 #[.string (⟨x6.toArray⟩ ++ ⟨m5.toArray⟩)] w (HT w (⟨4, 9, 99, []⟩, 63))) := Lib.hid (fun w => by rw [HA_x6_m5.out]; exact HRa.out w)
  replace HRb : Hid (∀ w, Calls Try.prog 13 #[.string (⟨x7.toArray⟩ ++ ⟨m5.toArray⟩)] w (HT w (⟨4, 4294967295, 99, []⟩, 62))) := Lib.hid (fun w => by rw [HA_x7_m5.out]; exact HRb.out w)
  replace HH5 : Hid (∀ w, Calls Try.prog 14 #[.string (⟨x13.toArray⟩ ++ ⟨#[97]⟩)] w (AT w (⟨ky5, kf5, kd5⟩, 4))) := Lib.hid (fun w => by rw [show (⟨#[97]⟩ : ByteArray) = ⟨[97].toArray⟩ from rfl, HA_h.out]; exact HH5.out w)
  clear HA_x0_m1 HA_x0_m2 HA_x0_m4 HA_x6_m5 HA_x7_m5 HA_h
  go_enter Try.func3, Try.ntmps3
  go_wp2_with fail
  refine (works_any _).mono ?_; rintro e w1 ⟨rfl, g1⟩
  have G := Lib.hid (g1)
  clear g1
  go_wp2_with fail
  refine (HM_m1.out _).mono ?_; rintro e w2 ⟨rfl, g1⟩
  replace G := Lib.hid (World.grownBy.trans G.out g1)
  clear g1
  try unfold txt
  go_wp2_with fail
  refine (HM_m2.out _).mono ?_; rintro e w3 ⟨rfl, g1⟩
  replace G := Lib.hid (World.grownBy.trans G.out g1)
  clear g1
  try unfold txt
  go_wp2_with fail
  refine (HM_m3.out _).mono ?_; rintro e w4 ⟨rfl, g1⟩
  replace G := Lib.hid (World.grownBy.trans G.out g1)
  clear g1
  try unfold txt
  go_wp2_with fail
  have hb := Blk.made w4 27 #[.int .i64 16, .int .i64 4294967295, .int .i64 4294967295, .string ⟨m1.toArray⟩, .int .i64 0, .int .i64 1, .int .i64 0, .int .i64 0, .string ⟨m2.toArray⟩, .int .i64 40, .int .i64 1, .int .i64 0, .int .i64 0, .string ⟨m3.toArray⟩, .int .i64 1, .int .i64 0, .int .i64 0, .int .i64 0, .string ⟨#[]⟩, .int .i64 1, .int .i64 17, .int .i64 0, .int .i64 0, .string ⟨#[]⟩, .int .i64 1, .int .i64 1, .int .i64 (-1), .int .i64 0, .string ⟨#[]⟩, .int .i64 1, .int .i64 1, .int .i64 4294967296, .int .i64 0, .string ⟨#[]⟩, .int .i64 1, .int .i64 1, .int .i64 0, .int .i64 (-1), .string ⟨#[]⟩, .int .i64 1, .int .i64 1, .int .i64 0, .int .i64 4294967296, .string ⟨#[]⟩, .int .i64 1]
  have ga := World.grownBy_alloc w4 (.cells #[.int .i64 16, .int .i64 4294967295, .int .i64 4294967295, .string ⟨m1.toArray⟩, .int .i64 0, .int .i64 1, .int .i64 0, .int .i64 0, .string ⟨m2.toArray⟩, .int .i64 40, .int .i64 1, .int .i64 0, .int .i64 0, .string ⟨m3.toArray⟩, .int .i64 1, .int .i64 0, .int .i64 0, .int .i64 0, .string ⟨#[]⟩, .int .i64 1, .int .i64 17, .int .i64 0, .int .i64 0, .string ⟨#[]⟩, .int .i64 1, .int .i64 1, .int .i64 (-1), .int .i64 0, .string ⟨#[]⟩, .int .i64 1, .int .i64 1, .int .i64 4294967296, .int .i64 0, .string ⟨#[]⟩, .int .i64 1, .int .i64 1, .int .i64 0, .int .i64 (-1), .string ⟨#[]⟩, .int .i64 1, .int .i64 1, .int .i64 0, .int .i64 4294967296, .string ⟨#[]⟩, .int .i64 1] 27) none
  have hle := G.out.size
  replace G := Lib.hid (World.grownBy.trans G.out ga)
  generalize w4.alloc (.cells #[.int .i64 16, .int .i64 4294967295, .int .i64 4294967295, .string ⟨m1.toArray⟩, .int .i64 0, .int .i64 1, .int .i64 0, .int .i64 0, .string ⟨m2.toArray⟩, .int .i64 40, .int .i64 1, .int .i64 0, .int .i64 0, .string ⟨m3.toArray⟩, .int .i64 1, .int .i64 0, .int .i64 0, .int .i64 0, .string ⟨#[]⟩, .int .i64 1, .int .i64 17, .int .i64 0, .int .i64 0, .string ⟨#[]⟩, .int .i64 1, .int .i64 1, .int .i64 (-1), .int .i64 0, .string ⟨#[]⟩, .int .i64 1, .int .i64 1, .int .i64 4294967296, .int .i64 0, .string ⟨#[]⟩, .int .i64 1, .int .i64 1, .int .i64 0, .int .i64 (-1), .string ⟨#[]⟩, .int .i64 1, .int .i64 1, .int .i64 0, .int .i64 4294967296, .string ⟨#[]⟩, .int .i64 1] 27) = w5 at *
  generalize w4.heap.size = K_T1 at *
  have B_T1 := Lib.hid hb
  have E_T1 := Lib.hid hle
  clear hb ga hle
  go_loopw [78] (fun i w' => ∃ k : Nat, i = .int .i64 k ∧ k ≤ 9 ∧ Hid (W.grownBy w' none) ∧ Hid (Blk w' K_T1 27 #[.int .i64 16, .int .i64 4294967295, .int .i64 4294967295, .string ⟨m1.toArray⟩, .int .i64 0, .int .i64 1, .int .i64 0, .int .i64 0, .string ⟨m2.toArray⟩, .int .i64 40, .int .i64 1, .int .i64 0, .int .i64 0, .string ⟨m3.toArray⟩, .int .i64 1, .int .i64 0, .int .i64 0, .int .i64 0, .string ⟨#[]⟩, .int .i64 1, .int .i64 17, .int .i64 0, .int .i64 0, .string ⟨#[]⟩, .int .i64 1, .int .i64 1, .int .i64 (-1), .int .i64 0, .string ⟨#[]⟩, .int .i64 1, .int .i64 1, .int .i64 4294967296, .int .i64 0, .string ⟨#[]⟩, .int .i64 1, .int .i64 1, .int .i64 0, .int .i64 (-1), .string ⟨#[]⟩, .int .i64 1, .int .i64 1, .int .i64 0, .int .i64 4294967296, .string ⟨#[]⟩, .int .i64 1])) (fun i _ => 9 - (intOf i).toNat)
  case atStart => exact ⟨0, rfl, by decide, G, B_T1⟩
  case round =>
    clear G B_T1
    obtain ⟨k, rfl, hk, G, B_T1⟩ := hrel
    have hkk : k = 0 ∨ k = 1 ∨ k = 2 ∨ k = 3 ∨ k = 4 ∨ k = 5 ∨ k = 6 ∨ k = 7 ∨ k = 8 ∨ k = 9 := by omega
    clear hk
    rcases hkk with rfl | rfl | rfl | rfl | rfl | rfl | rfl | rfl | rfl | rfl
    · skip
      have t_0 := B_T1.out.cell (i := 0) (x := .int .i64 16) rfl
      have t_1 := B_T1.out.cell (i := 1) (x := .int .i64 4294967295) rfl
      have t_2 := B_T1.out.cell (i := 2) (x := .int .i64 4294967295) rfl
      have t_3 := B_T1.out.cell (i := 3) (x := .string ⟨m1.toArray⟩) rfl
      have t_4 := B_T1.out.cell (i := 4) (x := .int .i64 0) rfl
      go_upto_region 6 with fail
      clear t_0 t_1 t_2 t_3 t_4
      have hb := Blk.made wr 27 #[.int .i64 16, .int .i64 4294967295, .int .i64 4294967295, .string ⟨m1.toArray⟩, .int .i64 0]
      have ga := World.grownBy_alloc wr (.cells #[.int .i64 16, .int .i64 4294967295, .int .i64 4294967295, .string ⟨m1.toArray⟩, .int .i64 0] 27) none
      have hle := G.out.size
      have n_T1 := B_T1.out.lt
      replace G := Lib.hid (World.grownBy.trans G.out ga)
      replace B_T1 := Lib.hid (B_T1.out.new ga)
      generalize wr.alloc (.cells #[.int .i64 16, .int .i64 4294967295, .int .i64 4294967295, .string ⟨m1.toArray⟩, .int .i64 0] 27) = w201 at *
      generalize wr.heap.size = K_row at *
      have N_T1_row := Lib.hid n_T1
      clear n_T1
      have B_row := Lib.hid hb
      have E_row := Lib.hid hle
      clear hb ga hle
      have c_row_0 := B_row.out.cell (i := 0) (x := .int .i64 16) rfl
      have c_row_1 := B_row.out.cell (i := 1) (x := .int .i64 4294967295) rfl
      have c_row_2 := B_row.out.cell (i := 2) (x := .int .i64 4294967295) rfl
      have c_row_3 := B_row.out.cell (i := 3) (x := .string ⟨m1.toArray⟩) rfl
      have c_row_4 := B_row.out.cell (i := 4) (x := .int .i64 0) rfl
      go_wp2_with fail
      clear c_row_0 c_row_1 c_row_2 c_row_3 c_row_4
      refine (HW0.out _).mono ?_; rintro e w202 ⟨rfl, g1⟩
      replace G := Lib.hid (World.grownBy.trans G.out g1)
      replace B_T1 := Lib.hid (B_T1.out.new g1)
      replace B_row := Lib.hid (B_row.out.new g1)
      clear g1
      try unfold txt
      have c_row_0 := B_row.out.cell (i := 0) (x := .int .i64 16) rfl
      have c_row_1 := B_row.out.cell (i := 1) (x := .int .i64 4294967295) rfl
      have c_row_2 := B_row.out.cell (i := 2) (x := .int .i64 4294967295) rfl
      have c_row_3 := B_row.out.cell (i := 3) (x := .string ⟨m1.toArray⟩) rfl
      have c_row_4 := B_row.out.cell (i := 4) (x := .int .i64 0) rfl
      have l_m1 := HL.out.2.2.2.2.2.2.2.2.2.2.2.2.2.2.2.1
      have ht0 := HT0.out
      go_wp2_with fail
      clear c_row_0 c_row_1 c_row_2 c_row_3 c_row_4 ht0 l_m1
      go_roundw
      case rel => exact ⟨1, by go_num, by decide, G, B_T1⟩
      case measure => simp [intOf]
    · skip
      have t_0 := B_T1.out.cell (i := 5) (x := .int .i64 1) rfl
      have t_1 := B_T1.out.cell (i := 6) (x := .int .i64 0) rfl
      have t_2 := B_T1.out.cell (i := 7) (x := .int .i64 0) rfl
      have t_3 := B_T1.out.cell (i := 8) (x := .string ⟨m2.toArray⟩) rfl
      have t_4 := B_T1.out.cell (i := 9) (x := .int .i64 40) rfl
      go_upto_region 6 with fail
      clear t_0 t_1 t_2 t_3 t_4
      have hb := Blk.made wr 27 #[.int .i64 1, .int .i64 0, .int .i64 0, .string ⟨m2.toArray⟩, .int .i64 40]
      have ga := World.grownBy_alloc wr (.cells #[.int .i64 1, .int .i64 0, .int .i64 0, .string ⟨m2.toArray⟩, .int .i64 40] 27) none
      have hle := G.out.size
      have n_T1 := B_T1.out.lt
      replace G := Lib.hid (World.grownBy.trans G.out ga)
      replace B_T1 := Lib.hid (B_T1.out.new ga)
      generalize wr.alloc (.cells #[.int .i64 1, .int .i64 0, .int .i64 0, .string ⟨m2.toArray⟩, .int .i64 40] 27) = w201 at *
      generalize wr.heap.size = K_row at *
      have N_T1_row := Lib.hid n_T1
      clear n_T1
      have B_row := Lib.hid hb
      have E_row := Lib.hid hle
      clear hb ga hle
      have c_row_0 := B_row.out.cell (i := 0) (x := .int .i64 1) rfl
      have c_row_1 := B_row.out.cell (i := 1) (x := .int .i64 0) rfl
      have c_row_2 := B_row.out.cell (i := 2) (x := .int .i64 0) rfl
      have c_row_3 := B_row.out.cell (i := 3) (x := .string ⟨m2.toArray⟩) rfl
      have c_row_4 := B_row.out.cell (i := 4) (x := .int .i64 40) rfl
      go_wp2_with fail
      clear c_row_0 c_row_1 c_row_2 c_row_3 c_row_4
      refine (HW1.out _).mono ?_; rintro e w202 ⟨rfl, g1⟩
      replace G := Lib.hid (World.grownBy.trans G.out g1)
      replace B_T1 := Lib.hid (B_T1.out.new g1)
      replace B_row := Lib.hid (B_row.out.new g1)
      clear g1
      try unfold txt
      have c_row_0 := B_row.out.cell (i := 0) (x := .int .i64 1) rfl
      have c_row_1 := B_row.out.cell (i := 1) (x := .int .i64 0) rfl
      have c_row_2 := B_row.out.cell (i := 2) (x := .int .i64 0) rfl
      have c_row_3 := B_row.out.cell (i := 3) (x := .string ⟨m2.toArray⟩) rfl
      have c_row_4 := B_row.out.cell (i := 4) (x := .int .i64 40) rfl
      go_wp2_with fail
      clear c_row_0 c_row_1 c_row_2 c_row_3 c_row_4
      go_roundw
      case rel => exact ⟨2, by go_num, by decide, G, B_T1⟩
      case measure => simp [intOf]
    · skip
      have t_0 := B_T1.out.cell (i := 10) (x := .int .i64 1) rfl
      have t_1 := B_T1.out.cell (i := 11) (x := .int .i64 0) rfl
      have t_2 := B_T1.out.cell (i := 12) (x := .int .i64 0) rfl
      have t_3 := B_T1.out.cell (i := 13) (x := .string ⟨m3.toArray⟩) rfl
      have t_4 := B_T1.out.cell (i := 14) (x := .int .i64 1) rfl
      go_upto_region 6 with fail
      clear t_0 t_1 t_2 t_3 t_4
      have hb := Blk.made wr 27 #[.int .i64 1, .int .i64 0, .int .i64 0, .string ⟨m3.toArray⟩, .int .i64 1]
      have ga := World.grownBy_alloc wr (.cells #[.int .i64 1, .int .i64 0, .int .i64 0, .string ⟨m3.toArray⟩, .int .i64 1] 27) none
      have hle := G.out.size
      have n_T1 := B_T1.out.lt
      replace G := Lib.hid (World.grownBy.trans G.out ga)
      replace B_T1 := Lib.hid (B_T1.out.new ga)
      generalize wr.alloc (.cells #[.int .i64 1, .int .i64 0, .int .i64 0, .string ⟨m3.toArray⟩, .int .i64 1] 27) = w201 at *
      generalize wr.heap.size = K_row at *
      have N_T1_row := Lib.hid n_T1
      clear n_T1
      have B_row := Lib.hid hb
      have E_row := Lib.hid hle
      clear hb ga hle
      have c_row_0 := B_row.out.cell (i := 0) (x := .int .i64 1) rfl
      have c_row_1 := B_row.out.cell (i := 1) (x := .int .i64 0) rfl
      have c_row_2 := B_row.out.cell (i := 2) (x := .int .i64 0) rfl
      have c_row_3 := B_row.out.cell (i := 3) (x := .string ⟨m3.toArray⟩) rfl
      have c_row_4 := B_row.out.cell (i := 4) (x := .int .i64 1) rfl
      go_wp2_with fail
      clear c_row_0 c_row_1 c_row_2 c_row_3 c_row_4
      refine (HW2.out _).mono ?_; rintro e w202 ⟨rfl, g1⟩
      replace G := Lib.hid (World.grownBy.trans G.out g1)
      replace B_T1 := Lib.hid (B_T1.out.new g1)
      replace B_row := Lib.hid (B_row.out.new g1)
      clear g1
      try unfold txt
      have c_row_0 := B_row.out.cell (i := 0) (x := .int .i64 1) rfl
      have c_row_1 := B_row.out.cell (i := 1) (x := .int .i64 0) rfl
      have c_row_2 := B_row.out.cell (i := 2) (x := .int .i64 0) rfl
      have c_row_3 := B_row.out.cell (i := 3) (x := .string ⟨m3.toArray⟩) rfl
      have c_row_4 := B_row.out.cell (i := 4) (x := .int .i64 1) rfl
      go_wp2_with fail
      clear c_row_0 c_row_1 c_row_2 c_row_3 c_row_4
      go_roundw
      case rel => exact ⟨3, by go_num, by decide, G, B_T1⟩
      case measure => simp [intOf]
    · skip
      have t_0 := B_T1.out.cell (i := 15) (x := .int .i64 0) rfl
      have t_1 := B_T1.out.cell (i := 16) (x := .int .i64 0) rfl
      have t_2 := B_T1.out.cell (i := 17) (x := .int .i64 0) rfl
      have t_3 := B_T1.out.cell (i := 18) (x := .string ⟨#[]⟩) rfl
      have t_4 := B_T1.out.cell (i := 19) (x := .int .i64 1) rfl
      go_upto_region 6 with fail
      clear t_0 t_1 t_2 t_3 t_4
      have hb := Blk.made wr 27 #[.int .i64 0, .int .i64 0, .int .i64 0, .string ⟨#[]⟩, .int .i64 1]
      have ga := World.grownBy_alloc wr (.cells #[.int .i64 0, .int .i64 0, .int .i64 0, .string ⟨#[]⟩, .int .i64 1] 27) none
      have hle := G.out.size
      have n_T1 := B_T1.out.lt
      replace G := Lib.hid (World.grownBy.trans G.out ga)
      replace B_T1 := Lib.hid (B_T1.out.new ga)
      generalize wr.alloc (.cells #[.int .i64 0, .int .i64 0, .int .i64 0, .string ⟨#[]⟩, .int .i64 1] 27) = w201 at *
      generalize wr.heap.size = K_row at *
      have N_T1_row := Lib.hid n_T1
      clear n_T1
      have B_row := Lib.hid hb
      have E_row := Lib.hid hle
      clear hb ga hle
      have c_row_0 := B_row.out.cell (i := 0) (x := .int .i64 0) rfl
      have c_row_1 := B_row.out.cell (i := 1) (x := .int .i64 0) rfl
      have c_row_2 := B_row.out.cell (i := 2) (x := .int .i64 0) rfl
      have c_row_3 := B_row.out.cell (i := 3) (x := .string ⟨#[]⟩) rfl
      have c_row_4 := B_row.out.cell (i := 4) (x := .int .i64 1) rfl
      go_wp2_with fail
      clear c_row_0 c_row_1 c_row_2 c_row_3 c_row_4
      refine (HW3.out _).mono ?_; rintro e w202 ⟨rfl, g1⟩
      replace G := Lib.hid (World.grownBy.trans G.out g1)
      replace B_T1 := Lib.hid (B_T1.out.new g1)
      replace B_row := Lib.hid (B_row.out.new g1)
      clear g1
      try unfold txt
      have c_row_0 := B_row.out.cell (i := 0) (x := .int .i64 0) rfl
      have c_row_1 := B_row.out.cell (i := 1) (x := .int .i64 0) rfl
      have c_row_2 := B_row.out.cell (i := 2) (x := .int .i64 0) rfl
      have c_row_3 := B_row.out.cell (i := 3) (x := .string ⟨#[]⟩) rfl
      have c_row_4 := B_row.out.cell (i := 4) (x := .int .i64 1) rfl
      go_wp2_with fail
      clear c_row_0 c_row_1 c_row_2 c_row_3 c_row_4
      go_roundw
      case rel => exact ⟨4, by go_num, by decide, G, B_T1⟩
      case measure => simp [intOf]
    · skip
      have t_0 := B_T1.out.cell (i := 20) (x := .int .i64 17) rfl
      have t_1 := B_T1.out.cell (i := 21) (x := .int .i64 0) rfl
      have t_2 := B_T1.out.cell (i := 22) (x := .int .i64 0) rfl
      have t_3 := B_T1.out.cell (i := 23) (x := .string ⟨#[]⟩) rfl
      have t_4 := B_T1.out.cell (i := 24) (x := .int .i64 1) rfl
      go_upto_region 6 with fail
      clear t_0 t_1 t_2 t_3 t_4
      have hb := Blk.made wr 27 #[.int .i64 17, .int .i64 0, .int .i64 0, .string ⟨#[]⟩, .int .i64 1]
      have ga := World.grownBy_alloc wr (.cells #[.int .i64 17, .int .i64 0, .int .i64 0, .string ⟨#[]⟩, .int .i64 1] 27) none
      have hle := G.out.size
      have n_T1 := B_T1.out.lt
      replace G := Lib.hid (World.grownBy.trans G.out ga)
      replace B_T1 := Lib.hid (B_T1.out.new ga)
      generalize wr.alloc (.cells #[.int .i64 17, .int .i64 0, .int .i64 0, .string ⟨#[]⟩, .int .i64 1] 27) = w201 at *
      generalize wr.heap.size = K_row at *
      have N_T1_row := Lib.hid n_T1
      clear n_T1
      have B_row := Lib.hid hb
      have E_row := Lib.hid hle
      clear hb ga hle
      have c_row_0 := B_row.out.cell (i := 0) (x := .int .i64 17) rfl
      have c_row_1 := B_row.out.cell (i := 1) (x := .int .i64 0) rfl
      have c_row_2 := B_row.out.cell (i := 2) (x := .int .i64 0) rfl
      have c_row_3 := B_row.out.cell (i := 3) (x := .string ⟨#[]⟩) rfl
      have c_row_4 := B_row.out.cell (i := 4) (x := .int .i64 1) rfl
      go_wp2_with fail
      clear c_row_0 c_row_1 c_row_2 c_row_3 c_row_4
      refine (HW4.out _).mono ?_; rintro e w202 ⟨rfl, g1⟩
      replace G := Lib.hid (World.grownBy.trans G.out g1)
      replace B_T1 := Lib.hid (B_T1.out.new g1)
      replace B_row := Lib.hid (B_row.out.new g1)
      clear g1
      try unfold txt
      have c_row_0 := B_row.out.cell (i := 0) (x := .int .i64 17) rfl
      have c_row_1 := B_row.out.cell (i := 1) (x := .int .i64 0) rfl
      have c_row_2 := B_row.out.cell (i := 2) (x := .int .i64 0) rfl
      have c_row_3 := B_row.out.cell (i := 3) (x := .string ⟨#[]⟩) rfl
      have c_row_4 := B_row.out.cell (i := 4) (x := .int .i64 1) rfl
      go_wp2_with fail
      clear c_row_0 c_row_1 c_row_2 c_row_3 c_row_4
      go_roundw
      case rel => exact ⟨5, by go_num, by decide, G, B_T1⟩
      case measure => simp [intOf]
    · skip
      have t_0 := B_T1.out.cell (i := 25) (x := .int .i64 1) rfl
      have t_1 := B_T1.out.cell (i := 26) (x := .int .i64 (-1)) rfl
      have t_2 := B_T1.out.cell (i := 27) (x := .int .i64 0) rfl
      have t_3 := B_T1.out.cell (i := 28) (x := .string ⟨#[]⟩) rfl
      have t_4 := B_T1.out.cell (i := 29) (x := .int .i64 1) rfl
      go_upto_region 6 with fail
      clear t_0 t_1 t_2 t_3 t_4
      have hb := Blk.made wr 27 #[.int .i64 1, .int .i64 (-1), .int .i64 0, .string ⟨#[]⟩, .int .i64 1]
      have ga := World.grownBy_alloc wr (.cells #[.int .i64 1, .int .i64 (-1), .int .i64 0, .string ⟨#[]⟩, .int .i64 1] 27) none
      have hle := G.out.size
      have n_T1 := B_T1.out.lt
      replace G := Lib.hid (World.grownBy.trans G.out ga)
      replace B_T1 := Lib.hid (B_T1.out.new ga)
      generalize wr.alloc (.cells #[.int .i64 1, .int .i64 (-1), .int .i64 0, .string ⟨#[]⟩, .int .i64 1] 27) = w201 at *
      generalize wr.heap.size = K_row at *
      have N_T1_row := Lib.hid n_T1
      clear n_T1
      have B_row := Lib.hid hb
      have E_row := Lib.hid hle
      clear hb ga hle
      have c_row_0 := B_row.out.cell (i := 0) (x := .int .i64 1) rfl
      have c_row_1 := B_row.out.cell (i := 1) (x := .int .i64 (-1)) rfl
      have c_row_2 := B_row.out.cell (i := 2) (x := .int .i64 0) rfl
      have c_row_3 := B_row.out.cell (i := 3) (x := .string ⟨#[]⟩) rfl
      have c_row_4 := B_row.out.cell (i := 4) (x := .int .i64 1) rfl
      go_wp2_with fail
      clear c_row_0 c_row_1 c_row_2 c_row_3 c_row_4
      refine (HW5.out _).mono ?_; rintro e w202 ⟨rfl, g1⟩
      replace G := Lib.hid (World.grownBy.trans G.out g1)
      replace B_T1 := Lib.hid (B_T1.out.new g1)
      replace B_row := Lib.hid (B_row.out.new g1)
      clear g1
      try unfold txt
      have c_row_0 := B_row.out.cell (i := 0) (x := .int .i64 1) rfl
      have c_row_1 := B_row.out.cell (i := 1) (x := .int .i64 (-1)) rfl
      have c_row_2 := B_row.out.cell (i := 2) (x := .int .i64 0) rfl
      have c_row_3 := B_row.out.cell (i := 3) (x := .string ⟨#[]⟩) rfl
      have c_row_4 := B_row.out.cell (i := 4) (x := .int .i64 1) rfl
      go_wp2_with fail
      clear c_row_0 c_row_1 c_row_2 c_row_3 c_row_4
      go_roundw
      case rel => exact ⟨6, by go_num, by decide, G, B_T1⟩
      case measure => simp [intOf]
    · skip
      have t_0 := B_T1.out.cell (i := 30) (x := .int .i64 1) rfl
      have t_1 := B_T1.out.cell (i := 31) (x := .int .i64 4294967296) rfl
      have t_2 := B_T1.out.cell (i := 32) (x := .int .i64 0) rfl
      have t_3 := B_T1.out.cell (i := 33) (x := .string ⟨#[]⟩) rfl
      have t_4 := B_T1.out.cell (i := 34) (x := .int .i64 1) rfl
      go_upto_region 6 with fail
      clear t_0 t_1 t_2 t_3 t_4
      have hb := Blk.made wr 27 #[.int .i64 1, .int .i64 4294967296, .int .i64 0, .string ⟨#[]⟩, .int .i64 1]
      have ga := World.grownBy_alloc wr (.cells #[.int .i64 1, .int .i64 4294967296, .int .i64 0, .string ⟨#[]⟩, .int .i64 1] 27) none
      have hle := G.out.size
      have n_T1 := B_T1.out.lt
      replace G := Lib.hid (World.grownBy.trans G.out ga)
      replace B_T1 := Lib.hid (B_T1.out.new ga)
      generalize wr.alloc (.cells #[.int .i64 1, .int .i64 4294967296, .int .i64 0, .string ⟨#[]⟩, .int .i64 1] 27) = w201 at *
      generalize wr.heap.size = K_row at *
      have N_T1_row := Lib.hid n_T1
      clear n_T1
      have B_row := Lib.hid hb
      have E_row := Lib.hid hle
      clear hb ga hle
      have c_row_0 := B_row.out.cell (i := 0) (x := .int .i64 1) rfl
      have c_row_1 := B_row.out.cell (i := 1) (x := .int .i64 4294967296) rfl
      have c_row_2 := B_row.out.cell (i := 2) (x := .int .i64 0) rfl
      have c_row_3 := B_row.out.cell (i := 3) (x := .string ⟨#[]⟩) rfl
      have c_row_4 := B_row.out.cell (i := 4) (x := .int .i64 1) rfl
      go_wp2_with fail
      clear c_row_0 c_row_1 c_row_2 c_row_3 c_row_4
      refine (HW6.out _).mono ?_; rintro e w202 ⟨rfl, g1⟩
      replace G := Lib.hid (World.grownBy.trans G.out g1)
      replace B_T1 := Lib.hid (B_T1.out.new g1)
      replace B_row := Lib.hid (B_row.out.new g1)
      clear g1
      try unfold txt
      have c_row_0 := B_row.out.cell (i := 0) (x := .int .i64 1) rfl
      have c_row_1 := B_row.out.cell (i := 1) (x := .int .i64 4294967296) rfl
      have c_row_2 := B_row.out.cell (i := 2) (x := .int .i64 0) rfl
      have c_row_3 := B_row.out.cell (i := 3) (x := .string ⟨#[]⟩) rfl
      have c_row_4 := B_row.out.cell (i := 4) (x := .int .i64 1) rfl
      go_wp2_with fail
      clear c_row_0 c_row_1 c_row_2 c_row_3 c_row_4
      go_roundw
      case rel => exact ⟨7, by go_num, by decide, G, B_T1⟩
      case measure => simp [intOf]
    · skip
      have t_0 := B_T1.out.cell (i := 35) (x := .int .i64 1) rfl
      have t_1 := B_T1.out.cell (i := 36) (x := .int .i64 0) rfl
      have t_2 := B_T1.out.cell (i := 37) (x := .int .i64 (-1)) rfl
      have t_3 := B_T1.out.cell (i := 38) (x := .string ⟨#[]⟩) rfl
      have t_4 := B_T1.out.cell (i := 39) (x := .int .i64 1) rfl
      go_upto_region 6 with fail
      clear t_0 t_1 t_2 t_3 t_4
      have hb := Blk.made wr 27 #[.int .i64 1, .int .i64 0, .int .i64 (-1), .string ⟨#[]⟩, .int .i64 1]
      have ga := World.grownBy_alloc wr (.cells #[.int .i64 1, .int .i64 0, .int .i64 (-1), .string ⟨#[]⟩, .int .i64 1] 27) none
      have hle := G.out.size
      have n_T1 := B_T1.out.lt
      replace G := Lib.hid (World.grownBy.trans G.out ga)
      replace B_T1 := Lib.hid (B_T1.out.new ga)
      generalize wr.alloc (.cells #[.int .i64 1, .int .i64 0, .int .i64 (-1), .string ⟨#[]⟩, .int .i64 1] 27) = w201 at *
      generalize wr.heap.size = K_row at *
      have N_T1_row := Lib.hid n_T1
      clear n_T1
      have B_row := Lib.hid hb
      have E_row := Lib.hid hle
      clear hb ga hle
      have c_row_0 := B_row.out.cell (i := 0) (x := .int .i64 1) rfl
      have c_row_1 := B_row.out.cell (i := 1) (x := .int .i64 0) rfl
      have c_row_2 := B_row.out.cell (i := 2) (x := .int .i64 (-1)) rfl
      have c_row_3 := B_row.out.cell (i := 3) (x := .string ⟨#[]⟩) rfl
      have c_row_4 := B_row.out.cell (i := 4) (x := .int .i64 1) rfl
      go_wp2_with fail
      clear c_row_0 c_row_1 c_row_2 c_row_3 c_row_4
      refine (HW7.out _).mono ?_; rintro e w202 ⟨rfl, g1⟩
      replace G := Lib.hid (World.grownBy.trans G.out g1)
      replace B_T1 := Lib.hid (B_T1.out.new g1)
      replace B_row := Lib.hid (B_row.out.new g1)
      clear g1
      try unfold txt
      have c_row_0 := B_row.out.cell (i := 0) (x := .int .i64 1) rfl
      have c_row_1 := B_row.out.cell (i := 1) (x := .int .i64 0) rfl
      have c_row_2 := B_row.out.cell (i := 2) (x := .int .i64 (-1)) rfl
      have c_row_3 := B_row.out.cell (i := 3) (x := .string ⟨#[]⟩) rfl
      have c_row_4 := B_row.out.cell (i := 4) (x := .int .i64 1) rfl
      go_wp2_with fail
      clear c_row_0 c_row_1 c_row_2 c_row_3 c_row_4
      go_roundw
      case rel => exact ⟨8, by go_num, by decide, G, B_T1⟩
      case measure => simp [intOf]
    · skip
      have t_0 := B_T1.out.cell (i := 40) (x := .int .i64 1) rfl
      have t_1 := B_T1.out.cell (i := 41) (x := .int .i64 0) rfl
      have t_2 := B_T1.out.cell (i := 42) (x := .int .i64 4294967296) rfl
      have t_3 := B_T1.out.cell (i := 43) (x := .string ⟨#[]⟩) rfl
      have t_4 := B_T1.out.cell (i := 44) (x := .int .i64 1) rfl
      go_upto_region 6 with fail
      clear t_0 t_1 t_2 t_3 t_4
      have hb := Blk.made wr 27 #[.int .i64 1, .int .i64 0, .int .i64 4294967296, .string ⟨#[]⟩, .int .i64 1]
      have ga := World.grownBy_alloc wr (.cells #[.int .i64 1, .int .i64 0, .int .i64 4294967296, .string ⟨#[]⟩, .int .i64 1] 27) none
      have hle := G.out.size
      have n_T1 := B_T1.out.lt
      replace G := Lib.hid (World.grownBy.trans G.out ga)
      replace B_T1 := Lib.hid (B_T1.out.new ga)
      generalize wr.alloc (.cells #[.int .i64 1, .int .i64 0, .int .i64 4294967296, .string ⟨#[]⟩, .int .i64 1] 27) = w201 at *
      generalize wr.heap.size = K_row at *
      have N_T1_row := Lib.hid n_T1
      clear n_T1
      have B_row := Lib.hid hb
      have E_row := Lib.hid hle
      clear hb ga hle
      have c_row_0 := B_row.out.cell (i := 0) (x := .int .i64 1) rfl
      have c_row_1 := B_row.out.cell (i := 1) (x := .int .i64 0) rfl
      have c_row_2 := B_row.out.cell (i := 2) (x := .int .i64 4294967296) rfl
      have c_row_3 := B_row.out.cell (i := 3) (x := .string ⟨#[]⟩) rfl
      have c_row_4 := B_row.out.cell (i := 4) (x := .int .i64 1) rfl
      go_wp2_with fail
      clear c_row_0 c_row_1 c_row_2 c_row_3 c_row_4
      refine (HW8.out _).mono ?_; rintro e w202 ⟨rfl, g1⟩
      replace G := Lib.hid (World.grownBy.trans G.out g1)
      replace B_T1 := Lib.hid (B_T1.out.new g1)
      replace B_row := Lib.hid (B_row.out.new g1)
      clear g1
      try unfold txt
      have c_row_0 := B_row.out.cell (i := 0) (x := .int .i64 1) rfl
      have c_row_1 := B_row.out.cell (i := 1) (x := .int .i64 0) rfl
      have c_row_2 := B_row.out.cell (i := 2) (x := .int .i64 4294967296) rfl
      have c_row_3 := B_row.out.cell (i := 3) (x := .string ⟨#[]⟩) rfl
      have c_row_4 := B_row.out.cell (i := 4) (x := .int .i64 1) rfl
      go_wp2_with fail
      clear c_row_0 c_row_1 c_row_2 c_row_3 c_row_4
      go_roundw
      case rel => exact ⟨9, by go_num, by decide, G, B_T1⟩
      case measure => simp [intOf]
    · skip
      clear B_T1 HW0 HW1 HW2 HW3 HW4 HW5 HW6 HW7 HW8
      go_wp2_with fail
      have l_x0 := HL.out.1
      have l_m1 := HL.out.2.2.2.2.2.2.2.2.2.2.2.2.2.2.2.1
      have l_m2 := HL.out.2.2.2.2.2.2.2.2.2.2.2.2.2.2.2.2.1
      have l_m4 := HL.out.2.2.2.2.2.2.2.2.2.2.2.2.2.2.2.2.2.2.1
      refine (HS_x0.out _ _ _).mono ?_; rintro e w301 ⟨rfl, g1⟩
      replace G := Lib.hid (World.grownBy.trans G.out g1)
      clear g1
      go_wp2_with fail
      refine (HM_m1.out _).mono ?_; rintro e w302 ⟨rfl, g1⟩
      replace G := Lib.hid (World.grownBy.trans G.out g1)
      clear g1
      go_wp2_with fail
      refine (HS_x0.out _ _ _).mono ?_; rintro e w303 ⟨rfl, g1⟩
      replace G := Lib.hid (World.grownBy.trans G.out g1)
      clear g1
      go_wp2_with fail
      refine (HM_m2.out _).mono ?_; rintro e w304 ⟨rfl, g1⟩
      replace G := Lib.hid (World.grownBy.trans G.out g1)
      clear g1
      go_wp2_with fail
      refine (HS_x0.out _ _ _).mono ?_; rintro e w305 ⟨rfl, g1⟩
      replace G := Lib.hid (World.grownBy.trans G.out g1)
      clear g1
      go_wp2_with fail
      refine (HM_m4.out _).mono ?_; rintro e w306 ⟨rfl, g1⟩
      replace G := Lib.hid (World.grownBy.trans G.out g1)
      clear g1
      go_wp2_with fail
      refine (HS_x1.out _ _ _).mono ?_; rintro e w307 ⟨rfl, g1⟩
      replace G := Lib.hid (World.grownBy.trans G.out g1)
      clear g1
      go_wp2_with fail
      refine (HS_x2.out _ _ _).mono ?_; rintro e w308 ⟨rfl, g1⟩
      replace G := Lib.hid (World.grownBy.trans G.out g1)
      clear g1
      go_wp2_with fail
      refine (HS_x3.out _ _ _).mono ?_; rintro e w309 ⟨rfl, g1⟩
      replace G := Lib.hid (World.grownBy.trans G.out g1)
      clear g1
      go_wp2_with fail
      refine (HS_x4.out _ _ _).mono ?_; rintro e w310 ⟨rfl, g1⟩
      replace G := Lib.hid (World.grownBy.trans G.out g1)
      clear g1
      go_wp2_with fail
      refine (HS_x5.out _ _ _).mono ?_; rintro e w311 ⟨rfl, g1⟩
      replace G := Lib.hid (World.grownBy.trans G.out g1)
      clear g1
      go_wp2_with fail
      clear l_x0 l_m1 l_m2 l_m4
      have hb := Blk.made w311 33 #[.string (⟨x0.toArray⟩ ++ ⟨m1.toArray⟩), .int .i64 0, .string (⟨x0.toArray⟩ ++ ⟨m2.toArray⟩), .int .i64 4, .string (⟨x0.toArray⟩ ++ ⟨m4.toArray⟩), .int .i64 4, .string ⟨x1.toArray⟩, .int .i64 4, .string ⟨#[]⟩, .int .i64 4, .string ⟨x2.toArray⟩, .int .i64 4, .string ⟨x3.toArray⟩, .int .i64 4, .string ⟨x4.toArray⟩, .int .i64 63, .string ⟨x5.toArray⟩, .int .i64 62]
      have ga := World.grownBy_alloc w311 (.cells #[.string (⟨x0.toArray⟩ ++ ⟨m1.toArray⟩), .int .i64 0, .string (⟨x0.toArray⟩ ++ ⟨m2.toArray⟩), .int .i64 4, .string (⟨x0.toArray⟩ ++ ⟨m4.toArray⟩), .int .i64 4, .string ⟨x1.toArray⟩, .int .i64 4, .string ⟨#[]⟩, .int .i64 4, .string ⟨x2.toArray⟩, .int .i64 4, .string ⟨x3.toArray⟩, .int .i64 4, .string ⟨x4.toArray⟩, .int .i64 63, .string ⟨x5.toArray⟩, .int .i64 62] 33) none
      have hle := G.out.size
      replace G := Lib.hid (World.grownBy.trans G.out ga)
      generalize w311.alloc (.cells #[.string (⟨x0.toArray⟩ ++ ⟨m1.toArray⟩), .int .i64 0, .string (⟨x0.toArray⟩ ++ ⟨m2.toArray⟩), .int .i64 4, .string (⟨x0.toArray⟩ ++ ⟨m4.toArray⟩), .int .i64 4, .string ⟨x1.toArray⟩, .int .i64 4, .string ⟨#[]⟩, .int .i64 4, .string ⟨x2.toArray⟩, .int .i64 4, .string ⟨x3.toArray⟩, .int .i64 4, .string ⟨x4.toArray⟩, .int .i64 63, .string ⟨x5.toArray⟩, .int .i64 62] 33) = w312 at *
      generalize w311.heap.size = K_T2 at *
      have B_T2 := Lib.hid hb
      have E_T2 := Lib.hid hle
      clear hb ga hle
      go_loopw [140] (fun i w' => ∃ k : Nat, i = .int .i64 k ∧ k ≤ 9 ∧ Hid (W.grownBy w' none) ∧ Hid (Blk w' K_T2 33 #[.string (⟨x0.toArray⟩ ++ ⟨m1.toArray⟩), .int .i64 0, .string (⟨x0.toArray⟩ ++ ⟨m2.toArray⟩), .int .i64 4, .string (⟨x0.toArray⟩ ++ ⟨m4.toArray⟩), .int .i64 4, .string ⟨x1.toArray⟩, .int .i64 4, .string ⟨#[]⟩, .int .i64 4, .string ⟨x2.toArray⟩, .int .i64 4, .string ⟨x3.toArray⟩, .int .i64 4, .string ⟨x4.toArray⟩, .int .i64 63, .string ⟨x5.toArray⟩, .int .i64 62])) (fun i _ => 9 - (intOf i).toNat)
      case atStart => exact ⟨0, rfl, by decide, G, B_T2⟩
      case round =>
        clear G B_T2
        obtain ⟨k, rfl, hk, G, B_T2⟩ := hrel
        have hkk : k = 0 ∨ k = 1 ∨ k = 2 ∨ k = 3 ∨ k = 4 ∨ k = 5 ∨ k = 6 ∨ k = 7 ∨ k = 8 ∨ k = 9 := by omega
        clear hk
        rcases hkk with rfl | rfl | rfl | rfl | rfl | rfl | rfl | rfl | rfl | rfl
        · skip
          have t_0 := B_T2.out.cell (i := 0) (x := .string (⟨x0.toArray⟩ ++ ⟨m1.toArray⟩)) rfl
          have t_1 := B_T2.out.cell (i := 1) (x := .int .i64 0) rfl
          go_upto_region 13 with fail
          clear t_0 t_1
          have hb := Blk.made wr 33 #[.string (⟨x0.toArray⟩ ++ ⟨m1.toArray⟩), .int .i64 0]
          have ga := World.grownBy_alloc wr (.cells #[.string (⟨x0.toArray⟩ ++ ⟨m1.toArray⟩), .int .i64 0] 33) none
          have hle := G.out.size
          have n_T2 := B_T2.out.lt
          replace G := Lib.hid (World.grownBy.trans G.out ga)
          replace B_T2 := Lib.hid (B_T2.out.new ga)
          generalize wr.alloc (.cells #[.string (⟨x0.toArray⟩ ++ ⟨m1.toArray⟩), .int .i64 0] 33) = w401 at *
          generalize wr.heap.size = K_row at *
          have N_T2_row := Lib.hid n_T2
          clear n_T2
          have B_row := Lib.hid hb
          have E_row := Lib.hid hle
          clear hb ga hle
          have c_row_0 := B_row.out.cell (i := 0) (x := .string (⟨x0.toArray⟩ ++ ⟨m1.toArray⟩)) rfl
          have c_row_1 := B_row.out.cell (i := 1) (x := .int .i64 0) rfl
          go_wp2_with fail
          clear c_row_0 c_row_1
          refine (HR0.out _).mono ?_; rintro e w402 ⟨rfl, g1⟩
          replace G := Lib.hid (World.grownBy.trans G.out g1)
          replace B_T2 := Lib.hid (B_T2.out.new g1)
          replace B_row := Lib.hid (B_row.out.new g1)
          clear g1
          try unfold hdV txt
          go_upto_region 14 with fail
          have hb := Blk.made w402 25 #[.int .i64 gc0, .int .i64 gx0, .int .i64 gp0, .string ⟨gb0.toArray⟩]
          have ga := World.grownBy_alloc w402 (.cells #[.int .i64 gc0, .int .i64 gx0, .int .i64 gp0, .string ⟨gb0.toArray⟩] 25) none
          have hle := G.out.size
          have n_T2 := B_T2.out.lt
          have n_row := B_row.out.lt
          replace G := Lib.hid (World.grownBy.trans G.out ga)
          replace B_T2 := Lib.hid (B_T2.out.new ga)
          replace B_row := Lib.hid (B_row.out.new ga)
          generalize w402.alloc (.cells #[.int .i64 gc0, .int .i64 gx0, .int .i64 gp0, .string ⟨gb0.toArray⟩] 25) = w403 at *
          generalize w402.heap.size = K_res at *
          have N_T2_res := Lib.hid n_T2
          clear n_T2
          have N_row_res := Lib.hid n_row
          clear n_row
          clear hb ga hle
          have c_row_0 := B_row.out.cell (i := 0) (x := .string (⟨x0.toArray⟩ ++ ⟨m1.toArray⟩)) rfl
          have c_row_1 := B_row.out.cell (i := 1) (x := .int .i64 0) rfl
          go_wp2_with fail
          clear c_row_0 c_row_1
          go_roundw
          case rel => exact ⟨1, by go_num, by decide, G, B_T2⟩
          case measure => simp [intOf]
        · skip
          have t_0 := B_T2.out.cell (i := 2) (x := .string (⟨x0.toArray⟩ ++ ⟨m2.toArray⟩)) rfl
          have t_1 := B_T2.out.cell (i := 3) (x := .int .i64 4) rfl
          go_upto_region 13 with fail
          clear t_0 t_1
          have hb := Blk.made wr 33 #[.string (⟨x0.toArray⟩ ++ ⟨m2.toArray⟩), .int .i64 4]
          have ga := World.grownBy_alloc wr (.cells #[.string (⟨x0.toArray⟩ ++ ⟨m2.toArray⟩), .int .i64 4] 33) none
          have hle := G.out.size
          have n_T2 := B_T2.out.lt
          replace G := Lib.hid (World.grownBy.trans G.out ga)
          replace B_T2 := Lib.hid (B_T2.out.new ga)
          generalize wr.alloc (.cells #[.string (⟨x0.toArray⟩ ++ ⟨m2.toArray⟩), .int .i64 4] 33) = w401 at *
          generalize wr.heap.size = K_row at *
          have N_T2_row := Lib.hid n_T2
          clear n_T2
          have B_row := Lib.hid hb
          have E_row := Lib.hid hle
          clear hb ga hle
          have c_row_0 := B_row.out.cell (i := 0) (x := .string (⟨x0.toArray⟩ ++ ⟨m2.toArray⟩)) rfl
          have c_row_1 := B_row.out.cell (i := 1) (x := .int .i64 4) rfl
          go_wp2_with fail
          clear c_row_0 c_row_1
          refine (HR1.out _).mono ?_; rintro e w402 ⟨rfl, g1⟩
          replace G := Lib.hid (World.grownBy.trans G.out g1)
          replace B_T2 := Lib.hid (B_T2.out.new g1)
          replace B_row := Lib.hid (B_row.out.new g1)
          clear g1
          try unfold hdV txt
          go_upto_region 14 with fail
          have hb := Blk.made w402 25 #[.int .i64 gc1, .int .i64 gx1, .int .i64 gp1, .string ⟨gb1.toArray⟩]
          have ga := World.grownBy_alloc w402 (.cells #[.int .i64 gc1, .int .i64 gx1, .int .i64 gp1, .string ⟨gb1.toArray⟩] 25) none
          have hle := G.out.size
          have n_T2 := B_T2.out.lt
          have n_row := B_row.out.lt
          replace G := Lib.hid (World.grownBy.trans G.out ga)
          replace B_T2 := Lib.hid (B_T2.out.new ga)
          replace B_row := Lib.hid (B_row.out.new ga)
          generalize w402.alloc (.cells #[.int .i64 gc1, .int .i64 gx1, .int .i64 gp1, .string ⟨gb1.toArray⟩] 25) = w403 at *
          generalize w402.heap.size = K_res at *
          have N_T2_res := Lib.hid n_T2
          clear n_T2
          have N_row_res := Lib.hid n_row
          clear n_row
          clear hb ga hle
          have c_row_0 := B_row.out.cell (i := 0) (x := .string (⟨x0.toArray⟩ ++ ⟨m2.toArray⟩)) rfl
          have c_row_1 := B_row.out.cell (i := 1) (x := .int .i64 4) rfl
          go_wp2_with fail
          clear c_row_0 c_row_1
          go_roundw
          case rel => exact ⟨2, by go_num, by decide, G, B_T2⟩
          case measure => simp [intOf]
        · skip
          have t_0 := B_T2.out.cell (i := 4) (x := .string (⟨x0.toArray⟩ ++ ⟨m4.toArray⟩)) rfl
          have t_1 := B_T2.out.cell (i := 5) (x := .int .i64 4) rfl
          go_upto_region 13 with fail
          clear t_0 t_1
          have hb := Blk.made wr 33 #[.string (⟨x0.toArray⟩ ++ ⟨m4.toArray⟩), .int .i64 4]
          have ga := World.grownBy_alloc wr (.cells #[.string (⟨x0.toArray⟩ ++ ⟨m4.toArray⟩), .int .i64 4] 33) none
          have hle := G.out.size
          have n_T2 := B_T2.out.lt
          replace G := Lib.hid (World.grownBy.trans G.out ga)
          replace B_T2 := Lib.hid (B_T2.out.new ga)
          generalize wr.alloc (.cells #[.string (⟨x0.toArray⟩ ++ ⟨m4.toArray⟩), .int .i64 4] 33) = w401 at *
          generalize wr.heap.size = K_row at *
          have N_T2_row := Lib.hid n_T2
          clear n_T2
          have B_row := Lib.hid hb
          have E_row := Lib.hid hle
          clear hb ga hle
          have c_row_0 := B_row.out.cell (i := 0) (x := .string (⟨x0.toArray⟩ ++ ⟨m4.toArray⟩)) rfl
          have c_row_1 := B_row.out.cell (i := 1) (x := .int .i64 4) rfl
          go_wp2_with fail
          clear c_row_0 c_row_1
          refine (HR2.out _).mono ?_; rintro e w402 ⟨rfl, g1⟩
          replace G := Lib.hid (World.grownBy.trans G.out g1)
          replace B_T2 := Lib.hid (B_T2.out.new g1)
          replace B_row := Lib.hid (B_row.out.new g1)
          clear g1
          try unfold hdV txt
          go_upto_region 14 with fail
          have hb := Blk.made w402 25 #[.int .i64 gc2, .int .i64 gx2, .int .i64 gp2, .string ⟨gb2.toArray⟩]
          have ga := World.grownBy_alloc w402 (.cells #[.int .i64 gc2, .int .i64 gx2, .int .i64 gp2, .string ⟨gb2.toArray⟩] 25) none
          have hle := G.out.size
          have n_T2 := B_T2.out.lt
          have n_row := B_row.out.lt
          replace G := Lib.hid (World.grownBy.trans G.out ga)
          replace B_T2 := Lib.hid (B_T2.out.new ga)
          replace B_row := Lib.hid (B_row.out.new ga)
          generalize w402.alloc (.cells #[.int .i64 gc2, .int .i64 gx2, .int .i64 gp2, .string ⟨gb2.toArray⟩] 25) = w403 at *
          generalize w402.heap.size = K_res at *
          have N_T2_res := Lib.hid n_T2
          clear n_T2
          have N_row_res := Lib.hid n_row
          clear n_row
          clear hb ga hle
          have c_row_0 := B_row.out.cell (i := 0) (x := .string (⟨x0.toArray⟩ ++ ⟨m4.toArray⟩)) rfl
          have c_row_1 := B_row.out.cell (i := 1) (x := .int .i64 4) rfl
          go_wp2_with fail
          clear c_row_0 c_row_1
          go_roundw
          case rel => exact ⟨3, by go_num, by decide, G, B_T2⟩
          case measure => simp [intOf]
        · skip
          have t_0 := B_T2.out.cell (i := 6) (x := .string ⟨x1.toArray⟩) rfl
          have t_1 := B_T2.out.cell (i := 7) (x := .int .i64 4) rfl
          go_upto_region 13 with fail
          clear t_0 t_1
          have hb := Blk.made wr 33 #[.string ⟨x1.toArray⟩, .int .i64 4]
          have ga := World.grownBy_alloc wr (.cells #[.string ⟨x1.toArray⟩, .int .i64 4] 33) none
          have hle := G.out.size
          have n_T2 := B_T2.out.lt
          replace G := Lib.hid (World.grownBy.trans G.out ga)
          replace B_T2 := Lib.hid (B_T2.out.new ga)
          generalize wr.alloc (.cells #[.string ⟨x1.toArray⟩, .int .i64 4] 33) = w401 at *
          generalize wr.heap.size = K_row at *
          have N_T2_row := Lib.hid n_T2
          clear n_T2
          have B_row := Lib.hid hb
          have E_row := Lib.hid hle
          clear hb ga hle
          have c_row_0 := B_row.out.cell (i := 0) (x := .string ⟨x1.toArray⟩) rfl
          have c_row_1 := B_row.out.cell (i := 1) (x := .int .i64 4) rfl
          go_wp2_with fail
          clear c_row_0 c_row_1
          refine (HR3.out _).mono ?_; rintro e w402 ⟨rfl, g1⟩
          replace G := Lib.hid (World.grownBy.trans G.out g1)
          replace B_T2 := Lib.hid (B_T2.out.new g1)
          replace B_row := Lib.hid (B_row.out.new g1)
          clear g1
          try unfold hdV txt
          go_upto_region 14 with fail
          have hb := Blk.made w402 25 #[.int .i64 gc3, .int .i64 gx3, .int .i64 gp3, .string ⟨gb3.toArray⟩]
          have ga := World.grownBy_alloc w402 (.cells #[.int .i64 gc3, .int .i64 gx3, .int .i64 gp3, .string ⟨gb3.toArray⟩] 25) none
          have hle := G.out.size
          have n_T2 := B_T2.out.lt
          have n_row := B_row.out.lt
          replace G := Lib.hid (World.grownBy.trans G.out ga)
          replace B_T2 := Lib.hid (B_T2.out.new ga)
          replace B_row := Lib.hid (B_row.out.new ga)
          generalize w402.alloc (.cells #[.int .i64 gc3, .int .i64 gx3, .int .i64 gp3, .string ⟨gb3.toArray⟩] 25) = w403 at *
          generalize w402.heap.size = K_res at *
          have N_T2_res := Lib.hid n_T2
          clear n_T2
          have N_row_res := Lib.hid n_row
          clear n_row
          clear hb ga hle
          have c_row_0 := B_row.out.cell (i := 0) (x := .string ⟨x1.toArray⟩) rfl
          have c_row_1 := B_row.out.cell (i := 1) (x := .int .i64 4) rfl
          go_wp2_with fail
          clear c_row_0 c_row_1
          go_roundw
          case rel => exact ⟨4, by go_num, by decide, G, B_T2⟩
          case measure => simp [intOf]
        · skip
          have t_0 := B_T2.out.cell (i := 8) (x := .string ⟨#[]⟩) rfl
          have t_1 := B_T2.out.cell (i := 9) (x := .int .i64 4) rfl
          go_upto_region 13 with fail
          clear t_0 t_1
          have hb := Blk.made wr 33 #[.string ⟨#[]⟩, .int .i64 4]
          have ga := World.grownBy_alloc wr (.cells #[.string ⟨#[]⟩, .int .i64 4] 33) none
          have hle := G.out.size
          have n_T2 := B_T2.out.lt
          replace G := Lib.hid (World.grownBy.trans G.out ga)
          replace B_T2 := Lib.hid (B_T2.out.new ga)
          generalize wr.alloc (.cells #[.string ⟨#[]⟩, .int .i64 4] 33) = w401 at *
          generalize wr.heap.size = K_row at *
          have N_T2_row := Lib.hid n_T2
          clear n_T2
          have B_row := Lib.hid hb
          have E_row := Lib.hid hle
          clear hb ga hle
          have c_row_0 := B_row.out.cell (i := 0) (x := .string ⟨#[]⟩) rfl
          have c_row_1 := B_row.out.cell (i := 1) (x := .int .i64 4) rfl
          go_wp2_with fail
          clear c_row_0 c_row_1
          refine (HR4.out _).mono ?_; rintro e w402 ⟨rfl, g1⟩
          replace G := Lib.hid (World.grownBy.trans G.out g1)
          replace B_T2 := Lib.hid (B_T2.out.new g1)
          replace B_row := Lib.hid (B_row.out.new g1)
          clear g1
          try unfold hdV txt
          go_upto_region 14 with fail
          have hb := Blk.made w402 25 #[.int .i64 gc4, .int .i64 gx4, .int .i64 gp4, .string ⟨gb4.toArray⟩]
          have ga := World.grownBy_alloc w402 (.cells #[.int .i64 gc4, .int .i64 gx4, .int .i64 gp4, .string ⟨gb4.toArray⟩] 25) none
          have hle := G.out.size
          have n_T2 := B_T2.out.lt
          have n_row := B_row.out.lt
          replace G := Lib.hid (World.grownBy.trans G.out ga)
          replace B_T2 := Lib.hid (B_T2.out.new ga)
          replace B_row := Lib.hid (B_row.out.new ga)
          generalize w402.alloc (.cells #[.int .i64 gc4, .int .i64 gx4, .int .i64 gp4, .string ⟨gb4.toArray⟩] 25) = w403 at *
          generalize w402.heap.size = K_res at *
          have N_T2_res := Lib.hid n_T2
          clear n_T2
          have N_row_res := Lib.hid n_row
          clear n_row
          clear hb ga hle
          have c_row_0 := B_row.out.cell (i := 0) (x := .string ⟨#[]⟩) rfl
          have c_row_1 := B_row.out.cell (i := 1) (x := .int .i64 4) rfl
          go_wp2_with fail
          clear c_row_0 c_row_1
          go_roundw
          case rel => exact ⟨5, by go_num, by decide, G, B_T2⟩
          case measure => simp [intOf]
        · skip
          have t_0 := B_T2.out.cell (i := 10) (x := .string ⟨x2.toArray⟩) rfl
          have t_1 := B_T2.out.cell (i := 11) (x := .int .i64 4) rfl
          go_upto_region 13 with fail
          clear t_0 t_1
          have hb := Blk.made wr 33 #[.string ⟨x2.toArray⟩, .int .i64 4]
          have ga := World.grownBy_alloc wr (.cells #[.string ⟨x2.toArray⟩, .int .i64 4] 33) none
          have hle := G.out.size
          have n_T2 := B_T2.out.lt
          replace G := Lib.hid (World.grownBy.trans G.out ga)
          replace B_T2 := Lib.hid (B_T2.out.new ga)
          generalize wr.alloc (.cells #[.string ⟨x2.toArray⟩, .int .i64 4] 33) = w401 at *
          generalize wr.heap.size = K_row at *
          have N_T2_row := Lib.hid n_T2
          clear n_T2
          have B_row := Lib.hid hb
          have E_row := Lib.hid hle
          clear hb ga hle
          have c_row_0 := B_row.out.cell (i := 0) (x := .string ⟨x2.toArray⟩) rfl
          have c_row_1 := B_row.out.cell (i := 1) (x := .int .i64 4) rfl
          go_wp2_with fail
          clear c_row_0 c_row_1
          refine (HR5.out _).mono ?_; rintro e w402 ⟨rfl, g1⟩
          replace G := Lib.hid (World.grownBy.trans G.out g1)
          replace B_T2 := Lib.hid (B_T2.out.new g1)
          replace B_row := Lib.hid (B_row.out.new g1)
          clear g1
          try unfold hdV txt
          go_upto_region 14 with fail
          have hb := Blk.made w402 25 #[.int .i64 gc5, .int .i64 gx5, .int .i64 gp5, .string ⟨gb5.toArray⟩]
          have ga := World.grownBy_alloc w402 (.cells #[.int .i64 gc5, .int .i64 gx5, .int .i64 gp5, .string ⟨gb5.toArray⟩] 25) none
          have hle := G.out.size
          have n_T2 := B_T2.out.lt
          have n_row := B_row.out.lt
          replace G := Lib.hid (World.grownBy.trans G.out ga)
          replace B_T2 := Lib.hid (B_T2.out.new ga)
          replace B_row := Lib.hid (B_row.out.new ga)
          generalize w402.alloc (.cells #[.int .i64 gc5, .int .i64 gx5, .int .i64 gp5, .string ⟨gb5.toArray⟩] 25) = w403 at *
          generalize w402.heap.size = K_res at *
          have N_T2_res := Lib.hid n_T2
          clear n_T2
          have N_row_res := Lib.hid n_row
          clear n_row
          clear hb ga hle
          have c_row_0 := B_row.out.cell (i := 0) (x := .string ⟨x2.toArray⟩) rfl
          have c_row_1 := B_row.out.cell (i := 1) (x := .int .i64 4) rfl
          go_wp2_with fail
          clear c_row_0 c_row_1
          go_roundw
          case rel => exact ⟨6, by go_num, by decide, G, B_T2⟩
          case measure => simp [intOf]
        · skip
          have t_0 := B_T2.out.cell (i := 12) (x := .string ⟨x3.toArray⟩) rfl
          have t_1 := B_T2.out.cell (i := 13) (x := .int .i64 4) rfl
          go_upto_region 13 with fail
          clear t_0 t_1
          have hb := Blk.made wr 33 #[.string ⟨x3.toArray⟩, .int .i64 4]
          have ga := World.grownBy_alloc wr (.cells #[.string ⟨x3.toArray⟩, .int .i64 4] 33) none
          have hle := G.out.size
          have n_T2 := B_T2.out.lt
          replace G := Lib.hid (World.grownBy.trans G.out ga)
          replace B_T2 := Lib.hid (B_T2.out.new ga)
          generalize wr.alloc (.cells #[.string ⟨x3.toArray⟩, .int .i64 4] 33) = w401 at *
          generalize wr.heap.size = K_row at *
          have N_T2_row := Lib.hid n_T2
          clear n_T2
          have B_row := Lib.hid hb
          have E_row := Lib.hid hle
          clear hb ga hle
          have c_row_0 := B_row.out.cell (i := 0) (x := .string ⟨x3.toArray⟩) rfl
          have c_row_1 := B_row.out.cell (i := 1) (x := .int .i64 4) rfl
          go_wp2_with fail
          clear c_row_0 c_row_1
          refine (HR6.out _).mono ?_; rintro e w402 ⟨rfl, g1⟩
          replace G := Lib.hid (World.grownBy.trans G.out g1)
          replace B_T2 := Lib.hid (B_T2.out.new g1)
          replace B_row := Lib.hid (B_row.out.new g1)
          clear g1
          try unfold hdV txt
          go_upto_region 14 with fail
          have hb := Blk.made w402 25 #[.int .i64 gc6, .int .i64 gx6, .int .i64 gp6, .string ⟨gb6.toArray⟩]
          have ga := World.grownBy_alloc w402 (.cells #[.int .i64 gc6, .int .i64 gx6, .int .i64 gp6, .string ⟨gb6.toArray⟩] 25) none
          have hle := G.out.size
          have n_T2 := B_T2.out.lt
          have n_row := B_row.out.lt
          replace G := Lib.hid (World.grownBy.trans G.out ga)
          replace B_T2 := Lib.hid (B_T2.out.new ga)
          replace B_row := Lib.hid (B_row.out.new ga)
          generalize w402.alloc (.cells #[.int .i64 gc6, .int .i64 gx6, .int .i64 gp6, .string ⟨gb6.toArray⟩] 25) = w403 at *
          generalize w402.heap.size = K_res at *
          have N_T2_res := Lib.hid n_T2
          clear n_T2
          have N_row_res := Lib.hid n_row
          clear n_row
          clear hb ga hle
          have c_row_0 := B_row.out.cell (i := 0) (x := .string ⟨x3.toArray⟩) rfl
          have c_row_1 := B_row.out.cell (i := 1) (x := .int .i64 4) rfl
          go_wp2_with fail
          clear c_row_0 c_row_1
          go_roundw
          case rel => exact ⟨7, by go_num, by decide, G, B_T2⟩
          case measure => simp [intOf]
        · skip
          have t_0 := B_T2.out.cell (i := 14) (x := .string ⟨x4.toArray⟩) rfl
          have t_1 := B_T2.out.cell (i := 15) (x := .int .i64 63) rfl
          go_upto_region 13 with fail
          clear t_0 t_1
          have hb := Blk.made wr 33 #[.string ⟨x4.toArray⟩, .int .i64 63]
          have ga := World.grownBy_alloc wr (.cells #[.string ⟨x4.toArray⟩, .int .i64 63] 33) none
          have hle := G.out.size
          have n_T2 := B_T2.out.lt
          replace G := Lib.hid (World.grownBy.trans G.out ga)
          replace B_T2 := Lib.hid (B_T2.out.new ga)
          generalize wr.alloc (.cells #[.string ⟨x4.toArray⟩, .int .i64 63] 33) = w401 at *
          generalize wr.heap.size = K_row at *
          have N_T2_row := Lib.hid n_T2
          clear n_T2
          have B_row := Lib.hid hb
          have E_row := Lib.hid hle
          clear hb ga hle
          have c_row_0 := B_row.out.cell (i := 0) (x := .string ⟨x4.toArray⟩) rfl
          have c_row_1 := B_row.out.cell (i := 1) (x := .int .i64 63) rfl
          go_wp2_with fail
          clear c_row_0 c_row_1
          refine (HR7.out _).mono ?_; rintro e w402 ⟨rfl, g1⟩
          replace G := Lib.hid (World.grownBy.trans G.out g1)
          replace B_T2 := Lib.hid (B_T2.out.new g1)
          replace B_row := Lib.hid (B_row.out.new g1)
          clear g1
          try unfold hdV txt
          go_upto_region 14 with fail
          have hb := Blk.made w402 25 #[.int .i64 gc7, .int .i64 gx7, .int .i64 gp7, .string ⟨gb7.toArray⟩]
          have ga := World.grownBy_alloc w402 (.cells #[.int .i64 gc7, .int .i64 gx7, .int .i64 gp7, .string ⟨gb7.toArray⟩] 25) none
          have hle := G.out.size
          have n_T2 := B_T2.out.lt
          have n_row := B_row.out.lt
          replace G := Lib.hid (World.grownBy.trans G.out ga)
          replace B_T2 := Lib.hid (B_T2.out.new ga)
          replace B_row := Lib.hid (B_row.out.new ga)
          generalize w402.alloc (.cells #[.int .i64 gc7, .int .i64 gx7, .int .i64 gp7, .string ⟨gb7.toArray⟩] 25) = w403 at *
          generalize w402.heap.size = K_res at *
          have N_T2_res := Lib.hid n_T2
          clear n_T2
          have N_row_res := Lib.hid n_row
          clear n_row
          clear hb ga hle
          have c_row_0 := B_row.out.cell (i := 0) (x := .string ⟨x4.toArray⟩) rfl
          have c_row_1 := B_row.out.cell (i := 1) (x := .int .i64 63) rfl
          go_wp2_with fail
          clear c_row_0 c_row_1
          go_roundw
          case rel => exact ⟨8, by go_num, by decide, G, B_T2⟩
          case measure => simp [intOf]
        · skip
          have t_0 := B_T2.out.cell (i := 16) (x := .string ⟨x5.toArray⟩) rfl
          have t_1 := B_T2.out.cell (i := 17) (x := .int .i64 62) rfl
          go_upto_region 13 with fail
          clear t_0 t_1
          have hb := Blk.made wr 33 #[.string ⟨x5.toArray⟩, .int .i64 62]
          have ga := World.grownBy_alloc wr (.cells #[.string ⟨x5.toArray⟩, .int .i64 62] 33) none
          have hle := G.out.size
          have n_T2 := B_T2.out.lt
          replace G := Lib.hid (World.grownBy.trans G.out ga)
          replace B_T2 := Lib.hid (B_T2.out.new ga)
          generalize wr.alloc (.cells #[.string ⟨x5.toArray⟩, .int .i64 62] 33) = w401 at *
          generalize wr.heap.size = K_row at *
          have N_T2_row := Lib.hid n_T2
          clear n_T2
          have B_row := Lib.hid hb
          have E_row := Lib.hid hle
          clear hb ga hle
          have c_row_0 := B_row.out.cell (i := 0) (x := .string ⟨x5.toArray⟩) rfl
          have c_row_1 := B_row.out.cell (i := 1) (x := .int .i64 62) rfl
          go_wp2_with fail
          clear c_row_0 c_row_1
          refine (HR8.out _).mono ?_; rintro e w402 ⟨rfl, g1⟩
          replace G := Lib.hid (World.grownBy.trans G.out g1)
          replace B_T2 := Lib.hid (B_T2.out.new g1)
          replace B_row := Lib.hid (B_row.out.new g1)
          clear g1
          try unfold hdV txt
          go_upto_region 14 with fail
          have hb := Blk.made w402 25 #[.int .i64 gc8, .int .i64 gx8, .int .i64 gp8, .string ⟨gb8.toArray⟩]
          have ga := World.grownBy_alloc w402 (.cells #[.int .i64 gc8, .int .i64 gx8, .int .i64 gp8, .string ⟨gb8.toArray⟩] 25) none
          have hle := G.out.size
          have n_T2 := B_T2.out.lt
          have n_row := B_row.out.lt
          replace G := Lib.hid (World.grownBy.trans G.out ga)
          replace B_T2 := Lib.hid (B_T2.out.new ga)
          replace B_row := Lib.hid (B_row.out.new ga)
          generalize w402.alloc (.cells #[.int .i64 gc8, .int .i64 gx8, .int .i64 gp8, .string ⟨gb8.toArray⟩] 25) = w403 at *
          generalize w402.heap.size = K_res at *
          have N_T2_res := Lib.hid n_T2
          clear n_T2
          have N_row_res := Lib.hid n_row
          clear n_row
          clear hb ga hle
          have c_row_0 := B_row.out.cell (i := 0) (x := .string ⟨x5.toArray⟩) rfl
          have c_row_1 := B_row.out.cell (i := 1) (x := .int .i64 62) rfl
          go_wp2_with fail
          clear c_row_0 c_row_1
          go_roundw
          case rel => exact ⟨9, by go_num, by decide, G, B_T2⟩
          case measure => simp [intOf]
        · skip
          clear B_T2 HR0 HR1 HR2 HR3 HR4 HR5 HR6 HR7 HR8
          have l_x6 := HL.out.2.2.2.2.2.2.1
          have l_x7 := HL.out.2.2.2.2.2.2.2.1
          have l_x13 := HL.out.2.2.2.2.2.2.2.2.2.2.2.2.2.1
          have l_m5 := HL.out.2.2.2.2.2.2.2.2.2.2.2.2.2.2.2.2.2.2.2.1
          go_wp2_with fail
          refine (HS_x6.out _ _ _).mono ?_; rintro e w501 ⟨rfl, g1⟩
          replace G := Lib.hid (World.grownBy.trans G.out g1)
          clear g1
          go_wp2_with fail
          refine (HM_m5.out _).mono ?_; rintro e w502 ⟨rfl, g1⟩
          replace G := Lib.hid (World.grownBy.trans G.out g1)
          clear g1
          go_wp2_with fail
          refine (HRa.out _).mono ?_; rintro e w503 ⟨rfl, g1⟩
          replace G := Lib.hid (World.grownBy.trans G.out g1)
          clear g1
          try unfold hdV txt
          go_upto_region 18 with fail
          have hb := Blk.made w503 25 #[.int .i64 4, .int .i64 9, .int .i64 99, .string ⟨#[]⟩]
          have ga := World.grownBy_alloc w503 (.cells #[.int .i64 4, .int .i64 9, .int .i64 99, .string ⟨#[]⟩] 25) none
          have hle := G.out.size
          replace G := Lib.hid (World.grownBy.trans G.out ga)
          generalize w503.alloc (.cells #[.int .i64 4, .int .i64 9, .int .i64 99, .string ⟨#[]⟩] 25) = w504 at *
          generalize w503.heap.size = K_a at *
          have B_a := Lib.hid hb
          have E_a := Lib.hid hle
          clear hb ga hle
          go_wp2_with fail
          refine (HS_x7.out _ _ _).mono ?_; rintro e w505 ⟨rfl, g1⟩
          replace G := Lib.hid (World.grownBy.trans G.out g1)
          replace B_a := Lib.hid (B_a.out.new g1)
          clear g1
          go_wp2_with fail
          refine (HM_m5.out _).mono ?_; rintro e w506 ⟨rfl, g1⟩
          replace G := Lib.hid (World.grownBy.trans G.out g1)
          replace B_a := Lib.hid (B_a.out.new g1)
          clear g1
          go_wp2_with fail
          refine (HRb.out _).mono ?_; rintro e w507 ⟨rfl, g1⟩
          replace G := Lib.hid (World.grownBy.trans G.out g1)
          replace B_a := Lib.hid (B_a.out.new g1)
          clear g1
          try unfold hdV txt
          go_upto_region 19 with fail
          have hb := Blk.made w507 25 #[.int .i64 4, .int .i64 4294967295, .int .i64 99, .string ⟨#[]⟩]
          have ga := World.grownBy_alloc w507 (.cells #[.int .i64 4, .int .i64 4294967295, .int .i64 99, .string ⟨#[]⟩] 25) none
          have hle := G.out.size
          have n_a := B_a.out.lt
          replace G := Lib.hid (World.grownBy.trans G.out ga)
          replace B_a := Lib.hid (B_a.out.new ga)
          generalize w507.alloc (.cells #[.int .i64 4, .int .i64 4294967295, .int .i64 99, .string ⟨#[]⟩] 25) = w508 at *
          generalize w507.heap.size = K_b at *
          have N_a_b := Lib.hid n_a
          clear n_a
          have B_b := Lib.hid hb
          have E_b := Lib.hid hle
          clear hb ga hle
          go_wp2_with fail
          refine (HS_x8.out _ _ _).mono ?_; rintro e w509 ⟨rfl, g1⟩
          replace G := Lib.hid (World.grownBy.trans G.out g1)
          replace B_a := Lib.hid (B_a.out.new g1)
          replace B_b := Lib.hid (B_b.out.new g1)
          clear g1
          go_wp2_with fail
          refine (HHc.out _).mono ?_; rintro e w510 ⟨rfl, g1⟩
          replace G := Lib.hid (World.grownBy.trans G.out g1)
          replace B_a := Lib.hid (B_a.out.new g1)
          replace B_b := Lib.hid (B_b.out.new g1)
          clear g1
          try unfold anV txt
          go_upto_region 20 with fail
          have hb := Blk.made w510 38 #[.int .i64 4294967295, .int .i64 0, .string ⟨x14.toArray⟩]
          have ga := World.grownBy_alloc w510 (.cells #[.int .i64 4294967295, .int .i64 0, .string ⟨x14.toArray⟩] 38) none
          have hle := G.out.size
          have n_a := B_a.out.lt
          have n_b := B_b.out.lt
          replace G := Lib.hid (World.grownBy.trans G.out ga)
          replace B_a := Lib.hid (B_a.out.new ga)
          replace B_b := Lib.hid (B_b.out.new ga)
          generalize w510.alloc (.cells #[.int .i64 4294967295, .int .i64 0, .string ⟨x14.toArray⟩] 38) = w511 at *
          generalize w510.heap.size = K_c at *
          have N_a_c := Lib.hid n_a
          clear n_a
          have N_b_c := Lib.hid n_b
          clear n_b
          have B_c := Lib.hid hb
          have E_c := Lib.hid hle
          clear hb ga hle
          go_wp2_with fail
          refine (HS_x9.out _ _ _).mono ?_; rintro e w512 ⟨rfl, g1⟩
          replace G := Lib.hid (World.grownBy.trans G.out g1)
          replace B_a := Lib.hid (B_a.out.new g1)
          replace B_b := Lib.hid (B_b.out.new g1)
          replace B_c := Lib.hid (B_c.out.new g1)
          clear g1
          go_wp2_with fail
          refine (HH1.out _).mono ?_; rintro e w513 ⟨rfl, g1⟩
          replace G := Lib.hid (World.grownBy.trans G.out g1)
          replace B_a := Lib.hid (B_a.out.new g1)
          replace B_b := Lib.hid (B_b.out.new g1)
          replace B_c := Lib.hid (B_c.out.new g1)
          clear g1
          try unfold anV txt
          go_upto_region 21 with fail
          have hb := Blk.made w513 38 #[.int .i64 ky1, .int .i64 kf1, .string ⟨kd1.toArray⟩]
          have ga := World.grownBy_alloc w513 (.cells #[.int .i64 ky1, .int .i64 kf1, .string ⟨kd1.toArray⟩] 38) none
          have hle := G.out.size
          have n_a := B_a.out.lt
          have n_b := B_b.out.lt
          have n_c := B_c.out.lt
          replace G := Lib.hid (World.grownBy.trans G.out ga)
          replace B_a := Lib.hid (B_a.out.new ga)
          replace B_b := Lib.hid (B_b.out.new ga)
          replace B_c := Lib.hid (B_c.out.new ga)
          generalize w513.alloc (.cells #[.int .i64 ky1, .int .i64 kf1, .string ⟨kd1.toArray⟩] 38) = w514 at *
          generalize w513.heap.size = K_q0 at *
          have N_a_q0 := Lib.hid n_a
          clear n_a
          have N_b_q0 := Lib.hid n_b
          clear n_b
          have N_c_q0 := Lib.hid n_c
          clear n_c
          clear hb ga hle
          go_wp2_with fail
          refine (HS_x10.out _ _ _).mono ?_; rintro e w515 ⟨rfl, g1⟩
          replace G := Lib.hid (World.grownBy.trans G.out g1)
          replace B_a := Lib.hid (B_a.out.new g1)
          replace B_b := Lib.hid (B_b.out.new g1)
          replace B_c := Lib.hid (B_c.out.new g1)
          clear g1
          go_wp2_with fail
          refine (HH2.out _).mono ?_; rintro e w516 ⟨rfl, g1⟩
          replace G := Lib.hid (World.grownBy.trans G.out g1)
          replace B_a := Lib.hid (B_a.out.new g1)
          replace B_b := Lib.hid (B_b.out.new g1)
          replace B_c := Lib.hid (B_c.out.new g1)
          clear g1
          try unfold anV txt
          go_upto_region 22 with fail
          have hb := Blk.made w516 38 #[.int .i64 ky2, .int .i64 kf2, .string ⟨kd2.toArray⟩]
          have ga := World.grownBy_alloc w516 (.cells #[.int .i64 ky2, .int .i64 kf2, .string ⟨kd2.toArray⟩] 38) none
          have hle := G.out.size
          have n_a := B_a.out.lt
          have n_b := B_b.out.lt
          have n_c := B_c.out.lt
          replace G := Lib.hid (World.grownBy.trans G.out ga)
          replace B_a := Lib.hid (B_a.out.new ga)
          replace B_b := Lib.hid (B_b.out.new ga)
          replace B_c := Lib.hid (B_c.out.new ga)
          generalize w516.alloc (.cells #[.int .i64 ky2, .int .i64 kf2, .string ⟨kd2.toArray⟩] 38) = w517 at *
          generalize w516.heap.size = K_q1 at *
          have N_a_q1 := Lib.hid n_a
          clear n_a
          have N_b_q1 := Lib.hid n_b
          clear n_b
          have N_c_q1 := Lib.hid n_c
          clear n_c
          clear hb ga hle
          go_wp2_with fail
          refine (HS_x11.out _ _ _).mono ?_; rintro e w518 ⟨rfl, g1⟩
          replace G := Lib.hid (World.grownBy.trans G.out g1)
          replace B_a := Lib.hid (B_a.out.new g1)
          replace B_b := Lib.hid (B_b.out.new g1)
          replace B_c := Lib.hid (B_c.out.new g1)
          clear g1
          go_wp2_with fail
          refine (HH3.out _).mono ?_; rintro e w519 ⟨rfl, g1⟩
          replace G := Lib.hid (World.grownBy.trans G.out g1)
          replace B_a := Lib.hid (B_a.out.new g1)
          replace B_b := Lib.hid (B_b.out.new g1)
          replace B_c := Lib.hid (B_c.out.new g1)
          clear g1
          try unfold anV txt
          go_upto_region 23 with fail
          have hb := Blk.made w519 38 #[.int .i64 ky3, .int .i64 kf3, .string ⟨kd3.toArray⟩]
          have ga := World.grownBy_alloc w519 (.cells #[.int .i64 ky3, .int .i64 kf3, .string ⟨kd3.toArray⟩] 38) none
          have hle := G.out.size
          have n_a := B_a.out.lt
          have n_b := B_b.out.lt
          have n_c := B_c.out.lt
          replace G := Lib.hid (World.grownBy.trans G.out ga)
          replace B_a := Lib.hid (B_a.out.new ga)
          replace B_b := Lib.hid (B_b.out.new ga)
          replace B_c := Lib.hid (B_c.out.new ga)
          generalize w519.alloc (.cells #[.int .i64 ky3, .int .i64 kf3, .string ⟨kd3.toArray⟩] 38) = w520 at *
          generalize w519.heap.size = K_q2 at *
          have N_a_q2 := Lib.hid n_a
          clear n_a
          have N_b_q2 := Lib.hid n_b
          clear n_b
          have N_c_q2 := Lib.hid n_c
          clear n_c
          clear hb ga hle
          go_wp2_with fail
          refine (HS_x12.out _ _ _).mono ?_; rintro e w521 ⟨rfl, g1⟩
          replace G := Lib.hid (World.grownBy.trans G.out g1)
          replace B_a := Lib.hid (B_a.out.new g1)
          replace B_b := Lib.hid (B_b.out.new g1)
          replace B_c := Lib.hid (B_c.out.new g1)
          clear g1
          go_wp2_with fail
          refine (HH4.out _).mono ?_; rintro e w522 ⟨rfl, g1⟩
          replace G := Lib.hid (World.grownBy.trans G.out g1)
          replace B_a := Lib.hid (B_a.out.new g1)
          replace B_b := Lib.hid (B_b.out.new g1)
          replace B_c := Lib.hid (B_c.out.new g1)
          clear g1
          try unfold anV txt
          go_upto_region 24 with fail
          have hb := Blk.made w522 38 #[.int .i64 ky4, .int .i64 kf4, .string ⟨kd4.toArray⟩]
          have ga := World.grownBy_alloc w522 (.cells #[.int .i64 ky4, .int .i64 kf4, .string ⟨kd4.toArray⟩] 38) none
          have hle := G.out.size
          have n_a := B_a.out.lt
          have n_b := B_b.out.lt
          have n_c := B_c.out.lt
          replace G := Lib.hid (World.grownBy.trans G.out ga)
          replace B_a := Lib.hid (B_a.out.new ga)
          replace B_b := Lib.hid (B_b.out.new ga)
          replace B_c := Lib.hid (B_c.out.new ga)
          generalize w522.alloc (.cells #[.int .i64 ky4, .int .i64 kf4, .string ⟨kd4.toArray⟩] 38) = w523 at *
          generalize w522.heap.size = K_q3 at *
          have N_a_q3 := Lib.hid n_a
          clear n_a
          have N_b_q3 := Lib.hid n_b
          clear n_b
          have N_c_q3 := Lib.hid n_c
          clear n_c
          clear hb ga hle
          go_wp2_with fail
          refine (HS_x13.out _ _ _).mono ?_; rintro e w524 ⟨rfl, g1⟩
          replace G := Lib.hid (World.grownBy.trans G.out g1)
          replace B_a := Lib.hid (B_a.out.new g1)
          replace B_b := Lib.hid (B_b.out.new g1)
          replace B_c := Lib.hid (B_c.out.new g1)
          clear g1
          go_wp2_with fail
          refine (HH5.out _).mono ?_; rintro e w525 ⟨rfl, g1⟩
          replace G := Lib.hid (World.grownBy.trans G.out g1)
          replace B_a := Lib.hid (B_a.out.new g1)
          replace B_b := Lib.hid (B_b.out.new g1)
          replace B_c := Lib.hid (B_c.out.new g1)
          clear g1
          try unfold anV txt
          go_upto_region 25 with fail
          have hb := Blk.made w525 38 #[.int .i64 ky5, .int .i64 kf5, .string ⟨kd5.toArray⟩]
          have ga := World.grownBy_alloc w525 (.cells #[.int .i64 ky5, .int .i64 kf5, .string ⟨kd5.toArray⟩] 38) none
          have hle := G.out.size
          have n_a := B_a.out.lt
          have n_b := B_b.out.lt
          have n_c := B_c.out.lt
          replace G := Lib.hid (World.grownBy.trans G.out ga)
          replace B_a := Lib.hid (B_a.out.new ga)
          replace B_b := Lib.hid (B_b.out.new ga)
          replace B_c := Lib.hid (B_c.out.new ga)
          generalize w525.alloc (.cells #[.int .i64 ky5, .int .i64 kf5, .string ⟨kd5.toArray⟩] 38) = w526 at *
          generalize w525.heap.size = K_q4 at *
          have N_a_q4 := Lib.hid n_a
          clear n_a
          have N_b_q4 := Lib.hid n_b
          clear n_b
          have N_c_q4 := Lib.hid n_c
          clear n_c
          clear hb ga hle
          go_wp2_with fail
          refine (HT1.out _).mono ?_; rintro e w527 ⟨rfl, g1⟩
          replace G := Lib.hid (World.grownBy.trans G.out g1)
          replace B_a := Lib.hid (B_a.out.new g1)
          replace B_b := Lib.hid (B_b.out.new g1)
          replace B_c := Lib.hid (B_c.out.new g1)
          clear g1
          try unfold txt
          go_wp2_with fail
          refine (HM_m6.out _).mono ?_; rintro e w528 ⟨rfl, g1⟩
          replace G := Lib.hid (World.grownBy.trans G.out g1)
          replace B_a := Lib.hid (B_a.out.new g1)
          replace B_b := Lib.hid (B_b.out.new g1)
          replace B_c := Lib.hid (B_c.out.new g1)
          clear g1
          go_wp2_with fail
          refine (HT2.out _).mono ?_; rintro e w529 ⟨rfl, g1⟩
          replace G := Lib.hid (World.grownBy.trans G.out g1)
          replace B_a := Lib.hid (B_a.out.new g1)
          replace B_b := Lib.hid (B_b.out.new g1)
          replace B_c := Lib.hid (B_c.out.new g1)
          clear g1
          try unfold txt
          go_wp2_with fail
          refine (HM_m7.out _).mono ?_; rintro e w530 ⟨rfl, g1⟩
          replace G := Lib.hid (World.grownBy.trans G.out g1)
          replace B_a := Lib.hid (B_a.out.new g1)
          replace B_b := Lib.hid (B_b.out.new g1)
          replace B_c := Lib.hid (B_c.out.new g1)
          clear g1
          go_wp2_with fail
          refine (HT3.out _).mono ?_; rintro e w531 ⟨rfl, g1⟩
          replace G := Lib.hid (World.grownBy.trans G.out g1)
          replace B_a := Lib.hid (B_a.out.new g1)
          replace B_b := Lib.hid (B_b.out.new g1)
          replace B_c := Lib.hid (B_c.out.new g1)
          clear g1
          try unfold txt
          go_wp2_with fail
          refine (HT4.out _).mono ?_; rintro e w532 ⟨rfl, g1⟩
          replace G := Lib.hid (World.grownBy.trans G.out g1)
          replace B_a := Lib.hid (B_a.out.new g1)
          replace B_b := Lib.hid (B_b.out.new g1)
          replace B_c := Lib.hid (B_c.out.new g1)
          clear g1
          try unfold txt
          go_wp2_with fail
          have KEEP : Hid (∀ w', w532.grownBy w' none → (w'.cell? ⟨K_a, 0, none⟩ = some (.int .i64 4) ∧ w'.cell? ⟨K_a, 1, none⟩ = some (.int .i64 9) ∧ w'.cell? ⟨K_a, 2, none⟩ = some (.int .i64 99) ∧ w'.cell? ⟨K_a, 3, none⟩ = some (.string ⟨#[]⟩) ∧ w'.cell? ⟨K_b, 0, none⟩ = some (.int .i64 4) ∧ w'.cell? ⟨K_b, 1, none⟩ = some (.int .i64 4294967295) ∧ w'.cell? ⟨K_b, 2, none⟩ = some (.int .i64 99) ∧ w'.cell? ⟨K_b, 3, none⟩ = some (.string ⟨#[]⟩) ∧ w'.cell? ⟨K_c, 0, none⟩ = some (.int .i64 4294967295) ∧ w'.cell? ⟨K_c, 1, none⟩ = some (.int .i64 0) ∧ w'.cell? ⟨K_c, 2, none⟩ = some (.string ⟨x14.toArray⟩))) := Lib.hid (fun w' hg => ⟨(B_a.out.new hg).cell (i := 0) (x := .int .i64 4) rfl, (B_a.out.new hg).cell (i := 1) (x := .int .i64 9) rfl, (B_a.out.new hg).cell (i := 2) (x := .int .i64 99) rfl, (B_a.out.new hg).cell (i := 3) (x := .string ⟨#[]⟩) rfl, (B_b.out.new hg).cell (i := 0) (x := .int .i64 4) rfl, (B_b.out.new hg).cell (i := 1) (x := .int .i64 4294967295) rfl, (B_b.out.new hg).cell (i := 2) (x := .int .i64 99) rfl, (B_b.out.new hg).cell (i := 3) (x := .string ⟨#[]⟩) rfl, (B_c.out.new hg).cell (i := 0) (x := .int .i64 4294967295) rfl, (B_c.out.new hg).cell (i := 1) (x := .int .i64 0) rfl, (B_c.out.new hg).cell (i := 2) (x := .string ⟨x14.toArray⟩) rfl⟩)
          clear HL HT1 HT2 HT3 HT4 HT0 HM_m1 HM_m2 HM_m3 HM_m4 HM_m5 HM_m6 HM_m7 HRa HRb HHc HH1 HH2 HH3 HH4 HH5 HS_x0 HS_x1 HS_x2 HS_x3 HS_x4 HS_x5 HS_x6 HS_x7 HS_x8 HS_x9 HS_x10 HS_x11 HS_x12 HS_x13
          clear l_x6 l_x7 l_x13 l_m5
          refine wp_region_noPanic ?_
          refine wp_region_held_drew (S := fun w' => w'.cell? ⟨K_a, 0, none⟩ = some (.int .i64 4) ∧ w'.cell? ⟨K_a, 1, none⟩ = some (.int .i64 9) ∧ w'.cell? ⟨K_a, 2, none⟩ = some (.int .i64 99) ∧ w'.cell? ⟨K_a, 3, none⟩ = some (.string ⟨#[]⟩) ∧ w'.cell? ⟨K_b, 0, none⟩ = some (.int .i64 4) ∧ w'.cell? ⟨K_b, 1, none⟩ = some (.int .i64 4294967295) ∧ w'.cell? ⟨K_b, 2, none⟩ = some (.int .i64 99) ∧ w'.cell? ⟨K_b, 3, none⟩ = some (.string ⟨#[]⟩) ∧ w'.cell? ⟨K_c, 0, none⟩ = some (.int .i64 4294967295) ∧ w'.cell? ⟨K_c, 1, none⟩ = some (.int .i64 0) ∧ w'.cell? ⟨K_c, 2, none⟩ = some (.string ⟨x14.toArray⟩)) (by kernel_rfl) (KEEP.out _ (drew_grown _ _)) (fun hHeld => ?_)
          have hN : w532.grownBy w532.drew none := drew_grown _ _
          replace G := Lib.hid (World.grownBy.trans G.out hN)
          have HG := Lib.hid hN
          clear hN B_a B_b B_c
          generalize w532.drew = wd at *
          refine wpAnyH_take (i := 0) (v := ?_) (by simp only [List.getElem?_toArray]; rfl) (by kernel_rfl) (by kernel_rfl) (by kernel_rfl) (fun _ _ _ h => h) (Or.inl ⟨by rfl, ?_⟩) (by assumption) ?_
          rotate_left 1
          · intro w hSw; (try dsimp only at hSw); go_simp; all_goals (with_reducible rfl)
          try simp only [Act.put, List.setIfInBounds_toArray, List.set_cons_zero, List.set_cons_succ]
          refine wpAnyH_take (i := 1) (v := ?_) (by simp only [List.getElem?_toArray]; rfl) (by kernel_rfl) (by kernel_rfl) (by kernel_rfl) (fun _ _ _ h => h) (Or.inl ⟨by rfl, ?_⟩) (by assumption) ?_
          rotate_left 1
          · intro w hSw; (try dsimp only at hSw); go_simp; all_goals (with_reducible rfl)
          try simp only [Act.put, List.setIfInBounds_toArray, List.set_cons_zero, List.set_cons_succ]
          refine wpAnyH_take (i := 2) (v := ?_) (by simp only [List.getElem?_toArray]; rfl) (by kernel_rfl) (by kernel_rfl) (by kernel_rfl) (fun _ _ _ h => h) (Or.inl ⟨by rfl, ?_⟩) (by assumption) ?_
          rotate_left 1
          · intro w hSw; (try dsimp only at hSw); go_simp; all_goals (with_reducible rfl)
          try simp only [Act.put, List.setIfInBounds_toArray, List.set_cons_zero, List.set_cons_succ]
          refine wpAnyH_take (i := 3) (v := ?_) (by simp only [List.getElem?_toArray]; rfl) (by kernel_rfl) (by kernel_rfl) (by kernel_rfl) (fun _ _ _ h => h) (Or.inl ⟨by rfl, ?_⟩) (by assumption) ?_
          rotate_left 1
          · intro w hSw; (try dsimp only at hSw); go_simp; all_goals (with_reducible rfl)
          try simp only [Act.put, List.setIfInBounds_toArray, List.set_cons_zero, List.set_cons_succ]
          refine wpAnyH_take (i := 4) (v := ?_) (by simp only [List.getElem?_toArray]; rfl) (by kernel_rfl) (by kernel_rfl) (by kernel_rfl) (fun _ _ _ h => h) (Or.inl ⟨by rfl, ?_⟩) (by assumption) ?_
          rotate_left 1
          · intro w hSw; (try dsimp only at hSw); go_simp; all_goals (with_reducible rfl)
          try simp only [Act.put, List.setIfInBounds_toArray, List.set_cons_zero, List.set_cons_succ]
          refine wpAnyH_take (i := 5) (v := ?_) (by simp only [List.getElem?_toArray]; rfl) (by kernel_rfl) (by kernel_rfl) (by kernel_rfl) (fun _ _ _ h => h) (Or.inl ⟨by rfl, ?_⟩) (by assumption) ?_
          rotate_left 1
          · intro w hSw; (try dsimp only at hSw); go_simp; all_goals (with_reducible rfl)
          try simp only [Act.put, List.setIfInBounds_toArray, List.set_cons_zero, List.set_cons_succ]
          refine wpAnyH_take (i := 6) (v := ?_) (by simp only [List.getElem?_toArray]; rfl) (by kernel_rfl) (by kernel_rfl) (by kernel_rfl) (fun _ _ _ h => h) (Or.inl ⟨by rfl, ?_⟩) (by assumption) ?_
          rotate_left 1
          · intro w hSw; (try dsimp only at hSw); go_simp; all_goals (with_reducible rfl)
          try simp only [Act.put, List.setIfInBounds_toArray, List.set_cons_zero, List.set_cons_succ]
          refine wpAnyH_take (i := 7) (v := ?_) (by simp only [List.getElem?_toArray]; rfl) (by kernel_rfl) (by kernel_rfl) (by kernel_rfl) (fun _ _ _ h => h) (Or.inl ⟨by rfl, ?_⟩) (by assumption) ?_
          rotate_left 1
          · intro w hSw; (try dsimp only at hSw); go_simp; all_goals (with_reducible rfl)
          try simp only [Act.put, List.setIfInBounds_toArray, List.set_cons_zero, List.set_cons_succ]
          refine wpAnyH_take (i := 8) (v := ?_) (by simp only [List.getElem?_toArray]; rfl) (by kernel_rfl) (by kernel_rfl) (by kernel_rfl) (fun _ _ _ h => h) (Or.inl ⟨by rfl, ?_⟩) (by assumption) ?_
          rotate_left 1
          · intro w hSw; (try dsimp only at hSw); go_simp; all_goals (with_reducible rfl)
          try simp only [Act.put, List.setIfInBounds_toArray, List.set_cons_zero, List.set_cons_succ]
          refine wpAnyH_take (i := 9) (v := ?_) (by simp only [List.getElem?_toArray]; rfl) (by kernel_rfl) (by kernel_rfl) (by kernel_rfl) (fun _ _ _ h => h) (Or.inl ⟨by rfl, ?_⟩) (by assumption) ?_
          rotate_left 1
          · intro w hSw; (try dsimp only at hSw); go_simp; all_goals (with_reducible rfl)
          try simp only [Act.put, List.setIfInBounds_toArray, List.set_cons_zero, List.set_cons_succ]
          refine wpAnyH_take (i := 10) (v := ?_) (by simp only [List.getElem?_toArray]; rfl) (by kernel_rfl) (by kernel_rfl) (by kernel_rfl) (fun _ _ _ h => h) (Or.inl ⟨by rfl, ?_⟩) (by assumption) ?_
          rotate_left 1
          · intro w hSw; (try dsimp only at hSw); go_simp; all_goals (with_reducible rfl)
          try simp only [Act.put, List.setIfInBounds_toArray, List.set_cons_zero, List.set_cons_succ]
          refine wpAnyH_take (i := 11) (v := ?_) (by simp only [List.getElem?_toArray]; rfl) (by kernel_rfl) (by kernel_rfl) (by kernel_rfl) (fun _ _ _ h => h) (Or.inl ⟨by rfl, ?_⟩) (by assumption) ?_
          rotate_left 1
          · intro w hSw; (try dsimp only at hSw); go_simp; all_goals (with_reducible rfl)
          try simp only [Act.put, List.setIfInBounds_toArray, List.set_cons_zero, List.set_cons_succ]
          refine wpAnyH_take (i := 12) (v := ?_) (by simp only [List.getElem?_toArray]; rfl) (by kernel_rfl) (by kernel_rfl) (by kernel_rfl) (fun _ _ _ h => h) (Or.inl ⟨by rfl, ?_⟩) (by assumption) ?_
          rotate_left 1
          · intro w hSw; (try dsimp only at hSw); go_simp; all_goals (with_reducible rfl)
          try simp only [Act.put, List.setIfInBounds_toArray, List.set_cons_zero, List.set_cons_succ]
          refine wpAnyH_take (i := 13) (v := ?_) (by simp only [List.getElem?_toArray]; rfl) (by kernel_rfl) (by kernel_rfl) (by kernel_rfl) (fun _ _ _ h => h) (Or.inl ⟨by rfl, ?_⟩) (by assumption) ?_
          rotate_left 1
          · intro w hSw; (try dsimp only at hSw); go_simp; all_goals (with_reducible rfl)
          try simp only [Act.put, List.setIfInBounds_toArray, List.set_cons_zero, List.set_cons_succ]
          refine wpAnyH_take (i := 14) (v := ?_) (by simp only [List.getElem?_toArray]; rfl) (by kernel_rfl) (by kernel_rfl) (by kernel_rfl) (fun _ _ _ h => h) (Or.inl ⟨by rfl, ?_⟩) (by assumption) ?_
          rotate_left 1
          · intro w hSw; (try dsimp only at hSw); go_simp; all_goals (with_reducible rfl)
          try simp only [Act.put, List.setIfInBounds_toArray, List.set_cons_zero, List.set_cons_succ]
          refine wpAnyH_take (i := 15) (v := ?_) (by simp only [List.getElem?_toArray]; rfl) (by kernel_rfl) (by kernel_rfl) (by kernel_rfl) (fun _ _ _ h => h) (Or.inl ⟨by rfl, ?_⟩) (by assumption) ?_
          rotate_left 1
          · intro w hSw; (try dsimp only at hSw); go_simp; all_goals (with_reducible rfl)
          try simp only [Act.put, List.setIfInBounds_toArray, List.set_cons_zero, List.set_cons_succ]
          refine wpAnyH_take (i := 16) (v := ?_) (by simp only [List.getElem?_toArray]; rfl) (by kernel_rfl) (by kernel_rfl) (by kernel_rfl) (fun _ _ _ h => h) (Or.inl ⟨by rfl, ?_⟩) (by assumption) ?_
          rotate_left 1
          · intro w hSw; (try dsimp only at hSw); go_simp; all_goals (with_reducible rfl)
          try simp only [Act.put, List.setIfInBounds_toArray, List.set_cons_zero, List.set_cons_succ]
          refine wpAnyH_take (i := 17) (v := ?_) (by simp only [List.getElem?_toArray]; rfl) (by kernel_rfl) (by kernel_rfl) (by kernel_rfl) (fun _ _ _ h => h) (Or.inl ⟨by rfl, ?_⟩) (by assumption) ?_
          rotate_left 1
          · intro w hSw; (try dsimp only at hSw); go_simp; all_goals (with_reducible rfl)
          try simp only [Act.put, List.setIfInBounds_toArray, List.set_cons_zero, List.set_cons_succ]
          refine wpAnyH_take (i := 18) (v := ?_) (by simp only [List.getElem?_toArray]; rfl) (by kernel_rfl) (by kernel_rfl) (by kernel_rfl) (fun _ _ _ h => h) (Or.inl ⟨by rfl, ?_⟩) (by assumption) ?_
          rotate_left 1
          · intro w hSw; (try dsimp only at hSw); go_simp; all_goals (with_reducible rfl)
          try simp only [Act.put, List.setIfInBounds_toArray, List.set_cons_zero, List.set_cons_succ]
          refine wpAnyH_take (i := 19) (v := ?_) (by simp only [List.getElem?_toArray]; rfl) (by kernel_rfl) (by kernel_rfl) (by kernel_rfl) (fun _ _ _ h => h) (Or.inl ⟨by rfl, ?_⟩) (by assumption) ?_
          rotate_left 1
          · intro w hSw; (try dsimp only at hSw); go_simp; all_goals (with_reducible rfl)
          try simp only [Act.put, List.setIfInBounds_toArray, List.set_cons_zero, List.set_cons_succ]
          refine wpAnyH_take (i := 20) (v := ?_) (by simp only [List.getElem?_toArray]; rfl) (by kernel_rfl) (by kernel_rfl) (by kernel_rfl) (fun _ _ _ h => h) (Or.inl ⟨by rfl, ?_⟩) (by assumption) ?_
          rotate_left 1
          · intro w hSw; (try dsimp only at hSw); go_simp; all_goals (with_reducible rfl)
          try simp only [Act.put, List.setIfInBounds_toArray, List.set_cons_zero, List.set_cons_succ]
          refine wpAnyH_take (i := 21) (v := ?_) (by simp only [List.getElem?_toArray]; rfl) (by kernel_rfl) (by kernel_rfl) (by kernel_rfl) (fun _ _ _ h => h) (Or.inl ⟨by rfl, ?_⟩) (by assumption) ?_
          rotate_left 1
          · intro w hSw; (try dsimp only at hSw); go_simp; all_goals (with_reducible rfl)
          try simp only [Act.put, List.setIfInBounds_toArray, List.set_cons_zero, List.set_cons_succ]
          refine wpAnyH_take (i := 22) (v := ?_) (by simp only [List.getElem?_toArray]; rfl) (by kernel_rfl) (by kernel_rfl) (by kernel_rfl) (fun _ _ _ h => h) (Or.inl ⟨by rfl, ?_⟩) (by assumption) ?_
          rotate_left 1
          · intro w hSw; (try dsimp only at hSw); go_simp; all_goals (with_reducible rfl)
          try simp only [Act.put, List.setIfInBounds_toArray, List.set_cons_zero, List.set_cons_succ]
          refine wpAnyH_take (i := 23) (v := ?_) (by simp only [List.getElem?_toArray]; rfl) (by kernel_rfl) (by kernel_rfl) (by kernel_rfl) (fun _ _ _ h => h) (Or.inl ⟨by rfl, ?_⟩) (by assumption) ?_
          rotate_left 1
          · intro w hSw; (try dsimp only at hSw); go_simp; all_goals (with_reducible rfl)
          try simp only [Act.put, List.setIfInBounds_toArray, List.set_cons_zero, List.set_cons_succ]
          refine wpAnyH_take (i := 24) (v := ?_) (by simp only [List.getElem?_toArray]; rfl) (by kernel_rfl) (by kernel_rfl) (by kernel_rfl) (fun _ _ _ h => h) (Or.inl ⟨by rfl, ?_⟩) (by assumption) ?_
          rotate_left 1
          · intro w hSw; (try dsimp only at hSw); go_simp; all_goals (with_reducible rfl)
          try simp only [Act.put, List.setIfInBounds_toArray, List.set_cons_zero, List.set_cons_succ]
          refine wpAnyH_take (i := 25) (v := ?_) (by simp only [List.getElem?_toArray]; rfl) (by kernel_rfl) (by kernel_rfl) (by kernel_rfl) (fun _ _ _ h => h) (Or.inl ⟨by rfl, ?_⟩) (by assumption) ?_
          rotate_left 1
          · intro w hSw; (try dsimp only at hSw); go_simp; all_goals (with_reducible rfl)
          try simp only [Act.put, List.setIfInBounds_toArray, List.set_cons_zero, List.set_cons_succ]
          refine wpAnyH_take (i := 26) (v := ?_) (by simp only [List.getElem?_toArray]; rfl) (by kernel_rfl) (by kernel_rfl) (by kernel_rfl) (fun _ _ _ h => h) (Or.inl ⟨by rfl, ?_⟩) (by assumption) ?_
          rotate_left 1
          · intro w hSw; (try dsimp only at hSw); go_simp; all_goals (with_reducible rfl)
          try simp only [Act.put, List.setIfInBounds_toArray, List.set_cons_zero, List.set_cons_succ]
          refine wpAnyH_take (i := 27) (v := ?_) (by simp only [List.getElem?_toArray]; rfl) (by kernel_rfl) (by kernel_rfl) (by kernel_rfl) (fun _ _ _ h => h) (Or.inl ⟨by rfl, ?_⟩) (by assumption) ?_
          rotate_left 1
          · intro w hSw; (try dsimp only at hSw); go_simp; all_goals (with_reducible rfl)
          try simp only [Act.put, List.setIfInBounds_toArray, List.set_cons_zero, List.set_cons_succ]
          refine wpAnyH_ready (rs := [28]) (by kernel_rfl) (by simp) ?_
          refine AllReadyH.cons (by simp only [List.getElem?_toArray]; rfl) (fun K hK => ?_) AllReadyH.nil
          go_simp
          have ga := World.grownBy_alloc wd (.cells #[.int .i64 5] 3) none
          refine hK.out _ _ (KEEP.out _ (World.grownBy.trans HG.out ga)) (fun hHeld => ?_)
          clear hK K
          try simp only [Act.put, List.setIfInBounds_toArray, List.set_cons_zero, List.set_cons_succ]
          clear ga
          refine wpAnyH_ready (rs := [29]) (by kernel_rfl) (by simp) ?_
          refine AllReadyH.cons (by simp only [List.getElem?_toArray]; rfl) (fun K hK => ?_) AllReadyH.nil
          go_simp
          refine (HS_x14.out _ _ _).mono ?_; rintro e we ⟨rfl, g1⟩
          clear hHeld
          replace G := Lib.hid (World.grownBy.trans G.out g1)
          replace HG := Lib.hid (World.grownBy.trans HG.out g1)
          clear g1
          go_wp2_with fail
          refine hK.out _ _ (KEEP.out _ HG.out) (fun hHeld => ?_)
          clear hK K
          try simp only [Act.put, List.setIfInBounds_toArray, List.set_cons_zero, List.set_cons_succ]
          refine wpAnyH_take (i := 30) (v := ?_) (by simp only [List.getElem?_toArray]; rfl) (by kernel_rfl) (by kernel_rfl) (by kernel_rfl) (fun _ _ _ h => h) (Or.inl ⟨by rfl, ?_⟩) (by assumption) ?_
          rotate_left 1
          · intro w hSw; (try dsimp only at hSw); go_simp; all_goals (with_reducible rfl)
          try simp only [Act.put, List.setIfInBounds_toArray, List.set_cons_zero, List.set_cons_succ]
          refine wpAnyH_take (i := 31) (v := ?_) (by simp only [List.getElem?_toArray]; rfl) (by kernel_rfl) (by kernel_rfl) (by kernel_rfl) (fun _ _ _ h => h) (Or.inl ⟨by rfl, ?_⟩) (by assumption) ?_
          rotate_left 1
          · intro w hSw; (try dsimp only at hSw); go_simp; all_goals (with_reducible rfl)
          try simp only [Act.put, List.setIfInBounds_toArray, List.set_cons_zero, List.set_cons_succ]
          refine wpAnyH_take (i := 32) (v := ?_) (by simp only [List.getElem?_toArray]; rfl) (by kernel_rfl) (by kernel_rfl) (by kernel_rfl) (fun _ _ _ h => h) (Or.inl ⟨by rfl, ?_⟩) (by assumption) ?_
          rotate_left 1
          · intro w hSw; (try dsimp only at hSw); go_simp; all_goals (with_reducible rfl)
          try simp only [Act.put, List.setIfInBounds_toArray, List.set_cons_zero, List.set_cons_succ]
          refine wpAnyH_take (i := 33) (v := ?_) (by simp only [List.getElem?_toArray]; rfl) (by kernel_rfl) (by kernel_rfl) (by kernel_rfl) (fun _ _ _ h => h) (Or.inl ⟨by rfl, ?_⟩) (by assumption) ?_
          rotate_left 1
          · intro w hSw; (try dsimp only at hSw); go_simp; all_goals (with_reducible rfl)
          try simp only [Act.put, List.setIfInBounds_toArray, List.set_cons_zero, List.set_cons_succ]
          refine wpAnyH_take (i := 34) (v := ?_) (by simp only [List.getElem?_toArray]; rfl) (by kernel_rfl) (by kernel_rfl) (by kernel_rfl) (fun _ _ _ h => h) (Or.inl ⟨by rfl, ?_⟩) (by assumption) ?_
          rotate_left 1
          · intro w hSw; (try dsimp only at hSw); go_simp; all_goals (with_reducible rfl)
          try simp only [Act.put, List.setIfInBounds_toArray, List.set_cons_zero, List.set_cons_succ]
          refine wpAnyH_take (i := 35) (v := ?_) (by simp only [List.getElem?_toArray]; rfl) (by kernel_rfl) (by kernel_rfl) (by kernel_rfl) (fun _ _ _ h => h) (Or.inl ⟨by rfl, ?_⟩) (by assumption) ?_
          rotate_left 1
          · intro w hSw; (try dsimp only at hSw); go_simp; all_goals (with_reducible rfl)
          try simp only [Act.put, List.setIfInBounds_toArray, List.set_cons_zero, List.set_cons_succ]
          refine wpAnyH_take (i := 36) (v := ?_) (by simp only [List.getElem?_toArray]; rfl) (by kernel_rfl) (by kernel_rfl) (by kernel_rfl) (fun _ _ _ h => h) (Or.inl ⟨by rfl, ?_⟩) (by assumption) ?_
          rotate_left 1
          · intro w hSw; (try dsimp only at hSw); go_simp; all_goals (with_reducible rfl)
          try simp only [Act.put, List.setIfInBounds_toArray, List.set_cons_zero, List.set_cons_succ]
          refine wpAnyH_take (i := 37) (v := ?_) (by simp only [List.getElem?_toArray]; rfl) (by kernel_rfl) (by kernel_rfl) (by kernel_rfl) (fun _ _ _ h => h) (Or.inl ⟨by rfl, ?_⟩) (by assumption) ?_
          rotate_left 1
          · intro w hSw; (try dsimp only at hSw); go_simp; all_goals (with_reducible rfl)
          try simp only [Act.put, List.setIfInBounds_toArray, List.set_cons_zero, List.set_cons_succ]
          refine wpAnyH_take (i := 38) (v := ?_) (by simp only [List.getElem?_toArray]; rfl) (by kernel_rfl) (by kernel_rfl) (by kernel_rfl) (fun _ _ _ h => h) (Or.inl ⟨by rfl, ?_⟩) (by assumption) ?_
          rotate_left 1
          · intro w hSw; (try dsimp only at hSw); go_simp; all_goals (with_reducible rfl)
          try simp only [Act.put, List.setIfInBounds_toArray, List.set_cons_zero, List.set_cons_succ]
          refine wpAnyH_take (i := 39) (v := ?_) (by simp only [List.getElem?_toArray]; rfl) (by kernel_rfl) (by kernel_rfl) (by kernel_rfl) (fun _ _ _ h => h) (Or.inl ⟨by rfl, ?_⟩) (by assumption) ?_
          rotate_left 1
          · intro w hSw; (try dsimp only at hSw); go_simp; all_goals (with_reducible rfl)
          try simp only [Act.put, List.setIfInBounds_toArray, List.set_cons_zero, List.set_cons_succ]
          refine wpAnyH_take (i := 40) (v := ?_) (by simp only [List.getElem?_toArray]; rfl) (by kernel_rfl) (by kernel_rfl) (by kernel_rfl) (fun _ _ _ h => h) (Or.inl ⟨by rfl, ?_⟩) (by assumption) ?_
          rotate_left 1
          · intro w hSw; (try dsimp only at hSw); go_simp; all_goals (with_reducible rfl)
          try simp only [Act.put, List.setIfInBounds_toArray, List.set_cons_zero, List.set_cons_succ]
          refine wpAnyH_take (i := 41) (v := ?_) (by simp only [List.getElem?_toArray]; rfl) (by kernel_rfl) (by kernel_rfl) (by kernel_rfl) (fun _ _ _ h => h) (Or.inl ⟨by rfl, ?_⟩) (by assumption) ?_
          rotate_left 1
          · intro w hSw; (try dsimp only at hSw); go_simp; all_goals (with_reducible rfl)
          try simp only [Act.put, List.setIfInBounds_toArray, List.set_cons_zero, List.set_cons_succ]
          refine wpAnyH_take (i := 42) (v := ?_) (by simp only [List.getElem?_toArray]; rfl) (by kernel_rfl) (by kernel_rfl) (by kernel_rfl) (fun _ _ _ h => h) (Or.inl ⟨by rfl, ?_⟩) (by assumption) ?_
          rotate_left 1
          · intro w hSw; (try dsimp only at hSw); go_simp; all_goals (with_reducible rfl)
          try simp only [Act.put, List.setIfInBounds_toArray, List.set_cons_zero, List.set_cons_succ]
          refine wpAnyH_take (i := 43) (v := ?_) (by simp only [List.getElem?_toArray]; rfl) (by kernel_rfl) (by kernel_rfl) (by kernel_rfl) (fun _ _ _ h => h) (Or.inl ⟨by rfl, ?_⟩) (by assumption) ?_
          rotate_left 1
          · intro w hSw; (try dsimp only at hSw); go_simp; all_goals (with_reducible rfl)
          try simp only [Act.put, List.setIfInBounds_toArray, List.set_cons_zero, List.set_cons_succ]
          refine wpAnyH_take (i := 44) (v := ?_) (by simp only [List.getElem?_toArray]; rfl) (by kernel_rfl) (by kernel_rfl) (by kernel_rfl) (fun _ _ _ h => h) (Or.inl ⟨by rfl, ?_⟩) (by assumption) ?_
          rotate_left 1
          · intro w hSw; (try dsimp only at hSw); go_simp; all_goals (with_reducible rfl)
          try simp only [Act.put, List.setIfInBounds_toArray, List.set_cons_zero, List.set_cons_succ]
          refine wpAnyH_take (i := 45) (v := ?_) (by simp only [List.getElem?_toArray]; rfl) (by kernel_rfl) (by kernel_rfl) (by kernel_rfl) (fun _ _ _ h => h) (Or.inl ⟨by rfl, ?_⟩) (by assumption) ?_
          rotate_left 1
          · intro w hSw; (try dsimp only at hSw); go_simp; all_goals (with_reducible rfl)
          try simp only [Act.put, List.setIfInBounds_toArray, List.set_cons_zero, List.set_cons_succ]
          refine wpAnyH_take (i := 46) (v := ?_) (by simp only [List.getElem?_toArray]; rfl) (by kernel_rfl) (by kernel_rfl) (by kernel_rfl) (fun _ _ _ h => h) (Or.inl ⟨by rfl, ?_⟩) (by assumption) ?_
          rotate_left 1
          · intro w hSw; (try dsimp only at hSw); go_simp; all_goals (with_reducible rfl)
          try simp only [Act.put, List.setIfInBounds_toArray, List.set_cons_zero, List.set_cons_succ]
          refine wpAnyH_take (i := 47) (v := ?_) (by simp only [List.getElem?_toArray]; rfl) (by kernel_rfl) (by kernel_rfl) (by kernel_rfl) (fun _ _ _ h => h) (Or.inl ⟨by rfl, ?_⟩) (by assumption) ?_
          rotate_left 1
          · intro w hSw; (try dsimp only at hSw); go_simp; all_goals (with_reducible rfl)
          try simp only [Act.put, List.setIfInBounds_toArray, List.set_cons_zero, List.set_cons_succ]
          refine wpAnyH_take (i := 48) (v := ?_) (by simp only [List.getElem?_toArray]; rfl) (by kernel_rfl) (by kernel_rfl) (by kernel_rfl) (fun _ _ _ h => h) (Or.inl ⟨by rfl, ?_⟩) (by assumption) ?_
          rotate_left 1
          · intro w hSw; (try dsimp only at hSw); go_simp; all_goals (with_reducible rfl)
          try simp only [Act.put, List.setIfInBounds_toArray, List.set_cons_zero, List.set_cons_succ]
          refine wpAnyH_take (i := 49) (v := ?_) (by simp only [List.getElem?_toArray]; rfl) (by kernel_rfl) (by kernel_rfl) (by kernel_rfl) (fun _ _ _ h => h) (Or.inl ⟨by rfl, ?_⟩) (by assumption) ?_
          rotate_left 1
          · intro w hSw; (try dsimp only at hSw); go_simp; all_goals (with_reducible rfl)
          try simp only [Act.put, List.setIfInBounds_toArray, List.set_cons_zero, List.set_cons_succ]
          refine wpAnyH_take (i := 50) (v := ?_) (by simp only [List.getElem?_toArray]; rfl) (by kernel_rfl) (by kernel_rfl) (by kernel_rfl) (fun _ _ _ h => h) (Or.inl ⟨by rfl, ?_⟩) (by assumption) ?_
          rotate_left 1
          · intro w hSw; (try dsimp only at hSw); go_simp; all_goals (with_reducible rfl)
          try simp only [Act.put, List.setIfInBounds_toArray, List.set_cons_zero, List.set_cons_succ]
          refine wpAnyH_take (i := 51) (v := ?_) (by simp only [List.getElem?_toArray]; rfl) (by kernel_rfl) (by kernel_rfl) (by kernel_rfl) (fun _ _ _ h => h) (Or.inl ⟨by rfl, ?_⟩) (by assumption) ?_
          rotate_left 1
          · intro w hSw; (try dsimp only at hSw); go_simp; all_goals (with_reducible rfl)
          try simp only [Act.put, List.setIfInBounds_toArray, List.set_cons_zero, List.set_cons_succ]
          refine wpAnyH_take (i := 52) (v := ?_) (by simp only [List.getElem?_toArray]; rfl) (by kernel_rfl) (by kernel_rfl) (by kernel_rfl) (fun _ _ _ h => h) (Or.inl ⟨by rfl, ?_⟩) (by assumption) ?_
          rotate_left 1
          · intro w hSw; (try dsimp only at hSw); go_simp; all_goals (with_reducible rfl)
          try simp only [Act.put, List.setIfInBounds_toArray, List.set_cons_zero, List.set_cons_succ]
          refine wpAnyH_take (i := 53) (v := ?_) (by simp only [List.getElem?_toArray]; rfl) (by kernel_rfl) (by kernel_rfl) (by kernel_rfl) (fun _ _ _ h => h) (Or.inl ⟨by rfl, ?_⟩) (by assumption) ?_
          rotate_left 1
          · intro w hSw; (try dsimp only at hSw); go_simp; all_goals (with_reducible rfl)
          try simp only [Act.put, List.setIfInBounds_toArray, List.set_cons_zero, List.set_cons_succ]
          refine wpAnyH_take (i := 54) (v := ?_) (by simp only [List.getElem?_toArray]; rfl) (by kernel_rfl) (by kernel_rfl) (by kernel_rfl) (fun _ _ _ h => h) (Or.inl ⟨by rfl, ?_⟩) (by assumption) ?_
          rotate_left 1
          · intro w hSw; (try dsimp only at hSw); go_simp; all_goals (with_reducible rfl)
          try simp only [Act.put, List.setIfInBounds_toArray, List.set_cons_zero, List.set_cons_succ]
          refine wpAnyH_take (i := 55) (v := ?_) (by simp only [List.getElem?_toArray]; rfl) (by kernel_rfl) (by kernel_rfl) (by kernel_rfl) (fun _ _ _ h => h) (Or.inl ⟨by rfl, ?_⟩) (by assumption) ?_
          rotate_left 1
          · intro w hSw; (try dsimp only at hSw); go_simp; all_goals (with_reducible rfl)
          try simp only [Act.put, List.setIfInBounds_toArray, List.set_cons_zero, List.set_cons_succ]
          refine wpAnyH_take (i := 56) (v := ?_) (by simp only [List.getElem?_toArray]; rfl) (by kernel_rfl) (by kernel_rfl) (by kernel_rfl) (fun _ _ _ h => h) (Or.inl ⟨by rfl, ?_⟩) (by assumption) ?_
          rotate_left 1
          · intro w hSw; (try dsimp only at hSw); go_simp; all_goals (with_reducible rfl)
          try simp only [Act.put, List.setIfInBounds_toArray, List.set_cons_zero, List.set_cons_succ]
          refine wpAnyH_take (i := 57) (v := ?_) (by simp only [List.getElem?_toArray]; rfl) (by kernel_rfl) (by kernel_rfl) (by kernel_rfl) (fun _ _ _ h => h) (Or.inl ⟨by rfl, ?_⟩) (by assumption) ?_
          rotate_left 1
          · intro w hSw; (try dsimp only at hSw); go_simp; all_goals (with_reducible rfl)
          try simp only [Act.put, List.setIfInBounds_toArray, List.set_cons_zero, List.set_cons_succ]
          refine wpAnyH_take (i := 58) (v := ?_) (by simp only [List.getElem?_toArray]; rfl) (by kernel_rfl) (by kernel_rfl) (by kernel_rfl) (fun _ _ _ h => h) (Or.inl ⟨by rfl, ?_⟩) (by assumption) ?_
          rotate_left 1
          · intro w hSw; (try dsimp only at hSw); go_simp; all_goals (with_reducible rfl)
          try simp only [Act.put, List.setIfInBounds_toArray, List.set_cons_zero, List.set_cons_succ]
          refine wpAnyH_take (i := 59) (v := ?_) (by simp only [List.getElem?_toArray]; rfl) (by kernel_rfl) (by kernel_rfl) (by kernel_rfl) (fun _ _ _ h => h) (Or.inl ⟨by rfl, ?_⟩) (by assumption) ?_
          rotate_left 1
          · intro w hSw; (try dsimp only at hSw); go_simp; all_goals (with_reducible rfl)
          try simp only [Act.put, List.setIfInBounds_toArray, List.set_cons_zero, List.set_cons_succ]
          refine wpAnyH_take (i := 60) (v := ?_) (by simp only [List.getElem?_toArray]; rfl) (by kernel_rfl) (by kernel_rfl) (by kernel_rfl) (fun _ _ _ h => h) (Or.inl ⟨by rfl, ?_⟩) (by assumption) ?_
          rotate_left 1
          · intro w hSw; (try dsimp only at hSw); go_simp; all_goals (with_reducible rfl)
          try simp only [Act.put, List.setIfInBounds_toArray, List.set_cons_zero, List.set_cons_succ]
          refine wpAnyH_take (i := 61) (v := ?_) (by simp only [List.getElem?_toArray]; rfl) (by kernel_rfl) (by kernel_rfl) (by kernel_rfl) (fun _ _ _ h => h) (Or.inl ⟨by rfl, ?_⟩) (by assumption) ?_
          rotate_left 1
          · intro w hSw; (try dsimp only at hSw); go_simp; all_goals (with_reducible rfl)
          try simp only [Act.put, List.setIfInBounds_toArray, List.set_cons_zero, List.set_cons_succ]
          refine wpAnyH_take (i := 62) (v := ?_) (by simp only [List.getElem?_toArray]; rfl) (by kernel_rfl) (by kernel_rfl) (by kernel_rfl) (fun _ _ _ h => h) (Or.inl ⟨by rfl, ?_⟩) (by assumption) ?_
          rotate_left 1
          · intro w hSw; (try dsimp only at hSw); go_simp; all_goals (with_reducible rfl)
          try simp only [Act.put, List.setIfInBounds_toArray, List.set_cons_zero, List.set_cons_succ]
          refine wpAnyH_take (i := 63) (v := ?_) (by simp only [List.getElem?_toArray]; rfl) (by kernel_rfl) (by kernel_rfl) (by kernel_rfl) (fun _ _ _ h => h) (Or.inl ⟨by rfl, ?_⟩) (by assumption) ?_
          rotate_left 1
          · intro w hSw; (try dsimp only at hSw); go_simp; all_goals (with_reducible rfl)
          try simp only [Act.put, List.setIfInBounds_toArray, List.set_cons_zero, List.set_cons_succ]
          refine wpAnyH_take (i := 64) (v := ?_) (by simp only [List.getElem?_toArray]; rfl) (by kernel_rfl) (by kernel_rfl) (by kernel_rfl) (fun _ _ _ h => h) (Or.inl ⟨by rfl, ?_⟩) (by assumption) ?_
          rotate_left 1
          · intro w hSw; (try dsimp only at hSw); go_simp; all_goals (with_reducible rfl)
          try simp only [Act.put, List.setIfInBounds_toArray, List.set_cons_zero, List.set_cons_succ]
          refine wpAnyH_take (i := 65) (v := ?_) (by simp only [List.getElem?_toArray]; rfl) (by kernel_rfl) (by kernel_rfl) (by kernel_rfl) (fun _ _ _ h => h) (Or.inl ⟨by rfl, ?_⟩) (by assumption) ?_
          rotate_left 1
          · intro w hSw; (try dsimp only at hSw); go_simp; all_goals (with_reducible rfl)
          try simp only [Act.put, List.setIfInBounds_toArray, List.set_cons_zero, List.set_cons_succ]
          refine wpAnyH_take (i := 66) (v := ?_) (by simp only [List.getElem?_toArray]; rfl) (by kernel_rfl) (by kernel_rfl) (by kernel_rfl) (fun _ _ _ h => h) (Or.inl ⟨by rfl, ?_⟩) (by assumption) ?_
          rotate_left 1
          · intro w hSw; (try dsimp only at hSw); go_simp; all_goals (with_reducible rfl)
          try simp only [Act.put, List.setIfInBounds_toArray, List.set_cons_zero, List.set_cons_succ]
          refine wpAnyH_take (i := 67) (v := ?_) (by simp only [List.getElem?_toArray]; rfl) (by kernel_rfl) (by kernel_rfl) (by kernel_rfl) (fun _ _ _ h => h) (Or.inl ⟨by rfl, ?_⟩) (by assumption) ?_
          rotate_left 1
          · intro w hSw; (try dsimp only at hSw); go_simp; all_goals (with_reducible rfl)
          try simp only [Act.put, List.setIfInBounds_toArray, List.set_cons_zero, List.set_cons_succ]
          refine wpAnyH_ready (rs := [68]) (by kernel_rfl) (by simp) ?_
          refine AllReadyH.cons (by simp only [List.getElem?_toArray]; rfl) (fun K hK => ?_) AllReadyH.nil
          go_simp
          refine hK.out _ _ (KEEP.out _ HG.out) (fun hHeld => ?_)
          clear hK K
          try simp only [Act.put, List.setIfInBounds_toArray, List.set_cons_zero, List.set_cons_succ]
          refine wpAnyH_done (by kernel_rfl) ?_ _
          refine NoPanic.normal ?_
          go_wp2_with fail
          go_ret
          exact ⟨rfl, G.out⟩
end Go.Proofs.Ytkhlmfnfcdhceaa
