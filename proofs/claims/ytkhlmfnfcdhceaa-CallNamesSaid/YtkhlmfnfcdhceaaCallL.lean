/- The example that each statement asks first. -/
import Derived.Test.YtkhlmfnfcdhceaaCallK
namespace Go.Proofs.Ytkhlmfnfcdhceaa
open Go.RowKit

theorem words_at (zs : List Int) {w : World} {k c : Nat} {xs : Array Value} {t : TypeId} (hk : k = w.heap.size) (e : xs = (zs.map iv).toArray) (hl : zs.length ≤ 1000) :
    Calls Try.prog 12 #[.slice (some ⟨k, 0, none⟩) zs.length c] (w.alloc (.cells xs t)) (TX w (cat (zs.map w32))) := by
  subst hk e
  refine (words_any _ _ zs _ hl fun i hi => ?_).mono fun _ _ h => ⟨h.1, World.grownBy.trans (World.grownBy_alloc _ _ _) h.2⟩
  exact (Blk.made w t _).cell (by simp [List.getElem?_eq_getElem hi, iv])

theorem Read_l (l : List UInt8) (w : World) (hs : l.length ≤ 1000000000) : Calls Try.prog 13 #[.string ⟨l.toArray⟩] w (HT w (cRead l)) := Read_any ⟨l.toArray⟩ w hs
theorem Hear_l (l : List UInt8) (w : World) (hs : l.length ≤ 1000000000) : Calls Try.prog 14 #[.string ⟨l.toArray⟩] w (AT w (cHear l)) := Hear_any ⟨l.toArray⟩ w hs

def b0 : List UInt8 := cat ([7, 0, 284, 3, 1, 1].map w32)
def b1 : List UInt8 := cat ([7, 0, 285, 3, 1, 1].map w32)
def b2 : List UInt8 := cat ([7, 0, 284, 3, 1, 19].map w32)
def b3 : List UInt8 := cat ([7, 0, 284, 3, 17, 1].map w32)
def b4 : List UInt8 := cat ([7, 1, 62].map w32)
theorem wr_b0 : cWrite ⟨1, 7, 1, []⟩ = (b0, 0) := by decide
theorem rd_b0 : cRead b0 = (⟨1, 7, 1, []⟩, 0) := rfl
theorem rd_b1 : cRead b1 = (⟨1, 7, 1, []⟩, 63) := rfl
theorem rd_b2 : cRead b2 = (⟨1, 7, 19, []⟩, 62) := rfl
theorem rd_b3 : cRead b3 = (noHd, 4) := rfl
theorem tl_b4 : cTell ⟨7, 62, []⟩ = (b4, 0) := by decide

set_option maxRecDepth 10000 in
set_option maxHeartbeats 2000000 in
theorem works_any (w : World) : Calls Try.prog 9 #[] w fun e w' => e = .returned (.bool true) ∧ w.grownBy w' none := by
  have HW := Lib.hid (fun w => Write_any ⟨1, 7, 1, []⟩ w (by unfold isI; simp) (by unfold isI; simp) (by simp))
  rw [wr_b0] at HW
  have HR0 := Lib.hid (fun w => Read_l b0 w (by decide))
  have HR1 := Lib.hid (fun w => Read_l b1 w (by decide))
  have HR2 := Lib.hid (fun w => Read_l b2 w (by decide))
  have HR3 := Lib.hid (fun w => Read_l b3 w (by decide))
  rw [rd_b0] at HR0
  rw [rd_b1] at HR1
  rw [rd_b2] at HR2
  rw [rd_b3] at HR3
  have HT4 := Lib.hid (fun w => Tell_any ⟨7, 62, []⟩ w (by unfold isI; simp) (by simp))
  rw [tl_b4] at HT4
  have HS0 := Lib.hid (fun (w : World) c t => words_at (c := c) (t := t) [7, 0, 284, 3, 1, 1] (w := w) rfl rfl (by simp))
  have HS1 := Lib.hid (fun (w : World) c t => words_at (c := c) (t := t) [7, 0, 285, 3, 1, 1] (w := w) rfl rfl (by simp))
  have HS2 := Lib.hid (fun (w : World) c t => words_at (c := c) (t := t) [7, 0, 284, 3, 1, 19] (w := w) rfl rfl (by simp))
  have HS3 := Lib.hid (fun (w : World) c t => words_at (c := c) (t := t) [7, 0, 284, 3, 17, 1] (w := w) rfl rfl (by simp))
  have HS4 := Lib.hid (fun (w : World) c t => words_at (c := c) (t := t) [7, 1, 62] (w := w) rfl rfl (by simp))
  rw [show cat ([7, 0, 284, 3, 1, 1].map w32) = b0 from rfl] at HS0
  rw [show cat ([7, 0, 285, 3, 1, 1].map w32) = b1 from rfl] at HS1
  rw [show cat ([7, 0, 284, 3, 1, 19].map w32) = b2 from rfl] at HS2
  rw [show cat ([7, 0, 284, 3, 17, 1].map w32) = b3 from rfl] at HS3
  rw [show cat ([7, 1, 62].map w32) = b4 from rfl] at HS4
  generalize b0 = x0 at *
  generalize b1 = x1 at *
  generalize b2 = x2 at *
  generalize b3 = x3 at *
  generalize b4 = x4 at *
  go_enter Try.func9, Try.ntmps9
  go_wp2_with fail
  refine (HW.out _).mono ?_; rintro e w1 ⟨rfl, g1⟩
  have G := Lib.hid g1; clear g1
  unfold txt
  go_wp2_with fail
  refine (HS0.out _ _ _).mono ?_; rintro e w2 ⟨rfl, g1⟩
  replace G := Lib.hid (World.grownBy.trans G.out g1)
  clear g1
  go_wp2_with fail
  refine (HR0.out _).mono ?_; rintro e w3 ⟨rfl, g1⟩
  replace G := Lib.hid (World.grownBy.trans G.out g1)
  clear g1
  unfold hdV txt
  go_wp2_with fail
  have B0 := Lib.hid (Blk.made w3 25 #[.int .i64 1, .int .i64 7, .int .i64 1, .string ⟨#[]⟩])
  have ga := World.grownBy_alloc w3 (.cells #[.int .i64 1, .int .i64 7, .int .i64 1, .string ⟨#[]⟩] 25) none
  replace G := Lib.hid (World.grownBy.trans G.out ga)
  clear ga
  rw [show w3.heap.size + 1 = (w3.alloc (.cells #[.int .i64 1, .int .i64 7, .int .i64 1, .string ⟨#[]⟩] 25)).heap.size by simp]
  generalize w3.alloc (.cells #[.int .i64 1, .int .i64 7, .int .i64 1, .string ⟨#[]⟩] 25) = u0 at *
  generalize w3.heap.size = K0 at *
  refine (HS1.out _ _ _).mono ?_; rintro e w4 ⟨rfl, g1⟩
  replace G := Lib.hid (World.grownBy.trans G.out g1)
  replace B0 := Lib.hid (B0.out.new g1)
  clear g1
  go_wp2_with fail
  refine (HR1.out _).mono ?_; rintro e w5 ⟨rfl, g1⟩
  replace G := Lib.hid (World.grownBy.trans G.out g1)
  replace B0 := Lib.hid (B0.out.new g1)
  clear g1
  unfold hdV txt
  go_wp2_with fail
  have B1 := Lib.hid (Blk.made w5 25 #[.int .i64 1, .int .i64 7, .int .i64 1, .string ⟨#[]⟩])
  have ga := World.grownBy_alloc w5 (.cells #[.int .i64 1, .int .i64 7, .int .i64 1, .string ⟨#[]⟩] 25) none
  replace G := Lib.hid (World.grownBy.trans G.out ga)
  replace B0 := Lib.hid (B0.out.new ga)
  clear ga
  rw [show w5.heap.size + 1 = (w5.alloc (.cells #[.int .i64 1, .int .i64 7, .int .i64 1, .string ⟨#[]⟩] 25)).heap.size by simp]
  generalize w5.alloc (.cells #[.int .i64 1, .int .i64 7, .int .i64 1, .string ⟨#[]⟩] 25) = u1 at *
  generalize w5.heap.size = K1 at *
  refine (HS2.out _ _ _).mono ?_; rintro e w6 ⟨rfl, g1⟩
  replace G := Lib.hid (World.grownBy.trans G.out g1)
  replace B0 := Lib.hid (B0.out.new g1)
  replace B1 := Lib.hid (B1.out.new g1)
  clear g1
  go_wp2_with fail
  refine (HR2.out _).mono ?_; rintro e w7 ⟨rfl, g1⟩
  replace G := Lib.hid (World.grownBy.trans G.out g1)
  replace B0 := Lib.hid (B0.out.new g1)
  replace B1 := Lib.hid (B1.out.new g1)
  clear g1
  unfold hdV txt
  go_wp2_with fail
  have B2 := Lib.hid (Blk.made w7 25 #[.int .i64 1, .int .i64 7, .int .i64 19, .string ⟨#[]⟩])
  have ga := World.grownBy_alloc w7 (.cells #[.int .i64 1, .int .i64 7, .int .i64 19, .string ⟨#[]⟩] 25) none
  replace G := Lib.hid (World.grownBy.trans G.out ga)
  replace B0 := Lib.hid (B0.out.new ga)
  replace B1 := Lib.hid (B1.out.new ga)
  clear ga
  rw [show w7.heap.size + 1 = (w7.alloc (.cells #[.int .i64 1, .int .i64 7, .int .i64 19, .string ⟨#[]⟩] 25)).heap.size by simp]
  generalize w7.alloc (.cells #[.int .i64 1, .int .i64 7, .int .i64 19, .string ⟨#[]⟩] 25) = u2 at *
  generalize w7.heap.size = K2 at *
  refine (HS3.out _ _ _).mono ?_; rintro e w8 ⟨rfl, g1⟩
  replace G := Lib.hid (World.grownBy.trans G.out g1)
  replace B0 := Lib.hid (B0.out.new g1)
  replace B1 := Lib.hid (B1.out.new g1)
  clear g1
  go_wp2_with fail
  refine (HR3.out _).mono ?_; rintro e w9 ⟨rfl, g1⟩
  replace G := Lib.hid (World.grownBy.trans G.out g1)
  replace B0 := Lib.hid (B0.out.new g1)
  replace B1 := Lib.hid (B1.out.new g1)
  clear g1
  unfold hdV noHd txt
  go_wp2_with fail
  have B3 := Lib.hid (Blk.made w9 25 #[.int .i64 0, .int .i64 0, .int .i64 0, .string ⟨#[]⟩])
  have ga := World.grownBy_alloc w9 (.cells #[.int .i64 0, .int .i64 0, .int .i64 0, .string ⟨#[]⟩] 25) none
  replace G := Lib.hid (World.grownBy.trans G.out ga)
  replace B0 := Lib.hid (B0.out.new ga)
  replace B1 := Lib.hid (B1.out.new ga)
  clear ga
  generalize w9.alloc (.cells #[.int .i64 0, .int .i64 0, .int .i64 0, .string ⟨#[]⟩] 25) = u3 at *
  generalize w9.heap.size = K3 at *
  refine (HT4.out _).mono ?_; rintro e w10 ⟨rfl, g1⟩
  replace G := Lib.hid (World.grownBy.trans G.out g1)
  replace B0 := Lib.hid (B0.out.new g1)
  replace B1 := Lib.hid (B1.out.new g1)
  clear g1
  unfold txt
  clear B2 B3 HR0 HR1 HR2 HR3 HS1 HS2 HS3 HT4 HW
  go_wp2_with fail
  refine (HS0.out _ _ _).mono ?_; rintro e v1 ⟨rfl, g1⟩
  replace G := Lib.hid (World.grownBy.trans G.out g1)
  have hb := B0.out.new g1
  have hb1 := B1.out.new g1
  clear g1 B0 B1
  have c0 := hb.cell (i := 0) (x := .int .i64 1) rfl
  have c1 := hb.cell (i := 1) (x := .int .i64 7) rfl
  have c2 := hb.cell (i := 2) (x := .int .i64 1) rfl
  have c3 := hb.cell (i := 3) (x := .string ⟨#[]⟩) rfl
  have d1 := hb1.cell (i := 1) (x := .int .i64 7) rfl
  clear hb hb1
  go_wp2_with fail
  refine (HS4.out _ _ _).mono ?_; rintro e v2 ⟨rfl, g1⟩
  replace G := Lib.hid (World.grownBy.trans G.out g1)
  clear g1 c0 c1 c2 c3 d1
  go_wp2_with fail
  go_ret
  exact ⟨rfl, G.out⟩
end Go.Proofs.Ytkhlmfnfcdhceaa
