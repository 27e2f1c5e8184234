/- CallReads, walked. -/
import Derived.Test.YtkhlmfnfcdhceaaCallM
namespace Go.Proofs.Ytkhlmfnfcdhceaa
open Go.RowKit

set_option maxRecDepth 10000 in
set_option maxHeartbeats 2000000 in
theorem creads_long (s : ByteArray) (W : World) (hs : s.size ≤ maxLen) (h : 10000 < s.size) : Calls Try.prog 5 #[.string s] W (OK1 W) := by
  have q1 : (s.size : Int) ≤ 9223372036854775807 := by unfold maxLen at hs; omega
  have q2 : (10000 : Int) < s.size := by omega
  clear h hs
  go_enter Try.func5, Try.ntmps5
  go_wp2_with fail
  go_ret
  exact ⟨rfl, World.grownBy.refl _ _⟩

set_option maxRecDepth 10000 in
set_option maxHeartbeats 4000000 in
theorem creads_short (s : ByteArray) (W : World) (hs : s.size ≤ 10000) : Calls Try.prog 5 #[.string s] W (OK1 W) := by
  have HR1 := Lib.hid (fun w => Read_any s w (by omega))
  have HR2 := Lib.hid (fun w => rRead_any s w (by omega))
  have HA1 := Lib.hid (fun w => Hear_any s w (by omega))
  have HA2 := Lib.hid (fun w => rHear_any s w (by omega))
  have q1 : (s.size : Int) ≤ 10000 := by omega
  clear hs
  generalize cRead s.data.toList = r1 at *
  generalize cHear s.data.toList = r2 at *
  obtain ⟨⟨c, x, p, b⟩, e1⟩ := r1
  obtain ⟨⟨y, f, d⟩, e2⟩ := r2
  go_enter Try.func5, Try.ntmps5
  go_wp2_with fail
  refine (HR1.out _).mono ?_; rintro e w1 ⟨rfl, g1⟩
  have G := Lib.hid (g1)
  clear g1
  try unfold hdV txt
  go_wp2_with fail
  have hb := Blk.made w1 25 #[.int .i64 c, .int .i64 x, .int .i64 p, .string ⟨b.toArray⟩]
  have ga := World.grownBy_alloc w1 (.cells #[.int .i64 c, .int .i64 x, .int .i64 p, .string ⟨b.toArray⟩] 25) none
  have hle := G.out.size
  replace G := Lib.hid (World.grownBy.trans G.out ga)
  generalize w1.alloc (.cells #[.int .i64 c, .int .i64 x, .int .i64 p, .string ⟨b.toArray⟩] 25) = w2 at *
  generalize w1.heap.size = K_h1 at *
  have B_h1 := Lib.hid hb
  have E_h1 := Lib.hid hle
  clear hb ga hle
  refine (HR2.out _).mono ?_; rintro e w3 ⟨rfl, g1⟩
  replace G := Lib.hid (World.grownBy.trans G.out g1)
  replace B_h1 := Lib.hid (B_h1.out.new g1)
  clear g1
  try unfold hdV txt
  go_wp2_with fail
  have hb := Blk.made w3 42 #[.int .i64 c, .int .i64 x, .int .i64 p, .string ⟨b.toArray⟩]
  have ga := World.grownBy_alloc w3 (.cells #[.int .i64 c, .int .i64 x, .int .i64 p, .string ⟨b.toArray⟩] 42) none
  have hle := G.out.size
  have n_h1 := B_h1.out.lt
  replace G := Lib.hid (World.grownBy.trans G.out ga)
  replace B_h1 := Lib.hid (B_h1.out.new ga)
  generalize w3.alloc (.cells #[.int .i64 c, .int .i64 x, .int .i64 p, .string ⟨b.toArray⟩] 42) = w4 at *
  generalize w3.heap.size = K_h2 at *
  have N_h1_h2 := Lib.hid n_h1
  clear n_h1
  have B_h2 := Lib.hid hb
  have E_h2 := Lib.hid hle
  clear hb ga hle
  refine (HA1.out _).mono ?_; rintro e w5 ⟨rfl, g1⟩
  replace G := Lib.hid (World.grownBy.trans G.out g1)
  replace B_h1 := Lib.hid (B_h1.out.new g1)
  replace B_h2 := Lib.hid (B_h2.out.new g1)
  clear g1
  try unfold anV txt
  go_wp2_with fail
  have hb := Blk.made w5 38 #[.int .i64 y, .int .i64 f, .string ⟨d.toArray⟩]
  have ga := World.grownBy_alloc w5 (.cells #[.int .i64 y, .int .i64 f, .string ⟨d.toArray⟩] 38) none
  have hle := G.out.size
  have n_h1 := B_h1.out.lt
  have n_h2 := B_h2.out.lt
  replace G := Lib.hid (World.grownBy.trans G.out ga)
  replace B_h1 := Lib.hid (B_h1.out.new ga)
  replace B_h2 := Lib.hid (B_h2.out.new ga)
  generalize w5.alloc (.cells #[.int .i64 y, .int .i64 f, .string ⟨d.toArray⟩] 38) = w6 at *
  generalize w5.heap.size = K_a1 at *
  have N_h1_a1 := Lib.hid n_h1
  clear n_h1
  have N_h2_a1 := Lib.hid n_h2
  clear n_h2
  have B_a1 := Lib.hid hb
  have E_a1 := Lib.hid hle
  clear hb ga hle
  refine (HA2.out _).mono ?_; rintro e w7 ⟨rfl, g1⟩
  replace G := Lib.hid (World.grownBy.trans G.out g1)
  replace B_h1 := Lib.hid (B_h1.out.new g1)
  replace B_h2 := Lib.hid (B_h2.out.new g1)
  replace B_a1 := Lib.hid (B_a1.out.new g1)
  clear g1
  try unfold anV txt
  have ga := World.grownBy_alloc w7 (.cells #[.int .i64 y, .int .i64 f, .string ⟨d.toArray⟩] 43) none
  replace G := Lib.hid (World.grownBy.trans G.out ga)
  replace B_h1 := Lib.hid (B_h1.out.new ga)
  replace B_h2 := Lib.hid (B_h2.out.new ga)
  replace B_a1 := Lib.hid (B_a1.out.new ga)
  clear ga
  have c_h1_0 := B_h1.out.cell (i := 0) (x := .int .i64 c) rfl
  have c_h1_1 := B_h1.out.cell (i := 1) (x := .int .i64 x) rfl
  have c_h1_2 := B_h1.out.cell (i := 2) (x := .int .i64 p) rfl
  have c_h1_3 := B_h1.out.cell (i := 3) (x := .string ⟨b.toArray⟩) rfl
  have c_h2_0 := B_h2.out.cell (i := 0) (x := .int .i64 c) rfl
  have c_h2_1 := B_h2.out.cell (i := 1) (x := .int .i64 x) rfl
  have c_h2_2 := B_h2.out.cell (i := 2) (x := .int .i64 p) rfl
  have c_h2_3 := B_h2.out.cell (i := 3) (x := .string ⟨b.toArray⟩) rfl
  have c_a1_0 := B_a1.out.cell (i := 0) (x := .int .i64 y) rfl
  have c_a1_1 := B_a1.out.cell (i := 1) (x := .int .i64 f) rfl
  have c_a1_2 := B_a1.out.cell (i := 2) (x := .string ⟨d.toArray⟩) rfl
  go_wp2_with fail
  clear c_h1_0 c_h1_1 c_h1_2 c_h1_3 c_h2_0 c_h2_1 c_h2_2 c_h2_3 c_a1_0 c_a1_1 c_a1_2
  go_ret
  exact ⟨rfl, G.out⟩

theorem creads_walk (s : ByteArray) (hs : s.size ≤ maxLen) (W : World) : Calls Try.prog 5 #[.string s] W fun e w' => e = .returned (.bool true) ∧ W.grownBy w' none := by
  by_cases h : 10000 < s.size
  · exact creads_long s W hs h
  · exact creads_short s W (by omega)
end Go.Proofs.Ytkhlmfnfcdhceaa
