/- CallWrites, walked. -/
import Derived.Test.YtkhlmfnfcdhceaaCallL
import Derived.Test.YtkhlmfnfcdhceaaOpenS
import Derived.Test.YtkhlmfnfcdhceaaLaw
namespace Go.Proofs.Ytkhlmfnfcdhceaa
open Go.RowKit

def HdIn (v : Value) : Prop := ∃ h : Hd, v = hdV h ∧ isI h.c ∧ isI h.x ∧ isI h.p ∧ h.b.length ≤ maxLen
def AnIn (v : Value) : Prop := ∃ a : An, v = anV a ∧ isI a.x ∧ isI a.e ∧ a.b.length ≤ maxLen

theorem isI_of {n : Int} (h : (Lit.int .i64 n).wf = true) : isI n := by
  simp [Lit.wf, IntKind.min, IntKind.max, IntKind.signed, IntKind.bits] at h
  unfold isI
  omega

theorem bytes_list (s : ByteArray) : (⟨s.data.toList.toArray⟩ : ByteArray) = s := by
  apply ByteArray.ext
  simp

theorem HdIn.of {H : Type} {x : DataW H} {v : Value} (h : ∃ (a b c : Int) (s : ByteArray), v = .agg #[.int .i64 a, .int .i64 b, .int .i64 c, .string s] ∧ ((Lit.int .i64 a).wf = true ∧ (Lit.int .i64 b).wf = true ∧ (Lit.int .i64 c).wf = true) ∧ s.size ≤ maxLen ∧ ∃ d0 d1 d2, x = .agg [d0, d1, d2, .lit (.string s.data.toList)]) : HdIn v := by
  obtain ⟨a, b, c, s, rfl, ⟨h1, h2, h3⟩, h4, _⟩ := h
  exact ⟨⟨a, b, c, s.data.toList⟩, by unfold hdV txt; rw [bytes_list], isI_of h1, isI_of h2, isI_of h3, by simpa using h4⟩
theorem AnIn.of {H : Type} {x : DataW H} {v : Value} (h : ∃ (a b : Int) (s : ByteArray), v = .agg #[.int .i64 a, .int .i64 b, .string s] ∧ ((Lit.int .i64 a).wf = true ∧ (Lit.int .i64 b).wf = true) ∧ s.size ≤ maxLen ∧ ∃ d0 d1, x = .agg [d0, d1, .lit (.string s.data.toList)]) : AnIn v := by
  obtain ⟨a, b, s, rfl, ⟨h1, h2⟩, h4, _⟩ := h
  exact ⟨⟨a, b, s.data.toList⟩, by unfold anV txt; rw [bytes_list], isI_of h1, isI_of h2, by simpa using h4⟩

/-- As these, with the reach of a text on any machine. -/
def HdInZ (v : Value) : Prop := ∃ h : Hd, v = hdV h ∧ isI h.c ∧ isI h.x ∧ isI h.p ∧ h.b.length ≤ 140737488355328
def AnInZ (v : Value) : Prop := ∃ a : An, v = anV a ∧ isI a.x ∧ isI a.e ∧ a.b.length ≤ 140737488355328
theorem HdInZ.of {H : Type} {x : DataW H} {v : Value} (h : ∃ (a b c : Int) (s : ByteArray), v = .agg #[.int .i64 a, .int .i64 b, .int .i64 c, .string s] ∧ ((Lit.int .i64 a).wf = true ∧ (Lit.int .i64 b).wf = true ∧ (Lit.int .i64 c).wf = true) ∧ s.size ≤ maxLen ∧ ∃ d0 d1 d2, x = .agg [d0, d1, d2, .lit (.string s.data.toList)])
    (hr : ∀ d0 d1 d2 l, x = .agg [d0, d1, d2, .lit (.string l)] → l.length ≤ 140737488355328) : HdInZ v := by
  obtain ⟨a, b, c, s, rfl, ⟨h1, h2, h3⟩, h4, d0, d1, d2, e⟩ := h
  exact ⟨⟨a, b, c, s.data.toList⟩, by unfold hdV txt; rw [bytes_list], isI_of h1, isI_of h2, isI_of h3, hr _ _ _ _ e⟩
theorem AnInZ.of {H : Type} {x : DataW H} {v : Value} (h : ∃ (a b : Int) (s : ByteArray), v = .agg #[.int .i64 a, .int .i64 b, .string s] ∧ ((Lit.int .i64 a).wf = true ∧ (Lit.int .i64 b).wf = true) ∧ s.size ≤ maxLen ∧ ∃ d0 d1, x = .agg [d0, d1, .lit (.string s.data.toList)])
    (hr : ∀ d0 d1 l, x = .agg [d0, d1, .lit (.string l)] → l.length ≤ 140737488355328) : AnInZ v := by
  obtain ⟨a, b, s, rfl, ⟨h1, h2⟩, h4, d0, d1, e⟩ := h
  exact ⟨⟨a, b, s.data.toList⟩, by unfold anV txt; rw [bytes_list], isI_of h1, isI_of h2, hr _ _ _ e⟩

def OK1 (W : World) (e : Ending) (w' : World) : Prop := e = .returned (.bool true) ∧ W.grownBy w' none

set_option maxRecDepth 10000 in
set_option maxHeartbeats 2000000 in
theorem cwrites_long (c x p y f : Int) (b d : List UInt8) (W : World) (hb : b.length ≤ maxLen) (hd : d.length ≤ maxLen) (h : 10000 < b.length ∨ 10000 < d.length) :
    Calls Try.prog 4 #[hdV ⟨c, x, p, b⟩, anV ⟨y, f, d⟩] W (OK1 W) := by
  have q1 : (b.length : Int) ≤ 9223372036854775807 := by unfold maxLen at hb; omega
  have q2 : (d.length : Int) ≤ 9223372036854775807 := by unfold maxLen at hd; omega
  have key : decide (10000 < (b.length : Int)) = true ∨ decide (10000 < (b.length : Int)) = false ∧ decide (10000 < (d.length : Int)) = true := by
    by_cases h1 : 10000 < b.length
    · exact .inl (by simp; omega)
    · exact .inr ⟨by simp; omega, by simp; omega⟩
  clear h hb hd
  unfold hdV anV txt
  rcases key with k | ⟨k, k2⟩
  all_goals
    go_enter Try.func4, Try.ntmps4
    go_wp2_with fail
    go_ret
    exact ⟨rfl, World.grownBy.trans (World.grownBy_alloc _ _ _) (World.grownBy_alloc _ _ _)⟩

set_option maxRecDepth 10000 in
set_option maxHeartbeats 4000000 in
theorem cwrites_short (c x p y f : Int) (b d : List UInt8) (W : World) (hx : isI x) (hp : isI p) (hy : isI y) (hb : b.length ≤ 10000) (hd : d.length ≤ 10000) :
    Calls Try.prog 4 #[hdV ⟨c, x, p, b⟩, anV ⟨y, f, d⟩] W (OK1 W) := by
  have HW1 := Lib.hid (fun w => Write_any ⟨c, x, p, b⟩ w hx hp (by show b.length ≤ maxLen; unfold maxLen; omega))
  have HW2 := Lib.hid (fun w => rWrite_any ⟨c, x, p, b⟩ w (by show b.length ≤ _; omega))
  have HT1 := Lib.hid (fun w => Tell_any ⟨y, f, d⟩ w hy (by show d.length ≤ _; omega))
  have HT2 := Lib.hid (fun w => rTell_any ⟨y, f, d⟩ w (by show d.length ≤ _; omega))
  have q1 : (b.length : Int) ≤ 10000 := by omega
  have q2 : (d.length : Int) ≤ 10000 := by omega
  clear hx hp hy hb hd
  generalize cWrite ⟨c, x, p, b⟩ = r1 at *
  generalize cTell ⟨y, f, d⟩ = r2 at *
  obtain ⟨t1, e1⟩ := r1
  obtain ⟨t2, e2⟩ := r2
  unfold hdV anV txt at *
  go_enter Try.func4, Try.ntmps4
  go_wp2_with fail
  have hb := (Blk.made W 42 #[.int .i64 c, .int .i64 x, .int .i64 p, .string ⟨b.toArray⟩]).new (World.grownBy_alloc _ (.cells #[.int .i64 y, .int .i64 f, .string ⟨d.toArray⟩] 43) none)
  have hb2 := Blk.made (W.alloc (.cells #[.int .i64 c, .int .i64 x, .int .i64 p, .string ⟨b.toArray⟩] 42)) 43 #[.int .i64 y, .int .i64 f, .string ⟨d.toArray⟩]
  rw [show (W.alloc (.cells #[.int .i64 c, .int .i64 x, .int .i64 p, .string ⟨b.toArray⟩] 42)).heap.size = W.heap.size + 1 by simp] at hb2
  have B_h := Lib.hid hb
  have B_a := Lib.hid hb2
  have G := Lib.hid (World.grownBy.trans (World.grownBy_alloc W (.cells #[.int .i64 c, .int .i64 x, .int .i64 p, .string ⟨b.toArray⟩] 42) none) (World.grownBy_alloc _ (.cells #[.int .i64 y, .int .i64 f, .string ⟨d.toArray⟩] 43) none))
  clear hb hb2
  generalize (W.alloc (.cells #[.int .i64 c, .int .i64 x, .int .i64 p, .string ⟨b.toArray⟩] 42)).alloc (.cells #[.int .i64 y, .int .i64 f, .string ⟨d.toArray⟩] 43) = w0 at *
  generalize W.heap.size = K at *
  refine (HW1.out _).mono ?_; rintro e w1 ⟨rfl, g1⟩
  replace G := Lib.hid (World.grownBy.trans G.out g1)
  replace B_h := Lib.hid (B_h.out.new g1)
  replace B_a := Lib.hid (B_a.out.new g1)
  clear g1
  try unfold txt
  have c_h_0 := B_h.out.cell (i := 0) (x := .int .i64 c) rfl
  have c_h_1 := B_h.out.cell (i := 1) (x := .int .i64 x) rfl
  have c_h_2 := B_h.out.cell (i := 2) (x := .int .i64 p) rfl
  have c_h_3 := B_h.out.cell (i := 3) (x := .string ⟨b.toArray⟩) rfl
  have c_a_0 := B_a.out.cell (i := 0) (x := .int .i64 y) rfl
  have c_a_1 := B_a.out.cell (i := 1) (x := .int .i64 f) rfl
  have c_a_2 := B_a.out.cell (i := 2) (x := .string ⟨d.toArray⟩) rfl
  go_wp2_with fail
  clear c_h_0 c_h_1 c_h_2 c_h_3 c_a_0 c_a_1 c_a_2
  refine (HW2.out _).mono ?_; rintro e w2 ⟨rfl, g1⟩
  replace G := Lib.hid (World.grownBy.trans G.out g1)
  replace B_h := Lib.hid (B_h.out.new g1)
  replace B_a := Lib.hid (B_a.out.new g1)
  clear g1
  try unfold txt
  have c_a_0 := B_a.out.cell (i := 0) (x := .int .i64 y) rfl
  have c_a_1 := B_a.out.cell (i := 1) (x := .int .i64 f) rfl
  have c_a_2 := B_a.out.cell (i := 2) (x := .string ⟨d.toArray⟩) rfl
  go_wp2_with fail
  clear c_a_0 c_a_1 c_a_2
  refine (HT1.out _).mono ?_; rintro e w3 ⟨rfl, g1⟩
  replace G := Lib.hid (World.grownBy.trans G.out g1)
  replace B_h := Lib.hid (B_h.out.new g1)
  replace B_a := Lib.hid (B_a.out.new g1)
  clear g1
  try unfold txt
  have c_a_0 := B_a.out.cell (i := 0) (x := .int .i64 y) rfl
  have c_a_1 := B_a.out.cell (i := 1) (x := .int .i64 f) rfl
  have c_a_2 := B_a.out.cell (i := 2) (x := .string ⟨d.toArray⟩) rfl
  go_wp2_with fail
  clear c_a_0 c_a_1 c_a_2
  refine (HT2.out _).mono ?_; rintro e w4 ⟨rfl, g1⟩
  replace G := Lib.hid (World.grownBy.trans G.out g1)
  replace B_h := Lib.hid (B_h.out.new g1)
  replace B_a := Lib.hid (B_a.out.new g1)
  clear g1
  try unfold txt
  go_wp2_with fail
  go_ret
  exact ⟨rfl, G.out⟩

theorem cwrites_walk (v0 v1 : Value) (W : World) (k0 : HdIn v0) (k1 : AnIn v1) : Calls Try.prog 4 #[v0, v1] W fun e w' => e = .returned (.bool true) ∧ W.grownBy w' none := by
  obtain ⟨⟨c, x, p, b⟩, rfl, _, h2, h3, h4⟩ := k0
  obtain ⟨⟨y, f, d⟩, rfl, h5, h6, h7⟩ := k1
  by_cases h : 10000 < b.length ∨ 10000 < d.length
  · exact cwrites_long c x p y f b d W h4 h7 h
  · exact cwrites_short c x p y f b d W h2 h3 h5 (by omega) (by omega)
end Go.Proofs.Ytkhlmfnfcdhceaa
