/- CallBack, of any arguments. -/
import Derived.Test.YtkhlmfnfcdhceaaCallO
namespace Go.Proofs.Ytkhlmfnfcdhceaa
open Go.RowKit

set_option maxRecDepth 10000 in
set_option maxHeartbeats 4000000 in
theorem cback_long (c x p y f : Int) (b d l : List UInt8) (W : World) (hb : b.length ≤ maxLen) (hd : d.length ≤ maxLen) (hs : l.length ≤ maxLen) (h : 10000 < b.length ∨ 10000 < d.length ∨ 10000 < l.length) :
    Calls Try.prog 6 #[hdV ⟨c, x, p, b⟩, anV ⟨y, f, d⟩, .string ⟨l.toArray⟩] W (OK1 W) := by
  have q1 : (b.length : Int) ≤ 9223372036854775807 := by unfold maxLen at hb; omega
  have q2 : (d.length : Int) ≤ 9223372036854775807 := by unfold maxLen at hd; omega
  have q3 : (l.length : Int) ≤ 9223372036854775807 := by unfold maxLen at hs; omega
  have key : decide (10000 < (b.length : Int)) = true ∨ decide (10000 < (b.length : Int)) = false ∧ decide (10000 < (d.length : Int)) = true ∨ decide (10000 < (b.length : Int)) = false ∧ decide (10000 < (d.length : Int)) = false ∧ decide (10000 < (l.length : Int)) = true := by
    by_cases h1 : 10000 < b.length
    · exact .inl (by simp; omega)
    · by_cases h2 : 10000 < d.length
      · exact .inr (.inl ⟨by simp; omega, by simp; omega⟩)
      · exact .inr (.inr ⟨by simp; omega, by simp; omega, by simp; omega⟩)
  clear h hb hd hs
  unfold hdV anV txt
  rcases key with k | ⟨k, k2⟩ | ⟨k, k2, k3⟩
  all_goals
    go_enter Try.func6, Try.ntmps6
    go_wp2_with fail
    have hb := (Blk.made W 42 #[.int .i64 c, .int .i64 x, .int .i64 p, .string ⟨b.toArray⟩]).new (World.grownBy_alloc _ (.cells #[.int .i64 y, .int .i64 f, .string ⟨d.toArray⟩] 43) none)
    have hb2 := Blk.made (W.alloc (.cells #[.int .i64 c, .int .i64 x, .int .i64 p, .string ⟨b.toArray⟩] 42)) 43 #[.int .i64 y, .int .i64 f, .string ⟨d.toArray⟩]
    rw [show (W.alloc (.cells #[.int .i64 c, .int .i64 x, .int .i64 p, .string ⟨b.toArray⟩] 42)).heap.size = W.heap.size + 1 by simp] at hb2
    have G := Lib.hid (World.grownBy.trans (World.grownBy_alloc W (.cells #[.int .i64 c, .int .i64 x, .int .i64 p, .string ⟨b.toArray⟩] 42) none) (World.grownBy_alloc _ (.cells #[.int .i64 y, .int .i64 f, .string ⟨d.toArray⟩] 43) none))
    have HB := Lib.hid hb
    have HB2 := Lib.hid hb2
    clear hb hb2
    generalize (W.alloc (.cells #[.int .i64 c, .int .i64 x, .int .i64 p, .string ⟨b.toArray⟩] 42)).alloc (.cells #[.int .i64 y, .int .i64 f, .string ⟨d.toArray⟩] 43) = w0 at *
    generalize W.heap.size = K at *
    refine (works_any _).mono ?_
    rintro e w1 ⟨rfl, g1⟩
    have c3 := (HB.out.new g1).cell (i := 3) (x := .string ⟨b.toArray⟩) rfl
    have c2 := (HB2.out.new g1).cell (i := 2) (x := .string ⟨d.toArray⟩) rfl
    replace G := Lib.hid (World.grownBy.trans G.out g1)
    clear g1 HB HB2
    go_wp2_with fail
    refine (works_any _).mono ?_
    rintro e w2 ⟨rfl, g1⟩
    replace G := Lib.hid (World.grownBy.trans G.out g1)
    clear g1 c3 c2
    go_wp2_with fail
    go_ret
    exact ⟨rfl, G.out⟩

theorem cback_walk (v0 v1 : Value) (s : ByteArray) (hs : s.size ≤ maxLen) (W : World) (k0 : HdIn v0) (k1 : AnIn v1) : Calls Try.prog 6 #[v0, v1, .string s] W fun e w' => e = .returned (.bool true) ∧ W.grownBy w' none := by
  obtain ⟨⟨c, x, p, b⟩, rfl, _, h2, h3, h4⟩ := k0
  obtain ⟨⟨y, f, d⟩, rfl, h5, h6, h7⟩ := k1
  have hz : s.data.toList.length = s.size := by simp
  rw [← bytes_list s]
  by_cases h : 10000 < b.length ∨ 10000 < d.length ∨ 10000 < s.size
  · exact cback_long c x p y f b d _ W h4 h7 (by omega) (by omega)
  · exact cback_short c x p y f b d _ W h2 h3 h5 (by omega) (by omega) (by omega)
end Go.Proofs.Ytkhlmfnfcdhceaa
