/- A handle that came in; handles in memory of the call's own; handles compared. -/
import Derived.Test.YtcifhjocmlalmaaHanG
import Derived.ProofKit
import Derived.WideShapes
import Derived.Deep.Strs
import Derived.Lib.SmallJoins
import Derived.SizedLaws
namespace Go.Proofs.Ytcifhjocmlalmaa
open Go.RowKit

section
variable {H : Type} {enc : TypeId × Value → H} {P : Program}
open Go.ChangeShapes Go.WideShapes Go.ChangeAt

/-- A struct of three numbers that came in. -/
theorem open_handle {t : TypeId} {f0 f1 f2 : Field} (ht : P.underlying t = some (.struct #[f0, f1, f2])) (ct : P.cellsOf t = 3) (o0 : f0.offset = 0) (o1 : f1.offset = 1) (o2 : f2.offset = 2)
    (c0 : P.cellsOf f0.type = 1) (c1 : P.cellsOf f1.type = 1) (c2 : P.cellsOf f2.type = 1)
    (h0 : P.underlying f0.type = some (.int .i64)) (h1 : P.underlying f1.type = some (.int .i64)) (h2 : P.underlying f2.type = some (.int .i64))
    {W : World} {base : Nat} {v : Value} {d : DataW H} {p : List MemPlace} (hval : Value.okWide P W .any base t v) (h : DataW.Trod enc P W 0 (fun _ => true) true t v d p) :
    ∃ h : Hn, v = hnV h := by
  obtain ⟨cs, rfl, hcs⟩ := okWide_struct ht hval
  rw [ct] at hcs
  obtain ⟨fuel, hf⟩ := h
  obtain ⟨y0, y1, y2, n, hd, _, g0, g1, g2⟩ := Deep.trod_struct3 ht hf
  obtain ⟨l⟩ := cs
  match l, hcs with
  | [x0, x1, x2], _ =>
    rw [o0, c0] at g0; rw [o1, c1] at g1; rw [o2, c2] at g2
    obtain ⟨a, e0, _, w0⟩ := DataW.trod_int h0 g0
    obtain ⟨b, e1, _, w1⟩ := DataW.trod_int h1 g1
    obtain ⟨c, e2, _, w2⟩ := DataW.trod_int h2 g2
    simp [Value.cells] at e0 e1 e2
    subst e0 e1 e2
    exact ⟨⟨a, b, c⟩, rfl⟩
end

def hnC (h : Hn) : Array Value := #[.int .i64 h.s, .int .i64 h.i, .int .i64 h.g]

/-- Two values boxed, one behind the other; and three. -/
theorem boxes2 (w : World) (t : TypeId) (x y : Array Value) : Blk ((w.alloc (.cells x t)).alloc (.cells y t)) w.heap.size t x ∧ Blk ((w.alloc (.cells x t)).alloc (.cells y t)) (w.heap.size + 1) t y ∧ w.grownBy ((w.alloc (.cells x t)).alloc (.cells y t)) none := by
  have hsz : (w.alloc (.cells x t)).heap.size = w.heap.size + 1 := by simp
  have h2 := Blk.made (w.alloc (.cells x t)) t y
  rw [hsz] at h2
  exact ⟨(Blk.made w t x).new (World.grownBy_alloc _ _ none), h2, World.grownBy.trans (World.grownBy_alloc _ _ none) (World.grownBy_alloc _ _ none)⟩
theorem boxes3 (w : World) (t : TypeId) (x y z : Array Value) : Blk (((w.alloc (.cells x t)).alloc (.cells y t)).alloc (.cells z t)) w.heap.size t x ∧ Blk (((w.alloc (.cells x t)).alloc (.cells y t)).alloc (.cells z t)) (w.heap.size + 1) t y ∧
    Blk (((w.alloc (.cells x t)).alloc (.cells y t)).alloc (.cells z t)) (w.heap.size + 1 + 1) t z ∧ w.grownBy (((w.alloc (.cells x t)).alloc (.cells y t)).alloc (.cells z t)) none := by
  obtain ⟨h1, h2, h3⟩ := boxes2 w t x y
  have hsz : ((w.alloc (.cells x t)).alloc (.cells y t)).heap.size = w.heap.size + 1 + 1 := by simp
  have h4 := Blk.made ((w.alloc (.cells x t)).alloc (.cells y t)) t z
  rw [hsz] at h4
  exact ⟨h1.new (World.grownBy_alloc _ _ none), h2.new (World.grownBy_alloc _ _ none), h4, World.grownBy.trans h3 (World.grownBy_alloc _ _ none)⟩

theorem parts (a b : Hn) (h : a ≠ b) : ¬ a.s = b.s ∨ a.s = b.s ∧ ¬ a.i = b.i ∨ a.s = b.s ∧ a.i = b.i ∧ ¬ a.g = b.g := by
  rw [ne_eq, hn_eq] at h
  omega
end Go.Proofs.Ytcifhjocmlalmaa
