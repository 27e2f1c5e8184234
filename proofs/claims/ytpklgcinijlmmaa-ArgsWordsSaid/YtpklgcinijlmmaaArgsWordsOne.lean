/- ArgsWords: for every input the call returns true, and every argument reads as it did. No condition: the statement itself. -/
import Derived.Test.YtpklgcinijlmmaaHanG
import Derived.ProofKit
import Derived.WideShapes
import Derived.Deep.Strs
import Derived.Lib.SmallJoins
import Derived.SizedLaws
import Derived.Test.YtpklgcinijlmmaaArgB
import Derived.Test.YtpklgcinijlmmaaArgR
import Derived.Test.YtpklgcinijlmmaaArgT
import Derived.LoopTactic
import Derived.Test.YtpklgcinijlmmaaArcF
import Derived.Test.YtpklgcinijlmmaaLaw
namespace Go.Proofs.Ytpklgcinijlmmaa
open Go.RowKit

section
variable {H : Type} {enc : TypeId × Value → H} {P : Program}
open Go.ChangeShapes Go.WideShapes Go.ChangeAt

/-- A struct of three numbers that came in. -/
theorem open_handle {t : TypeId} {f0 f1 f2 : Field} (ht : P.underlying t = some (.struct #[f0, f1, f2])) (ct : P.cellsOf t = 3) (o0 : f0.offset = 0) (o1 : f1.offset = 1) (o2 : f2.offset = 2)
    (c0 : P.cellsOf f0.type = 1) (c1 : P.cellsOf f1.type = 1) (c2 : P.cellsOf f2.type = 1)
    (h0 : P.underlying f0.type = some (.int .i64)) (h1 : P.underlying f1.type = some (.int .i64)) (h2 : P.underlying f2.type = some (.int .i64))
    {W : World} {base : Nat} {v : Value} {d : DataW H} {p : List MemPlace} (hval : Value.okWide P W .any base t v) (h : DataW.Trod enc P W 0 (fun _ => true) true t v d p) :
    ∃ h : Hn, v = hnV h := by
  obtain ⟨cs, rfl, hcs⟩ := okWide_struct ht hval
  rw [ct] at hcs
  obtain ⟨fuel, hf⟩ := h
  obtain ⟨y0, y1, y2, n, hd, _, g0, g1, g2⟩ := Deep.trod_struct3 ht hf
  obtain ⟨l⟩ := cs
  match l, hcs with
  | [x0, x1, x2], _ =>
    rw [o0, c0] at g0; rw [o1, c1] at g1; rw [o2, c2] at g2
    obtain ⟨a, e0, _, w0⟩ := DataW.trod_int h0 g0
    obtain ⟨b, e1, _, w1⟩ := DataW.trod_int h1 g1
    obtain ⟨c, e2, _, w2⟩ := DataW.trod_int h2 g2
    simp [Value.cells] at e0 e1 e2
    subst e0 e1 e2
    exact ⟨⟨a, b, c⟩, rfl⟩
end

def hnC (h : Hn) : Array Value := #[.int .i64 h.s, .int .i64 h.i, .int .i64 h.g]

/-- Two values boxed, one behind the other; and three. -/
theorem boxes2 (w : World) (t : TypeId) (x y : Array Value) : Blk ((w.alloc (.cells x t)).alloc (.cells y t)) w.heap.size t x ∧ Blk ((w.alloc (.cells x t)).alloc (.cells y t)) (w.heap.size + 1) t y ∧ w.grownBy ((w.alloc (.cells x t)).alloc (.cells y t)) none := by
  have hsz : (w.alloc (.cells x t)).heap.size = w.heap.size + 1 := by simp
  have h2 := Blk.made (w.alloc (.cells x t)) t y
  rw [hsz] at h2
  exact ⟨(Blk.made w t x).new (World.grownBy_alloc _ _ none), h2, World.grownBy.trans (World.grownBy_alloc _ _ none) (World.grownBy_alloc _ _ none)⟩
theorem boxes3 (w : World) (t : TypeId) (x y z : Array Value) : Blk (((w.alloc (.cells x t)).alloc (.cells y t)).alloc (.cells z t)) w.heap.size t x ∧ Blk (((w.alloc (.cells x t)).alloc (.cells y t)).alloc (.cells z t)) (w.heap.size + 1) t y ∧
    Blk (((w.alloc (.cells x t)).alloc (.cells y t)).alloc (.cells z t)) (w.heap.size + 1 + 1) t z ∧ w.grownBy (((w.alloc (.cells x t)).alloc (.cells y t)).alloc (.cells z t)) none := by
  obtain ⟨h1, h2, h3⟩ := boxes2 w t x y
  have hsz : ((w.alloc (.cells x t)).alloc (.cells y t)).heap.size = w.heap.size + 1 + 1 := by simp
  have h4 := Blk.made ((w.alloc (.cells x t)).alloc (.cells y t)) t z
  rw [hsz] at h4
  exact ⟨h1.new (World.grownBy_alloc _ _ none), h2.new (World.grownBy_alloc _ _ none), h4, World.grownBy.trans h3 (World.grownBy_alloc _ _ none)⟩

theorem parts (a b : Hn) (h : a ≠ b) : ¬ a.s = b.s ∨ a.s = b.s ∧ ¬ a.i = b.i ∨ a.s = b.s ∧ a.i = b.i ∧ ¬ a.g = b.g := by
  rw [ne_eq, hn_eq] at h
  omega
end Go.Proofs.Ytpklgcinijlmmaa
namespace Go.Proofs.Ytpklgcinijlmmaa
open Go.RowKit

set_option maxRecDepth 20000 in
set_option maxHeartbeats 2000000 in
theorem Changes_any (k : Int) (p : PA) (w : World) : Calls Try.prog 20 #[.int .i64 k, paV p] w fun e w' => e = .returned (.bool (pChanges k p)) ∧ w.grownBy w' none := by
  have HV : Hid ((k = 6 ∧ pChanges k p = (p.b != 0)) ∨ (k = 2 ∧ pChanges k p = true) ∨ (k = 7 ∧ pChanges k p = true) ∨ (k = 8 ∧ pChanges k p = true) ∨ (k = 9 ∧ pChanges k p = true) ∨ (k = 10 ∧ pChanges k p = true) ∨ (k = 11 ∧ pChanges k p = true) ∨ (k = 12 ∧ pChanges k p = true) ∨ (k = 13 ∧ pChanges k p = true) ∨ (k = 17 ∧ pChanges k p = true) ∨ (k = 18 ∧ pChanges k p = true) ∨ ((¬ k = 6 ∧ ¬ k = 2 ∧ ¬ k = 7 ∧ ¬ k = 8 ∧ ¬ k = 9 ∧ ¬ k = 10 ∧ ¬ k = 11 ∧ ¬ k = 12 ∧ ¬ k = 13 ∧ ¬ k = 17 ∧ ¬ k = 18) ∧ pChanges k p = false)) := Lib.hid (by
    unfold pChanges
    by_cases h6 : k = 6
    · exact .inl ⟨h6, if_pos h6⟩
    · rw [if_neg h6]
      by_cases h2 : k = 2
      · exact .inr (.inl ⟨h2, by simp [h2]⟩)
      · by_cases h17 : k = 17
        · subst h17; simp
        · by_cases h18 : k = 18
          · subst h18; simp
          · by_cases h7 : 7 ≤ k ∧ k ≤ 13
            · rcases (show k = 7 ∨ k = 8 ∨ k = 9 ∨ k = 10 ∨ k = 11 ∨ k = 12 ∨ k = 13 by omega) with rfl | rfl | rfl | rfl | rfl | rfl | rfl <;> simp
            · refine .inr (.inr (.inr (.inr (.inr (.inr (.inr (.inr (.inr (.inr (.inr ⟨⟨h6, h2, by omega, by omega, by omega, by omega, by omega, by omega, by omega, h17, h18⟩, ?_⟩))))))))))
              simp [h2, h17, h18]
              omega)
  generalize pChanges k p = B at *
  obtain ⟨⟨h1, h2, h3⟩, ⟨t1, t2, t3⟩, n, o, x, a, q, m, s, b, g, v⟩ := p
  unfold paV paC txt
  dsimp only at HV ⊢
  rcases HV.out with ⟨rfl, rfl⟩ | ⟨rfl, rfl⟩ | ⟨rfl, rfl⟩ | ⟨rfl, rfl⟩ | ⟨rfl, rfl⟩ | ⟨rfl, rfl⟩ | ⟨rfl, rfl⟩ | ⟨rfl, rfl⟩ | ⟨rfl, rfl⟩ | ⟨rfl, rfl⟩ | ⟨rfl, rfl⟩ | ⟨⟨k1, k2, k3, k4, k5, k6, k7, k8, k9, k10, k11⟩, rfl⟩
  all_goals
    clear HV
    go_enter Try.func20, Try.ntmps20
    go_wp2_with fail
    go_ret
    exact ⟨rfl, World.grownBy_alloc _ _ _⟩

/-- Are the texts of arguments more than a statement goes through? -/
def longA (p : PA) : Bool := decide (10000 < (p.n.length : Int)) || (decide (10000 < (p.o.length : Int)) || decide (10000 < (p.x.length : Int)))

set_option maxRecDepth 20000 in
set_option maxHeartbeats 2000000 in
theorem long_args (p : PA) (w : World) (hn : p.n.length ≤ maxLen) (ho : p.o.length ≤ maxLen) (hx : p.x.length ≤ maxLen) : Calls Try.prog 21 #[paV p, .agg (prC noPR (.slice none 0 0))] w fun e w' => e = .returned (.bool (longA p)) ∧ w.grownBy w' none := by
  unfold longA
  obtain ⟨⟨h1, h2, h3⟩, ⟨t1, t2, t3⟩, n, o, x, a, q, m, s, b, g, v⟩ := p
  unfold paV paC prC noPR noHn noAt txt
  dsimp only at *
  unfold maxLen at hn ho hx
  have z1 : (⟨n.toArray⟩ : ByteArray).size = n.length := rfl
  have z2 : (⟨o.toArray⟩ : ByteArray).size = o.length := rfl
  have z3 : (⟨x.toArray⟩ : ByteArray).size = x.length := rfl
  go_enter Try.func21, Try.ntmps21
  go_wp2_with fail
  have g1 := World.grownBy_alloc w (.cells #[.int .i64 h1, .int .i64 h2, .int .i64 h3, .int .i64 t1, .int .i64 t2, .int .i64 t3, .string ⟨n.toArray⟩, .string ⟨o.toArray⟩, .string ⟨x.toArray⟩, .int .i64 a, .int .i64 q, .int .i64 m, .int .i64 s, .int .i64 b, .int .i64 g, .int .u64 v] 27) none
  have b1 := Blk.made w 27 #[.int .i64 h1, .int .i64 h2, .int .i64 h3, .int .i64 t1, .int .i64 t2, .int .i64 t3, .string ⟨n.toArray⟩, .string ⟨o.toArray⟩, .string ⟨x.toArray⟩, .int .i64 a, .int .i64 q, .int .i64 m, .int .i64 s, .int .i64 b, .int .i64 g, .int .u64 v]
  have g2 := World.grownBy_alloc (w.alloc (.cells #[.int .i64 h1, .int .i64 h2, .int .i64 h3, .int .i64 t1, .int .i64 t2, .int .i64 t3, .string ⟨n.toArray⟩, .string ⟨o.toArray⟩, .string ⟨x.toArray⟩, .int .i64 a, .int .i64 q, .int .i64 m, .int .i64 s, .int .i64 b, .int .i64 g, .int .u64 v] 27)) (.cells #[.int .i64 0, .int .i64 0, .int .i64 0, .int .i64 0, .int .u8 0, .int .i64 0, .int .i64 0, .int .i64 0, .int .i64 0, .int .i64 0, .int .i64 0, .int .i64 0, .string ⟨#[]⟩, .int .i64 0, .int .i64 0, .int .u64 0, .bool false, .slice none 0 0, .int .u64 0] 42) none
  have b2 := Blk.made (w.alloc (.cells #[.int .i64 h1, .int .i64 h2, .int .i64 h3, .int .i64 t1, .int .i64 t2, .int .i64 t3, .string ⟨n.toArray⟩, .string ⟨o.toArray⟩, .string ⟨x.toArray⟩, .int .i64 a, .int .i64 q, .int .i64 m, .int .i64 s, .int .i64 b, .int .i64 g, .int .u64 v] 27)) 42 #[.int .i64 0, .int .i64 0, .int .i64 0, .int .i64 0, .int .u8 0, .int .i64 0, .int .i64 0, .int .i64 0, .int .i64 0, .int .i64 0, .int .i64 0, .int .i64 0, .string ⟨#[]⟩, .int .i64 0, .int .i64 0, .int .u64 0, .bool false, .slice none 0 0, .int .u64 0]
  have hs : (w.alloc (.cells #[.int .i64 h1, .int .i64 h2, .int .i64 h3, .int .i64 t1, .int .i64 t2, .int .i64 t3, .string ⟨n.toArray⟩, .string ⟨o.toArray⟩, .string ⟨x.toArray⟩, .int .i64 a, .int .i64 q, .int .i64 m, .int .i64 s, .int .i64 b, .int .i64 g, .int .u64 v] 27)).heap.size = w.heap.size + 1 := by simp
  rw [hs] at b2
  have b1 := b1.new g2
  have hg := World.grownBy.trans g1 g2
  clear g1 g2 hs
  generalize (w.alloc (.cells #[.int .i64 h1, .int .i64 h2, .int .i64 h3, .int .i64 t1, .int .i64 t2, .int .i64 t3, .string ⟨n.toArray⟩, .string ⟨o.toArray⟩, .string ⟨x.toArray⟩, .int .i64 a, .int .i64 q, .int .i64 m, .int .i64 s, .int .i64 b, .int .i64 g, .int .u64 v] 27)).alloc (.cells #[.int .i64 0, .int .i64 0, .int .i64 0, .int .i64 0, .int .u8 0, .int .i64 0, .int .i64 0, .int .i64 0, .int .i64 0, .int .i64 0, .int .i64 0, .int .i64 0, .string ⟨#[]⟩, .int .i64 0, .int .i64 0, .int .u64 0, .bool false, .slice none 0 0, .int .u64 0] 42) = w2 at *
  have HG := Lib.hid hg
  have c6 := b1.cell (i := 6) (x := .string ⟨n.toArray⟩) rfl
  have c7 := b1.cell (i := 7) (x := .string ⟨o.toArray⟩) rfl
  have c8 := b1.cell (i := 8) (x := .string ⟨x.toArray⟩) rfl
  have d12 := b2.cell (i := 12) (x := .string ⟨#[]⟩) rfl
  have d17 := b2.cell (i := 17) (x := .slice none 0 0) rfl
  clear hg b1 b2
  go_loop [5, 6] (fun n i => n = .int .i64 0 ∧ i = .int .i64 0) (fun _ _ => 0)
  case atStart => exact ⟨rfl, rfl⟩
  case round =>
    obtain ⟨rfl, rfl⟩ := hrel
    go_wp2_with fail
    all_goals
      go_ret
      have y1 : (⟨n.toArray⟩ : ByteArray).size = n.length := rfl
      have y2 : (⟨o.toArray⟩ : ByteArray).size = o.length := rfl
      have y3 : (⟨x.toArray⟩ : ByteArray).size = x.length := rfl
      exact ⟨by first | rfl | (simp; done) | (simp [Bool.or_assoc]; done), HG.out⟩

end Go.Proofs.Ytpklgcinijlmmaa
namespace Go.Proofs.Ytpklgcinijlmmaa
open Go.RowKit

section
variable {H : Type} {enc : TypeId × Value → H}
open Go.ChangeShapes Go.WideShapes Go.ChangeAt

theorem cells_args : Try.prog.cellsOf 27 = 16 := by kernel_rfl
theorem cells_hn : Try.prog.cellsOf 24 = 3 := by kernel_rfl
theorem cells_int : Try.prog.cellsOf 3 = 1 := by kernel_rfl
theorem cells_str : Try.prog.cellsOf 9 = 1 := by kernel_rfl
theorem cells_u64 : Try.prog.cellsOf 25 = 1 := by kernel_rfl

theorem i64_of {a : Int} (h : (Lit.int .i64 a).wf = true) : -9223372036854775808 ≤ a ∧ a ≤ 9223372036854775807 := by
  simp [Lit.wf, IntKind.min, IntKind.max, IntKind.signed, IntKind.bits] at h
  omega
theorem u64_of {a : Int} (h : (Lit.int .u64 a).wf = true) : 0 ≤ a ∧ a < 18446744073709551616 := by
  simp [Lit.wf, IntKind.min, IntKind.max, IntKind.signed, IntKind.bits] at h
  omega

theorem hn_of {W : World} {n : Nat} {x0 x1 x2 : Value} {y : DataW H × List MemPlace} (h : DataW.trod enc Try.prog W 0 (fun _ => true) true n 24 [x0, x1, x2] = some y) : ∃ a b c : Int, x0 = .int .i64 a ∧ x1 = .int .i64 b ∧ x2 = .int .i64 c := by
  obtain ⟨xs, m, _, _, _, hlen, hg⟩ := DataW.trod_struct Try.underlying24 h
  match xs, hlen with
  | [z0, z1, z2], _ =>
    have g0 := hg 0 _ rfl
    have g1 := hg 1 _ rfl
    have g2 := hg 2 _ rfl
    simp [cells_int] at g0 g1 g2
    obtain ⟨a, e0, _, _⟩ := DataW.trod_int Try.underlying3 g0
    obtain ⟨b, e1, _, _⟩ := DataW.trod_int Try.underlying3 g1
    obtain ⟨c, e2, _, _⟩ := DataW.trod_int Try.underlying3 g2
    simp at e0 e1 e2
    exact ⟨a, b, c, e0, e1, e2⟩

/-- Arguments that came in. -/
def PAin (v : Value) : Prop := ∃ p : PA, v = paV p ∧ PAok p ∧ p.n.length ≤ maxLen ∧ p.o.length ≤ maxLen ∧ p.x.length ≤ maxLen

set_option maxRecDepth 20000 in
set_option maxHeartbeats 2000000 in
theorem open_args {W : World} {base : Nat} {v : Value} {d : DataW H} {p : List MemPlace} (hval : Value.okWide Try.prog W .any base 27 v) (h : DataW.Trod enc Try.prog W 0 (fun _ => true) true 27 v d p) : PAin v := by
  obtain ⟨cs, rfl, hcs⟩ := okWide_struct Try.underlying27 hval
  rw [cells_args] at hcs
  obtain ⟨fuel, hf⟩ := h
  obtain ⟨l⟩ := cs
  match l, hcs with
  | [x0, x1, x2, x3, x4, x5, x6, x7, x8, x9, x10, x11, x12, x13, x14, x15], _ =>
    obtain ⟨xs, n, _, hx, _, hlen, hg⟩ := DataW.trod_struct Try.underlying27 hf
    match xs, hlen with
    | [y0, y1, y2, y3, y4, y5, y6, y7, y8, y9, y10, y11], _ =>
      have g0 := hg 0 _ rfl
      have g1 := hg 1 _ rfl
      have g2 := hg 2 _ rfl
      have g3 := hg 3 _ rfl
      have g4 := hg 4 _ rfl
      have g5 := hg 5 _ rfl
      have g6 := hg 6 _ rfl
      have g7 := hg 7 _ rfl
      have g8 := hg 8 _ rfl
      have g9 := hg 9 _ rfl
      have g10 := hg 10 _ rfl
      have g11 := hg 11 _ rfl
      simp [Value.cells, cells_hn, cells_int, cells_str, cells_u64] at g0 g1 g2 g3 g4 g5 g6 g7 g8 g9 g10 g11
      obtain ⟨h1, h2, h3, rfl, rfl, rfl⟩ := hn_of g0
      obtain ⟨t1, t2, t3, rfl, rfl, rfl⟩ := hn_of g1
      obtain ⟨s2, e2, _, w2⟩ := DataW.trod_string Try.underlying9 g2
      obtain ⟨s3, e3, _, w3⟩ := DataW.trod_string Try.underlying9 g3
      obtain ⟨s4, e4, _, w4⟩ := DataW.trod_string Try.underlying9 g4
      obtain ⟨a5, e5, _, w5⟩ := DataW.trod_int Try.underlying3 g5
      obtain ⟨a6, e6, _, w6⟩ := DataW.trod_int Try.underlying3 g6
      obtain ⟨a7, e7, _, w7⟩ := DataW.trod_int Try.underlying3 g7
      obtain ⟨a8, e8, _, w8⟩ := DataW.trod_int Try.underlying3 g8
      obtain ⟨a9, e9, _, w9⟩ := DataW.trod_int Try.underlying3 g9
      obtain ⟨a10, e10, _, w10⟩ := DataW.trod_int Try.underlying3 g10
      obtain ⟨a11, e11, _, w11⟩ := DataW.trod_int Try.underlying25 g11
      simp at e2 e3 e4 e5 e6 e7 e8 e9 e10 e11
      subst e2 e3 e4 e5 e6 e7 e8 e9 e10 e11
      refine ⟨⟨⟨h1, h2, h3⟩, ⟨t1, t2, t3⟩, s2.data.toList, s3.data.toList, s4.data.toList, a5, a6, a7, a8, a9, a10, a11⟩, ?_, ⟨u64_of w11, i64_of w5, i64_of w6, i64_of w7, i64_of w8, i64_of w9, i64_of w10⟩, by simpa using w2, by simpa using w3, by simpa using w4⟩
      unfold paV paC txt
      dsimp only
end
end Go.Proofs.Ytpklgcinijlmmaa
namespace Go.Proofs.Ytpklgcinijlmmaa
open Go.RowKit

theorem eql_args (p : PA) (w : World) : (binOp .eql 27 (.agg (paC p)) (.agg (paC p))).run Try.prog w = .ok (.bool true) w := by
  obtain ⟨⟨h1, h2, h3⟩, ⟨t1, t2, t3⟩, n, o, x, a, q1, m, s, b, g, v⟩ := p
  unfold paC txt
  dsimp only
  go_simp
theorem Blk.range {w : World} {r : Nat} {t : TypeId} {xs : Array Value} (h : Blk w r t xs) : w.rangeAt r 0 xs.toList := fun j v hj => by
  rw [Nat.zero_add]
  exact h.cell (by simpa using hj)
theorem rowEq {w : World} {r : Nat} {t : TypeId} {xs : Array Value} (h : Blk w r t xs) : w.heap[r]? = some (.cells xs t (0, 0)) := h

set_option maxRecDepth 20000 in
set_option maxHeartbeats 8000000 in
theorem words_walk (k : Int) (p : PA) (s : List UInt8) (w : World) (ok : PAok p) (hn : p.n.length ≤ maxLen) (ho : p.o.length ≤ maxLen) (hx : p.x.length ≤ maxLen) (hs : s.length ≤ maxLen) :
    Calls Try.prog 4 #[.int .i64 k, paV p, .string ⟨s.toArray⟩] w fun e w' => e = .returned (.bool true) ∧ w.grownBy w' none := by
  have HLO := Lib.hid (fun w => long_args p w hn ho hx)
  have HB := Lib.hid (show longA p = false → p.n.length ≤ 10000 ∧ p.o.length ≤ 10000 ∧ p.x.length ≤ 10000 from fun h => by unfold longA at h; simp at h; omega)
  have HOK := Lib.hid ok
  unfold maxLen at hs
  have hs2 : (s.length : Int) ≤ 9223372036854775807 := by omega
  have zs : (⟨s.toArray⟩ : ByteArray).size = s.length := rfl
  clear ok hn ho hx hs
  show Calls _ _ #[.int .i64 k, .agg (paC p), .string ⟨s.toArray⟩] w _
  go_enter Try.func4, Try.ntmps4
  go_upto_region 1 with fail
  have hA := Blk.made w 27 (paC p)
  have ga := World.grownBy_alloc w (.cells (paC p) 27) none
  generalize w.alloc (.cells (paC p) 27) = w1 at *
  generalize w.heap.size = A at *
  have HA := Lib.hid hA
  have HG := Lib.hid ga
  clear hA ga
  go_wp2_with (refine wpList_load_row rfl 27 (.tmp 4) rfl A rfl 27 (paC p) (0, 0) _ (rowEq HA.out) Try.underlying27 rfl (by kernel_rfl) ?_; (try go_simp))
  refine (HLO.out w1).mono ?_; rintro e w2 ⟨rfl, g⟩
  replace HA := Lib.hid (HA.out.new g)
  replace HG := Lib.hid (World.grownBy.trans HG.out g)
  clear g HLO
  obtain ⟨B, hB⟩ : ∃ B, longA p = B := ⟨_, rfl⟩
  rw [hB] at HB ⊢
  clear hB
  cases B
  rotate_left
  · go_wp2_with fail
    go_ret
    exact ⟨rfl, HG.out⟩
  have HLL := Lib.hid (HB.out rfl)
  clear HB
  by_cases hl : 10000 < (s.length : Int)
  · go_wp2_with fail
    go_ret
    exact ⟨rfl, HG.out⟩
  have HSL : Hid (s.length ≤ 10000) := Lib.hid (by omega)
  have HW := Lib.hid (fun w => Write_any k p w HOK.out HLL.out.1 HLL.out.2.1 HLL.out.2.2)
  have HW2 := Lib.hid (fun w => rWrite_any k p w HOK.out.1 (by have := HLL.out; omega) (by have := HLL.out; omega) (by have := HLL.out; omega))
  have HR := Lib.hid (fun w => Read_any k s w (by have := HSL.out; omega))
  have HR2 := Lib.hid (fun w => rRead_any k s w (by have := HSL.out; omega))
  have HC := Lib.hid (fun w => Changes_any k p w)
  have HC2 := Lib.hid (fun w => changes_any k p w)
  generalize aWrite k p = y at *
  obtain ⟨tx, e1⟩ := y
  generalize aRead k s = y at *
  obtain ⟨b, e2⟩ := y
  generalize pChanges k p = C at *
  unfold TE txt at HW HW2
  unfold PT at HR HR2
  unfold paV at *
  dsimp only at HW HW2 HR HR2
  go_wp2_with (refine wpList_load_row rfl 27 (.tmp 4) rfl A rfl 27 (paC p) (0, 0) _ (rowEq HA.out) Try.underlying27 rfl (by kernel_rfl) ?_; (try go_simp))
  refine (HW.out _).mono ?_; rintro e w3 ⟨rfl, g⟩
  replace HA := Lib.hid (HA.out.new g)
  replace HG := Lib.hid (World.grownBy.trans HG.out g)
  clear g
  go_wp2_with (refine wpList_load_row rfl 27 (.tmp 4) rfl A rfl 27 (paC p) (0, 0) _ (rowEq HA.out) Try.underlying27 rfl (by kernel_rfl) ?_; (try go_simp))
  refine (HW2.out _).mono ?_; rintro e w4 ⟨rfl, g⟩
  replace HA := Lib.hid (HA.out.new g)
  replace HG := Lib.hid (World.grownBy.trans HG.out g)
  clear g HW HW2
  go_wp2_with (refine wpList_load_row rfl 27 (.tmp 4) rfl A rfl 27 (paC p) (0, 0) _ (rowEq HA.out) Try.underlying27 rfl (by kernel_rfl) ?_; (try go_simp))
  refine (HR.out _).mono ?_; rintro e w5 ⟨rfl, g⟩
  replace HA := Lib.hid (HA.out.new g)
  replace HG := Lib.hid (World.grownBy.trans HG.out g)
  clear g
  have ga := World.grownBy_alloc w5 (.cells #[.int .i64 0, .int .i64 0, .int .i64 0, .int .i64 0, .int .i64 0, .int .i64 0, .string ⟨#[]⟩, .string ⟨#[]⟩, .string ⟨#[]⟩, .int .i64 0, .int .i64 0, .int .i64 0, .int .i64 0, .int .i64 0, .int .i64 0, .int .u64 0] 27) none
  have g5 := setRow_grown (w5.alloc (.cells #[.int .i64 0, .int .i64 0, .int .i64 0, .int .i64 0, .int .i64 0, .int .i64 0, .string ⟨#[]⟩, .string ⟨#[]⟩, .string ⟨#[]⟩, .int .i64 0, .int .i64 0, .int .i64 0, .int .i64 0, .int .i64 0, .int .i64 0, .int .u64 0] 27)) w5.heap.size (paC b)
  have HM := Lib.hid ((Blk.made w5 27 #[.int .i64 0, .int .i64 0, .int .i64 0, .int .i64 0, .int .i64 0, .int .i64 0, .string ⟨#[]⟩, .string ⟨#[]⟩, .string ⟨#[]⟩, .int .i64 0, .int .i64 0, .int .i64 0, .int .i64 0, .int .i64 0, .int .i64 0, .int .u64 0]).row (paC b))
  replace HA := Lib.hid ((HA.out.new ga).kept g5 (by have := HA.out.lt; simp; omega))
  replace HG := Lib.hid (grown_own (World.grownBy.trans HG.out ga) g5 (fun n hn => by cases hn; have := HG.out.size; omega))
  clear ga g5
  go_upto_region 6 with (refine wpList_store_row rfl 27 (.tmp 11) (.tmp 39) rfl w5.heap.size (paC b) rfl rfl 27 #[.int .i64 0, .int .i64 0, .int .i64 0, .int .i64 0, .int .i64 0, .int .i64 0, .string ⟨#[]⟩, .string ⟨#[]⟩, .string ⟨#[]⟩, .int .i64 0, .int .i64 0, .int .i64 0, .int .i64 0, .int .i64 0, .int .i64 0, .int .u64 0] (Blk.made w5 27 #[.int .i64 0, .int .i64 0, .int .i64 0, .int .i64 0, .int .i64 0, .int .i64 0, .string ⟨#[]⟩, .string ⟨#[]⟩, .string ⟨#[]⟩, .int .i64 0, .int .i64 0, .int .i64 0, .int .i64 0, .int .i64 0, .int .i64 0, .int .u64 0]) (by kernel_rfl) (by kernel_rfl) (by kernel_rfl) ?_)
  generalize (w5.alloc (.cells #[.int .i64 0, .int .i64 0, .int .i64 0, .int .i64 0, .int .i64 0, .int .i64 0, .string ⟨#[]⟩, .string ⟨#[]⟩, .string ⟨#[]⟩, .int .i64 0, .int .i64 0, .int .i64 0, .int .i64 0, .int .i64 0, .int .i64 0, .int .u64 0] 27)).setRow w5.heap.size (paC b) = w6 at *
  generalize w5.heap.size = M at *
  go_wp2_with fail
  refine (HR2.out _).mono ?_; rintro e w7 ⟨rfl, g⟩
  replace HA := Lib.hid (HA.out.new g)
  replace HM := Lib.hid (HM.out.new g)
  replace HG := Lib.hid (World.grownBy.trans HG.out g)
  clear g HR HR2
  have ga := World.grownBy_alloc w7 (.cells #[.int .i64 0, .int .i64 0, .int .i64 0, .int .i64 0, .int .i64 0, .int .i64 0, .string ⟨#[]⟩, .string ⟨#[]⟩, .string ⟨#[]⟩, .int .i64 0, .int .i64 0, .int .i64 0, .int .i64 0, .int .i64 0, .int .i64 0, .int .u64 0] 27) none
  have g5 := setRow_grown (w7.alloc (.cells #[.int .i64 0, .int .i64 0, .int .i64 0, .int .i64 0, .int .i64 0, .int .i64 0, .string ⟨#[]⟩, .string ⟨#[]⟩, .string ⟨#[]⟩, .int .i64 0, .int .i64 0, .int .i64 0, .int .i64 0, .int .i64 0, .int .i64 0, .int .u64 0] 27)) w7.heap.size (paC b)
  have HN := Lib.hid ((Blk.made w7 27 #[.int .i64 0, .int .i64 0, .int .i64 0, .int .i64 0, .int .i64 0, .int .i64 0, .string ⟨#[]⟩, .string ⟨#[]⟩, .string ⟨#[]⟩, .int .i64 0, .int .i64 0, .int .i64 0, .int .i64 0, .int .i64 0, .int .i64 0, .int .u64 0]).row (paC b))
  replace HA := Lib.hid ((HA.out.new ga).kept g5 (by have := HA.out.lt; simp; omega))
  replace HM := Lib.hid ((HM.out.new ga).kept g5 (by have := HM.out.lt; simp; omega))
  replace HG := Lib.hid (grown_own (World.grownBy.trans HG.out ga) g5 (fun n hn => by cases hn; have := HG.out.size; omega))
  clear ga g5
  go_upto_region 7 with (refine wpList_store_row rfl 27 (.tmp 13) (.tmp 45) rfl w7.heap.size (paC b) rfl rfl 27 #[.int .i64 0, .int .i64 0, .int .i64 0, .int .i64 0, .int .i64 0, .int .i64 0, .string ⟨#[]⟩, .string ⟨#[]⟩, .string ⟨#[]⟩, .int .i64 0, .int .i64 0, .int .i64 0, .int .i64 0, .int .i64 0, .int .i64 0, .int .u64 0] (Blk.made w7 27 #[.int .i64 0, .int .i64 0, .int .i64 0, .int .i64 0, .int .i64 0, .int .i64 0, .string ⟨#[]⟩, .string ⟨#[]⟩, .string ⟨#[]⟩, .int .i64 0, .int .i64 0, .int .i64 0, .int .i64 0, .int .i64 0, .int .i64 0, .int .u64 0]) (by kernel_rfl) (by kernel_rfl) (by kernel_rfl) ?_)
  generalize (w7.alloc (.cells #[.int .i64 0, .int .i64 0, .int .i64 0, .int .i64 0, .int .i64 0, .int .i64 0, .string ⟨#[]⟩, .string ⟨#[]⟩, .string ⟨#[]⟩, .int .i64 0, .int .i64 0, .int .i64 0, .int .i64 0, .int .i64 0, .int .i64 0, .int .u64 0] 27)).setRow w7.heap.size (paC b) = wr at *
  generalize w7.heap.size = N at *
  have KEEP : Hid (∀ w', wr.grownBy w' none → Blk w' A 27 (paC p) ∧ Blk w' M 27 (paC b) ∧ Blk w' N 27 (paC b)) := Lib.hid (fun w' g => ⟨HA.out.new g, HM.out.new g, HN.out.new g⟩)
  refine wp_region_noPanic ?_
  refine wp_region_held_drew (S := fun w' => Blk w' A 27 (paC p) ∧ Blk w' M 27 (paC b) ∧ Blk w' N 27 (paC b)) (by kernel_rfl) (KEEP.out _ (drew_new _)) (fun hHeld => ?_)
  have HGR := Lib.hid (drew_new wr)
  refine wpAnyH_take (i := 0) (v := ?_) (by simp only [List.getElem?_toArray, List.getElem?_cons_zero]; rfl) (by kernel_rfl) (by kernel_rfl) (by kernel_rfl) (fun _ _ _ h => h) (Or.inl ⟨by rfl, ?_⟩) (by assumption) ?_
  rotate_left 1
  · intro w hSw; (try dsimp only at hSw); go_simp; all_goals (with_reducible rfl)
  try simp only [Act.put, List.setIfInBounds_toArray, List.set_cons_zero, List.set_cons_succ]
  refine wpAnyH_take (i := 1) (v := ?_) (by simp only [List.getElem?_toArray, List.getElem?_cons_succ, List.getElem?_cons_zero]; rfl) (by kernel_rfl) (by kernel_rfl) (by kernel_rfl) (fun _ _ _ h => h) (Or.inl ⟨by rfl, ?_⟩) (by assumption) ?_
  rotate_left 1
  · intro w hSw; (try dsimp only at hSw); go_simp; all_goals (with_reducible rfl)
  try simp only [Act.put, List.setIfInBounds_toArray, List.set_cons_zero, List.set_cons_succ]
  refine wpAnyH_take (i := 2) (v := ?_) (by simp only [List.getElem?_toArray, List.getElem?_cons_succ, List.getElem?_cons_zero]; rfl) (by kernel_rfl) (by kernel_rfl) (by kernel_rfl) (fun _ _ _ h => h) (Or.inl ⟨by rfl, ?_⟩) (by assumption) ?_
  rotate_left 1
  · intro w hSw; (try dsimp only at hSw); go_simp; all_goals (with_reducible rfl)
  try simp only [Act.put, List.setIfInBounds_toArray, List.set_cons_zero, List.set_cons_succ]
  refine wpAnyH_take (i := 3) (v := ?_) (by simp only [List.getElem?_toArray, List.getElem?_cons_succ, List.getElem?_cons_zero]; rfl) (by kernel_rfl) (by kernel_rfl) (by kernel_rfl) (fun _ _ _ h => h) (Or.inl ⟨by rfl, ?_⟩) (by assumption) ?_
  rotate_left 1
  · intro w hSw; (try dsimp only at hSw); go_simp; all_goals (with_reducible rfl)
  try simp only [Act.put, List.setIfInBounds_toArray, List.set_cons_zero, List.set_cons_succ]
  refine wpAnyH_take (i := 4) (v := ?_) (by simp only [List.getElem?_toArray, List.getElem?_cons_succ, List.getElem?_cons_zero]; rfl) (by kernel_rfl) (by kernel_rfl) (by kernel_rfl) (fun _ _ _ h => h) (Or.inl ⟨by rfl, ?_⟩) (by assumption) ?_
  rotate_left 1
  · intro w hSw; (try dsimp only at hSw); go_simp; all_goals (with_reducible rfl)
  try simp only [Act.put, List.setIfInBounds_toArray, List.set_cons_zero, List.set_cons_succ]
  refine wpAnyH_take (i := 5) (v := ?_) (by simp only [List.getElem?_toArray, List.getElem?_cons_succ, List.getElem?_cons_zero]; rfl) (by kernel_rfl) (by kernel_rfl) (by kernel_rfl) (fun _ _ _ h => h) (Or.inl ⟨by rfl, ?_⟩) (by assumption) ?_
  rotate_left 1
  · intro w hSw; (try dsimp only at hSw); go_simp; all_goals (with_reducible rfl)
  try simp only [Act.put, List.setIfInBounds_toArray, List.set_cons_zero, List.set_cons_succ]
  refine wpAnyH_take (i := 6) (v := ?_) (by simp only [List.getElem?_toArray, List.getElem?_cons_succ, List.getElem?_cons_zero]; rfl) (by kernel_rfl) (by kernel_rfl) (by kernel_rfl) (fun _ _ _ h => h) (Or.inl ⟨by rfl, ?_⟩) (by assumption) ?_
  rotate_left 1
  · intro w hSw; (try dsimp only at hSw); go_simp; all_goals (with_reducible rfl)
  try simp only [Act.put, List.setIfInBounds_toArray, List.set_cons_zero, List.set_cons_succ]
  refine wpAnyH_take (i := 7) (v := ?_) (by simp only [List.getElem?_toArray, List.getElem?_cons_succ, List.getElem?_cons_zero]; rfl) (by kernel_rfl) (by kernel_rfl) (by kernel_rfl) (fun _ _ _ h => h) (Or.inl ⟨by rfl, ?_⟩) (by assumption) ?_
  rotate_left 1
  · intro w hSw; (try dsimp only at hSw); go_simp; all_goals (with_reducible rfl)
  try simp only [Act.put, List.setIfInBounds_toArray, List.set_cons_zero, List.set_cons_succ]
  refine wpAnyH_take (i := 8) (v := ?_) (by simp only [List.getElem?_toArray, List.getElem?_cons_succ, List.getElem?_cons_zero]; rfl) (by kernel_rfl) (by kernel_rfl) (by kernel_rfl) (fun _ _ _ h => h) (Or.inl ⟨by rfl, ?_⟩) (by assumption) ?_
  rotate_left 1
  · intro w hSw; (try dsimp only at hSw); go_simp; all_goals (with_reducible rfl)
  try simp only [Act.put, List.setIfInBounds_toArray, List.set_cons_zero, List.set_cons_succ]
  refine wpAnyH_take (i := 9) (v := .agg (paC b)) (by simp only [List.getElem?_toArray, List.getElem?_cons_succ, List.getElem?_cons_zero]; rfl) (by kernel_rfl) (by kernel_rfl) (by kernel_rfl) (fun _ _ _ h => h) (yieldsIf_load_mid (by rfl) 27 (.tmp 11) rfl M 0 rfl (paC b).toList _ (fun w hS => (hS.2.1).range) Try.underlying27 rfl (by kernel_rfl)) (by assumption) ?_
  try simp only [Act.put, List.setIfInBounds_toArray, List.set_cons_zero, List.set_cons_succ]
  refine wpAnyH_take (i := 10) (v := .agg (paC b)) (by simp only [List.getElem?_toArray, List.getElem?_cons_succ, List.getElem?_cons_zero]; rfl) (by kernel_rfl) (by kernel_rfl) (by kernel_rfl) (fun _ _ _ h => h) (yieldsIf_load_mid (by rfl) 27 (.tmp 13) rfl N 0 rfl (paC b).toList _ (fun w hS => (hS.2.2).range) Try.underlying27 rfl (by kernel_rfl)) (by assumption) ?_
  try simp only [Act.put, List.setIfInBounds_toArray, List.set_cons_zero, List.set_cons_succ]
  have heq := fun w => eql_args b w
  refine wpAnyH_take (i := 11) (v := ?_) (by simp only [List.getElem?_toArray, List.getElem?_cons_succ, List.getElem?_cons_zero]; rfl) (by kernel_rfl) (by kernel_rfl) (by kernel_rfl) (fun _ _ _ h => h) (Or.inl ⟨by rfl, ?_⟩) (by assumption) ?_
  rotate_left 1
  · intro w hSw; (try dsimp only at hSw); go_simp; all_goals (with_reducible rfl)
  try simp only [Act.put, List.setIfInBounds_toArray, List.set_cons_zero, List.set_cons_succ]
  clear heq
  refine wpAnyH_take (i := 12) (v := ?_) (by simp only [List.getElem?_toArray, List.getElem?_cons_succ, List.getElem?_cons_zero]; rfl) (by kernel_rfl) (by kernel_rfl) (by kernel_rfl) (fun _ _ _ h => h) (Or.inl ⟨by rfl, ?_⟩) (by assumption) ?_
  rotate_left 1
  · intro w hSw; (try dsimp only at hSw); go_simp; all_goals (with_reducible rfl)
  try simp only [Act.put, List.setIfInBounds_toArray, List.set_cons_zero, List.set_cons_succ]
  refine wpAnyH_take (i := 13) (v := ?_) (by simp only [List.getElem?_toArray, List.getElem?_cons_succ, List.getElem?_cons_zero]; rfl) (by kernel_rfl) (by kernel_rfl) (by kernel_rfl) (fun _ _ _ h => h) (Or.inl ⟨by rfl, ?_⟩) (by assumption) ?_
  rotate_left 1
  · intro w hSw; (try dsimp only at hSw); go_simp; all_goals (with_reducible rfl)
  try simp only [Act.put, List.setIfInBounds_toArray, List.set_cons_zero, List.set_cons_succ]
  refine wpAnyH_take (i := 14) (v := ?_) (by simp only [List.getElem?_toArray, List.getElem?_cons_succ, List.getElem?_cons_zero]; rfl) (by kernel_rfl) (by kernel_rfl) (by kernel_rfl) (fun _ _ _ h => h) (Or.inl ⟨by rfl, ?_⟩) (by assumption) ?_
  rotate_left 1
  · intro w hSw; (try dsimp only at hSw); go_simp; all_goals (with_reducible rfl)
  try simp only [Act.put, List.setIfInBounds_toArray, List.set_cons_zero, List.set_cons_succ]
  refine wpAnyH_take (i := 15) (v := ?_) (by simp only [List.getElem?_toArray, List.getElem?_cons_succ, List.getElem?_cons_zero]; rfl) (by kernel_rfl) (by kernel_rfl) (by kernel_rfl) (fun _ _ _ h => h) (Or.inl ⟨by rfl, ?_⟩) (by assumption) ?_
  rotate_left 1
  · intro w hSw; (try dsimp only at hSw); go_simp; all_goals (with_reducible rfl)
  try simp only [Act.put, List.setIfInBounds_toArray, List.set_cons_zero, List.set_cons_succ]
  refine wpAnyH_take (i := 16) (v := ?_) (by simp only [List.getElem?_toArray, List.getElem?_cons_succ, List.getElem?_cons_zero]; rfl) (by kernel_rfl) (by kernel_rfl) (by kernel_rfl) (fun _ _ _ h => h) (Or.inl ⟨by rfl, ?_⟩) (by assumption) ?_
  rotate_left 1
  · intro w hSw; (try dsimp only at hSw); go_simp; all_goals (with_reducible rfl)
  try simp only [Act.put, List.setIfInBounds_toArray, List.set_cons_zero, List.set_cons_succ]
  refine wpAnyH_take (i := 17) (v := ?_) (by simp only [List.getElem?_toArray, List.getElem?_cons_succ, List.getElem?_cons_zero]; rfl) (by kernel_rfl) (by kernel_rfl) (by kernel_rfl) (fun _ _ _ h => h) (Or.inl ⟨by rfl, ?_⟩) (by assumption) ?_
  rotate_left 1
  · intro w hSw; (try dsimp only at hSw); go_simp; all_goals (with_reducible rfl)
  try simp only [Act.put, List.setIfInBounds_toArray, List.set_cons_zero, List.set_cons_succ]
  refine wpAnyH_take (i := 18) (v := ?_) (by simp only [List.getElem?_toArray, List.getElem?_cons_succ, List.getElem?_cons_zero]; rfl) (by kernel_rfl) (by kernel_rfl) (by kernel_rfl) (fun _ _ _ h => h) (Or.inl ⟨by rfl, ?_⟩) (by assumption) ?_
  rotate_left 1
  · intro w hSw; (try dsimp only at hSw); go_simp; all_goals (with_reducible rfl)
  try simp only [Act.put, List.setIfInBounds_toArray, List.set_cons_zero, List.set_cons_succ]
  refine wpAnyH_take (i := 19) (v := ?_) (by simp only [List.getElem?_toArray, List.getElem?_cons_succ, List.getElem?_cons_zero]; rfl) (by kernel_rfl) (by kernel_rfl) (by kernel_rfl) (fun _ _ _ h => h) (Or.inl ⟨by rfl, ?_⟩) (by assumption) ?_
  rotate_left 1
  · intro w hSw; (try dsimp only at hSw); go_simp; all_goals (with_reducible rfl)
  try simp only [Act.put, List.setIfInBounds_toArray, List.set_cons_zero, List.set_cons_succ]
  refine wpAnyH_take (i := 20) (v := .agg (paC p)) (by simp only [List.getElem?_toArray, List.getElem?_cons_succ, List.getElem?_cons_zero]; rfl) (by kernel_rfl) (by kernel_rfl) (by kernel_rfl) (fun _ _ _ h => h) (yieldsIf_load_mid (by rfl) 27 (.tmp 4) rfl A 0 rfl (paC p).toList _ (fun w hS => (hS.1).range) Try.underlying27 rfl (by kernel_rfl)) (by assumption) ?_
  try simp only [Act.put, List.setIfInBounds_toArray, List.set_cons_zero, List.set_cons_succ]
  refine wpAnyH_take (i := 22) (v := ?_) (by simp only [List.getElem?_toArray, List.getElem?_cons_succ, List.getElem?_cons_zero]; rfl) (by kernel_rfl) (by kernel_rfl) (by kernel_rfl) (fun _ _ _ h => h) (Or.inl ⟨by rfl, ?_⟩) (by assumption) ?_
  rotate_left 1
  · intro w hSw; (try dsimp only at hSw); go_simp; all_goals (with_reducible rfl)
  try simp only [Act.put, List.setIfInBounds_toArray, List.set_cons_zero, List.set_cons_succ]
  refine wpAnyH_take (i := 23) (v := .agg (paC p)) (by simp only [List.getElem?_toArray, List.getElem?_cons_succ, List.getElem?_cons_zero]; rfl) (by kernel_rfl) (by kernel_rfl) (by kernel_rfl) (fun _ _ _ h => h) (yieldsIf_load_mid (by rfl) 27 (.tmp 4) rfl A 0 rfl (paC p).toList _ (fun w hS => (hS.1).range) Try.underlying27 rfl (by kernel_rfl)) (by assumption) ?_
  try simp only [Act.put, List.setIfInBounds_toArray, List.set_cons_zero, List.set_cons_succ]
  refine wpAnyH_ready (rs := [21]) (by kernel_rfl) (by simp) ?_
  refine AllReadyH.cons (by simp only [List.getElem?_toArray, List.getElem?_cons_succ, List.getElem?_cons_zero]; rfl) (fun K hK => ?_) AllReadyH.nil
  go_simp
  refine (HC.out _).mono ?_; rintro e0 v1 ⟨rfl, hg⟩
  clear hHeld
  replace HGR := Lib.hid (World.grownBy.trans HGR.out hg)
  clear hg
  go_wp2_with fail
  refine hK.out _ _ (KEEP.out _ HGR.out) (fun hHeld => ?_)
  clear hK K
  try simp only [Act.put, List.setIfInBounds_toArray, List.set_cons_zero, List.set_cons_succ]
  refine wpAnyH_ready (rs := [24]) (by kernel_rfl) (by simp) ?_
  refine AllReadyH.cons (by simp only [List.getElem?_toArray, List.getElem?_cons_succ, List.getElem?_cons_zero]; rfl) (fun K hK => ?_) AllReadyH.nil
  go_simp
  refine (HC2.out _).mono ?_; rintro e0 v2 ⟨rfl, hg⟩
  clear hHeld
  replace HGR := Lib.hid (World.grownBy.trans HGR.out hg)
  clear hg
  go_wp2_with fail
  refine hK.out _ _ (KEEP.out _ HGR.out) (fun hHeld => ?_)
  clear hK K
  try simp only [Act.put, List.setIfInBounds_toArray, List.set_cons_zero, List.set_cons_succ]
  refine wpAnyH_take (i := 25) (v := ?_) (by simp only [List.getElem?_toArray, List.getElem?_cons_succ, List.getElem?_cons_zero]; rfl) (by kernel_rfl) (by kernel_rfl) (by kernel_rfl) (fun _ _ _ h => h) (Or.inl ⟨by rfl, ?_⟩) (by assumption) ?_
  rotate_left 1
  · intro w hSw; (try dsimp only at hSw); go_simp; all_goals (with_reducible rfl)
  try simp only [Act.put, List.setIfInBounds_toArray, List.set_cons_zero, List.set_cons_succ]
  refine wpAnyH_take (i := 26) (v := ?_) (by simp only [List.getElem?_toArray, List.getElem?_cons_succ, List.getElem?_cons_zero]; rfl) (by kernel_rfl) (by kernel_rfl) (by kernel_rfl) (fun _ _ _ h => h) (Or.inl ⟨by rfl, ?_⟩) (by assumption) ?_
  rotate_left 1
  · intro w hSw; (try dsimp only at hSw); go_simp; all_goals (with_reducible rfl)
  try simp only [Act.put, List.setIfInBounds_toArray, List.set_cons_zero, List.set_cons_succ]
  refine wpAnyH_take (i := 27) (v := ?_) (by simp only [List.getElem?_toArray, List.getElem?_cons_succ, List.getElem?_cons_zero]; rfl) (by kernel_rfl) (by kernel_rfl) (by kernel_rfl) (fun _ _ _ h => h) (Or.inl ⟨by rfl, ?_⟩) (by assumption) ?_
  rotate_left 1
  · intro w hSw; (try dsimp only at hSw); go_simp; all_goals (with_reducible rfl)
  try simp only [Act.put, List.setIfInBounds_toArray, List.set_cons_zero, List.set_cons_succ]
  refine wpAnyH_done (by kernel_rfl) ?_ _
  refine NoPanic.normal ?_
  go_wp2_with fail
  go_ret
  exact ⟨rfl, World.grownBy.trans HG.out HGR.out⟩


theorem words_main (k : Int) (_ : (Lit.int .i64 k).wf = true) (v : Value) (s : ByteArray) (hs : s.size ≤ maxLen) (w : World) (hv : PAin v) :
    Calls Try.prog 4 #[.int .i64 k, v, .string s] w fun e w' => e = .returned (.bool true) ∧ w.grownBy w' none := by
  obtain ⟨p, rfl, ok, hn, ho, hx⟩ := hv
  exact words_walk k p s.data.toList w ok hn ho hx (by simpa using hs)

end Go.Proofs.Ytpklgcinijlmmaa
namespace Go.Proofs.Ytpklgcinijlmmaa.argsWords
open Go.ChangeShapes Go.WideShapes Go.ChangeAt Go.RowKit

theorem own : ownKnob Try.prog.godebug = none := by kernel_rfl
theorem laidOut : laidOutB Try.prog = true := by kernel_rfl
theorem cellsU8 : Try.prog.cellsOf 5 = 1 := by kernel_rfl
theorem readable : ∀ t ∈ Try.f4.params.toList, Try.prog.readableRec t = true ∧ t < Try.prog.types.size := by
  rw [Try.params4]
  intro t ht
  simp at ht
  rcases ht with rfl | rfl | rfl <;> exact ⟨by kernel_rfl, of_decide_eq_true (by kernel_rfl)⟩

set_option maxRecDepth 100000 in
theorem lifted (os : Os) (started : os.Started) (H : Type) (enc : TypeId × Value → H) :
    ReturnsInHanded {} Try.checked os 4 .any (Rows.argsWordsSpec.pre6 enc Try.prog Try.f4 Rows.argsWordsRow.domain false) (Rows.argsWordsSpec.post enc Try.prog Try.f4 false true false false) := by
  refine returnsInHanded_of_change (C := Try.checked) own started (by kernel_rfl) Try.func4
    (ChangeSpec.witness6 (enc := enc) (C := Try.checked) false ⟨#[], #[.int .i64 0, .agg #[.int .i64 0, .int .i64 0, .int .i64 0, .int .i64 0, .int .i64 0, .int .i64 0, .string ⟨#[]⟩, .string ⟨#[]⟩, .string ⟨#[]⟩, .int .i64 0, .int .i64 0, .int .i64 0, .int .i64 0, .int .i64 0, .int .i64 0, .int .u64 0], .string ⟨#[]⟩], []⟩ 8 (by kernel_rfl) (by kernel_rfl) (by kernel_rfl) (by kernel_rfl)) ?_
  intro W base args ds gs before hval0 hW hcnd _
  have hval : ∀ (j : Nat) t v, Try.f4.params[j]? = some t → args[j]? = some v → Value.okWide Try.prog W .any base t v := hval0
  have hW' := hW
  obtain ⟨p, q, hA0, hV, hps, hfz, hnd⟩ := hW
  have hA : DataW.TrodAll enc Try.prog W 0 (fun _ => true) true Try.f4.params.toList args.toList ds p := hA0
  rw [Try.params4] at hA hval
  obtain ⟨v0, vs0, d0, ds0, p0, q0, hargs0, hds0, hps0, h0, r0⟩ := trodAll_cons hA
  obtain ⟨v1, vs1, d1, ds1, p1, q1, hargs1, hds1, hps1, h1, r1⟩ := trodAll_cons r0
  obtain ⟨v2, vs2, d2, ds2, p2, q2, hargs2, hds2, hps2, h2, r2⟩ := trodAll_cons r1
  obtain ⟨hargsN, hdsN, hpsN⟩ := trodAll_nil r2
  subst hdsN hds2 hds1 hds0
  obtain rfl : args = #[v0, v1, v2] := by cases args; simp_all
  obtain ⟨rfl, rfl⟩ := trodVars_none hV
  clear hA hA0 hV hval0 hfz hnd hps hcnd hargs0 hps0 hargs1 hps1 hargs2 hps2 hargsN hpsN r0 r1 r2
  obtain ⟨a0, rfl, rfl, rfl, w0⟩ := open_int Try.underlying3 (hval 0 _ v0 rfl rfl) h0
  have k1 := open_args (hval 1 _ v1 rfl rfl) h1
  obtain ⟨a2, rfl, rfl, rfl, w2⟩ := ChangeMaps.open_string Try.underlying9 (hval 2 _ v2 rfl rfl) h2
  refine (words_main a0 w0 v1 a2 w2 W  k1 ).mono fun e W2 ⟨he, hg⟩ => ?_
  subst he
  exact ⟨_, rfl, law_end laidOut readable rfl hW' rfl rfl Try.underlying4 hg⟩

theorem over : Rows.argsWordsRow.holds Try.pinned (OpenSpec.ofChange Rows.argsWordsSpec) :=
  OpenClaim.holds_of_wide 4 Try.f4 rfl rfl rfl rfl rfl rfl rfl ⟨rfl, rfl, rfl, rfl, rfl⟩ rfl rfl rfl rfl rfl (by kernel_rfl) Try.func4 (by kernel_rfl)
    (of_decide_eq_true (by kernel_rfl)) (by unfold Func.isWrapper; first | (rw [if_pos (by decide +kernel)]; kernel_rfl) | (rw [if_neg (by decide +kernel)]; exact ⟨rfl, rfl⟩))
    (fun os started H enc _ => lifted os started H enc)

theorem proved : Rows.ArgsWordsSaid := over
end Go.Proofs.Ytpklgcinijlmmaa.argsWords
