/- Structs of numbers and a string that came in. -/
import Derived.ProofKit
import Derived.WideShapes
import Derived.Deep.Strs
import Derived.Lib.SmallJoins
import Derived.SizedLaws
namespace Go.Proofs.Ytkhlmfnfcdhceaa
open Go.RowKit

section
variable {H : Type} {enc : TypeId × Value → H} {P : Program}
open Go.ChangeShapes Go.WideShapes Go.ChangeAt

/-- A struct of three numbers and a string that came in. -/
theorem open_head {t : TypeId} {f0 f1 f2 f3 : Field} {k0 k1 k2 : IntKind} (ht : P.underlying t = some (.struct #[f0, f1, f2, f3])) (ct : P.cellsOf t = 4) (o0 : f0.offset = 0) (o1 : f1.offset = 1) (o2 : f2.offset = 2) (o3 : f3.offset = 3)
    (c0 : P.cellsOf f0.type = 1) (c1 : P.cellsOf f1.type = 1) (c2 : P.cellsOf f2.type = 1) (c3 : P.cellsOf f3.type = 1)
    (h0 : P.underlying f0.type = some (.int k0)) (h1 : P.underlying f1.type = some (.int k1)) (h2 : P.underlying f2.type = some (.int k2)) (h3 : P.underlying f3.type = some .string)
    {W : World} {base : Nat} {v : Value} {d : DataW H} {p : List MemPlace} (hval : Value.okWide P W .any base t v) (h : DataW.Trod enc P W 0 (fun _ => true) true t v d p) :
    ∃ (a b c : Int) (s : ByteArray), v = .agg #[.int k0 a, .int k1 b, .int k2 c, .string s] ∧ ((Lit.int k0 a).wf = true ∧ (Lit.int k1 b).wf = true ∧ (Lit.int k2 c).wf = true) ∧ s.size ≤ maxLen ∧ ∃ d0 d1 d2, d = .agg [d0, d1, d2, .lit (.string s.data.toList)] := by
  obtain ⟨cs, rfl, hcs⟩ := okWide_struct ht hval
  rw [ct] at hcs
  obtain ⟨fuel, hf⟩ := h
  obtain ⟨y0, y1, y2, y3, n, hd, _, g0, g1, g2, g3⟩ := Go.Joins.trod_struct4 ht hf
  obtain ⟨l⟩ := cs
  match l, hcs with
  | [x0, x1, x2, x3], _ =>
    rw [o0, c0] at g0; rw [o1, c1] at g1; rw [o2, c2] at g2; rw [o3, c3] at g3
    obtain ⟨a, e0, _, w0⟩ := DataW.trod_int h0 g0
    obtain ⟨b, e1, _, w1⟩ := DataW.trod_int h1 g1
    obtain ⟨c, e2, _, w2⟩ := DataW.trod_int h2 g2
    obtain ⟨s, e3, z3, w3⟩ := DataW.trod_string h3 g3
    simp [Value.cells] at e0 e1 e2 e3
    subst e0 e1 e2 e3
    exact ⟨a, b, c, s, rfl, ⟨w0, w1, w2⟩, w3, y0.1, y1.1, y2.1, by rw [z3] at hd; exact congrArg Prod.fst hd⟩

/-- A struct of two numbers and a string that came in. -/
theorem open_answer {t : TypeId} {f0 f1 f2 : Field} {k0 k1 : IntKind} (ht : P.underlying t = some (.struct #[f0, f1, f2])) (ct : P.cellsOf t = 3) (o0 : f0.offset = 0) (o1 : f1.offset = 1) (o2 : f2.offset = 2)
    (c0 : P.cellsOf f0.type = 1) (c1 : P.cellsOf f1.type = 1) (c2 : P.cellsOf f2.type = 1)
    (h0 : P.underlying f0.type = some (.int k0)) (h1 : P.underlying f1.type = some (.int k1)) (h2 : P.underlying f2.type = some .string)
    {W : World} {base : Nat} {v : Value} {d : DataW H} {p : List MemPlace} (hval : Value.okWide P W .any base t v) (h : DataW.Trod enc P W 0 (fun _ => true) true t v d p) :
    ∃ (a b : Int) (s : ByteArray), v = .agg #[.int k0 a, .int k1 b, .string s] ∧ ((Lit.int k0 a).wf = true ∧ (Lit.int k1 b).wf = true) ∧ s.size ≤ maxLen ∧ ∃ d0 d1, d = .agg [d0, d1, .lit (.string s.data.toList)] := by
  obtain ⟨cs, rfl, hcs⟩ := okWide_struct ht hval
  rw [ct] at hcs
  obtain ⟨fuel, hf⟩ := h
  obtain ⟨y0, y1, y2, n, hd, _, g0, g1, g2⟩ := Deep.trod_struct3 ht hf
  obtain ⟨l⟩ := cs
  match l, hcs with
  | [x0, x1, x2], _ =>
    rw [o0, c0] at g0; rw [o1, c1] at g1; rw [o2, c2] at g2
    obtain ⟨a, e0, _, w0⟩ := DataW.trod_int h0 g0
    obtain ⟨b, e1, _, w1⟩ := DataW.trod_int h1 g1
    obtain ⟨s, e2, z2, w2⟩ := DataW.trod_string h2 g2
    simp [Value.cells] at e0 e1 e2
    subst e0 e1 e2
    exact ⟨a, b, s, rfl, ⟨w0, w1⟩, w2, y0.1, y1.1, by rw [z2] at hd; exact congrArg Prod.fst hd⟩

/-- How long a text in a struct can be. -/
theorem head_reach {ts : List TypeId} {ds : List (DataW H)} (h : (DataW.weightsEach P ts ds).all (· ≤ reachBytes) = true) {j : Nat} {t : TypeId} {f0 f1 f2 f3 : Field} {d0 d1 d2 : DataW H} {l : List UInt8} (hts : ts[j]? = some t) (hds : ds[j]? = some (.agg [d0, d1, d2, .lit (.string l)])) (ht : P.underlying t = some (.struct #[f0, f1, f2, f3])) : l.length ≤ 140737488355328 := by
  have := List.all_eq_true.1 h _ (DataW.weights_mem_each hts hds l.length (by simp [DataW.weights, DataW.weightsEach, ht]))
  have h2 := reachBytes_lt
  simp only [decide_eq_true_eq] at this
  omega
theorem answer_reach {ts : List TypeId} {ds : List (DataW H)} (h : (DataW.weightsEach P ts ds).all (· ≤ reachBytes) = true) {j : Nat} {t : TypeId} {f0 f1 f2 : Field} {d0 d1 : DataW H} {l : List UInt8} (hts : ts[j]? = some t) (hds : ds[j]? = some (.agg [d0, d1, .lit (.string l)])) (ht : P.underlying t = some (.struct #[f0, f1, f2])) : l.length ≤ 140737488355328 := by
  have := List.all_eq_true.1 h _ (DataW.weights_mem_each hts hds l.length (by simp [DataW.weights, DataW.weightsEach, ht]))
  have h2 := reachBytes_lt
  simp only [decide_eq_true_eq] at this
  omega
end
end Go.Proofs.Ytkhlmfnfcdhceaa
