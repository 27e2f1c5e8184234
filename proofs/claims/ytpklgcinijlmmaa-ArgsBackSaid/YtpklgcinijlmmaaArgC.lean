/- Arguments as words: which arguments may be. -/
import Derived.Test.YtpklgcinijlmmaaArgB
namespace Go.Proofs.Ytpklgcinijlmmaa
open Go.RowKit

/-- What is not asked for is zero, what is asked for may be: the tests in their order. -/
def bad1 (l : List UInt8) (p : PA) : Bool := (decide (72 ∈ l) && !decide (hMay p.h)) || (!decide (72 ∈ l) && decide (p.h ≠ noHn)) || (decide (84 ∈ l) && !decide (hMay p.t)) || (!decide (84 ∈ l) && decide (p.t ≠ noHn))
def bad2 (l : List UInt8) (p : PA) : Bool := (!decide (110 ∈ l) && p.n != []) || (!decide (111 ∈ l) && p.o != []) || (!decide (116 ∈ l) && p.x != []) || (!decide (97 ∈ l) && p.a != 0) || (!decide (78 ∈ l) && p.c != 0) || (!decide (109 ∈ l) && p.m != 0)
def bad3 (l : List UInt8) (p : PA) : Bool := (!decide (115 ∈ l) && p.s != 0) || (!decide (83 ∈ l) && p.b != 0) || (!decide (103 ∈ l) && p.g != 0) || (!decide (118 ∈ l) && p.v != 0)
def aMay (l : List UInt8) (p : PA) : Bool := !bad1 l p && !bad2 l p && !bad3 l p && (decide (p.n.length ≤ 255) && decide (p.o.length ≤ 255) && decide (p.x.length ≤ 2048))

theorem aMay_1 {l : List UInt8} {p : PA} (h : bad1 l p = true) : aMay l p = false := by simp [aMay, h]
theorem aMay_2 {l : List UInt8} {p : PA} (h : bad2 l p = true) : aMay l p = false := by simp [aMay, h]
theorem aMay_3 {l : List UInt8} {p : PA} (h : bad3 l p = true) : aMay l p = false := by simp [aMay, h]
theorem hn_parts {a1 a2 a3 : Int} (h : (⟨a1, a2, a3⟩ : Hn) ≠ noHn) : ¬ a1 = 0 ∨ a1 = 0 ∧ ¬ a2 = 0 ∨ a1 = 0 ∧ a2 = 0 ∧ ¬ a3 = 0 := by
  rw [ne_eq, hn_eq] at h
  unfold noHn at h
  dsimp only at h
  omega
theorem hn_none {a1 a2 a3 : Int} (h : ¬ (⟨a1, a2, a3⟩ : Hn) ≠ noHn) : a1 = 0 ∧ a2 = 0 ∧ a3 = 0 := by
  rw [ne_eq, hn_eq] at h
  unfold noHn at h
  dsimp only at h
  omega
end Go.Proofs.Ytpklgcinijlmmaa
