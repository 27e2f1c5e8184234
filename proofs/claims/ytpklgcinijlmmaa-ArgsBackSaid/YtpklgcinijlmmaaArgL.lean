/- Arguments as words: the letters. -/
import Derived.Test.YtpklgcinijlmmaaArgA
namespace Go.Proofs.Ytpklgcinijlmmaa
open Go.RowKit

def isL (c : UInt8) : Prop := c = 72 ∨ c = 84 ∨ c = 110 ∨ c = 111 ∨ c = 116 ∨ c = 118 ∨ c = 97 ∨ c = 78 ∨ c = 109 ∨ c = 115 ∨ c = 83 ∨ c = 103

theorem asks_isL (k : Nat) : ∀ c ∈ asks k, isL c := by
  intro c hc
  unfold asks at hc
  split at hc <;> simp at hc <;> (try rcases hc with rfl | rfl | rfl | rfl) <;> (try rcases hc with rfl | rfl | rfl) <;> (try rcases hc with rfl | rfl) <;> simp_all [isL]
end Go.Proofs.Ytpklgcinijlmmaa
