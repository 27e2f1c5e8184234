/- A slice of texts in memory, whosoever's. -/
import Derived.Test.YtdicoojodefacaaBase
import Derived.Test.YtdicoojodefacaaLaw
namespace Go.Proofs.Ytdicoojodefacaa
open Go.RowKit

/-- A slice of texts, whosoever's. -/
def Strs (w : World) (v : Value) (xs : List (List UInt8)) : Prop :=
  (v = .slice none 0 0 ∧ xs = []) ∨ (∃ b o c, v = .slice (some ⟨b, o, none⟩) xs.length c ∧ xs.length ≤ c ∧ c ≤ maxLen ∧ ∀ i (h : i < xs.length), w.cell? ⟨b, o + i, none⟩ = some (.string ⟨xs[i].toArray⟩)) ∨ ∃ a, v = .slice (some a) 0 0 ∧ xs = []

theorem Strs.form {w : World} {v : Value} {xs : List (List UInt8)} (h : Strs w v xs) : ∃ a c, v = .slice a xs.length c ∧ xs.length ≤ c ∧ c ≤ maxLen := by
  rcases h with ⟨rfl, rfl⟩ | ⟨b, o, c, rfl, h1, h2, _⟩ | ⟨a, rfl, rfl⟩
  · exact ⟨none, 0, rfl, Nat.le_refl _, Nat.zero_le _⟩
  · exact ⟨_, _, rfl, h1, h2⟩
  · exact ⟨_, 0, rfl, Nat.le_refl _, Nat.zero_le _⟩

theorem Strs.at {w : World} {v : Value} {xs : List (List UInt8)} (h : Strs w v xs) (h0 : 0 < xs.length) : ∃ b o c, v = .slice (some ⟨b, o, none⟩) xs.length c ∧ ∀ i (h : i < xs.length), w.cell? ⟨b, o + i, none⟩ = some (.string ⟨xs[i].toArray⟩) := by
  rcases h with ⟨_, rfl⟩ | ⟨b, o, c, rfl, _, _, h3⟩ | ⟨a, _, rfl⟩
  · exact absurd h0 (by simp)
  · exact ⟨b, o, c, rfl, h3⟩
  · exact absurd h0 (by simp)

theorem Strs.kept {w w' : World} {row : Option Nat} {v : Value} {xs : List (List UInt8)} (h : Strs w v xs) (hg : w.grownBy w' row) (hne : v.ownBlock = none ∨ v.ownBlock ≠ row) : Strs w' v xs := by
  rcases h with h | ⟨b, o, c, rfl, h1, h2, h3⟩ | h
  · exact .inl h
  · refine .inr (.inl ⟨b, o, c, rfl, h1, h2, fun i hi => ?_⟩)
    refine hg.cell (h3 i hi) ?_
    rcases hne with hne | hne
    · simp [Value.ownBlock] at hne
    · simpa [Value.ownBlock] using hne
  · exact .inr (.inr h)

theorem Strs.new {w w' : World} {v : Value} {xs : List (List UInt8)} (h : Strs w v xs) (hg : w.grownBy w' none) : Strs w' v xs := by
  refine h.kept hg ?_
  cases v.ownBlock <;> simp

theorem strs_of {W : World} {v : Value} (h : ∃ ss : List ByteArray, (∀ s ∈ ss, s.size ≤ maxLen) ∧ Elems W v 1 ss.length (fun i => .string (ss.getD i ByteArray.empty))) : ∃ xs : List (List UInt8), Strs W v xs ∧ ∀ x ∈ xs, x.length ≤ maxLen := by
  obtain ⟨ss, h1, h2⟩ := h
  refine ⟨ss.map fun s => s.data.toList, ?_, fun x hx => ?_⟩
  · rcases h2 with ⟨rfl, h0⟩ | ⟨b, o, c, rfl, k1, k2, k3⟩ | ⟨a, rfl, h0⟩
    · exact .inl ⟨rfl, by rw [List.eq_nil_of_length_eq_zero h0]; rfl⟩
    · refine .inr (.inl ⟨b, o, c, by simp, by simpa using k1, k2, fun i hi => ?_⟩)
      simp only [List.length_map] at hi
      rw [k3 i (by omega)]
      simp [List.getD, List.getElem?_eq_getElem hi]
    · exact .inr (.inr ⟨a, rfl, by rw [List.eq_nil_of_length_eq_zero h0]; rfl⟩)
  · obtain ⟨s, hs, rfl⟩ := List.mem_map.1 hx
    simpa using h1 s hs
end Go.Proofs.Ytdicoojodefacaa
