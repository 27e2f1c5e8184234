/- Contracts of xdr.Reader's methods: numbers of 64 bits. -/
import Derived.Test.YtkhlmfnfcdhceaaRdr2
import Derived.Deep.RegionHeld3
namespace Go.Proofs.Ytkhlmfnfcdhceaa
open Go.RowKit

theorem Bts.eight {w : World} {v : Value} {a b c d a' b' c' d' : UInt8} (h : Bts w v [a, b, c, d, a', b', c', d']) : ∃ g o k, v = .slice (some ⟨g, o, none⟩) 8 k ∧ 8 ≤ k ∧ k ≤ maxLen ∧
    w.cell? ⟨g, o, none⟩ = some (.int .u8 a.toNat) ∧ w.cell? ⟨g, o + 1, none⟩ = some (.int .u8 b.toNat) ∧ w.cell? ⟨g, o + 2, none⟩ = some (.int .u8 c.toNat) ∧ w.cell? ⟨g, o + 3, none⟩ = some (.int .u8 d.toNat) ∧
    w.cell? ⟨g, o + 4, none⟩ = some (.int .u8 a'.toNat) ∧ w.cell? ⟨g, o + 5, none⟩ = some (.int .u8 b'.toNat) ∧ w.cell? ⟨g, o + 6, none⟩ = some (.int .u8 c'.toNat) ∧ w.cell? ⟨g, o + 7, none⟩ = some (.int .u8 d'.toNat) := by
  rcases h with ⟨_, h⟩ | ⟨g, o, k, rfl, h1, h2, h3⟩ | ⟨_, _, h⟩
  rotate_left 2
  · cases h
  · cases h
  · exact ⟨g, o, k, rfl, h1, h2, h3 0 (by simp), h3 1 (by simp), h3 2 (by simp), h3 3 (by simp), h3 4 (by simp), h3 5 (by simp), h3 6 (by simp), h3 7 (by simp)⟩

/-- The number of eight bytes. -/
def num8 (a b c d a' b' c' d' : Nat) : Int := num4 a b c d * 4294967296 + num4 a' b' c' d'

/-- A number of 64 bits as an int. -/
def asInt (n : Int) : Int := wrap64 n

end Go.Proofs.Ytkhlmfnfcdhceaa
