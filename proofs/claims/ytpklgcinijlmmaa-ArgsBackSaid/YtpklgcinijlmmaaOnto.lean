/- Plain facts on bytes: what was read, written again, is just what was read of. -/
import Derived.Test.YtpklgcinijlmmaaPure
namespace Go.Proofs.Ytpklgcinijlmmaa
open Go.RowKit

theorem word4_n4 (a b c d : UInt8) : word4 (n4 a b c d).toNat = [a, b, c, d] := by
  have ha := a.toNat_lt; have hb := b.toNat_lt; have hc := c.toNat_lt; have hd := d.toNat_lt
  have e : (n4 a b c d).toNat = a.toNat * 16777216 + b.toNat * 65536 + c.toNat * 256 + d.toNat := by unfold n4 num4; omega
  have of : ∀ (n : Nat) (x : UInt8), n % 256 = x.toNat → UInt8.ofNat n = x := fun n x h => by
    apply UInt8.toNat_inj.1
    rw [UInt8.toNat_ofNat']
    simpa using h
  unfold word4
  rw [e, of _ a (by omega), of _ b (by omega), of _ c (by omega), of _ d (by omega)]

theorem n4_range (a b c d : UInt8) : 0 ≤ n4 a b c d ∧ n4 a b c d < 4294967296 := num4_lt _ _ _ _ a.toNat_lt b.toNat_lt c.toNat_lt d.toNat_lt

/-- What a read of these bytes told, and left, was this text of bytes. -/
theorem rWord_onto {s l : List UInt8} {n : Int} (h : rWord (some s) = (n, some l)) : 0 ≤ n ∧ n < 4294967296 ∧ s = word4 n.toNat ++ l := by
  unfold rWord at h
  split at h
  · rename_i a b c d bs heq
    cases heq
    cases h
    exact ⟨(n4_range a b c d).1, (n4_range a b c d).2, by rw [word4_n4]; rfl⟩
  · cases h

theorem rWord_zero {s : List UInt8} {n : Int} (h : rWord (some s) = (n, none)) : n = 0 := by
  unfold rWord at h
  split at h <;> cases h
  rfl

theorem rLong_onto {s l : List UInt8} {n : Int} (h : rLong (some s) = (n, some l)) : 0 ≤ n ∧ n < 18446744073709551616 ∧ s = longB n.toNat ++ l := by
  unfold rLong at h
  split at h
  · rename_i a b c d a' b' c' d' bs heq
    cases heq
    cases h
    have h1 := n4_range a b c d
    have h2 := n4_range a' b' c' d'
    have e : n8 a b c d a' b' c' d' = n4 a b c d * 4294967296 + n4 a' b' c' d' := rfl
    rw [e]
    refine ⟨by omega, by omega, ?_⟩
    unfold longB
    rw [show (n4 a b c d * 4294967296 + n4 a' b' c' d').toNat / 4294967296 = (n4 a b c d).toNat by omega, show (n4 a b c d * 4294967296 + n4 a' b' c' d').toNat % 4294967296 = (n4 a' b' c' d').toNat by omega, word4_n4, word4_n4]
    rfl
  · cases h

theorem rLong_zero {s : List UInt8} {n : Int} (h : rLong (some s) = (n, none)) : n = 0 := by
  unfold rLong at h
  split at h <;> cases h
  rfl

theorem asInt_range (n : Int) : -9223372036854775808 ≤ asInt n ∧ asInt n ≤ 9223372036854775807 := by rw [asInt_eq]; omega

theorem rInt_onto {s l : List UInt8} {n : Int} (h : rInt (some s) = (n, some l)) : s = longB (bits64 n) ++ l := by
  unfold rInt at h
  generalize hp : rLong (some s) = p at h
  obtain ⟨q, t⟩ := p
  simp only [Prod.mk.injEq] at h
  obtain ⟨rfl, rfl⟩ := h
  obtain ⟨h0, h1, h2⟩ := rLong_onto hp
  rw [show bits64 (asInt q) = q.toNat by rw [asInt_eq]; unfold bits64; omega]
  exact h2

theorem rCount_onto {s l : List UInt8} {m n : Int} (h : rCount m (some s) = (n, some l)) : 0 ≤ n ∧ n < 4294967296 ∧ n ≤ m ∧ s = word4 n.toNat ++ l := by
  unfold rCount at h
  split at h
  · rename_i a b c d bs heq
    cases heq
    split at h
    · rename_i hm
      cases h
      exact ⟨(n4_range a b c d).1, (n4_range a b c d).2, hm, by rw [word4_n4]; rfl⟩
    · cases h
  · cases h

theorem rCount_zero {st : St} {m n : Int} (h : rCount m st = (n, none)) : n = 0 := by
  unfold rCount at h
  split at h
  · split at h <;> cases h
    rfl
  · cases h; rfl

theorem rFlag_onto {s l : List UInt8} {b : Bool} (h : rFlag (some s) = (b, some l)) : s = flagB b ++ l := by
  unfold rFlag at h
  generalize hp : rCount 1 (some s) = p at h
  obtain ⟨q, t⟩ := p
  simp only [Prod.mk.injEq] at h
  obtain ⟨rfl, rfl⟩ := h
  obtain ⟨h0, h1, h2, h3⟩ := rCount_onto hp
  unfold flagB
  have h4 : q = 0 ∨ q = 1 := by omega
  rcases h4 with rfl | rfl
  · exact h3
  · exact h3

theorem zeros_eq {zs : List UInt8} (h : zeros zs) : zs = List.replicate zs.length 0 := by
  apply List.ext_getElem (by simp)
  intro i h1 h2
  rw [h i h1]
  simp

theorem rFixed_onto {s l t : List UInt8} {n : Int} (h : rFixed n (some s) = (t, some l)) : s = fixedB t ++ l := by
  unfold rFixed at h
  split at h
  · cases h
  · rename_i bs heq
    cases heq
    split at h
    · rename_i hc
      obtain ⟨h0, h1, h2⟩ := hc
      cases h
      obtain ⟨k, rfl⟩ := Int.eq_ofNat_of_zero_le h0
      rw [Int.toNat_natCast] at *
      have hl : (s.take k).length = k := by rw [List.length_take]; omega
      have hz := zeros_eq h2
      have hzl : ((s.drop k).take (pad k)).length = pad k := by rw [List.length_take, List.length_drop]; omega
      rw [hzl] at hz
      unfold fixedB
      rw [hl, ← hz, List.append_assoc]
      rw [← List.drop_drop, List.take_append_drop, List.take_append_drop]
    · cases h

theorem rFixed_empty {st : St} {t : List UInt8} {n : Int} (h : rFixed n st = (t, none)) : t = [] := by
  unfold rFixed at h
  split at h
  · cases h; rfl
  · split at h <;> cases h
    rfl

theorem rFixed_len {s l t : List UInt8} {n : Int} (h : rFixed n (some s) = (t, some l)) : (t.length : Int) = n := by
  unfold rFixed at h
  split at h
  · cases h
  · rename_i bs heq
    cases heq
    split at h
    · rename_i hc
      cases h
      rw [List.length_take]
      omega
    · cases h

theorem rText_onto {s l t : List UInt8} {m : Int} (h : rText m (some s) = (t, some l)) : s = textB t ++ l := by
  unfold rText at h
  generalize hp : rCount (max m 0) (some s) = p at h
  obtain ⟨q, st⟩ := p
  cases st with
  | none => simp only [rFixed] at h; cases h
  | some u =>
    obtain ⟨h0, h1, h2, h3⟩ := rCount_onto hp
    have h4 := rFixed_len h
    have h5 := rFixed_onto h
    unfold textB
    rw [show t.length = q.toNat by omega, List.append_assoc, ← h5]
    exact h3

theorem rText_empty {st : St} {t : List UInt8} {m : Int} (h : rText m st = (t, none)) : t = [] := rFixed_empty h
theorem rFixed_short {s : List UInt8} {t : List UInt8} {n : Int} {u : St} (h : rFixed n (some s) = (t, u)) : t.length ≤ s.length := by
  cases u with
  | none => rw [rFixed_empty h]; simp
  | some l => rw [rFixed_onto h]; unfold fixedB; simp only [List.length_append]; omega
theorem rText_short {s : List UInt8} {t : List UInt8} {n : Int} {u : St} (h : rText n (some s) = (t, u)) : t.length ≤ s.length := by
  cases u with
  | none => rw [rText_empty h]; simp
  | some l => rw [rText_onto h]; unfold textB fixedB; simp only [List.length_append]; omega
end Go.Proofs.Ytpklgcinijlmmaa
