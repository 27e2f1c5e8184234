/- Sums of bytes: texts of sums, sums of parts: plain facts. -/
import Derived.Test.YtdicoojodefacaaFnv
namespace Go.Proofs.Ytdicoojodefacaa

/-- A digit's letter. -/
def hexd (n : Nat) : UInt8 := UInt8.ofNat (if n < 10 then 48 + n else 87 + n)
/-- A letter's digit. -/
def dval (c : UInt8) : Option Nat := if 48 ≤ c.toNat ∧ c.toNat ≤ 57 then some (c.toNat - 48) else if 97 ≤ c.toNat ∧ c.toNat ≤ 102 then some (c.toNat - 87) else none

theorem dval_hexd (n : Nat) (h : n < 16) : dval (hexd n) = some n := by
  have : ∀ n : Fin 16, dval (hexd n.1) = some n.1 := by decide +kernel
  exact this ⟨n, h⟩
theorem hexd_dval (c : UInt8) (n : Nat) (h : dval c = some n) : hexd n = c ∧ n < 16 := by
  have key : ∀ c : Fin 256, ∀ n, dval (UInt8.ofNat c.1) = some n → hexd n = UInt8.ofNat c.1 ∧ n < 16 := by
    intro c n h
    have : ∀ c : Fin 256, (dval (UInt8.ofNat c.1)).all (fun n => hexd n == UInt8.ofNat c.1 && decide (n < 16)) = true := by decide +kernel
    have := this c
    rw [h] at this
    simpa using this
  have := key ⟨c.toNat, c.toNat_lt⟩ n
  simp only [UInt8.ofNat_toNat] at this
  exact this h

/-- The last k digits, the greatest first. -/
def digs (u : Nat) : Nat → List UInt8
  | 0 => []
  | k + 1 => hexd (u / 16 ^ k % 16) :: digs u k
def dText (u : Nat) : List UInt8 := digs u 16
theorem digs_len (u k : Nat) : (digs u k).length = k := by
  induction k with
  | zero => rfl
  | succ k ih => unfold digs; rw [List.length_cons, ih]
theorem dText_len (u : Nat) : (dText u).length = 16 := digs_len u 16

/-- The number of letters. -/
def pOn : Option Nat → UInt8 → Option Nat
  | none, _ => none
  | some u, c => (dval c).map (u * 16 + ·)
theorem pOn_some (u : Nat) (c : UInt8) : pOn (some u) c = (dval c).map (u * 16 + ·) := rfl
def pOf (l : List UInt8) : Option Nat := l.foldl pOn (some 0)
theorem foldl_none (l : List UInt8) : l.foldl pOn none = none := by
  induction l with
  | nil => rfl
  | cons c l ih => exact ih
theorem pOf_snoc (l : List UInt8) (c : UInt8) : pOf (l ++ [c]) = pOn (pOf l) c := by unfold pOf; rw [List.foldl_append]; rfl
theorem pOn_lt {l : List UInt8} {a u : Nat} (h : l.foldl pOn (some a) = some u) : u < (a + 1) * 16 ^ l.length := by
  induction l generalizing a with
  | nil => cases h; simp
  | cons c l ih =>
    rw [List.foldl_cons, pOn_some] at h
    cases hd : dval c with
    | none => rw [hd] at h; rw [Option.map_none, foldl_none] at h; cases h
    | some n =>
      rw [hd, Option.map_some] at h
      have := ih h
      have hn := (hexd_dval c n hd).2
      rw [List.length_cons, Nat.pow_succ]
      refine Nat.lt_of_lt_of_le this ?_
      rw [show (a + 1) * (16 ^ l.length * 16) = ((a + 1) * 16) * 16 ^ l.length by rw [Nat.mul_comm (16 ^ l.length) 16, Nat.mul_assoc]]
      exact Nat.mul_le_mul_right _ (by omega)
theorem pOf_lt {l : List UInt8} {u : Nat} (h : pOf l = some u) : u < 16 ^ l.length := by
  have := pOn_lt h
  omega
/-- A text's sum, or the refusal. -/
def dParse (l : List UInt8) : Nat × Nat := if l.length = 16 then (match pOf l with | some u => (u, 0) | none => (0, 4)) else (0, 4)
theorem dParse_lt (l : List UInt8) : (dParse l).1 < 18446744073709551616 := by
  unfold dParse
  split
  · rename_i hl
    cases h : pOf l with
    | none => exact Nat.zero_lt_succ _
    | some u => have := pOf_lt h; rw [hl] at this; exact this
  · exact Nat.zero_lt_succ _

theorem fold_digs (u a k : Nat) : (digs u k).foldl pOn (some a) = some (a * 16 ^ k + u % 16 ^ k) := by
  induction k generalizing a with
  | zero => simp [digs, Nat.mod_one]
  | succ k ih =>
    unfold digs
    rw [List.foldl_cons, pOn_some]
    rw [dval_hexd _ (Nat.mod_lt _ (by omega)), Option.map_some, ih]
    congr 1
    have h : u % 16 ^ (k + 1) = u / 16 ^ k % 16 * 16 ^ k + u % 16 ^ k := by
      rw [Nat.pow_succ, Nat.mod_mul, Nat.mul_comm (16 ^ k)]
      omega
    rw [h, Nat.pow_succ, Nat.add_mul, Nat.mul_comm (16 ^ k) 16, Nat.mul_assoc, Nat.add_assoc]
theorem parse_text (u : Nat) (h : u < 18446744073709551616) : dParse (dText u) = (u, 0) := by
  unfold dParse
  rw [if_pos (dText_len u)]
  have : pOf (dText u) = some u := by
    unfold pOf dText
    rw [fold_digs, Nat.zero_mul, Nat.zero_add, Nat.mod_eq_of_lt h]
  rw [this]

theorem digs_of (l : List UInt8) : ∀ a u, l.foldl pOn (some a) = some u → digs u l.length = l ∧ u / 16 ^ l.length = a := by
  induction l with
  | nil => intro a u h; cases h; simp [digs]
  | cons c l ih =>
    intro a u h
    rw [List.foldl_cons, pOn_some] at h
    cases hd : dval c with
    | none => rw [hd] at h; rw [Option.map_none, foldl_none] at h; cases h
    | some n =>
      rw [hd, Option.map_some] at h
      obtain ⟨h1, h2⟩ := ih _ _ h
      obtain ⟨k1, k2⟩ := hexd_dval c n hd
      rw [List.length_cons, digs, h1, h2, Nat.pow_succ, ← Nat.div_div_eq_div_mul, h2]
      have e1 : (a * 16 + n) % 16 = n := by omega
      have e2 : (a * 16 + n) / 16 = a := by omega
      rw [e1, e2, k1]
      exact ⟨rfl, rfl⟩
theorem text_parse (l : List UInt8) (u : Nat) (h : dParse l = (u, 0)) : dText u = l := by
  unfold dParse at h
  split at h
  · rename_i hl
    cases hp : pOf l with
    | none => rw [hp] at h; cases h
    | some v =>
      rw [hp] at h
      cases h
      have := (digs_of l 0 u hp).1
      rw [hl] at this
      exact this
  · cases h

/-- The eight bytes of a number. -/
def word8 (n : Nat) : List UInt8 := [UInt8.ofNat (n / 72057594037927936), UInt8.ofNat (n / 281474976710656), UInt8.ofNat (n / 1099511627776), UInt8.ofNat (n / 4294967296), UInt8.ofNat (n / 16777216), UInt8.ofNat (n / 65536), UInt8.ofNat (n / 256), UInt8.ofNat n]
def partOf (p : List UInt8) : List UInt8 := word8 p.length ++ p
def partsOf (ps : List (List UInt8)) : List UInt8 := ps.flatMap partOf
/-- The sum of parts. -/
def dOf (ps : List (List UInt8)) : Nat := fnv (partsOf ps)
theorem partsOf_snoc (ps : List (List UInt8)) (p : List UInt8) : partsOf (ps ++ [p]) = partsOf ps ++ partOf p := by simp [partsOf]
theorem fnv_app (a b : List UInt8) : fnv (a ++ b) = sumOn fnvM fnvP (fnv a) b := sumOn_append _ _ _ _ _
theorem dOf_snoc (ps : List (List UInt8)) (p : List UInt8) : dOf (ps ++ [p]) = sumOn fnvM fnvP (sumOn fnvM fnvP (dOf ps) (word8 p.length)) p := by
  unfold dOf
  rw [partsOf_snoc, fnv_app]
  unfold partOf
  rw [sumOn_append]
theorem dOf_lt (ps : List (List UInt8)) : dOf ps < fnvM := fnv_lt _

/-- What undoes the factor. -/
def fnvQ : Nat := 14886173955864302971
theorem fnv_inv : fnvP * fnvQ % fnvM = 1 := by decide +kernel
theorem sumStep_inj (u v : Nat) (a b : UInt8) (hu : u < fnvM) (hv : v < fnvM) (h : sumStep fnvM fnvP u a = sumStep fnvM fnvP v b) : u ^^^ a.toNat = v ^^^ b.toNat := by
  have lt : ∀ (x : Nat) (c : UInt8), x < fnvM → x ^^^ c.toNat < fnvM := by
    intro x c hx
    have h1 : x < 2 ^ 64 := hx
    have h2 : c.toNat < 2 ^ 64 := Nat.lt_of_lt_of_le c.toNat_lt (by decide)
    exact Nat.xor_lt_two_pow h1 h2
  unfold sumStep at h
  have ha := lt u a hu
  have hb := lt v b hv
  generalize u ^^^ a.toNat = x at *
  generalize v ^^^ b.toNat = y at *
  have h2 : (x * fnvP) * fnvQ % fnvM = (y * fnvP) * fnvQ % fnvM := by
    rw [Nat.mul_mod, h, ← Nat.mul_mod]
  rw [Nat.mul_assoc, Nat.mul_assoc, Nat.mul_mod x, Nat.mul_mod y, fnv_inv, Nat.mul_one, Nat.mul_one, Nat.mod_mod, Nat.mod_mod, Nat.mod_eq_of_lt ha, Nat.mod_eq_of_lt hb] at h2
  exact h2
theorem xor_same (u v c : Nat) (h : u ^^^ c = v ^^^ c) : u = v := by
  have := congrArg (· ^^^ c) h
  simpa [Nat.xor_assoc] using this
theorem sumOn_inj (l : List UInt8) : ∀ u v, u < fnvM → v < fnvM → sumOn fnvM fnvP u l = sumOn fnvM fnvP v l → u = v := by
  induction l with
  | nil => intro u v _ _ h; exact h
  | cons c l ih =>
    intro u v hu hv h
    rw [sumOn_cons, sumOn_cons] at h
    have := ih _ _ (sumStep_lt fnvM_pos u c) (sumStep_lt fnvM_pos v c) h
    exact xor_same u v c.toNat (sumStep_inj u v c c hu hv this)
theorem fnv_end (a b e : List UInt8) : fnv (a ++ e) = fnv (b ++ e) ↔ fnv a = fnv b := by
  rw [fnv_app, fnv_app]
  exact ⟨sumOn_inj e _ _ (fnv_lt a) (fnv_lt b), fun h => by rw [h]⟩
theorem fnv_byte (x y : List UInt8) (a b : UInt8) : fnv (x ++ [a] ++ y) = fnv (x ++ [b] ++ y) ↔ a = b := by
  rw [fnv_end, fnv_app, fnv_app, sumOn_one, sumOn_one]
  refine ⟨fun h => ?_, fun h => by rw [h]⟩
  have := sumStep_inj _ _ a b (fnv_lt x) (fnv_lt x) h
  have h2 : a.toNat = b.toNat := by
    rw [Nat.xor_comm, Nat.xor_comm (fnv x)] at this
    exact xor_same _ _ _ this
  exact UInt8.toNat_inj.1 h2
end Go.Proofs.Ytdicoojodefacaa
