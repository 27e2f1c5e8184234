/- Handles as bytes: plain facts. -/
import Derived.Test.YtpklgcinijlmmaaNum
namespace Go.Proofs.Ytpklgcinijlmmaa

/-- A handle: Snap, Ino, Gen. -/
structure Hn where
  s : Int
  i : Int
  g : Int
deriving DecidableEq

def noHn : Hn := ⟨0, 0, 0⟩

def isC (n : Int) : Prop := 0 ≤ n ∧ n ≤ 2147483647
instance (n : Int) : Decidable (isC n) := by unfold isC; infer_instance

def hMay (h : Hn) : Prop := isC h.s ∧ isC h.i ∧ 1 ≤ h.i ∧ isC h.g
instance (h : Hn) : Decidable (hMay h) := by unfold hMay; infer_instance

/-- The 16 bytes ahead of the sum, and the sum's 8. -/
def h16 (h : Hn) : List UInt8 := word4 1 ++ (word4 h.s.toNat ++ (word4 h.i.toNat ++ word4 h.g.toNat))
def sum8 (u : Nat) : List UInt8 := word4 (u / 4294967296) ++ word4 (u % 4294967296)
def hB (F : List UInt8 → Nat) (h : Hn) : List UInt8 := h16 h ++ sum8 (F (h16 h))

section
variable {F : List UInt8 → Nat}
theorem h16_len (h : Hn) : (h16 h).length = 16 := rfl
theorem sum8_len (u : Nat) : (sum8 u).length = 8 := rfl
theorem hB_len (h : Hn) : (hB F h).length = 24 := rfl

def hEnc (F : List UInt8 → Nat) (h : Hn) : List UInt8 × Int := if hMay h then (hB F h, 0) else ([], 4)

/-- The number of the four bytes from k on. -/
def numAt (l : List UInt8) (k : Nat) : Nat := (num4 (l.getD k 0).toNat (l.getD (k + 1) 0).toNat (l.getD (k + 2) 0).toNat (l.getD (k + 3) 0).toNat).toNat

/-- The handle that bytes say, if they are a handle's. -/
def said (l : List UInt8) : Hn := ⟨numAt l 4, numAt l 8, numAt l 12⟩

def hDec (F : List UInt8 → Nat) (l : List UInt8) : Hn × Int := if l.length = 24 ∧ hMay (said l) ∧ hB F (said l) = l then (said l, 0) else (noHn, 4)

theorem num_word (n : Nat) (h : n < 4294967296) : (num4 (UInt8.ofNat (n / 16777216)).toNat (UInt8.ofNat (n / 65536)).toNat (UInt8.ofNat (n / 256)).toNat (UInt8.ofNat n).toNat).toNat = n := by
  rw [num4_word4 n h]; rfl

theorem said_hB (h : Hn) (hm : hMay h) (t : List UInt8) : said (h16 h ++ t) = h := by
  obtain ⟨h1, h2, _, h3⟩ := hm
  obtain ⟨s, i, g⟩ := h
  unfold isC at h1 h2 h3
  dsimp only at h1 h2 h3
  have e1 : numAt (h16 ⟨s, i, g⟩ ++ t) 4 = s.toNat := num_word s.toNat (by omega)
  have e2 : numAt (h16 ⟨s, i, g⟩ ++ t) 8 = i.toNat := num_word i.toNat (by omega)
  have e3 : numAt (h16 ⟨s, i, g⟩ ++ t) 12 = g.toNat := num_word g.toNat (by omega)
  unfold said
  rw [e1, e2, e3, Int.toNat_of_nonneg h1.1, Int.toNat_of_nonneg h2.1, Int.toNat_of_nonneg h3.1]

theorem hEnc_ok {h : Hn} {t : List UInt8} (e : hEnc F h = (t, 0)) : t = hB F h ∧ hMay h := by
  unfold hEnc at e
  split at e
  · rename_i q; exact ⟨(congrArg Prod.fst e).symm, q⟩
  · cases congrArg Prod.snd e
theorem hEnc_of {h : Hn} (hm : hMay h) : hEnc F h = (hB F h, 0) := if_pos hm
theorem hEnc_not {h : Hn} (hm : ¬ hMay h) : hEnc F h = ([], 4) := if_neg hm

theorem hDec_hB {h : Hn} (hm : hMay h) : hDec F (hB F h) = (h, 0) := by
  have e : said (hB F h) = h := said_hB h hm _
  unfold hDec
  rw [e, if_pos ⟨rfl, hm, rfl⟩]

/-- Decode of Encode is the handle. -/
theorem enc_dec {h : Hn} {t : List UInt8} (e : hEnc F h = (t, 0)) : hDec F t = (h, 0) := by
  obtain ⟨rfl, hm⟩ := hEnc_ok e
  exact hDec_hB hm

theorem hDec_ok {l : List UInt8} {g : Hn} (e : hDec F l = (g, 0)) : l.length = 24 ∧ hMay g ∧ hB F g = l := by
  unfold hDec at e
  split at e
  · rename_i q
    have := congrArg Prod.fst e
    dsimp only at this
    rw [← this]
    exact q
  · cases congrArg Prod.snd e

/-- Encode of Decode are the bytes. -/
theorem dec_enc {l : List UInt8} {g : Hn} (e : hDec F l = (g, 0)) : hEnc F g = (l, 0) := by
  obtain ⟨_, h1, h2⟩ := hDec_ok e
  rw [hEnc_of h1, h2]

theorem hB_inj {h g : Hn} (hh : hMay h) (hg : hMay g) (e : hB F h = hB F g) : h = g := by
  have h1 := hDec_hB (F := F) hh
  rw [e, hDec_hB hg] at h1
  exact (congrArg Prod.fst h1).symm

/-- Another byte in a place. -/
theorem set_other {l : List UInt8} {i : Nat} {c : UInt8} (hi : i < l.length) (hc : l[i] ≠ c) : l.set i c ≠ l := fun e => by
  have : (l.set i c)[i]'(by simpa using hi) = l[i] := by simp [e]
  rw [List.getElem_set_self] at this
  exact hc this.symm

theorem form_same (a b : Hn) (i : Nat) (h : i < 4) : (hB F a)[i]? = (hB F b)[i]? := by
  unfold hB h16 word4
  match i, h with
  | 0, _ => rfl
  | 1, _ => rfl
  | 2, _ => rfl
  | 3, _ => rfl

/-- In the first four bytes, or behind the first 16: no handle's bytes. -/
theorem bit_none {h : Hn} {i : Nat} {c : UInt8} (hm : hMay h) (hi : i < (hB F h).length) (hc : (hB F h)[i] ≠ c) (hp : i < 4 ∨ 16 ≤ i) : (hDec F ((hB F h).set i c)).2 = 4 := by
  unfold hDec
  split
  · exfalso
    rename_i q
    obtain ⟨_, q2, q3⟩ := q
    rcases hp with hp | hp
    · have e1 : ((hB F h).set i c)[i]? = some c := by rw [List.getElem?_set_self hi]
      rw [← q3, form_same _ h i hp, List.getElem?_eq_getElem hi] at e1
      exact hc (Option.some.inj e1)
    · have e1 : said ((hB F h).set i c) = h := by
        have e : (hB F h).set i c = h16 h ++ (sum8 (F (h16 h))).set (i - 16) c := by
          unfold hB
          rw [List.set_append_right _ _ (by rw [h16_len]; exact hp), h16_len]
        rw [e]
        exact said_hB h hm _
      rw [e1] at q3
      exact set_other hi hc q3.symm
  · rfl

/-- In between: none's, or another one's. -/
theorem bit_other {h : Hn} {i : Nat} {c : UInt8} (hi : i < (hB F h).length) (hc : (hB F h)[i] ≠ c) (hd : hDec F ((hB F h).set i c) = (h, 0)) : False := by
  obtain ⟨_, _, h3⟩ := hDec_ok hd
  exact set_other hi hc h3.symm

end

def hLess (a b : Hn) : Bool := if a.s ≠ b.s then decide (a.s < b.s) else if a.i ≠ b.i then decide (a.i < b.i) else decide (a.g < b.g)

theorem less_iff (a b : Hn) : hLess a b = true ↔ a.s < b.s ∨ a.s = b.s ∧ (a.i < b.i ∨ a.i = b.i ∧ a.g < b.g) := by
  unfold hLess
  by_cases h1 : a.s = b.s
  · by_cases h2 : a.i = b.i
    · simp [h1, h2]
    · simp [h1, h2]
  · simp [h1]

theorem hn_eq (a b : Hn) : a = b ↔ a.s = b.s ∧ a.i = b.i ∧ a.g = b.g := by
  obtain ⟨a1, a2, a3⟩ := a
  obtain ⟨b1, b2, b3⟩ := b
  simp

/-- Of two handles one stands ahead just if they are not the same; not both; and it is handed on. -/
theorem less_either (a b : Hn) : (hLess a b = true ∨ hLess b a = true) ↔ a ≠ b := by rw [less_iff, less_iff, ne_eq, hn_eq]; omega
theorem less_not (a b : Hn) : ¬ (hLess a b = true ∧ hLess b a = true) := by rw [less_iff, less_iff]; omega
theorem less_on (a b c : Hn) (h : hLess a b = true ∧ hLess b c = true) : hLess a c = true := by rw [less_iff, less_iff] at h; rw [less_iff]; omega
end Go.Proofs.Ytpklgcinijlmmaa
