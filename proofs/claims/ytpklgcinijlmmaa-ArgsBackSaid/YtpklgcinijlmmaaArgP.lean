/- Arguments as words: there and back (plain facts). -/
import Derived.Test.YtpklgcinijlmmaaArgE
import Derived.Test.YtpklgcinijlmmaaArgL
namespace Go.Proofs.Ytpklgcinijlmmaa
open Go.RowKit

/-- A field may be; is set; is the same. -/
def okF (c : UInt8) (p : PA) : Prop := if c = 72 then hMay p.h else if c = 84 then hMay p.t else if c = 110 then p.n.length ≤ 255 else if c = 111 then p.o.length ≤ 255 else if c = 116 then p.x.length ≤ 2048 else if c = 118 then 0 ≤ p.v ∧ p.v < 18446744073709551616 else if c = 97 then -9223372036854775808 ≤ p.a ∧ p.a ≤ 9223372036854775807 else if c = 78 then -9223372036854775808 ≤ p.c ∧ p.c ≤ 9223372036854775807 else if c = 109 then -9223372036854775808 ≤ p.m ∧ p.m ≤ 9223372036854775807 else if c = 115 then -9223372036854775808 ≤ p.s ∧ p.s ≤ 9223372036854775807 else if c = 83 then -9223372036854775808 ≤ p.b ∧ p.b ≤ 9223372036854775807 else if c = 103 then -9223372036854775808 ≤ p.g ∧ p.g ≤ 9223372036854775807 else True
def setF (c : UInt8) (p z : PA) : PA := if c = 72 then { z with h := p.h } else if c = 84 then { z with t := p.t } else if c = 110 then { z with n := p.n } else if c = 111 then { z with o := p.o } else if c = 116 then { z with x := p.x } else if c = 118 then { z with v := p.v } else if c = 97 then { z with a := p.a } else if c = 78 then { z with c := p.c } else if c = 109 then { z with m := p.m } else if c = 115 then { z with s := p.s } else if c = 83 then { z with b := p.b } else if c = 103 then { z with g := p.g } else z
def eqF (c : UInt8) (p q : PA) : Prop := if c = 72 then p.h = q.h else if c = 84 then p.t = q.t else if c = 110 then p.n = q.n else if c = 111 then p.o = q.o else if c = 116 then p.x = q.x else if c = 118 then p.v = q.v else if c = 97 then p.a = q.a else if c = 78 then p.c = q.c else if c = 109 then p.m = q.m else if c = 115 then p.s = q.s else if c = 83 then p.b = q.b else if c = 103 then p.g = q.g else True

theorem eqF.trans {c : UInt8} {p q r : PA} (hc : isL c) (h : eqF c p q) (k : eqF c q r) : eqF c p r := by
  rcases hc with rfl | rfl | rfl | rfl | rfl | rfl | rfl | rfl | rfl | rfl | rfl | rfl
  all_goals
    simp [eqF] at h k ⊢
    rw [h, k]
theorem eqF.words {c : UInt8} {p q : PA} (hc : isL c) (h : eqF c p q) : aF p c = aF q c := by
  rcases hc with rfl | rfl | rfl | rfl | rfl | rfl | rfl | rfl | rfl | rfl | rfl | rfl
  all_goals
    simp [eqF] at h
    simp [aF, aNum, h]
theorem eqF.ok {c : UInt8} {p q : PA} (hc : isL c) (h : eqF c p q) (k : okF c p) : okF c q := by
  rcases hc with rfl | rfl | rfl | rfl | rfl | rfl | rfl | rfl | rfl | rfl | rfl | rfl
  all_goals
    simp [eqF] at h
    simp [okF] at k ⊢
    first | exact h ▸ k | (rw [← h]; exact k)

theorem hRd_hB (h : Hn) (hm : hMay h) (l : List UInt8) : hRd (some (hB fnv h ++ l)) = ((h, true), some l) := by
  have e : fixedB (hB fnv h) = hB fnv h := by
    unfold fixedB
    rw [hB_len, show pad 24 = 0 from rfl, List.replicate_zero, List.append_nil]
  have k := rFixed_fixedB (hB fnv h) l
  rw [e, hB_len] at k
  unfold hRd
  rw [show rFixed 24 (some (hB fnv h ++ l)) = (hB fnv h, some l) from k, hDec_hB hm]
  rfl
theorem rText_put (s l : List UInt8) (m : Int) (h : s.length < 4294967296) (hm : (s.length : Int) ≤ m) : rText m (some (textB s ++ l)) = (s, some l) := by
  unfold rText textB
  rw [List.append_assoc, rCount_word4 _ _ h (by omega)]
  exact rFixed_fixedB s l

/-- One field, written and read. -/
theorem RD_step {c : UInt8} (hc : isL c) {p : PA} (hok : okF c p) (z : PA) (ok : Bool) (l : List UInt8) : RD (z, ok, some (aF p c ++ l)) c = (setF c p z, ok, some l) := by
  rcases hc with rfl | rfl | rfl | rfl | rfl | rfl | rfl | rfl | rfl | rfl | rfl | rfl
  · show ({ z with h := (hRd (some ((hEnc fnv p.h).1 ++ l))).1.1 }, ok && (hRd (some ((hEnc fnv p.h).1 ++ l))).1.2, (hRd (some ((hEnc fnv p.h).1 ++ l))).2) = _
    have hm : hMay p.h := hok
    rw [hEnc_of hm]
    dsimp only
    rw [hRd_hB p.h hm l, Bool.and_true]
    rfl
  · show ({ z with t := (hRd (some ((hEnc fnv p.t).1 ++ l))).1.1 }, ok && (hRd (some ((hEnc fnv p.t).1 ++ l))).1.2, (hRd (some ((hEnc fnv p.t).1 ++ l))).2) = _
    have hm : hMay p.t := hok
    rw [hEnc_of hm]
    dsimp only
    rw [hRd_hB p.t hm l, Bool.and_true]
    rfl
  · have hv : p.n.length ≤ 255 := hok
    have k := rText_put p.n l 255 (by omega) (by omega)
    show ({ z with n := (rText 255 (some (textB p.n ++ l))).1 }, ok, (rText 255 (some (textB p.n ++ l))).2) = _
    rw [k]
    rfl
  · have hv : p.o.length ≤ 255 := hok
    have k := rText_put p.o l 255 (by omega) (by omega)
    show ({ z with o := (rText 255 (some (textB p.o ++ l))).1 }, ok, (rText 255 (some (textB p.o ++ l))).2) = _
    rw [k]
    rfl
  · have hv : p.x.length ≤ 2048 := hok
    have k := rText_put p.x l 2048 (by omega) (by omega)
    show ({ z with x := (rText 2048 (some (textB p.x ++ l))).1 }, ok, (rText 2048 (some (textB p.x ++ l))).2) = _
    rw [k]
    rfl
  · have hv : 0 ≤ p.v ∧ p.v < 18446744073709551616 := hok
    have k := rLong_longB p.v.toNat (by omega) l
    rw [Int.toNat_of_nonneg hv.1] at k
    show ({ z with v := (rLong (some (longB p.v.toNat ++ l))).1 }, ok, (rLong (some (longB p.v.toNat ++ l))).2) = _
    rw [k]
    rfl
  · have hv : -9223372036854775808 ≤ p.a ∧ p.a ≤ 9223372036854775807 := hok
    have k := rInt_longB p.a hv.1 hv.2 l
    show ({ z with a := (rInt (some (longB (bits64 p.a) ++ l))).1 }, ok, (rInt (some (longB (bits64 p.a) ++ l))).2) = _
    rw [k]
    rfl
  · have hv : -9223372036854775808 ≤ p.c ∧ p.c ≤ 9223372036854775807 := hok
    have k := rInt_longB p.c hv.1 hv.2 l
    show ({ z with c := (rInt (some (longB (bits64 p.c) ++ l))).1 }, ok, (rInt (some (longB (bits64 p.c) ++ l))).2) = _
    rw [k]
    rfl
  · have hv : -9223372036854775808 ≤ p.m ∧ p.m ≤ 9223372036854775807 := hok
    have k := rInt_longB p.m hv.1 hv.2 l
    show ({ z with m := (rInt (some (longB (bits64 p.m) ++ l))).1 }, ok, (rInt (some (longB (bits64 p.m) ++ l))).2) = _
    rw [k]
    rfl
  · have hv : -9223372036854775808 ≤ p.s ∧ p.s ≤ 9223372036854775807 := hok
    have k := rInt_longB p.s hv.1 hv.2 l
    show ({ z with s := (rInt (some (longB (bits64 p.s) ++ l))).1 }, ok, (rInt (some (longB (bits64 p.s) ++ l))).2) = _
    rw [k]
    rfl
  · have hv : -9223372036854775808 ≤ p.b ∧ p.b ≤ 9223372036854775807 := hok
    have k := rInt_longB p.b hv.1 hv.2 l
    show ({ z with b := (rInt (some (longB (bits64 p.b) ++ l))).1 }, ok, (rInt (some (longB (bits64 p.b) ++ l))).2) = _
    rw [k]
    rfl
  · have hv : -9223372036854775808 ≤ p.g ∧ p.g ≤ 9223372036854775807 := hok
    have k := rInt_longB p.g hv.1 hv.2 l
    show ({ z with g := (rInt (some (longB (bits64 p.g) ++ l))).1 }, ok, (rInt (some (longB (bits64 p.g) ++ l))).2) = _
    rw [k]
    rfl

def setL (l : List UInt8) (p z : PA) : PA := l.foldl (fun z c => setF c p z) z
theorem RDs_step (p : PA) (ok : Bool) (t : List UInt8) : ∀ (l : List UInt8) (z : PA), (∀ c ∈ l, isL c ∧ okF c p) → l.foldl RD (z, ok, some (l.flatMap (aF p) ++ t)) = (setL l p z, ok, some t)
  | [], z, _ => rfl
  | c :: l, z, h => by
    rw [List.foldl_cons, List.flatMap_cons, List.append_assoc, RD_step (h c (by simp)).1 (h c (by simp)).2]
    exact RDs_step p ok t l (setF c p z) (fun d hd => h d (by simp [hd]))

/-- Arguments' numbers are numbers of their kinds. -/
def PAok (p : PA) : Prop := (0 ≤ p.v ∧ p.v < 18446744073709551616) ∧ (-9223372036854775808 ≤ p.a ∧ p.a ≤ 9223372036854775807) ∧ (-9223372036854775808 ≤ p.c ∧ p.c ≤ 9223372036854775807) ∧ (-9223372036854775808 ≤ p.m ∧ p.m ≤ 9223372036854775807) ∧ (-9223372036854775808 ≤ p.s ∧ p.s ≤ 9223372036854775807) ∧ (-9223372036854775808 ≤ p.b ∧ p.b ≤ 9223372036854775807) ∧ (-9223372036854775808 ≤ p.g ∧ p.g ≤ 9223372036854775807)

theorem asks_nodup (k : Nat) : (asks k).Nodup := by
  unfold asks
  split <;> decide

theorem may_facts {l : List UInt8} {p : PA} (h : aMay l p = true) : (∀ c, isL c → c ∈ l → PAok p → okF c p) ∧ (∀ c, isL c → c ∉ l → eqF c noPA p) := by
  simp only [aMay, bad1, bad2, bad3, Bool.and_eq_true, Bool.not_eq_true', Bool.or_eq_false_iff, decide_eq_true_eq] at h
  obtain ⟨⟨⟨⟨⟨⟨a1, a2⟩, a3⟩, a4⟩, ⟨⟨⟨⟨⟨b1, b2⟩, b3⟩, b4⟩, b5⟩, b6⟩⟩, ⟨⟨⟨c1, c2⟩, c3⟩, c4⟩⟩, ⟨d1, d2⟩, d3⟩ := h
  constructor
  · intro c hc hm ok
    unfold PAok at ok
    rcases hc with rfl | rfl | rfl | rfl | rfl | rfl | rfl | rfl | rfl | rfl | rfl | rfl
    all_goals
      simp [okF]
      simp_all
  · intro c hc hm
    rcases hc with rfl | rfl | rfl | rfl | rfl | rfl | rfl | rfl | rfl | rfl | rfl | rfl
    all_goals
      show _ = _
      symm
      simp_all [noPA]

theorem args_back {k : Nat} (hk : k < 19) {p : PA} (h : aMay (asks k) p = true) (ok : PAok p) : aJudge (aRds (asks k) (aWords (asks k) p)) = (p, 0) := by
  obtain ⟨f1, f2⟩ := may_facts h
  have e : aRds (asks k) (aWords (asks k) p) = (setL (asks k) p noPA, true, some []) := by
    have := RDs_step p true [] (asks k) noPA (fun c hc => ⟨asks_isL k c hc, f1 c (asks_isL k c hc) hc ok⟩)
    rw [List.append_nil] at this
    exact this
  rw [e, aJudge_yes (by rfl)]
  have g := fun c (hc : isL c) => f2 c hc
  have key : setL (asks k) p noPA = p := by
    obtain ⟨h1, t1, n1, o1, x1, a1, q1, m1, s1, b1, g1, v1⟩ := p
    have l72 := f2 72; have l84 := f2 84; have l110 := f2 110; have l111 := f2 111; have l116 := f2 116; have l118 := f2 118
    have l97 := f2 97; have l78 := f2 78; have l109 := f2 109; have l115 := f2 115; have l83 := f2 83; have l103 := f2 103
    clear f1 f2 g h ok e
    rcases (show k = 0 ∨ k = 1 ∨ k = 2 ∨ k = 3 ∨ k = 4 ∨ k = 5 ∨ k = 6 ∨ k = 7 ∨ k = 8 ∨ k = 9 ∨ k = 10 ∨ k = 11 ∨ k = 12 ∨ k = 13 ∨ k = 14 ∨ k = 15 ∨ k = 16 ∨ k = 17 ∨ k = 18 by omega) with rfl | rfl | rfl | rfl | rfl | rfl | rfl | rfl | rfl | rfl | rfl | rfl | rfl | rfl | rfl | rfl | rfl | rfl | rfl
    all_goals
      simp [asks, isL, eqF, noPA] at l72 l84 l110 l111 l116 l118 l97 l78 l109 l115 l83 l103
      simp [asks, setL, setF, noPA]
      simp_all
  rw [key]
end Go.Proofs.Ytpklgcinijlmmaa
