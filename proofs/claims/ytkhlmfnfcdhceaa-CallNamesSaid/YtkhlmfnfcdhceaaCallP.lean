/- Calls and replies as bytes: plain facts. -/
import Derived.Test.YtkhlmfnfcdhceaaOnto
namespace Go.Proofs.Ytkhlmfnfcdhceaa
open Go.RowKit

/-- A head, and an answer. -/
structure Hd where
  c : Int
  x : Int
  p : Int
  b : List UInt8
structure An where
  x : Int
  e : Int
  b : List UInt8

theorem Hd.same {h g : Hd} (h1 : h.c = g.c) (h2 : h.x = g.x) (h3 : h.p = g.p) (h4 : h.b = g.b) : h = g := by
  obtain ⟨c, x, p, b⟩ := h
  subst h1 h2 h3 h4
  rfl
theorem An.same {h g : An} (h1 : h.x = g.x) (h2 : h.e = g.e) (h3 : h.b = g.b) : h = g := by
  obtain ⟨x, e, b⟩ := h
  subst h1 h2 h3
  rfl

def noHd : Hd := ⟨0, 0, 0, []⟩
def noAn : An := ⟨0, 0, []⟩

def isW (n : Int) : Prop := 0 ≤ n ∧ n < 4294967296
instance (n : Int) : Decidable (isW n) := by unfold isW; infer_instance

/-- The first word, and what is behind it. -/
def cut4 : List UInt8 → Nat × List UInt8
  | a :: b :: c :: d :: l => ((n4 a b c d).toNat, l)
  | _ => (0, [])

theorem cut4_word4 (w : Nat) (h : w < 4294967296) (l : List UInt8) : cut4 (word4 w ++ l) = (w, l) := by
  show ((n4 _ _ _ _).toNat, l) = _
  unfold n4
  rw [num4_word4 w h]
  rfl

theorem head4 (s : List UInt8) (h : 4 ≤ s.length) : ∃ w l, w < 4294967296 ∧ s = word4 w ++ l ∧ s.length = l.length + 4 := by
  match s, h with
  | a :: b :: c :: d :: l, _ =>
    have hr := n4_range a b c d
    refine ⟨(n4 a b c d).toNat, l, by omega, ?_, by simp⟩
    rw [word4_n4]; rfl

theorem word4_inj {a b : Nat} (ha : a < 4294967296) (hb : b < 4294967296) {l m : List UInt8} (h : word4 a ++ l = word4 b ++ m) : a = b ∧ l = m := by
  have h1 := congrArg cut4 h
  rw [cut4_word4 a ha, cut4_word4 b hb] at h1
  exact ⟨congrArg Prod.fst h1, congrArg Prod.snd h1⟩

/-- Six words, and what is behind them. -/
def six (w0 w1 w2 w3 w4 w5 : Nat) (l : List UInt8) : List UInt8 := word4 w0 ++ (word4 w1 ++ (word4 w2 ++ (word4 w3 ++ (word4 w4 ++ (word4 w5 ++ l)))))
def three (w0 w1 w2 : Nat) (l : List UInt8) : List UInt8 := word4 w0 ++ (word4 w1 ++ (word4 w2 ++ l))

theorem six_len (w0 w1 w2 w3 w4 w5 : Nat) (l : List UInt8) : (six w0 w1 w2 w3 w4 w5 l).length = l.length + 24 := by unfold six word4; simp
theorem three_len (w0 w1 w2 : Nat) (l : List UInt8) : (three w0 w1 w2 l).length = l.length + 12 := by unfold three word4; simp

theorem of_three (s : List UInt8) (h : 12 ≤ s.length) : ∃ w0 w1 w2 l, w0 < 4294967296 ∧ w1 < 4294967296 ∧ w2 < 4294967296 ∧ s = three w0 w1 w2 l ∧ s.length = l.length + 12 := by
  obtain ⟨w0, l0, h0, rfl, e0⟩ := head4 s (by omega)
  obtain ⟨w1, l1, h1, rfl, e1⟩ := head4 l0 (by omega)
  obtain ⟨w2, l2, h2, rfl, e2⟩ := head4 l1 (by omega)
  exact ⟨w0, w1, w2, l2, h0, h1, h2, rfl, by omega⟩

theorem of_six (s : List UInt8) (h : 24 ≤ s.length) : ∃ w0 w1 w2 w3 w4 w5 l, (w0 < 4294967296 ∧ w1 < 4294967296 ∧ w2 < 4294967296 ∧ w3 < 4294967296 ∧ w4 < 4294967296 ∧ w5 < 4294967296) ∧ s = six w0 w1 w2 w3 w4 w5 l ∧ s.length = l.length + 24 := by
  obtain ⟨w0, w1, w2, l, h0, h1, h2, rfl, e⟩ := of_three s (by omega)
  obtain ⟨w3, w4, w5, m, h3, h4, h5, rfl, e'⟩ := of_three l (by omega)
  exact ⟨w0, w1, w2, w3, w4, w5, m, ⟨h0, h1, h2, h3, h4, h5⟩, rfl, by omega⟩

/-- What comes, by its six words. -/
def cJudge (w0 w1 w2 w3 w4 w5 : Nat) (l : List UInt8) : Hd × Int :=
  if w1 ≠ 0 ∨ w4 < 1 ∨ 16 < w4 then (noHd, 4)
  else if w2 ≠ 284 ∨ w3 ≠ 3 then (⟨w4, w0, w5, []⟩, 63)
  else if 19 ≤ w5 then (⟨w4, w0, w5, []⟩, 62)
  else (⟨w4, w0, w5, l⟩, 0)

def cRead (s : List UInt8) : Hd × Int :=
  if 4096 < s.length ∨ s.length % 4 ≠ 0 ∨ s.length < 24 then (noHd, 4)
  else
    let r0 := cut4 s
    let r1 := cut4 r0.2
    let r2 := cut4 r1.2
    let r3 := cut4 r2.2
    let r4 := cut4 r3.2
    let r5 := cut4 r4.2
    cJudge r0.1 r1.1 r2.1 r3.1 r4.1 r5.1 r5.2

theorem cRead_six (w0 w1 w2 w3 w4 w5 : Nat) (l : List UInt8) (h0 : w0 < 4294967296) (h1 : w1 < 4294967296) (h2 : w2 < 4294967296) (h3 : w3 < 4294967296) (h4 : w4 < 4294967296) (h5 : w5 < 4294967296) :
    cRead (six w0 w1 w2 w3 w4 w5 l) = if 4072 < l.length ∨ l.length % 4 ≠ 0 then (noHd, 4) else cJudge w0 w1 w2 w3 w4 w5 l := by
  unfold cRead
  rw [six_len]
  by_cases h : 4072 < l.length ∨ l.length % 4 ≠ 0
  · rw [if_pos (by omega), if_pos h]
  · rw [if_neg (by omega), if_neg h]
    unfold six
    simp only [cut4_word4 _ h0, cut4_word4 _ h1, cut4_word4 _ h2, cut4_word4 _ h3, cut4_word4 _ h4, cut4_word4 _ h5]

theorem cRead_short (s : List UInt8) (h : s.length < 24) : cRead s = (noHd, 4) := if_pos (by omega)

/-- A call's bytes. -/
def hdB (h : Hd) : List UInt8 := six h.x.toNat 0 284 3 h.c.toNat h.p.toNat h.b

def cWrite (h : Hd) : List UInt8 × Int :=
  if h.c < 1 ∨ 16 < h.c ∨ ¬ isW h.x ∨ ¬ isW h.p ∨ h.b.length % 4 ≠ 0 then ([], 1)
  else if 4072 < h.b.length then ([], 40)
  else (hdB h, 0)

theorem cWrite_ok {h : Hd} {t : List UInt8} (e : cWrite h = (t, 0)) : t = hdB h ∧ (1 ≤ h.c ∧ h.c ≤ 16) ∧ isW h.x ∧ isW h.p ∧ h.b.length % 4 = 0 ∧ h.b.length ≤ 4072 := by
  unfold cWrite at e
  split at e
  · cases congrArg Prod.snd e
  · rename_i h1
    split at e
    · cases congrArg Prod.snd e
    · have q : isW h.x := Decidable.byContradiction fun q => h1 (by simp [q])
      have q2 : isW h.p := Decidable.byContradiction fun q => h1 (by simp [q])
      exact ⟨(congrArg Prod.fst e).symm, by omega, q, q2, by omega, by omega⟩

theorem cWrite_of {h : Hd} (h1 : 1 ≤ h.c ∧ h.c ≤ 16) (h2 : isW h.x) (h3 : isW h.p) (h4 : h.b.length % 4 = 0) (h5 : h.b.length ≤ 4072) : cWrite h = (hdB h, 0) := by
  unfold cWrite
  rw [if_neg, if_neg (by omega)]
  rintro (q | q | q | q | q)
  · omega
  · omega
  · exact q h2
  · exact q h3
  · exact q h4

/-- Which answers may be. -/
def anMay (a : An) : Prop := (a.e = 0 ∨ ((a.e = 4 ∨ a.e = 62 ∨ a.e = 63) ∧ a.b = [])) ∧ isW a.x ∧ a.b.length % 4 = 0
instance (a : An) : Decidable (anMay a) := by unfold anMay; infer_instance

def anB (a : An) : List UInt8 := three a.x.toNat 1 a.e.toNat a.b

def cTell (a : An) : List UInt8 × Int := if anMay a then (anB a, 0) else ([], 1)

def cHear (s : List UInt8) : An × Int :=
  if s.length < 12 then (noAn, 4)
  else
    let r0 := cut4 s
    let r1 := cut4 r0.2
    let r2 := cut4 r1.2
    if r1.1 = 1 ∧ anMay ⟨r0.1, r2.1, r2.2⟩ then (⟨r0.1, r2.1, r2.2⟩, 0) else (noAn, 4)

theorem cHear_three (w0 w1 w2 : Nat) (l : List UInt8) (h0 : w0 < 4294967296) (h1 : w1 < 4294967296) (h2 : w2 < 4294967296) :
    cHear (three w0 w1 w2 l) = if w1 = 1 ∧ anMay ⟨w0, w2, l⟩ then (⟨w0, w2, l⟩, 0) else (noAn, 4) := by
  unfold cHear
  rw [three_len, if_neg (by omega)]
  unfold three
  simp only [cut4_word4 _ h0, cut4_word4 _ h1, cut4_word4 _ h2]

theorem cHear_short (s : List UInt8) (h : s.length < 12) : cHear s = (noAn, 4) := if_pos h

theorem cTell_ok {a : An} {u : List UInt8} (e : cTell a = (u, 0)) : u = anB a ∧ anMay a := by
  unfold cTell at e
  split at e
  · rename_i h; exact ⟨(congrArg Prod.fst e).symm, h⟩
  · cases congrArg Prod.snd e

theorem anMay.e_lt {a : An} (h : anMay a) : 0 ≤ a.e ∧ a.e < 64 := by
  obtain ⟨h, _, _⟩ := h
  omega

theorem toW {n : Int} (h : isW n) : n.toNat < 4294967296 ∧ (n.toNat : Int) = n := by unfold isW at h; omega

/-- What is written is read as it was; it is no reply. -/
theorem write_back {h : Hd} {t : List UInt8} (e : cWrite h = (t, 0)) : (cHear t).2 = 4 ∧ cRead t = if h.p < 19 then (h, 0) else (⟨h.c, h.x, h.p, []⟩, 62) := by
  obtain ⟨rfl, hc, hx, hp, hb, hl⟩ := cWrite_ok e
  obtain ⟨x1, x2⟩ := toW hx
  obtain ⟨p1, p2⟩ := toW hp
  constructor
  · show (cHear (three h.x.toNat 0 284 _)).2 = 4
    rw [cHear_three _ _ _ _ x1 (by omega) (by omega), if_neg (by omega)]
  · unfold hdB
    rw [cRead_six _ _ _ _ _ _ _ x1 (by omega) (by omega) (by omega) (by omega) p1, if_neg (by omega)]
    unfold cJudge
    rw [if_neg (by omega), if_neg (by omega), x2, p2, show (h.c.toNat : Int) = h.c by omega]
    by_cases h19 : h.p < 19
    · rw [if_neg (by omega), if_pos h19]
    · rw [if_pos (by omega), if_neg h19]

/-- What is told is heard; it is no call. -/
theorem tell_back {a : An} {u : List UInt8} (e : cTell a = (u, 0)) : cHear u = (a, 0) ∧ (cRead u).2 = 4 := by
  obtain ⟨rfl, hm⟩ := cTell_ok e
  obtain ⟨x1, x2⟩ := toW hm.2.1
  have he := hm.e_lt
  constructor
  · unfold anB
    rw [cHear_three _ _ _ _ x1 (by omega) (by omega), x2, show (a.e.toNat : Int) = a.e by omega, if_pos ⟨rfl, hm⟩]
  · by_cases hl : (anB a).length < 24
    · rw [cRead_short _ hl]
    · unfold anB at hl ⊢
      rw [three_len] at hl
      obtain ⟨w3, w4, w5, m, h3, h4, h5, hb, _⟩ := of_three a.b (by omega)
      rw [hb]
      show (cRead (six a.x.toNat 1 a.e.toNat w3 w4 w5 m)).2 = 4
      rw [cRead_six _ _ _ _ _ _ _ x1 (by omega) (by omega) h3 h4 h5]
      split
      · rfl
      · unfold cJudge
        rw [if_pos (by omega)]

/-- What is read is written by these bytes; they are no reply. -/
theorem read_back {s : List UInt8} {b : Hd} (e : cRead s = (b, 0)) : cWrite b = (s, 0) ∧ (cHear s).2 = 4 := by
  by_cases hl : s.length < 24
  · rw [cRead_short _ hl] at e
    cases congrArg Prod.snd e
  · obtain ⟨w0, w1, w2, w3, w4, w5, l, ⟨h0, h1, h2, h3, h4, h5⟩, rfl, hlen⟩ := of_six s (by omega)
    rw [cRead_six _ _ _ _ _ _ _ h0 h1 h2 h3 h4 h5] at e
    split at e
    · cases congrArg Prod.snd e
    · rename_i q
      unfold cJudge at e
      split at e
      · cases congrArg Prod.snd e
      · rename_i q1
        split at e
        · cases congrArg Prod.snd e
        · rename_i q2
          split at e
          · cases congrArg Prod.snd e
          · rename_i q3
            have hb := (congrArg Prod.fst e).symm
            subst hb
            obtain rfl : w1 = 0 := by omega
            obtain rfl : w2 = 284 := by omega
            obtain rfl : w3 = 3 := by omega
            constructor
            · rw [cWrite_of (by simp; omega) (by unfold isW; simp; omega) (by unfold isW; simp; omega) (by simp; omega) (by simp; omega)]
              rfl
            · show (cHear (three w0 0 284 _)).2 = 4
              rw [cHear_three _ _ _ _ h0 (by omega) (by omega), if_neg (by omega)]

/-- What is heard is told by these bytes; they are no call. -/
theorem hear_back {s : List UInt8} {c : An} (e : cHear s = (c, 0)) : cTell c = (s, 0) ∧ (cRead s).2 = 4 := by
  have key : cTell c = (s, 0) := by
    by_cases hl : s.length < 12
    · rw [cHear_short _ hl] at e
      cases congrArg Prod.snd e
    · obtain ⟨w0, w1, w2, l, h0, h1, h2, rfl, _⟩ := of_three s (by omega)
      rw [cHear_three _ _ _ _ h0 h1 h2] at e
      split at e
      · rename_i q
        obtain ⟨rfl, q⟩ := q
        have hb := (congrArg Prod.fst e).symm
        subst hb
        unfold cTell
        rw [if_pos q]
        rfl
      · cases congrArg Prod.snd e
  exact ⟨key, (tell_back key).2⟩

theorem hdB_len (h : Hd) : (hdB h).length = 24 + h.b.length := by unfold hdB; rw [six_len]; omega
theorem anB_len (a : An) : (anB a).length = 12 + a.b.length := by unfold anB; rw [three_len]; omega

theorem isW_inj {n m : Int} (hn : isW n) (hm : isW m) (h : n.toNat = m.toNat) : n = m := by unfold isW at *; omega

/-- Unlike heads have unlike bytes. -/
theorem hdB_inj {h g : Hd} {t u : List UInt8} (e : cWrite h = (t, 0)) (f : cWrite g = (u, 0)) : t = u ↔ h = g := by
  obtain ⟨rfl, hc, hx, hp, _⟩ := cWrite_ok e
  obtain ⟨rfl, gc, gx, gp, _⟩ := cWrite_ok f
  constructor
  · intro he
    unfold hdB six at he
    obtain ⟨e0, he⟩ := word4_inj (toW hx).1 (toW gx).1 he
    obtain ⟨_, he⟩ := word4_inj (by omega) (by omega) he
    obtain ⟨_, he⟩ := word4_inj (by omega) (by omega) he
    obtain ⟨_, he⟩ := word4_inj (by omega) (by omega) he
    obtain ⟨e4, he⟩ := word4_inj (by omega) (by omega) he
    obtain ⟨e5, he⟩ := word4_inj (toW hp).1 (toW gp).1 he
    have e0 := isW_inj hx gx e0
    have e5 := isW_inj hp gp e5
    have e4 : h.c = g.c := by omega
    exact Hd.same e4 e0 e5 he
  · rintro rfl; rfl

theorem anB_inj {a b : An} {t u : List UInt8} (e : cTell a = (t, 0)) (f : cTell b = (u, 0)) : t = u ↔ a = b := by
  obtain ⟨rfl, ha⟩ := cTell_ok e
  obtain ⟨rfl, hb⟩ := cTell_ok f
  have ae := ha.e_lt
  have be := hb.e_lt
  constructor
  · intro he
    unfold anB three at he
    obtain ⟨e0, he⟩ := word4_inj (toW ha.2.1).1 (toW hb.2.1).1 he
    obtain ⟨_, he⟩ := word4_inj (by omega) (by omega) he
    obtain ⟨e2, he⟩ := word4_inj (by omega) (by omega) he
    have e0 := isW_inj ha.2.1 hb.2.1 e0
    have e2 : a.e = b.e := by omega
    exact An.same e0 e2 he
  · rintro rfl; rfl

/-- Another word in the place of one of the first six. -/
theorem put_word (w0 w1 w2 w3 w4 w5 n : Nat) (l : List UInt8) :
    (six w0 w1 w2 w3 w4 w5 l).take 0 ++ (word4 n ++ (six w0 w1 w2 w3 w4 w5 l).drop 4) = six n w1 w2 w3 w4 w5 l ∧
    (six w0 w1 w2 w3 w4 w5 l).take 4 ++ (word4 n ++ (six w0 w1 w2 w3 w4 w5 l).drop 8) = six w0 n w2 w3 w4 w5 l ∧
    (six w0 w1 w2 w3 w4 w5 l).take 8 ++ (word4 n ++ (six w0 w1 w2 w3 w4 w5 l).drop 12) = six w0 w1 n w3 w4 w5 l ∧
    (six w0 w1 w2 w3 w4 w5 l).take 12 ++ (word4 n ++ (six w0 w1 w2 w3 w4 w5 l).drop 16) = six w0 w1 w2 n w4 w5 l ∧
    (six w0 w1 w2 w3 w4 w5 l).take 16 ++ (word4 n ++ (six w0 w1 w2 w3 w4 w5 l).drop 20) = six w0 w1 w2 w3 n w5 l ∧
    (six w0 w1 w2 w3 w4 w5 l).take 20 ++ (word4 n ++ (six w0 w1 w2 w3 w4 w5 l).drop 24) = six w0 w1 w2 w3 w4 n l :=
  ⟨rfl, rfl, rfl, rfl, rfl, rfl⟩
end Go.Proofs.Ytkhlmfnfcdhceaa
