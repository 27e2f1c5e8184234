/- A reader beside two structs of the call's own: what each step leaves. -/
import Derived.Test.YtkhlmfnfcdhceaaCallW
namespace Go.Proofs.Ytkhlmfnfcdhceaa
open Go.RowKit

/-- The result's block R, a variable's block H, a reader r: all new. -/
def RH (W w : World) (R H r : Nat) (g : Option Nat) (t : TypeId) (zs xs : Array Value) (s : St) : Prop :=
  Blk w R t zs ∧ Blk w H t xs ∧ RdrS w r g s ∧ W.grownBy w none ∧ (W.heap.size ≤ R ∧ W.heap.size ≤ H ∧ W.heap.size ≤ r) ∧ (R ≠ r ∧ H ≠ r ∧ R ≠ H ∧ g ≠ some H ∧ g ≠ some R)

section
variable {W w w' : World} {R H r : Nat} {g : Option Nat} {t : TypeId} {zs xs : Array Value} {s s' : St}

theorem RH.rdr (h : RH W w R H r g t zs xs s) : RdrS w r g s := h.2.2.1
theorem RH.grown (h : RH W w R H r g t zs xs s) : W.grownBy w none := h.2.2.2.1
theorem RH.res (h : RH W w R H r g t zs xs s) : Blk w R t zs := h.1
theorem RH.var (h : RH W w R H r g t zs xs s) : Blk w H t xs := h.2.1

theorem RH.next {v : Value} {e : Ending} (h : RH W w R H r g t zs xs s) (hd : Rd w r g v s' e w') : RH W w' R H r g t zs xs s' := by
  obtain ⟨h1, h2, h3, h4, h5, h6⟩ := h
  obtain ⟨_, k2, k3⟩ := hd
  exact ⟨h1.kept k3 (by simpa using h6.1), h2.kept k3 (by simpa using h6.2.1), k2, grown_own h4 k3 (fun n hn => by cases hn; exact h5.2.2), h5, h6⟩

theorem RH.set (h : RH W w R H r g t zs xs s) (i : Nat) (u : Value) : RH W (w.setCell ⟨H, i, none⟩ u) R H r g t zs (xs.setIfInBounds i u) s := by
  obtain ⟨h1, h2, h3, h4, h5, h6⟩ := h
  have hg : w.grownBy (w.setCell ⟨H, i, none⟩ u) (some H) := Lib.grownBy_setB (World.grownBy.refl _ _) _ _
  refine ⟨h1.kept hg (by simpa using h6.2.2.1), h2.set i u, h3.kept hg (by simpa using h6.2.1) ?_, grown_own h4 hg (fun n hn => by cases hn; exact h5.2.1), h5, h6⟩
  exact .inr h6.2.2.2.1
end

/-- The result's block, written. -/
theorem RH.told4 {W w : World} {R H r : Nat} {g : Option Nat} {t : TypeId} {z0 z1 z2 z3 : Value} {xs : Array Value} {s : St} (h : RH W w R H r g t #[z0, z1, z2, z3] xs s) (a b c d : Value) :
    Blk ((((w.setCell ⟨R, 0, none⟩ a).setCell ⟨R, 1, none⟩ b).setCell ⟨R, 2, none⟩ c).setCell ⟨R, 3, none⟩ d) R t #[a, b, c, d] ∧ W.grownBy ((((w.setCell ⟨R, 0, none⟩ a).setCell ⟨R, 1, none⟩ b).setCell ⟨R, 2, none⟩ c).setCell ⟨R, 3, none⟩ d) none := by
  obtain ⟨h1, h2, h3, h4, h5, h6⟩ := h
  refine ⟨(((h1.set 0 a).set 1 b).set 2 c).set 3 d, grown_own h4 (row := some R) (Lib.grownBy_setB (Lib.grownBy_setB (Lib.grownBy_setB (Lib.grownBy_setB (World.grownBy.refl _ _) _ _) _ _) _ _) _ _) (fun n hn => by cases hn; exact h5.1)⟩
theorem RH.told3 {W w : World} {R H r : Nat} {g : Option Nat} {t : TypeId} {z0 z1 z2 : Value} {xs : Array Value} {s : St} (h : RH W w R H r g t #[z0, z1, z2] xs s) (a b c : Value) :
    Blk (((w.setCell ⟨R, 0, none⟩ a).setCell ⟨R, 1, none⟩ b).setCell ⟨R, 2, none⟩ c) R t #[a, b, c] ∧ W.grownBy (((w.setCell ⟨R, 0, none⟩ a).setCell ⟨R, 1, none⟩ b).setCell ⟨R, 2, none⟩ c) none := by
  obtain ⟨h1, h2, h3, h4, h5, h6⟩ := h
  refine ⟨((h1.set 0 a).set 1 b).set 2 c, grown_own h4 (row := some R) (Lib.grownBy_setB (Lib.grownBy_setB (Lib.grownBy_setB (World.grownBy.refl _ _) _ _) _ _) _ _) (fun n hn => by cases hn; exact h5.1)⟩

/-- From a reader made, with the result's block there, and a variable's block made. -/
theorem RH.begin {W w0 w : World} {R : Nat} {t : TypeId} {zs xs : Array Value} {bs : List UInt8} {r : Nat} {g : Option Nat} (hR : Blk w0 R t zs) (hg0 : W.grownBy w0 none) (hR0 : W.heap.size ≤ R)
    (hs : RdrS w r g (some bs)) (hg : w0.grownBy w none) (h1 : w0.heap.size ≤ r) (h2 : r < w.heap.size) (h3 : ∀ k, g = some k → w0.heap.size ≤ k ∧ k < w.heap.size) :
    RH W (w.alloc (.cells xs t)) R w.heap.size r g t zs xs (some bs) := by
  have ha := World.grownBy_alloc w (.cells xs t) none
  have hlt := hR.lt
  have s0 := hg0.size
  have s1 := hg.size
  refine ⟨(hR.new hg).new ha, Blk.made _ _ _, hs.new ha, World.grownBy.trans (World.grownBy.trans hg0 hg) ha, ⟨hR0, by omega, by omega⟩, by omega, by omega, by omega, fun e => ?_, fun e => ?_⟩
  · have := h3 _ e; omega
  · have := h3 _ e; omega

/-- A head and an error, told. -/
def HT (w : World) (p : Hd × Int) (e : Ending) (w' : World) : Prop := e = .returned (.tuple #[hdV p.1, .int .i64 p.2]) ∧ w.grownBy w' none
def AT (w : World) (p : An × Int) (e : Ending) (w' : World) : Prop := e = .returned (.tuple #[anV p.1, .int .i64 p.2]) ∧ w.grownBy w' none

theorem rWord_len {l m : List UInt8} {n : Int} (h : rWord (some l) = (n, some m)) : l.length = m.length + 4 := by
  obtain ⟨_, _, rfl⟩ := rWord_onto h
  simp [word4]
theorem rWord_nothing : rWord none = (0, none) := rfl
theorem rWord_back {s : St} {m : List UInt8} (h : (rWord s).2 = some m) : ∃ l, s = some l ∧ l.length = m.length + 4 := by
  cases s with
  | none => cases h
  | some l => exact ⟨l, rfl, rWord_len (n := (rWord (some l)).1) (by rw [← h])⟩

/-- What is read of six words. -/
def gRead (n0 n1 n2 n3 n4 n5 : Int) (s : St) : Hd × Int :=
  if s.isSome = false ∨ n1 ≠ 0 ∨ ¬ (1 ≤ n4 ∧ n4 ≤ 16) then (noHd, 4)
  else if n2 ≠ 284 ∨ n3 ≠ 3 then (⟨n4, n0, n5, []⟩, 63)
  else if 19 ≤ n5 then (⟨n4, n0, n5, []⟩, 62)
  else (⟨n4, n0, n5, (rFixed (rLeft s) s).1⟩, 0)

theorem rFixed_all (m : List UInt8) (h : m.length % 4 = 0) : rFixed (rLeft (some m)) (some m) = (m, some []) := by
  show rFixed ((m.length : Nat) : Int) (some m) = _
  unfold rFixed
  dsimp only
  rw [Int.toNat_natCast, pad_whole h, if_pos ⟨by omega, by omega, by simp [zeros]⟩]
  simp

theorem cRead_g (l : List UInt8) (h1 : l.length ≤ 4096) (h2 : l.length % 4 = 0) (p0 p1 p2 p3 p4 p5 : Int × St) (e0 : rWord (some l) = p0) (e1 : rWord p0.2 = p1) (e2 : rWord p1.2 = p2) (e3 : rWord p2.2 = p3) (e4 : rWord p3.2 = p4) (e5 : rWord p4.2 = p5) :
    cRead l = gRead p0.1 p1.1 p2.1 p3.1 p4.1 p5.1 p5.2 := by
  by_cases hl : l.length < 24
  · rw [cRead_short _ hl]
    have hn : p5.2.isSome = false := by
      rcases hp : p5.2 with _ | m
      · rfl
      · exfalso
        rw [← e5] at hp
        obtain ⟨m4, q4, z4⟩ := rWord_back hp
        rw [← e4] at q4
        obtain ⟨m3, q3, z3⟩ := rWord_back q4
        rw [← e3] at q3
        obtain ⟨m2, q2, z2⟩ := rWord_back q3
        rw [← e2] at q2
        obtain ⟨m1, q1, z1⟩ := rWord_back q2
        rw [← e1] at q1
        obtain ⟨m0, q0, z0⟩ := rWord_back q1
        rw [← e0] at q0
        obtain ⟨m', q', z'⟩ := rWord_back q0
        cases q'
        omega
    unfold gRead
    rw [if_pos (.inl hn)]
  · obtain ⟨w0, w1, w2, w3, w4, w5, m, ⟨b0, b1, b2, b3, b4, b5⟩, rfl, hlen⟩ := of_six l (by omega)
    rw [cRead_six _ _ _ _ _ _ _ b0 b1 b2 b3 b4 b5, if_neg (by omega)]
    unfold six at e0
    rw [rWord_word4 _ b0] at e0
    subst e0
    rw [rWord_word4 _ b1] at e1
    subst e1
    rw [rWord_word4 _ b2] at e2
    subst e2
    rw [rWord_word4 _ b3] at e3
    subst e3
    rw [rWord_word4 _ b4] at e4
    subst e4
    rw [rWord_word4 _ b5] at e5
    subst e5
    unfold cJudge gRead
    dsimp only [Option.isSome]
    by_cases q1 : w1 ≠ 0 ∨ w4 < 1 ∨ 16 < w4
    · rw [if_pos q1, if_pos (c := true = false ∨ (w1 : Int) ≠ 0 ∨ ¬ (1 ≤ (w4 : Int) ∧ (w4 : Int) ≤ 16)) (.inr (by omega))]
    · rw [if_neg q1, if_neg (c := true = false ∨ (w1 : Int) ≠ 0 ∨ ¬ (1 ≤ (w4 : Int) ∧ (w4 : Int) ≤ 16)) (by simp; omega)]
      by_cases q2 : w2 ≠ 284 ∨ w3 ≠ 3
      · rw [if_pos q2, if_pos (c := (w2 : Int) ≠ 284 ∨ (w3 : Int) ≠ 3) (by omega)]
      · rw [if_neg q2, if_neg (c := (w2 : Int) ≠ 284 ∨ (w3 : Int) ≠ 3) (by omega)]
        by_cases q3 : 19 ≤ w5
        · rw [if_pos q3, if_pos (c := 19 ≤ (w5 : Int)) (by omega)]
        · rw [if_neg q3, if_neg (c := 19 ≤ (w5 : Int)) (by omega), rFixed_all m (by omega)]
end Go.Proofs.Ytkhlmfnfcdhceaa
