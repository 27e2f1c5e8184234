/- Results as words: which results may be. -/
import Derived.Test.YtpklgcinijlmmaaArgS
import Derived.Test.YtpklgcinijlmmaaLaw
namespace Go.Proofs.Ytpklgcinijlmmaa
open Go.RowKit

structure En where
  n : List UInt8
  i : Int
  c : Int
deriving DecidableEq
/-- A result. -/
structure PR where
  e : Int
  h : Hn
  a : At
  x : List UInt8
  n : Int
  f : Int
  u : Int
  d : Bool
  es : List En
  v : Int
deriving DecidableEq
def noPR : PR := ⟨0, noHn, noAt, [], 0, 0, 0, false, [], 0⟩
def prC (p : PR) (ev : Value) : Array Value := #[.int .i64 p.e, .int .i64 p.h.s, .int .i64 p.h.i, .int .i64 p.h.g, .int .u8 p.a.k, .int .i64 p.a.m, .int .i64 p.a.l, .int .i64 p.a.s, .int .i64 p.a.mt, .int .i64 p.a.ct, .int .i64 p.a.i, .int .i64 p.a.g, txt p.x, .int .i64 p.n, .int .i64 p.f, .int .u64 p.u, .bool p.d, ev, .int .u64 p.v]
/-- The cells of entries. -/
def enAt (es : List En) (i : Nat) : Value := if i % 3 = 0 then txt (es.getD (i / 3) ⟨[], 0, 0⟩).n else if i % 3 = 1 then .int .i64 (es.getD (i / 3) ⟨[], 0, 0⟩).i else .int .i64 (es.getD (i / 3) ⟨[], 0, 0⟩).c
def Ents (w : World) (v : Value) (es : List En) : Prop := Elems w v 3 es.length (enAt es)
theorem Ents.form {w : World} {v : Value} {es : List En} (h : Ents w v es) : ∃ a c, v = .slice a es.length c ∧ es.length ≤ maxLen := Elems.form h
theorem Ents.at {w : World} {a : Option Addr} {c : Nat} {es : List En} (h : Ents w (.slice a es.length c) es) (h0 : 0 < es.length) : ∃ b o, a = some ⟨b, o, none⟩ ∧ ∀ j (_ : j < es.length), w.cell? ⟨b, o + j * 3, none⟩ = some (txt (es.getD j ⟨[], 0, 0⟩).n) ∧ w.cell? ⟨b, o + j * 3 + 1, none⟩ = some (.int .i64 (es.getD j ⟨[], 0, 0⟩).i) ∧ w.cell? ⟨b, o + j * 3 + 2, none⟩ = some (.int .i64 (es.getD j ⟨[], 0, 0⟩).c) := by
  obtain ⟨b, o, e, hc⟩ := Elems.cells h h0
  refine ⟨b, o, e, fun j hj => ?_⟩
  have c0 := hc (j * 3) (by omega)
  have c1 := hc (j * 3 + 1) (by omega)
  have c2 := hc (j * 3 + 2) (by omega)
  unfold enAt at c0 c1 c2
  rw [if_pos (by omega), show j * 3 / 3 = j by omega] at c0
  rw [if_neg (by omega), if_pos (by omega), show (j * 3 + 1) / 3 = j by omega] at c1
  rw [if_neg (by omega), if_neg (by omega), show (j * 3 + 2) / 3 = j by omega] at c2
  exact ⟨c0, c1, c2⟩
theorem Ents.new {w w' : World} {v : Value} {es : List En} (h : Ents w v es) (hg : w.grownBy w' none) : Ents w' v es := by
  rcases h with h | ⟨b, o, c, h1, h2, h3, h4⟩ | h
  · exact .inl h
  · exact .inr (.inl ⟨b, o, c, h1, h2, h3, fun i hi => hg.cell (h4 i hi) (by simp)⟩)
  · exact .inr (.inr h)

def rbad1 (l : List UInt8) (p : PR) : Bool := (decide (72 ∈ l) && !decide (hMay p.h)) || (!decide (72 ∈ l) && decide (p.h ≠ noHn)) || (decide (65 ∈ l) && (decide (p.a.k < 1) || decide (3 < p.a.k))) || (!decide (65 ∈ l) && decide (p.a ≠ noAt))
def rbad2 (l : List UInt8) (p : PR) : Bool := (!decide (116 ∈ l) && p.x != []) || (!decide (78 ∈ l) && p.n != 0) || (!decide (102 ∈ l) && p.f != 0) || (!decide (117 ∈ l) && p.u != 0) || (!decide (101 ∈ l) && p.d) || (!decide (69 ∈ l) && decide (0 < p.es.length)) || (!decide (118 ∈ l) && p.v != 0)
def rMay (l : List UInt8) (p : PR) : Bool := !rbad1 l p && !rbad2 l p && p.es.all (fun e => decide (e.n.length ≤ 255)) && (decide (p.x.length ≤ 2048) && decide (p.es.length ≤ 64))
def mayRes (k : Nat) (p : PR) : Bool := decide (0 ≤ p.e ∧ p.e ≤ 63) && rMay (if p.e = 0 then tells k else []) p

theorem rMay_1 {l : List UInt8} {p : PR} (h : rbad1 l p = true) : rMay l p = false := by simp [rMay, h]
theorem rMay_2 {l : List UInt8} {p : PR} (h : rbad2 l p = true) : rMay l p = false := by simp [rMay, h]
theorem rMay_3 {l : List UInt8} {p : PR} {j : Nat} (hj : j < p.es.length) (h : 255 < (p.es.getD j ⟨[], 0, 0⟩).n.length) : rMay l p = false := by
  have e : p.es.all (fun e => decide (e.n.length ≤ 255)) = false := by
    rw [List.all_eq_false]
    refine ⟨p.es[j], List.getElem_mem hj, ?_⟩
    simp only [List.getD, List.getElem?_eq_getElem hj, Option.getD_some] at h
    simp only [decide_eq_true_eq]
    omega
  simp [rMay, e]
theorem at_parts {a1 a2 a3 a4 a5 a6 a7 a8 : Int} (h : (⟨a1, a2, a3, a4, a5, a6, a7, a8⟩ : At) ≠ noAt) : ¬ a1 = 0 ∨ a1 = 0 ∧ ¬ a2 = 0 ∨ a1 = 0 ∧ a2 = 0 ∧ ¬ a3 = 0 ∨ a1 = 0 ∧ a2 = 0 ∧ a3 = 0 ∧ ¬ a4 = 0 ∨ a1 = 0 ∧ a2 = 0 ∧ a3 = 0 ∧ a4 = 0 ∧ ¬ a5 = 0 ∨ a1 = 0 ∧ a2 = 0 ∧ a3 = 0 ∧ a4 = 0 ∧ a5 = 0 ∧ ¬ a6 = 0 ∨ a1 = 0 ∧ a2 = 0 ∧ a3 = 0 ∧ a4 = 0 ∧ a5 = 0 ∧ a6 = 0 ∧ ¬ a7 = 0 ∨ a1 = 0 ∧ a2 = 0 ∧ a3 = 0 ∧ a4 = 0 ∧ a5 = 0 ∧ a6 = 0 ∧ a7 = 0 ∧ ¬ a8 = 0 := by
  by_cases h1 : a1 = 0
  rotate_left 1
  · exact .inl h1
  by_cases h2 : a2 = 0
  rotate_left 1
  · exact .inr (.inl ⟨h1, h2⟩)
  by_cases h3 : a3 = 0
  rotate_left 1
  · exact .inr (.inr (.inl ⟨h1, h2, h3⟩))
  by_cases h4 : a4 = 0
  rotate_left 1
  · exact .inr (.inr (.inr (.inl ⟨h1, h2, h3, h4⟩)))
  by_cases h5 : a5 = 0
  rotate_left 1
  · exact .inr (.inr (.inr (.inr (.inl ⟨h1, h2, h3, h4, h5⟩))))
  by_cases h6 : a6 = 0
  rotate_left 1
  · exact .inr (.inr (.inr (.inr (.inr (.inl ⟨h1, h2, h3, h4, h5, h6⟩)))))
  by_cases h7 : a7 = 0
  rotate_left 1
  · exact .inr (.inr (.inr (.inr (.inr (.inr (.inl ⟨h1, h2, h3, h4, h5, h6, h7⟩))))))
  by_cases h8 : a8 = 0
  rotate_left 1
  · exact .inr (.inr (.inr (.inr (.inr (.inr (.inr (⟨h1, h2, h3, h4, h5, h6, h7, h8⟩)))))))
  exact absurd (by subst h1 h2 h3 h4 h5 h6 h7 h8; rfl) h
theorem at_none {a1 a2 a3 a4 a5 a6 a7 a8 : Int} (h : ¬ (⟨a1, a2, a3, a4, a5, a6, a7, a8⟩ : At) ≠ noAt) : a1 = 0 ∧ a2 = 0 ∧ a3 = 0 ∧ a4 = 0 ∧ a5 = 0 ∧ a6 = 0 ∧ a7 = 0 ∧ a8 = 0 := by
  have e := Decidable.not_not.1 h
  unfold noAt at e
  simpa only [At.mk.injEq] using e
end Go.Proofs.Ytpklgcinijlmmaa
