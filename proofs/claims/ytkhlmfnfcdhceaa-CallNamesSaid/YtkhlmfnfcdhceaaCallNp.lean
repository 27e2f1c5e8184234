/- CallNames: what is asked, and told: plain facts. -/
import Derived.Test.YtkhlmfnfcdhceaaCallM
namespace Go.Proofs.Ytkhlmfnfcdhceaa
open Go.RowKit

def zs (n : Nat) : List UInt8 := List.replicate n 0
theorem zs_len (n : Nat) : (zs n).length = n := List.length_replicate

theorem le_cat (z : List Int) (h : z.length ≤ 100) : (cat (z.map w32)).length ≤ 1000000000 := by rw [cat_len, List.length_map]; omega
theorem le_app (z : List Int) (n : Nat) (h : z.length ≤ 100) (hn : n ≤ 5000) : (cat (z.map w32) ++ zs n).length ≤ 1000000000 := by rw [List.length_append, cat_len, List.length_map, zs_len]; omega
theorem le_one (z : List Int) (x : UInt8) (h : z.length ≤ 100) : (cat (z.map w32) ++ [x]).length ≤ 1000000000 := by rw [List.length_append, cat_len, List.length_map]; simp; omega

theorem two_of {α β : Type} {p : α × β} {e : β} (h : p.2 = e) : p = (p.1, e) := Prod.ext rfl h

theorem cw_bad {c x p : Int} {b : List UInt8} (h : c < 1 ∨ 16 < c ∨ ¬ isW x ∨ ¬ isW p ∨ b.length % 4 ≠ 0) : cWrite ⟨c, x, p, b⟩ = ([], 1) := if_pos h
theorem six_cat (w0 w1 w2 w3 w4 w5 : Nat) (l : List UInt8) : cat [w0, w1, w2, w3, w4, w5] ++ l = six w0 w1 w2 w3 w4 w5 l := rfl

theorem cn_w0 : cWrite ⟨16, 4294967295, 4294967295, zs 4072⟩ = (hdB ⟨16, 4294967295, 4294967295, zs 4072⟩, 0) := cWrite_of (by decide) (by decide) (by decide) (by rw [zs_len]) (by rw [zs_len]; exact Nat.le_refl _)
theorem cn_w1 : cWrite ⟨1, 0, 0, zs 4076⟩ = ([], 40) := by
  unfold cWrite
  rw [if_neg, if_pos (by rw [zs_len]; decide)]
  rintro (q | q | q | q | q)
  · revert q; decide
  · revert q; decide
  · exact q (by decide)
  · exact q (by decide)
  · have := zs_len 4076; dsimp only at q; omega
theorem cn_w2 : cWrite ⟨1, 0, 0, zs 4075⟩ = ([], 1) := cw_bad (.inr (.inr (.inr (.inr (by rw [zs_len]; decide)))))
theorem cn_w3 : cWrite ⟨0, 0, 0, []⟩ = ([], 1) := cw_bad (by decide)
theorem cn_w4 : cWrite ⟨17, 0, 0, []⟩ = ([], 1) := cw_bad (by decide)
theorem cn_w5 : cWrite ⟨1, -1, 0, []⟩ = ([], 1) := cw_bad (by decide)
theorem cn_w6 : cWrite ⟨1, 4294967296, 0, []⟩ = ([], 1) := cw_bad (by decide)
theorem cn_w7 : cWrite ⟨1, 0, -1, []⟩ = ([], 1) := cw_bad (by decide)
theorem cn_w8 : cWrite ⟨1, 0, 4294967296, []⟩ = ([], 1) := cw_bad (by decide)

theorem w32_of (n : Nat) (h : n < 4294967296) : w32 (n : Int) = n := by unfold w32; omega

theorem cn_r0 : (cRead (cat ([7, 0, 284, 3, 1, 18].map w32) ++ zs 4072)).2 = 0 := by
  rw [show [(7 : Int), 0, 284, 3, 1, 18].map w32 = [7, 0, 284, 3, 1, 18] from rfl, six_cat, cRead_six _ _ _ _ _ _ _ (by decide) (by decide) (by decide) (by decide) (by decide) (by decide), zs_len]
  rfl
theorem cn_r1 : (cRead (cat ([7, 0, 284, 3, 1, 18].map w32) ++ zs 4076)).2 = 4 := by
  rw [show [(7 : Int), 0, 284, 3, 1, 18].map w32 = [7, 0, 284, 3, 1, 18] from rfl, six_cat, cRead_six _ _ _ _ _ _ _ (by decide) (by decide) (by decide) (by decide) (by decide) (by decide), zs_len]
  rfl
theorem cn_r2 : (cRead (cat ([7, 0, 284, 3, 1, 18].map w32) ++ zs 2)).2 = 4 := rfl
theorem cn_r3 : (cRead (cat ([7, 0, 284, 3, 1].map w32))).2 = 4 := rfl
theorem cn_r4 : (cRead []).2 = 4 := rfl
theorem cn_r5 : (cRead (cat ([7, 1, 284, 3, 1, 1].map w32))).2 = 4 := rfl
theorem cn_r6 : (cRead (cat ([7, 0, 1, 3, 0, 1].map w32))).2 = 4 := rfl
theorem cn_r7 : (cRead (cat ([7, 0, 284, 2, 1, 99].map w32))).2 = 63 := rfl
theorem cn_r8 : (cRead (cat ([7, 0, 284, 3, 1, -1].map w32))).2 = 62 := rfl
theorem cn_a : cRead (cat ([9, 0, 1, 3, 4, 99].map w32) ++ zs 8) = (⟨4, 9, 99, []⟩, 63) := rfl
theorem cn_b : cRead (cat ([-1, 0, 284, 3, 4, 99].map w32) ++ zs 8) = (⟨4, 4294967295, 99, []⟩, 62) := rfl
theorem cn_c : cHear (cat ([-1, 1, 0, 5].map w32)) = (⟨4294967295, 0, cat ([5].map w32)⟩, 0) := rfl
theorem cn_h1 : (cHear (cat ([7, 1, 62, 5].map w32))).2 = 4 := rfl
theorem cn_h2 : (cHear (cat ([7, 1, 1].map w32))).2 = 4 := rfl
theorem cn_h3 : (cHear (cat ([7, 0, 0].map w32))).2 = 4 := rfl
theorem cn_h4 : (cHear (cat ([7, 1].map w32))).2 = 4 := rfl
theorem cn_h5 : (cHear (cat ([7, 1, 0].map w32) ++ [97])).2 = 4 := rfl
theorem cn_t1 : cTell ⟨0, 1, []⟩ = ([], 1) := rfl
theorem cn_t2 : cTell ⟨0, 4, zs 4⟩ = ([], 1) := rfl
theorem cn_t3 : cTell ⟨0, 0, zs 3⟩ = ([], 1) := rfl
theorem cn_t4 : cTell ⟨4294967296, 0, []⟩ = ([], 1) := rfl
end Go.Proofs.Ytkhlmfnfcdhceaa
