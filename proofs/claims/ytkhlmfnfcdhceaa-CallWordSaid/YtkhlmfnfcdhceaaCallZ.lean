/- CallWord: what another word says. -/
import Derived.Test.YtkhlmfnfcdhceaaCallY
import Derived.Deep.RegionHeld3
namespace Go.Proofs.Ytkhlmfnfcdhceaa
open Go.RowKit

theorem words_blk {w : World} {B c : Nat} {t : TypeId} (n : Nat) (hn : n < 4294967296) (hb : Blk w B t #[.int .i64 (n : Int)]) : Calls Try.prog 12 #[.slice (some ⟨B, 0, none⟩) 1 c] w (TX w (cat [n])) := by
  have h := words_any B c [(n : Int)] w (by simp) (fun i hi => by
    match i, hi with
    | 0, _ => exact hb.cell rfl)
  rw [show [(n : Int)].map w32 = [n] by simp [w32]; omega] at h
  exact h

/-- What another word in a place says. -/
def WordSays0 (c _x p : Int) (b : List UInt8) (n : Nat) (r : Hd × Int) : Prop := r = (⟨c, n, p, b⟩, 0)
def WordSays1 (c x p : Int) (b : List UInt8) (n : Nat) (r : Hd × Int) : Prop := n = 0 ∧ r = (⟨c, x, p, b⟩, 0) ∨ ((n : Int) == 0) = false ∧ r = (noHd, 4)
def WordSays2 (c x p : Int) (b : List UInt8) (n : Nat) (r : Hd × Int) : Prop := n = 284 ∧ r = (⟨c, x, p, b⟩, 0) ∨ ((n : Int) == 284) = false ∧ r = (⟨c, x, p, []⟩, 63)
def WordSays3 (c x p : Int) (b : List UInt8) (n : Nat) (r : Hd × Int) : Prop := n = 3 ∧ r = (⟨c, x, p, b⟩, 0) ∨ ((n : Int) == 3) = false ∧ r = (⟨c, x, p, []⟩, 63)
def WordSays4 (_c x p : Int) (b : List UInt8) (n : Nat) (r : Hd × Int) : Prop := (1 ≤ n ∧ n ≤ 16) ∧ r = (⟨n, x, p, b⟩, 0) ∨ n < 1 ∧ r = (noHd, 4) ∨ 16 < n ∧ r = (noHd, 4)
def WordSays5 (c x _p : Int) (b : List UInt8) (n : Nat) (r : Hd × Int) : Prop := n < 19 ∧ r = (⟨c, x, n, b⟩, 0) ∨ 19 ≤ n ∧ r = (⟨c, x, n, []⟩, 62)
end Go.Proofs.Ytkhlmfnfcdhceaa
