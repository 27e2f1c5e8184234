/- The document's answers of layer 1: the reader's other methods. -/
import Derived.Test.YtkhlmfnfcdhceaaRefR
import Derived.Test.YtkhlmfnfcdhceaaOnto
namespace Go.Proofs.Ytkhlmfnfcdhceaa
open Go.RowKit

theorem RRd.then {w w1 w2 : World} {r : Nat} {g : Option Nat} {v : Value} {s : St} {e : Ending} (h : RRd w1 r g v s e w2) (hg : w.grownBy w1 (some r)) : RRd w r g v s e w2 := ⟨h.1, h.2.1, World.grownBy.trans hg h.2.2⟩

theorem RRdrS.bad {w : World} {r : Nat} {g : Option Nat} {s : St} (h : RRdrS w r g s) : w.cell? ⟨r, 1, none⟩ = some (.bool s.isNone) := by
  obtain ⟨v, h1, _⟩ := h
  exact h1.c1

theorem refFail_s (r : Nat) (g : Option Nat) (s : St) (w : World) (hr : RRdrS w r g s) :
    Calls Try.prog 44 #[.pointer (some ⟨r, 0, none⟩)] w (RRd w r g (.tuple #[]) none) := by
  obtain ⟨v, h1, _, _, h4, _⟩ := hr
  exact refFail_any r _ _ g w h4 h1

/-- A number of 64 bits is two words. -/
theorem rLong_words (s : St) : rLong s = (match (rWord (rWord s).2).2 with | none => (0, none) | some l => ((rWord s).1 * 4294967296 + (rWord (rWord s).2).1, some l)) := by
  match s with
  | none => rfl
  | some [] => rfl
  | some [_] => rfl
  | some [_, _] => rfl
  | some [_, _, _] => rfl
  | some [_, _, _, _] => rfl
  | some [_, _, _, _, _] => rfl
  | some [_, _, _, _, _, _] => rfl
  | some [_, _, _, _, _, _, _] => rfl
  | some (_ :: _ :: _ :: _ :: _ :: _ :: _ :: _ :: _) => rfl

theorem rWord_range (s : St) : 0 ≤ (rWord s).1 ∧ (rWord s).1 < 4294967296 := by
  unfold rWord
  split
  · exact n4_range _ _ _ _
  · simp

/-- A count is a word that is not above. -/
theorem rCount_word (m : Int) (s : St) : rCount m s = (match (rWord s).2 with | none => (0, none) | some l => if (rWord s).1 ≤ m then ((rWord s).1, some l) else (0, none)) := by
  match s with
  | none => rfl
  | some [] => rfl
  | some [_] => rfl
  | some [_, _] => rfl
  | some [_, _, _] => rfl
  | some (_ :: _ :: _ :: _ :: _) => rfl

theorem rWord_none (s : St) (h : (rWord s).2 = none) : (rWord s).1 = 0 := by
  unfold rWord at *
  split at h
  · cases h
  · rfl

def RMade (w : World) (bs : List UInt8) (e : Ending) (w' : World) : Prop :=
  ∃ r g, e = .returned (.pointer (some ⟨r, 0, none⟩)) ∧ RRdrS w' r g (some bs) ∧ w.grownBy w' none ∧ w.heap.size ≤ r ∧ r < w'.heap.size ∧ (∀ k, g = some k → w.heap.size ≤ k ∧ k < w'.heap.size)

set_option maxHeartbeats 400000 in
theorem refNewReader_any (v : Value) (bs : List UInt8) (w : World) (hv : Bts w v bs) (hl : bs.length ≤ 100000000000) :
    Calls Try.prog 34 #[v] w (RMade w bs) := by
  have HO := Lib.hid (copy_nil w)
  have HB := Lib.hid (hv.new (World.grownBy_alloc w (.cells #[] 5) none))
  have HL : Hid (([] : List UInt8).length + bs.length ≤ 140737488355328) := Lib.hid (by simp; omega)
  obtain ⟨a, m, c, rfl⟩ := hv.shape
  clear hv hl
  go_enter Try.func34, Try.ntmps34
  go_wp2_with (at_builtin; refine wpList_append_bts rfl _ _ rfl _ _ _ _ _ rfl rfl HO.out HB.out HL.out (by simp) ?_; rintro v5 w5 ⟨h6, h7, h8⟩; obtain ⟨a5, n5, c5, rfl⟩ := h6.bts.shape; have H6 := Lib.hid h6; have H7 := Lib.hid h7; clear h6 h7 h8)
  go_ret
  have hg0 : w.grownBy w5 none := grown_own (World.grownBy_alloc _ _ _) H7.out (fun m hm => by cases hm; exact Nat.le_refl _)
  have hg := World.grownBy_alloc w5 (.cells #[.slice a5 n5 c5, .bool false] 82) none
  refine ⟨w5.heap.size, (Value.slice a5 n5 c5).ownBlock, rfl, ⟨.slice a5 n5 c5, Two.made w5 _ _ _, H6.out.bts.new hg, .inr rfl, ?_, fun h => by cases h⟩, World.grownBy.trans hg0 hg, hg0.size, by simp, ?_⟩
  · intro h
    have := (H6.out.lt _ h).2
    omega
  · intro k hk
    have := H6.out.lt _ hk
    exact ⟨this.1, by simp; omega⟩
end Go.Proofs.Ytkhlmfnfcdhceaa
