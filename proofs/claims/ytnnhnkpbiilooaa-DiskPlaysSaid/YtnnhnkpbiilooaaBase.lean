/- Bytes in memory: what a slice of bytes reads as, what is kept of it, what cutting gives. -/
import Derived.Test.YtnnhnkpbiilooaaRows
import Derived.WalkKit
import Derived.WalkSpells
import Derived.WalkLawsBesides
import Derived.Lib.BufferOwn
import Derived.Laws.BytesArg
import Derived.Laws.BytesString
import Derived.Lib.Hide
namespace Go.Proofs.Ytnnhnkpbiilooaa
open Go.RowKit

/-- Cell i behind (b, o) is byte i. -/
def BCells (w : World) (b o : Nat) (bs : List UInt8) : Prop := ∀ i (h : i < bs.length), w.cell? ⟨b, o + i, none⟩ = some (.int .u8 (bs[i].toNat : Int))

/-- The value is a slice of bytes that reads as bs. -/
def Bts (w : World) (v : Value) (bs : List UInt8) : Prop :=
  (v = .slice none 0 0 ∧ bs = []) ∨ (∃ b o c, v = .slice (some ⟨b, o, none⟩) bs.length c ∧ bs.length ≤ c ∧ c ≤ maxLen ∧ BCells w b o bs) ∨ ∃ a, v = .slice (some a) 0 0 ∧ bs = []

theorem Bts.form {w : World} {v : Value} {bs : List UInt8} (h : Bts w v bs) : ∃ a c, v = .slice a bs.length c ∧ bs.length ≤ c ∧ c ≤ maxLen := by
  rcases h with ⟨rfl, rfl⟩ | ⟨b, o, c, rfl, h1, h2, _⟩ | ⟨a, rfl, rfl⟩
  · exact ⟨none, 0, rfl, Nat.le_refl _, Nat.zero_le _⟩
  · exact ⟨_, _, rfl, h1, h2⟩
  · exact ⟨_, 0, rfl, Nat.le_refl _, Nat.zero_le _⟩

theorem Bts.shape {w : World} {v : Value} {bs : List UInt8} (h : Bts w v bs) : ∃ a n c, v = .slice a n c := by
  obtain ⟨a, c, h, _⟩ := h.form
  exact ⟨_, _, _, h⟩

theorem Bts.kept {w w' : World} {row : Option Nat} {v : Value} {bs : List UInt8} (h : Bts w v bs) (hg : w.grownBy w' row) (hne : v.ownBlock = none ∨ v.ownBlock ≠ row) : Bts w' v bs := by
  rcases h with h | ⟨b, o, c, rfl, h1, h2, h3⟩ | h
  · exact .inl h
  · refine .inr (.inl ⟨b, o, c, rfl, h1, h2, fun i hi => ?_⟩)
    refine hg.cell (h3 i hi) ?_
    rcases hne with hne | hne
    · simp [Value.ownBlock] at hne
    · simpa [Value.ownBlock] using hne
  · exact .inr (.inr h)

theorem Bts.new {w w' : World} {v : Value} {bs : List UInt8} (h : Bts w v bs) (hg : w.grownBy w' none) : Bts w' v bs := by
  refine h.kept hg ?_
  cases v.ownBlock <;> simp

theorem Bts.nil (w : World) : Bts w (.slice none 0 0) [] := .inl ⟨rfl, rfl⟩

theorem BCells.take {w : World} {b o : Nat} {bs : List UInt8} (h : BCells w b o bs) (k : Nat) : BCells w b o (bs.take k) := fun i hi => by
  rw [List.length_take] at hi
  rw [h i (by omega), List.getElem_take]

theorem BCells.drop {w : World} {b o : Nat} {bs : List UInt8} (h : BCells w b o bs) (k : Nat) : BCells w b (o + k) (bs.drop k) := fun i hi => by
  rw [List.length_drop] at hi
  rw [Nat.add_assoc, h (k + i) (by omega), List.getElem_drop]

section
variable {P : Program} {t e : TypeId}

theorem strOfNums_bytes (bs : List UInt8) : strOfNums (bs.map fun x => (x.toNat : Int)) = ⟨bs.toArray⟩ := by
  unfold strOfNums
  rw [List.map_map]
  congr 2
  conv => rhs; rw [← List.map_id bs]
  apply List.map_congr_left
  intro x _
  simp

theorem Bts.str {td : TypeId} (ht : P.underlying t = some (.slice e)) (he : P.underlying e = some (.int .u8)) (hd : P.underlying td = some .string) {w : World} {v : Value} {bs : List UInt8} (h : Bts w v bs) :
    (convert t td v).run P w = .ok (.string ⟨bs.toArray⟩) w := by
  rcases h with ⟨rfl, rfl⟩ | ⟨b, o, c, rfl, h1, h2, h3⟩ | ⟨a, rfl, rfl⟩
  rotate_left 2
  · rw [run_convert_bytes_string w t td e (some a) 0 0 ht he hd]; rfl
  · exact run_convert_bytes_nil w t e ht he 0 0 td hd
  · rw [run_convert_bytes_arg w t e ht he b o bs.length c (bs.map fun x => (x.toNat : Int)) (by simp) (fun i hi => ?_) td hd, strOfNums_bytes]
    rw [h3 i hi]
    simp [List.getD, List.getElem?_map, List.getElem?_eq_getElem hi]

theorem Bts.cut_hm (ht : P.underlying t = some (.slice e)) (hz : ∀ w, (Go.sizeOf e).run P w = .ok 1 w) {w : World} {v : Value} {bs : List UInt8} (h : Bts w v bs) (k : Nat) (hk : k ≤ bs.length) :
    ∃ v', (Instr.slice t v none (some (.int .i64 (k : Int))) (some (.int .i64 (k : Int)))).run P w = .ok v' w ∧ Bts w v' (bs.take k) ∧ (v'.ownBlock = none ∨ v'.ownBlock = v.ownBlock) := by
  rcases h with ⟨rfl, rfl⟩ | ⟨b, o, c, rfl, h1, h2, h3⟩ | ⟨a, rfl, rfl⟩
  rotate_left 2
  · obtain rfl : k = 0 := by simpa using hk
    refine ⟨.slice (some a) 0 0, ?_, .inr (.inr ⟨a, rfl, rfl⟩), .inr rfl⟩
    simp [Instr.slice, Instr.sliceBounds, Instr.sliceBound, run_underlying ht, hz, asIntOf, go_sem, Addr.add]
  · obtain rfl : k = 0 := by simpa using hk
    refine ⟨.slice none 0 0, ?_, .inl ⟨rfl, rfl⟩, .inl rfl⟩
    simp [Instr.slice, Instr.sliceBounds, Instr.sliceBound, run_underlying ht, hz, asIntOf, go_sem]
  · refine ⟨.slice (some ⟨b, o, none⟩) k k, ?_, .inr (.inl ⟨b, o, k, by rw [List.length_take, Nat.min_eq_left hk], by rw [List.length_take]; omega, by omega, h3.take k⟩), .inr rfl⟩
    have hkc : ¬ c < k := by omega
    simp [Instr.slice, Instr.sliceBounds, Instr.sliceBound, run_underlying ht, hz, asIntOf, go_sem, hkc, Addr.add]

theorem Bts.cut_lo (ht : P.underlying t = some (.slice e)) (hz : ∀ w, (Go.sizeOf e).run P w = .ok 1 w) {w : World} {v : Value} {bs : List UInt8} (h : Bts w v bs) (k : Nat) (hk : k ≤ bs.length) :
    ∃ v', (Instr.slice t v (some (.int .i64 (k : Int))) none none).run P w = .ok v' w ∧ Bts w v' (bs.drop k) ∧ (v'.ownBlock = none ∨ v'.ownBlock = v.ownBlock) := by
  rcases h with ⟨rfl, rfl⟩ | ⟨b, o, c, rfl, h1, h2, h3⟩ | ⟨a, rfl, rfl⟩
  rotate_left 2
  · obtain rfl : k = 0 := by simpa using hk
    refine ⟨.slice (some a) 0 0, ?_, .inr (.inr ⟨a, rfl, rfl⟩), .inr rfl⟩
    simp [Instr.slice, Instr.sliceBounds, Instr.sliceBound, run_underlying ht, hz, asIntOf, go_sem, Addr.add]
  · obtain rfl : k = 0 := by simpa using hk
    refine ⟨.slice none 0 0, ?_, .inl ⟨rfl, rfl⟩, .inl rfl⟩
    simp [Instr.slice, Instr.sliceBounds, Instr.sliceBound, run_underlying ht, hz, asIntOf, go_sem]
  · have hkc : ¬ bs.length < k := by omega
    by_cases hc : c = k
    · subst hc
      have hl : bs.length = c := by omega
      refine ⟨.slice (some ⟨b, o, none⟩) 0 0, ?_, .inr (.inl ⟨b, o, 0, by rw [List.length_drop, hl, Nat.sub_self], by rw [List.length_drop]; omega, by omega, fun i hi => ?_⟩), .inr rfl⟩
      · simp [Instr.slice, Instr.sliceBounds, Instr.sliceBound, run_underlying ht, hz, asIntOf, go_sem, hl]
      · rw [List.length_drop] at hi; omega
    · refine ⟨.slice (some ⟨b, o + k, none⟩) (bs.length - k) (c - k), ?_, .inr (.inl ⟨b, o + k, c - k, by rw [List.length_drop], by rw [List.length_drop]; omega, by omega, h3.drop k⟩), .inr rfl⟩
      simp [Instr.slice, Instr.sliceBounds, Instr.sliceBound, run_underlying ht, hz, asIntOf, go_sem, hkc, hc]

end

/-- A block of two cells, of the call's own. -/
def Two (w : World) (r : Nat) (t : TypeId) (x y : Value) : Prop := w.heap[r]? = some (.cells #[x, y] t (0, 0))

section
variable {w w' : World} {r : Nat} {t : TypeId} {x y : Value}
theorem Two.c0 (h : Two w r t x y) : w.cell? ⟨r, 0, none⟩ = some x := by unfold Two at h; simp [World.cell?, h]
theorem Two.c1 (h : Two w r t x y) : w.cell? ⟨r, 1, none⟩ = some y := by unfold Two at h; simp [World.cell?, h]
theorem Two.f0 (h : Two w r t x y) : w.frozen? ⟨r, 0, none⟩ = false := by unfold Two at h; simp [World.frozen?, h]
theorem Two.f1 (h : Two w r t x y) : w.frozen? ⟨r, 1, none⟩ = false := by unfold Two at h; simp [World.frozen?, h]
theorem Two.lt (h : Two w r t x y) : r < w.heap.size := (Array.getElem?_eq_some_iff.1 h).1
theorem Two.set0 (h : Two w r t x y) (u : Value) : Two (w.setCell ⟨r, 0, none⟩ u) r t u y := by unfold Two at *; simp [World.setCell, Array.getElem?_modify, h]
theorem Two.set1 (h : Two w r t x y) (u : Value) : Two (w.setCell ⟨r, 1, none⟩ u) r t x u := by unfold Two at *; simp [World.setCell, Array.getElem?_modify, h]
theorem Two.kept {row : Option Nat} (h : Two w r t x y) (hg : w.grownBy w' row) (hne : some r ≠ row) : Two w' r t x y := by
  unfold Two at *; rw [hg.block r (Two.lt h) hne]; exact h
theorem Two.new (h : Two w r t x y) (hg : w.grownBy w' none) : Two w' r t x y := h.kept hg (by simp)
theorem Two.made (w : World) (t : TypeId) (x y : Value) : Two (w.alloc (.cells #[x, y] t)) w.heap.size t x y := heap_alloc_new w _
end

/-- A block of cells, known whole. -/
def Blk (w : World) (r : Nat) (t : TypeId) (xs : Array Value) : Prop := w.heap[r]? = some (.cells xs t (0, 0))

section
variable {w w' : World} {r : Nat} {t : TypeId} {xs : Array Value}
theorem Blk.cell (h : Blk w r t xs) {i : Nat} {x : Value} (hx : xs[i]? = some x) : w.cell? ⟨r, i, none⟩ = some x := by
  unfold Blk at h
  simp [World.cell?, h, hx]
theorem Blk.frozen (h : Blk w r t xs) (i : Nat) : w.frozen? ⟨r, i, none⟩ = false := by unfold Blk at h; simp [World.frozen?, h]
theorem Blk.lt (h : Blk w r t xs) : r < w.heap.size := (Array.getElem?_eq_some_iff.1 h).1
theorem Blk.set (h : Blk w r t xs) (i : Nat) (u : Value) : Blk (w.setCell ⟨r, i, none⟩ u) r t (xs.setIfInBounds i u) := by unfold Blk at *; simp [World.setCell, Array.getElem?_modify, h]
theorem Blk.kept {row : Option Nat} (h : Blk w r t xs) (hg : w.grownBy w' row) (hne : some r ≠ row) : Blk w' r t xs := by
  unfold Blk at *; rw [hg.block r (Blk.lt h) hne]; exact h
theorem Blk.new (h : Blk w r t xs) (hg : w.grownBy w' none) : Blk w' r t xs := h.kept hg (by simp)
theorem Blk.made (w : World) (t : TypeId) (xs : Array Value) : Blk (w.alloc (.cells xs t)) w.heap.size t xs := heap_alloc_new w _
theorem Blk.ne {r' : Nat} {t' : TypeId} {xs' : Array Value} (h : Blk w r t xs) (h' : Blk w r' t' xs') (ht : t ≠ t') : r ≠ r' := by
  intro e; subst e; unfold Blk at *; rw [h] at h'; cases h'; exact ht rfl
end
end Go.Proofs.Ytnnhnkpbiilooaa
