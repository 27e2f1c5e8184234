/- A reader of records in memory. -/
import Derived.Test.YtahmpgaohjopeaaMs
import Derived.Test.YtahmpgaohjopeaaWrd
import Derived.Deep.AppendLies
import Derived.Laws.IdiomCopy
import Derived.Deep.MidRow
namespace Go.Proofs.Ytahmpgaohjopeaa
open Go.RowKit

/-- A block of cells, known whole. -/
def Blk (w : World) (r : Nat) (t : TypeId) (xs : Array Value) : Prop := w.heap[r]? = some (.cells xs t (0, 0))

section
variable {w w' : World} {r : Nat} {t : TypeId} {xs : Array Value}
theorem Blk.cell (h : Blk w r t xs) {i : Nat} {x : Value} (hx : xs[i]? = some x) : w.cell? ⟨r, i, none⟩ = some x := by
  unfold Blk at h
  simp [World.cell?, h, hx]
theorem Blk.frozen (h : Blk w r t xs) (i : Nat) : w.frozen? ⟨r, i, none⟩ = false := by unfold Blk at h; simp [World.frozen?, h]
theorem Blk.lt (h : Blk w r t xs) : r < w.heap.size := (Array.getElem?_eq_some_iff.1 h).1
theorem Blk.set (h : Blk w r t xs) (i : Nat) (u : Value) : Blk (w.setCell ⟨r, i, none⟩ u) r t (xs.setIfInBounds i u) := by unfold Blk at *; simp [World.setCell, Array.getElem?_modify, h]
theorem Blk.kept {row : Option Nat} (h : Blk w r t xs) (hg : w.grownBy w' row) (hne : some r ≠ row) : Blk w' r t xs := by
  unfold Blk at *; rw [hg.block r (Blk.lt h) hne]; exact h
theorem Blk.new (h : Blk w r t xs) (hg : w.grownBy w' none) : Blk w' r t xs := h.kept hg (by simp)
theorem Blk.made (w : World) (t : TypeId) (xs : Array Value) : Blk (w.alloc (.cells xs t)) w.heap.size t xs := heap_alloc_new w _
theorem Blk.ne {r' : Nat} {t' : TypeId} {xs' : Array Value} (h : Blk w r t xs) (h' : Blk w r' t' xs') (ht : t ≠ t') : r ≠ r' := by
  intro e; subst e; unfold Blk at *; rw [h] at h'; cases h'; exact ht rfl
end

def setAll (xs : Array Value) : Nat → List Value → Array Value
  | _, [] => xs
  | o, v :: l => setAll (xs.setIfInBounds o v) (o + 1) l

theorem Blk.setCells {r : Nat} {t : TypeId} : ∀ (vs : List Value) (o : Nat) {w : World} {xs : Array Value}, Blk w r t xs → Blk (w.setCells r o vs) r t (setAll xs o vs)
  | [], _, _, _, h => h
  | v :: l, o, _, _, h => Blk.setCells l (o + 1) (h.set o v)

theorem setCells_grown (r : Nat) : ∀ (vs : List Value) (o : Nat) (w w0 : World), w0.grownBy w (some r) → w0.grownBy (w.setCells r o vs) (some r)
  | [], _, _, _, h => h
  | v :: l, o, w, w0, h => setCells_grown r l (o + 1) _ w0 (Lib.grownBy_setB h o v)

theorem Blk.there {w : World} {r : Nat} {t : TypeId} {xs : Array Value} (h : Blk w r t xs) (o n : Nat) (hn : o + n ≤ xs.size) : w.there r o n := fun j hj =>
  ⟨by rw [h.cell (i := o + j) (x := xs[o + j]'(by omega)) (Array.getElem?_eq_getElem _)]; rfl, h.frozen _⟩

/-- The bytes of a record that is coming. -/
def Body (w : World) (v : Value) (bs : List UInt8) : Prop :=
  (v = .slice none 0 0 ∧ bs = []) ∨ ∃ g cap cur, v = .slice (some ⟨g, 0, none⟩) bs.length cap ∧ Blk w g 5 cur ∧ bs.length ≤ cap ∧ cap ≤ maxLen ∧ cap ≤ cur.size ∧ cur.toList.take bs.length = bs.map u8v

theorem Body.nil (w : World) : Body w (.slice none 0 0) [] := .inl ⟨rfl, rfl⟩

theorem Body.cells {w : World} {g n cap : Nat} {bs : List UInt8} (h : Body w (.slice (some ⟨g, 0, none⟩) n cap) bs) : BCells w g 0 bs := by
  rcases h with ⟨h, _⟩ | ⟨g', cap', cur, h, hb, _, _, _, ht⟩
  · cases h
  · cases h
    intro i hi
    rw [Nat.zero_add]
    refine hb.cell ?_
    have := congrArg (·[i]?) ht
    simp only [List.getElem?_take_of_lt hi, List.getElem?_map, List.getElem?_eq_getElem hi, Array.getElem?_toList] at this
    exact this

theorem Body.bts {w : World} {v : Value} {bs : List UInt8} (h : Body w v bs) : Bts w v bs := by
  have h0 := h
  rcases h with ⟨rfl, rfl⟩ | ⟨g, cap, cur, rfl, hb, h1, h2, h3, h4⟩
  · exact Bts.nil w
  · exact .inr (.inl ⟨g, 0, cap, rfl, h1, h2, h0.cells⟩)

theorem Body.blk {w : World} {v : Value} {bs : List UInt8} (h : Body w v bs) : ∀ k, v.ownBlock = some k → ∃ cur, Blk w k 5 cur := by
  rcases h with ⟨rfl, rfl⟩ | ⟨g, cap, cur, rfl, hb, _⟩
  · intro k hk; cases hk
  · intro k hk; cases hk; exact ⟨cur, hb⟩

theorem Body.len {w : World} {v : Value} {bs : List UInt8} (h : Body w v bs) : ∃ a c, v = .slice a bs.length c := by
  rcases h with ⟨rfl, rfl⟩ | ⟨g, cap, cur, rfl, _⟩
  · exact ⟨none, 0, rfl⟩
  · exact ⟨_, _, rfl⟩

theorem Body.kept {w w' : World} {v : Value} {bs : List UInt8} {row : Option Nat} (h : Body w v bs) (hg : w.grownBy w' row) (hne : v.ownBlock = none ∨ v.ownBlock ≠ row) : Body w' v bs := by
  rcases h with h | ⟨g, cap, cur, rfl, hb, h1⟩
  · exact .inl h
  · refine .inr ⟨g, cap, cur, rfl, hb.kept hg ?_, h1⟩
    rcases hne with hne | hne
    · cases hne
    · exact hne

theorem Bts.at {w : World} {v : Value} {bs : List UInt8} (h : Bts w v bs) (h0 : 0 < bs.length) : ∃ g o c, v = .slice (some ⟨g, o, none⟩) bs.length c ∧ BCells w g o bs ∧ bs.length ≤ c ∧ c ≤ maxLen := by
  rcases h with ⟨_, h⟩ | ⟨g, o, c, rfl, h1, h2, h3⟩ | ⟨_, _, h⟩
  rotate_left 2
  · subst h; simp at h0
  · subst h; simp at h0
  · exact ⟨g, o, c, rfl, h3, h1, h2⟩

/-- The block that an append may write in place. -/
def room : Value → Option Nat
  | .slice (some a) n c => if n < c then some a.block else none
  | _ => none
def vlen : Value → Nat
  | .slice _ n _ => n
  | _ => 0

theorem room_own {v : Value} {g : Nat} (h : room v = some g) : v.ownBlock = some g := by
  unfold room at h
  split at h
  · split at h
    · simpa [Value.ownBlock] using h
    · cases h
  · cases h

/-- What a reader's step keeps: all but the reader's block, and the room behind the bytes of its record. -/
structure Kept (w w' : World) (r : Nat) (v : Value) : Prop where
  os : w'.os = w.os
  tape : w'.tape = w.tape
  output : w'.output = w.output
  size : w.heap.size ≤ w'.heap.size
  block : ∀ k < w.heap.size, k ≠ r → some k ≠ room v → w'.heap[k]? = w.heap[k]?
  cells : ∀ g, room v = some g → ∀ i < vlen v, w'.cell? ⟨g, i, none⟩ = w.cell? ⟨g, i, none⟩
  there : ∀ g cur, room v = some g → Blk w g 5 cur → ∃ cur', Blk w' g 5 cur' ∧ cur.size ≤ cur'.size
  lt : ∀ g, room v = some g → g < w.heap.size ∧ g ≠ r

/-- Where the bytes lie behind a step. -/
def Next (w : World) (v v' : Value) : Prop := room v' = none ∨ (room v' = room v ∧ vlen v ≤ vlen v') ∨ ∀ g, room v' = some g → w.heap.size ≤ g

theorem Next.refl (w : World) (v : Value) : Next w v v := .inr (.inl ⟨rfl, Nat.le_refl _⟩)
theorem Next.nil (w : World) (v : Value) : Next w v (.slice none 0 0) := .inl rfl
theorem Next.trans {w w1 : World} {v v1 v2 : Value} (h : Next w v v1) (k : Next w1 v1 v2) (hs : w.heap.size ≤ w1.heap.size) : Next w v v2 := by
  rcases k with k | ⟨k1, k2⟩ | k
  · exact .inl k
  · rcases h with h | ⟨h1, h2⟩ | h
    · exact .inl (k1.trans h)
    · exact .inr (.inl ⟨k1.trans h1, Nat.le_trans h2 k2⟩)
    · exact .inr (.inr fun g hg => h g (k1 ▸ hg))
  · exact .inr (.inr fun g hg => Nat.le_trans hs (k g hg))

theorem Kept.trans {w w1 w2 : World} {r : Nat} {v v1 : Value} (h : Kept w w1 r v) (hn : Next w v v1) (k : Kept w1 w2 r v1) : Kept w w2 r v := by
  have far : ∀ j, j < w.heap.size → some j ≠ room v → some j ≠ room v1 := fun j hj hne e => by
    rcases hn with hn | ⟨hn, _⟩ | hn
    · rw [hn] at e; cases e
    · exact hne (e.trans hn)
    · have := hn j e.symm; omega
  refine ⟨k.os.trans h.os, k.tape.trans h.tape, k.output.trans h.output, Nat.le_trans h.size k.size, fun j hj hr hne => ?_, fun g hg i hi => ?_, fun g cur hg hb => ?_, h.lt⟩
  · rw [k.block j (Nat.lt_of_lt_of_le hj h.size) hr (far j hj hne), h.block j hj hr hne]
  rotate_left 1
  · obtain ⟨cur1, hb1, hs1⟩ := h.there g cur hg hb
    obtain ⟨hlt, hne⟩ := h.lt g hg
    by_cases e : room v1 = some g
    · obtain ⟨cur2, hb2, hs2⟩ := k.there g cur1 e hb1
      exact ⟨cur2, hb2, Nat.le_trans hs1 hs2⟩
    · refine ⟨cur1, ?_, hs1⟩
      unfold Blk at *
      rw [k.block g (Nat.lt_of_lt_of_le hlt h.size) hne (fun h => e h.symm)]
      exact hb1
  · obtain ⟨hlt, hne⟩ := h.lt g hg
    by_cases e : room v1 = some g
    · have hv : vlen v ≤ vlen v1 := by
        rcases hn with hn | ⟨_, hn⟩ | hn
        · rw [hn] at e; cases e
        · exact hn
        · have := hn g e; omega
      rw [k.cells g e i (Nat.lt_of_lt_of_le hi hv), h.cells g hg i hi]
    · have := k.block g (Nat.lt_of_lt_of_le hlt h.size) hne (fun h => e h.symm)
      rw [World.cell?_of_block (a := ⟨g, i, none⟩) this, h.cells g hg i hi]

theorem Kept.of_grown {w w' : World} {r : Nat} {v : Value} (hg : w.grownBy w' (some r)) (hlt : ∀ g, room v = some g → g < w.heap.size ∧ g ≠ r) : Kept w w' r v :=
  ⟨hg.os, hg.tape, hg.output, hg.size, fun k hk hr _ => hg.block k hk (by simpa using hr), fun g h i _ => World.cell?_of_block (a := ⟨g, i, none⟩) (hg.block g (hlt g h).1 (by simpa using (hlt g h).2)), fun g cur h hb => ⟨cur, hb.kept hg (by simpa using (hlt g h).2), Nat.le_refl _⟩, hlt⟩

theorem Kept.grown {w w' : World} {r base : Nat} {v : Value} (h : Kept w w' r v) (hb : base ≤ r) (hv : ∀ g, room v = some g → base ≤ g) {w0 : World} (h0 : w0.grownBy w none) (hw : w0.heap.size ≤ base) : w0.grownBy w' none :=
  ⟨h.os.trans h0.os, h.tape.trans h0.tape, h.output.trans h0.output, Nat.le_trans h0.size h.size, fun k hk _ => (h.block k (Nat.lt_of_lt_of_le hk h0.size) (by omega) (fun e => by have := hv k e.symm; omega)).trans (h0.block k hk (by simp))⟩

/-- The reader at block r, its record's bytes by the value v. -/
def RS (w : World) (r : Nat) (v : Value) (s : Ms) : Prop :=
  ∃ h0 h1 h2 h3 : UInt8, Blk w r 48 #[u8v h0, u8v h1, u8v h2, u8v h3, .int .i64 s.hd.length, .int .i64 s.left, .bool s.last, v, .int .i64 s.came, .bool s.shut] ∧ [h0, h1, h2, h3].take s.hd.length = s.hd ∧ Body w v s.body

theorem RS.lt {w : World} {r : Nat} {v : Value} {s : Ms} (h : RS w r v s) : ∀ g, v.ownBlock = some g → g < w.heap.size ∧ g ≠ r := by
  obtain ⟨_, _, _, _, hb, _, hv⟩ := h
  intro g hg
  obtain ⟨cur, hc⟩ := hv.blk g hg
  exact ⟨hc.lt, hc.ne hb (by decide)⟩

theorem RS.lt' {w : World} {r : Nat} {v : Value} {s : Ms} (h : RS w r v s) : ∀ g, room v = some g → g < w.heap.size ∧ g ≠ r := fun g hg => h.lt g (room_own hg)

theorem RS.new {w w' : World} {r : Nat} {v : Value} {s : Ms} (h : RS w r v s) (hg : w.grownBy w' none) : RS w' r v s := by
  obtain ⟨h0, h1, h2, h3, hb, ht, hv⟩ := h
  refine ⟨h0, h1, h2, h3, hb.new hg, ht, hv.kept hg ?_⟩
  cases v.ownBlock <;> simp

theorem infR : (Try.prog.info? 48).map (·.size) = some 10 := by kernel_rfl

/-- A whole new reader, stored into a reader's block. -/
theorem RS.stored {w : World} {r : Nat} {v : Value} {s : Ms} (h : RS w r v s) (sh : Bool) :
    RS (w.setCells r 0 [.int .u8 0, .int .u8 0, .int .u8 0, .int .u8 0, .int .i64 0, .int .i64 0, .bool false, .slice none 0 0, .int .i64 0, .bool sh]) r (.slice none 0 0) { Ms.new with shut := sh } ∧
    w.grownBy (w.setCells r 0 [.int .u8 0, .int .u8 0, .int .u8 0, .int .u8 0, .int .i64 0, .int .i64 0, .bool false, .slice none 0 0, .int .i64 0, .bool sh]) (some r) := by
  obtain ⟨h0, h1, h2, h3, hb, ht, hv⟩ := h
  refine ⟨⟨0, 0, 0, 0, ?_, rfl, Body.nil _⟩, setCells_grown r _ 0 w w (World.grownBy.refl _ _)⟩
  have h := hb.setCells [.int .u8 0, .int .u8 0, .int .u8 0, .int .u8 0, .int .i64 0, .int .i64 0, .bool false, .slice none 0 0, .int .i64 0, .bool sh] 0
  simpa [setAll, u8v, Ms.new] using h

/-- The cells of a reader's block: each is there, and may be written. -/
def Ten (w : World) (r : Nat) (xs : Array Value) : Prop := ∀ i (h : i < xs.size), w.cell? ⟨r, i, none⟩ = some xs[i] ∧ w.frozen? ⟨r, i, none⟩ = false
theorem Blk.ten {w : World} {r : Nat} {t : TypeId} {xs : Array Value} (h : Blk w r t xs) : Ten w r xs := fun i hi => ⟨h.cell (Array.getElem?_eq_getElem hi), h.frozen i⟩

theorem RS.there {w : World} {r : Nat} {v : Value} {s : Ms} (h : RS w r v s) : w.there r 0 10 := by
  obtain ⟨h0, h1, h2, h3, hb, ht, hv⟩ := h
  exact hb.there 0 10 (by simp)

theorem and_low (n : Nat) : n &&& 2147483647 = n % 2147483648 := Nat.and_two_pow_sub_one_eq_mod n 31
theorem and_high (n : Nat) (h : n < 4294967296) : (n &&& 2147483648 = 0) ↔ n < 2147483648 := by
  constructor
  · intro h0
    by_cases h1 : n < 2147483648
    · exact h1
    · exfalso
      have h2 : (n &&& 2 ^ 31).testBit 31 = true := by
        rw [Nat.testBit_and, Nat.testBit_two_pow_self, Bool.and_true, Nat.testBit_eq_decide_div_mod_eq]
        simp; omega
      rw [show (2 : Nat) ^ 31 = 2147483648 from rfl, h0] at h2
      simp at h2
  · intro h1
    apply Nat.eq_of_testBit_eq
    intro i
    rw [Nat.testBit_and, Nat.zero_testBit, show (2147483648 : Nat) = 2 ^ 31 from rfl, Nat.testBit_two_pow]
    by_cases e : 31 = i
    · subst e
      rw [Nat.testBit_lt_two_pow (by omega)]
      rfl
    · simp [e]

end Go.Proofs.Ytahmpgaohjopeaa
