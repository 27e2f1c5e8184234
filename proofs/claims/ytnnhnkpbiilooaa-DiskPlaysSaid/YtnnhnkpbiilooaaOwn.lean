/- Bytes of the call's own: slices in new memory, appended to; slices.Grow and slices.Concat. -/
import Derived.Test.YtnnhnkpbiilooaaUnd
import Derived.LoopTactic
import Derived.Laws.AppendOwnNone
import Derived.Lib.AppendZeros
import Derived.Maps.AppendAt
namespace Go.Proofs.Ytnnhnkpbiilooaa
open Go.RowKit

/-- A byte as a cell holds it. -/
def u8v (x : UInt8) : Value := .int .u8 (x.toNat : Int)

/-- The slice v is of the call's own (in a block from base on) and holds these bytes. -/
def Own (w : World) (base : Nat) (v : Value) (bs : List UInt8) : Prop := w.ownsRow base 5 1 v bs.length (bs.map u8v)

theorem Own.bts {w : World} {base : Nat} {v : Value} {bs : List UInt8} (h : Own w base v bs) : Bts w v bs := by
  have h0 := h
  obtain ⟨_, ⟨rfl, h2⟩ | ⟨g, cap, cur, rfl, _, hg, h3, h4, h5, h6⟩⟩ := h
  · exact .inl ⟨rfl, List.eq_nil_of_length_eq_zero h2⟩
  · refine .inr (.inl ⟨g, 0, cap, rfl, h3, h4, fun i hi => ?_⟩)
    have := h0.cells (g := g) rfl i (u8v bs[i]) (by simp [List.getElem?_map, List.getElem?_eq_getElem hi])
    have hadd : (⟨g, 0, none⟩ : Addr).add i = ⟨g, i, none⟩ := by unfold Addr.add; split <;> simp_all
    rw [hadd] at this
    rw [Nat.zero_add]
    exact this

theorem Own.nil (w : World) (base : Nat) : Own w base (.slice none 0 0) [] := World.ownsRow_nil w base _ 1

theorem Own.kept {w w' : World} {base : Nat} {v : Value} {bs : List UInt8} {row : Option Nat} (h : Own w base v bs) (hg : w.grownBy w' row) (hne : v.ownBlock = none ∨ v.ownBlock ≠ row) : Own w' base v bs := World.ownsRow.kept h hg hne

theorem Own.new {w w' : World} {base : Nat} {v : Value} {bs : List UInt8} (h : Own w base v bs) (hg : w.grownBy w' none) : Own w' base v bs := by
  refine h.kept hg ?_
  cases v.ownBlock <;> simp

theorem Own.lt {w : World} {base : Nat} {v : Value} {bs : List UInt8} (h : Own w base v bs) : ∀ k, v.ownBlock = some k → base ≤ k ∧ k < w.heap.size := World.ownsRow.lt h

theorem Own.base {w : World} {base b' : Nat} {v : Value} {bs : List UInt8} (h : Own w base v bs) (hb : b' ≤ base) : Own w b' v bs := by
  obtain ⟨h1, h2 | ⟨g, cap, cur, h3, h4, h5⟩⟩ := h
  · exact ⟨h1, .inl h2⟩
  · exact ⟨h1, .inr ⟨g, cap, cur, h3, Nat.le_trans hb h4, h5⟩⟩

/-- Bytes that lay there ahead of the call stay, whatever is done to blocks of the call's own. -/
theorem Bts.old {w w' : World} {base : Nat} {v : Value} {bs : List UInt8} {row : Option Nat} (h : Bts w v bs) (hs : w.heap.size ≤ base) (hg : w.grownBy w' row) (hr : ∀ k, row = some k → base ≤ k) : Bts w' v bs := by
  rcases h with h | ⟨b, o, c, rfl, h1, h2, h3⟩ | h
  rotate_left 2
  · exact .inr (.inr h)
  · exact .inl h
  · refine .inr (.inl ⟨b, o, c, rfl, h1, h2, fun i hi => ?_⟩)
    refine hg.cell (h3 i hi) ?_
    intro he
    have := World.block_lt_of_cell? w _ (h3 i hi)
    have := hr _ he.symm
    simp at *
    omega

theorem inf5 : (Try.prog.info? 5).map (fun i => (i.zero, i.size, i.bytes)) = some (some (.int .u8 0), 1, 1) := by kernel_rfl
theorem und3 : Try.prog.underlying 3 = some (.int .i64) := by kernel_rfl

theorem u8v_cell (xs : List UInt8) : ∀ u ∈ xs.map u8v, u.oneCell' = true := by
  intro u hu
  obtain ⟨x, _, rfl⟩ := List.mem_map.1 hu
  rfl

/-- What an append of bytes to bytes of the call's own leaves. -/
def Appended (w : World) (base : Nat) (v : Value) (bs : List UInt8) (v' : Value) (w' : World) : Prop :=
  Own w' base v' bs ∧ w.grownBy w' v.ownBlock ∧ (v'.ownBlock = v.ownBlock ∨ v'.ownBlock = some w.heap.size)

/-- append(s, x...) of bytes: s of the call's own, x whatever. -/
theorem wpList_append_bts {w : World} {ops : Array Oper} {rest : List Oper} {o : Oper} {a : Act} {Q : Exit → Act → World → Prop} (hgd : o.guard = none) (s x : Operand)
    (ho : o.op = .call { callee := .builtin .append, args := #[s, x], argTypes := #[52, 52] })
    (base : Nat) (v u : Value) (bs xs : List UInt8) (hs : a.eval s = v) (hx : a.eval x = u) (hown : Own w base v bs) (hu : Bts w u xs)
    (hn : bs.length + xs.length ≤ 140737488355328) (hbase : base ≤ w.heap.size)
    (h : ∀ v' w', Appended w base v (bs ++ xs) v' w' → wpList Try.prog ops Q rest (a.put o.dst v') w') : wpList Try.prog ops Q (o :: rest) a w := by
  obtain ⟨i, hi, hz0, hz1, hz2⟩ := info_parts inf5
  rcases hu with ⟨rfl, rfl⟩ | ⟨b, off, c, rfl, h1, h2, h3⟩ | ⟨ad, rfl, rfl⟩
  rotate_left 2
  · refine wpList_append_own_at _ hgd s x _ ho base _ i _ 1 1 und22 hi hz0 hz1 hz2 rfl (by omega) v bs.length (bs.map u8v) hs hown ad 0 0 [] hx (by simp) (fun j u hj => by simp at hj) (by simp) (by unfold maxLen; simp at hn; omega) (by simp at hn; omega) hbase ?_
    intro v' w' k1 k2 _ k4
    refine h v' w' ⟨?_, k2, k4⟩
    rw [List.append_nil] at k1 ⊢
    exact k1
  · refine wpList_append_own_none hgd s x _ ho base _ i 1 und22 hi v bs.length (bs.map u8v) hs hown hx (h v w ⟨?_, World.grownBy.refl _ _, .inl rfl⟩)
    rw [List.append_nil]; exact hown
  · refine wpList_append_own_at _ hgd s x _ ho base _ i _ 1 1 und22 hi hz0 hz1 hz2 rfl (by omega) v bs.length (bs.map u8v) hs hown ⟨b, off, none⟩ xs.length c (xs.map u8v) hx (by simp) (fun j u hj => ?_) (u8v_cell xs) (by unfold maxLen; omega) (by omega) hbase ?_
    · rw [List.getElem?_map, Option.map_eq_some_iff] at hj
      obtain ⟨y, hy, rfl⟩ := hj
      obtain ⟨hj, rfl⟩ := List.getElem?_eq_some_iff.1 hy
      have hadd : (⟨b, off, none⟩ : Addr).add j = ⟨b, off + j, none⟩ := by unfold Addr.add; split <;> simp_all
      rw [hadd]
      exact h3 j hj
    · intro v' w' k1 k2 _ k4
      refine h v' w' ⟨?_, k2, k4⟩
      unfold Own
      rw [List.length_append, List.map_append]
      exact k1

theorem grown_own {w a b : World} {row : Option Nat} (h : w.grownBy a none) (k : a.grownBy b row) (hr : ∀ n, row = some n → w.heap.size ≤ n) : w.grownBy b none :=
  ⟨k.os.trans h.os, k.tape.trans h.tape, k.output.trans h.output, Nat.le_trans h.size k.size, fun i hi _ => (k.block i (Nat.lt_of_lt_of_le hi h.size) (fun e => by have := hr i e.symm; omega)).trans (h.block i hi (by simp))⟩

/-- New bytes, told. -/
def New (w : World) (bs : List UInt8) (e : Ending) (w' : World) : Prop := ∃ v, e = .returned v ∧ Own w' w.heap.size v bs ∧ w.grownBy w' none

/-- How many bytes the first i of them have. -/
def sumLen (vs : List (Value × List UInt8)) (i : Nat) : Nat := ((vs.take i).map fun p => p.2.length).sum
def allOf (vs : List (Value × List UInt8)) (i : Nat) : List UInt8 := (vs.take i).flatMap fun p => p.2

theorem sumLen_succ (vs : List (Value × List UInt8)) (i : Nat) (h : i < vs.length) : sumLen vs (i + 1) = sumLen vs i + vs[i].2.length := by
  unfold sumLen
  rw [List.take_succ_eq_append_getElem h, List.map_append, List.sum_append]
  simp
theorem allOf_succ (vs : List (Value × List UInt8)) (i : Nat) (h : i < vs.length) : allOf vs (i + 1) = allOf vs i ++ vs[i].2 := by
  unfold allOf
  rw [List.take_succ_eq_append_getElem h, List.flatMap_append]
  simp
theorem sumLen_allOf (vs : List (Value × List UInt8)) (i : Nat) : (allOf vs i).length = sumLen vs i := by
  unfold sumLen allOf
  simp [List.length_flatMap]
theorem sumLen_le (vs : List (Value × List UInt8)) (i : Nat) : sumLen vs i ≤ sumLen vs vs.length := by
  unfold sumLen
  rw [List.take_of_length_le (Nat.le_refl _)]
  conv => rhs; rw [← List.take_append_drop i vs]
  rw [List.map_append, List.sum_append]
  omega

end Go.Proofs.Ytnnhnkpbiilooaa
