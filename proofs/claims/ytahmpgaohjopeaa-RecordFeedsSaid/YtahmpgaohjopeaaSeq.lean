/- The iterator of records: what a step keeps, of the memory ahead of n0; a round's word. -/
import Derived.Test.YtahmpgaohjopeaaFrag
import Derived.RangeFuncNested
import Derived.RangeFuncBound
import Derived.RangeFuncCalls
import Derived.RangeFuncLeaves
import Derived.Shelf.Abstract
import Derived.Shelf.RegionOpen
import Derived.OwnWalkIn
import Derived.TacticsInMore
import Derived.LoopNIn
import Derived.LoopIn
namespace Go.Proofs.Ytahmpgaohjopeaa
open Go.RowKit Go.Shelf
attribute [local go_sem] Oper.semAt_some

/-- What is kept of the memory below n0. -/
structure StpN (n0 : Nat) (w : World) (r : Nat) (v : Value) (w' : World) (v' : Value) : Prop where
  os : w'.os = w.os
  tape : w'.tape = w.tape
  output : w'.output = w.output
  size : w.heap.size ≤ w'.heap.size
  block : ∀ k < n0, k ≠ r → some k ≠ room v → w'.heap[k]? = w.heap[k]?
  cells : ∀ g, room v = some g → g < n0 → ∀ i < vlen v, w'.cell? ⟨g, i, none⟩ = w.cell? ⟨g, i, none⟩
  there : ∀ g cur, room v = some g → g < n0 → Blk w g 5 cur → ∃ cur', Blk w' g 5 cur' ∧ cur.size ≤ cur'.size
  ne : room v ≠ some r
  next : room v' = none ∨ (room v' = room v ∧ vlen v ≤ vlen v') ∨ ∀ g, room v' = some g → n0 ≤ g
  frm : v'.ownBlock = none ∨ v'.ownBlock = v.ownBlock ∨ ∀ g, v'.ownBlock = some g → n0 ≤ g

theorem Stp.n {n0 : Nat} {w w' : World} {r : Nat} {v v' : Value} (h : Stp w r v w' v') (hn : n0 ≤ w.heap.size) : StpN n0 w r v w' v' := by
  refine ⟨h.kept.os, h.kept.tape, h.kept.output, h.kept.size, fun k hk => h.kept.block k (by omega), fun g hg _ => h.kept.cells g hg, fun g cur hg _ => h.kept.there g cur hg, fun e => (h.kept.lt r e).2 rfl, ?_, ?_⟩
  · rcases h.next with k | k | k
    · exact .inl k
    · exact .inr (.inl k)
    · exact .inr (.inr fun g hg => Nat.le_trans hn (k g hg))
  · rcases h.frm with k | k | k
    · exact .inl k
    · exact .inr (.inl k)
    · exact .inr (.inr fun g hg => Nat.le_trans hn (k g hg))

theorem StpN.refl {n0 : Nat} {w : World} {r : Nat} {v : Value} {s : Ms} (h : RS w r v s) : StpN n0 w r v w v :=
  ⟨rfl, rfl, rfl, Nat.le_refl _, fun _ _ _ _ => rfl, fun _ _ _ _ _ => rfl, fun _ cur _ _ hb => ⟨cur, hb, Nat.le_refl _⟩, fun e => (h.lt' r e).2 rfl, .inr (.inl ⟨rfl, Nat.le_refl _⟩), .inr (.inl rfl)⟩

theorem StpN.trans {n0 : Nat} {w w1 w2 : World} {r : Nat} {v v1 v2 : Value} (h : StpN n0 w r v w1 v1) (k : StpN n0 w1 r v1 w2 v2) : StpN n0 w r v w2 v2 := by
  have far : ∀ j, j < n0 → some j ≠ room v → some j ≠ room v1 := fun j hj hne e => by
    rcases h.next with hn | ⟨hn, _⟩ | hn
    · rw [hn] at e; cases e
    · exact hne (e.trans hn)
    · have := hn j e.symm; omega
  refine ⟨k.os.trans h.os, k.tape.trans h.tape, k.output.trans h.output, Nat.le_trans h.size k.size, fun j hj hr hne => ?_, fun g hg hg0 i hi => ?_, fun g cur hg hg0 hb => ?_, h.ne, ?_, ?_⟩
  · rw [k.block j hj hr (far j hj hne), h.block j hj hr hne]
  rotate_left 1
  · obtain ⟨cur1, hb1, hs1⟩ := h.there g cur hg hg0 hb
    by_cases e : room v1 = some g
    · obtain ⟨cur2, hb2, hs2⟩ := k.there g cur1 e hg0 hb1
      exact ⟨cur2, hb2, Nat.le_trans hs1 hs2⟩
    · refine ⟨cur1, ?_, hs1⟩
      have hne : g ≠ r := fun e => h.ne (by rw [hg, e])
      unfold Blk at *
      rw [k.block g hg0 hne (fun h => e h.symm)]
      exact hb1
  rotate_left 2
  · by_cases e : room v1 = some g
    · have hv : vlen v ≤ vlen v1 := by
        rcases h.next with hn | ⟨_, hn⟩ | hn
        · rw [hn] at e; cases e
        · exact hn
        · have := hn g e; omega
      rw [k.cells g e hg0 i (Nat.lt_of_lt_of_le hi hv), h.cells g hg hg0 i hi]
    · have hne : g ≠ r := fun e => h.ne (by rw [hg, e])
      rw [World.cell?_of_block (a := ⟨g, i, none⟩) (k.block g hg0 hne (fun h => e h.symm)), h.cells g hg hg0 i hi]
  · rcases k.next with q | ⟨q1, q2⟩ | q
    · exact .inl q
    · rcases h.next with h | ⟨h1, h2⟩ | h
      · exact .inl (q1.trans h)
      · exact .inr (.inl ⟨q1.trans h1, Nat.le_trans h2 q2⟩)
      · exact .inr (.inr fun g hg => h g (q1 ▸ hg))
    · exact .inr (.inr q)
  · rcases k.frm with q | q | q
    · exact .inl q
    · rcases h.frm with h | h | h
      · exact .inl (q.trans h)
      · exact .inr (.inl (q.trans h))
      · exact .inr (.inr fun g hg => h g (q ▸ hg))
    · exact .inr (.inr q)

/-- What a round that collects texts keeps. -/
structure KB (n0 : Nat) (W W' : World) : Prop where
  os : W'.os = W.os
  tape : W'.tape = W.tape
  output : W'.output = W.output
  size : W.heap.size ≤ W'.heap.size
  low : ∀ k < n0, W'.heap[k]? = W.heap[k]?
  cells : ∀ (k : Nat) (xs : Array Value) (t : TypeId) (fr : Nat × Nat), W.heap[k]? = some (Obj.cells xs t fr) → t ≠ 9 → t ≠ 31 → W'.heap[k]? = W.heap[k]?

theorem KB.blk {n0 : Nat} {W W' : World} (h : KB n0 W W') {k : Nat} {t : TypeId} {xs : Array Value} (hb : Blk W k t xs) (h1 : t ≠ 9) (h2 : t ≠ 31) : Blk W' k t xs := by
  unfold Blk at *
  rw [h.cells k xs t _ hb h1 h2]; exact hb

theorem KB.body {n0 : Nat} {W W' : World} (h : KB n0 W W') {v : Value} {bs : List UInt8} (hb : Body W v bs) : Body W' v bs := by
  rcases hb with hb | ⟨g, cap, cur, rfl, hb, h1⟩
  · exact .inl hb
  · exact .inr ⟨g, cap, cur, rfl, h.blk hb (by decide) (by decide), h1⟩

theorem KB.rs {n0 : Nat} {W W' : World} (h : KB n0 W W') {r : Nat} {v : Value} {s : Ms} (hr : RS W r v s) : RS W' r v s := by
  obtain ⟨h0, h1, h2, h3, hb, ht, hv⟩ := hr
  exact ⟨h0, h1, h2, h3, h.blk hb (by decide) (by decide), ht, h.body hv⟩

theorem KB.stp {n0 : Nat} {W W' : World} (h : KB n0 W W') {r : Nat} {v : Value} {s : Ms} (hr : RS W r v s) : StpN n0 W r v W' v :=
  ⟨h.os, h.tape, h.output, h.size, fun k hk _ _ => h.low k hk, fun g hg hg0 i hi => World.cell?_of_block (a := ⟨g, i, none⟩) (h.low g hg0), fun g cur hg hg0 hb => ⟨cur, by unfold Blk at *; rw [h.low g hg0]; exact hb, Nat.le_refl _⟩, fun e => (hr.lt' r e).2 rfl, .inr (.inl ⟨rfl, Nat.le_refl _⟩), .inr (.inl rfl)⟩

/-- Bytes that lay below n0, elsewhere, stay. -/
theorem Bts.stpN {n0 : Nat} {w w' : World} {r : Nat} {v v' u : Value} {bs : List UInt8} (h : Bts w u bs) (hs : StpN n0 w r v w' v') (h0 : ∀ g, u.ownBlock = some g → g < n0) (h1 : u.ownBlock ≠ some r) (h2 : u.ownBlock = none ∨ u.ownBlock ≠ v.ownBlock) : Bts w' u bs := by
  rcases h with h | ⟨b, o, c, rfl, q1, q2, q3⟩ | h
  · exact .inl h
  · refine .inr (.inl ⟨b, o, c, rfl, q1, q2, fun i hi => ?_⟩)
    have e := hs.block b (h0 b rfl) (by simpa [Value.ownBlock] using h1) (fun e => by
      rcases h2 with h2 | h2
      · simp [Value.ownBlock] at h2
      · exact h2 (room_own e.symm).symm)
    rw [World.cell?_of_block (a := ⟨b, o + i, none⟩) e]
    exact q3 i hi
  · exact .inr (.inr h)

theorem far_stpN {n0 : Nat} {w w' : World} {r : Nat} {v v' u : Value} (hs : StpN n0 w r v w' v') (h2 : u.ownBlock = none ∨ u.ownBlock ≠ v.ownBlock) (hlt : ∀ g, u.ownBlock = some g → g < n0) : u.ownBlock = none ∨ u.ownBlock ≠ v'.ownBlock := by
  rcases hu : u.ownBlock with _ | g
  · exact .inl rfl
  · refine .inr fun e => ?_
    rcases hs.frm with h | h | h
    · rw [h] at e; cases e
    · rcases h2 with h2 | h2
      · rw [hu] at h2; cases h2
      · exact h2 (by rw [hu, e, h])
    · have := h g e.symm
      have := hlt g hu
      omega

end Go.Proofs.Ytahmpgaohjopeaa
