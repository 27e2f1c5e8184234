/- Disks in memory: what stays, maps of blocks, a disk's parts. -/
import Derived.Test.YtnnhnkpbiilooaaDkP
import Derived.Test.YtnnhnkpbiilooaaLaw
import Derived.Maps.RangeWalk
import Derived.ChangeKeysEq
import Derived.Laws.StructEq
import Derived.Deep.MidRow
namespace Go.Proofs.Ytnnhnkpbiilooaa
open Go.RowKit Go.Maps

/-- All stays that was there, but for blocks of S. -/
structure Kept (S : Nat → Prop) (w w' : World) : Prop where
  os : w'.os = w.os
  tape : w'.tape = w.tape
  output : w'.output = w.output
  size : w.heap.size ≤ w'.heap.size
  block : ∀ k, k < w.heap.size → ¬ S k → w'.heap[k]? = w.heap[k]?

section
variable {S T : Nat → Prop} {w w' a b w0 : World}
theorem Kept.refl (S : Nat → Prop) (w : World) : Kept S w w := ⟨rfl, rfl, rfl, Nat.le_refl _, fun _ _ _ => rfl⟩
theorem Kept.trans (h : Kept S w a) (k : Kept S a b) : Kept S w b := ⟨k.os.trans h.os, k.tape.trans h.tape, k.output.trans h.output, Nat.le_trans h.size k.size, fun i hi hs => (k.block i (Nat.lt_of_lt_of_le hi h.size) hs).trans (h.block i hi hs)⟩
theorem Kept.of {row : Option Nat} (h : w.grownBy w' row) (hr : ∀ k, row = some k → S k ∨ w.heap.size ≤ k) : Kept S w w' := ⟨h.os, h.tape, h.output, h.size, fun i hi hs => h.block i hi (fun e => by rcases hr i e.symm with h | h; exact hs h; omega)⟩
theorem Kept.new (h : w.grownBy w' none) : Kept S w w' := Kept.of h (fun k e => by cases e)
theorem Kept.more (h : Kept S w w') (hT : ∀ k, S k → k < w.heap.size → T k) : Kept T w w' := ⟨h.os, h.tape, h.output, h.size, fun i hi hs => h.block i hi (fun k => hs (hT i k hi))⟩
theorem Kept.grown (h : Kept S w w') (hS : ∀ k, S k → w0.heap.size ≤ k) (h0 : w0.grownBy w none) : w0.grownBy w' none :=
  ⟨h.os.trans h0.os, h.tape.trans h0.tape, h.output.trans h0.output, Nat.le_trans h0.size h.size, fun i hi _ => (h.block i (Nat.lt_of_lt_of_le hi h0.size) (fun hs => by have := hS i hs; omega)).trans (h0.block i hi (by simp))⟩
/-- .. and blocks that were made on the way. -/
theorem Kept.then (h : Kept S w a) (k : Kept T a b) (hT : ∀ i, T i → S i ∨ w.heap.size ≤ i) : Kept S w b :=
  ⟨k.os.trans h.os, k.tape.trans h.tape, k.output.trans h.output, Nat.le_trans h.size k.size, fun i hi hs => (k.block i (Nat.lt_of_lt_of_le hi h.size) (fun ht => by rcases hT i ht with h | h; exact hs h; omega)).trans (h.block i hi hs)⟩
theorem Kept.blk {r : Nat} {t : TypeId} {xs : Array Value} (hk : Kept S w w') (h : Blk w r t xs) (hs : ¬ S r) : Blk w' r t xs := by
  unfold Blk at *
  rw [hk.block r (Blk.lt h) hs]; exact h
theorem Kept.cell {p : Addr} {x : Value} (hk : Kept S w w') (h : w.cell? p = some x) (hs : ¬ S p.block) : w'.cell? p = some x :=
  (World.cell?_of_block (hk.block p.block (World.block_lt_of_cell? w p h) hs)).trans h
theorem Kept.own {base e size n : Nat} {v : Value} {xs : List Value} (hk : Kept S w w') (h : w.ownsRow base e size v n xs) (hs : ∀ k, v.ownBlock = some k → ¬ S k) : w'.ownsRow base e size v n xs := by
  obtain ⟨h1, h2 | ⟨g, cap, cur, rfl, h4, h5, h6⟩⟩ := h
  · exact ⟨h1, .inl h2⟩
  · exact ⟨h1, .inr ⟨g, cap, cur, rfl, h4, (hk.block g (Array.getElem?_eq_some_iff.1 h5).1 (hs g rfl)).trans h5, h6⟩⟩
theorem Kept.map {P : Program} {H : Type} {k : TypeId} {R : Value → Option (DataW H × List MemPlace)} {b n : Nat} {D : DataW H} (hk : Kept S w w') (h : w.ownsMap P k R b n D) (hs : ¬ S b) : w'.ownsMap P k R b n D := by
  have hlt := h.lt
  obtain ⟨es, clock, hb, F, hsz, hD⟩ := h
  exact ⟨es, clock, (hk.block b hlt hs).trans hb, F, hsz, hD⟩
theorem Kept.elems {v : Value} {size n : Nat} {cell : Nat → Value} (hk : Kept S w w') (h : Elems w v size n cell) (hs : ∀ k, v.ownBlock = some k → ¬ S k) : Elems w' v size n cell := by
  rcases h with h | ⟨b, o, c, rfl, h1, h2, h3⟩ | h
  · exact .inl h
  · exact .inr (.inl ⟨b, o, c, rfl, h1, h2, fun i hi => hk.cell (h3 i hi) (hs b rfl)⟩)
  · exact .inr (.inr h)
end

theorem undB : Try.prog.underlying 29 = some (.array 512 5) := by kernel_rfl
theorem undI : Try.prog.underlying 3 = some (.int .i64) := by kernel_rfl
theorem undM : Try.prog.underlying 60 = some (.map 3 29) := by kernel_rfl
theorem infB : (Try.prog.info? 29).map (·.size) = some 512 := by kernel_rfl
theorem inf_u8 : (Try.prog.info? 5).map (·.size) = some 1 := by kernel_rfl
theorem rowB (b : Bk) : (Try.prog.info? 29).map (·.size) = some b.v.size := by rw [b.size]; exact infB

theorem zeroB (w : World) : (zeroValue 29).run Try.prog w = .ok (.agg Bk.zero.v) w := by
  have h : (Try.prog.info? 29).map (·.zero) = some (some (.agg Bk.zero.v)) := by kernel_rfl
  rcases hi : Try.prog.info? 29 with _ | i
  · simp [hi] at h
  · simp [hi] at h
    simp [zeroValue, typeInfo, hi, h]

theorem intK : Keyed Try.prog 3 := int_keyed undI
theorem key_of (k : Nat) (h : (k : Int) ≤ 9223372036854775807) : keyOf Try.prog 3 (.int .i64 (k : Int)) = some (.int .i64 (k : Int)) :=
  keyOf_int_mk undI (by simp [Lit.wf, IntKind.min, IntKind.max, IntKind.signed, IntKind.bits]; omega)

/-- A byte, out of its cell. -/
def deU8 : Value → Option UInt8
  | .int .u8 n => if 0 ≤ n ∧ n < 256 then some (UInt8.ofNat n.toNat) else none
  | _ => none
theorem deU8_mk (x : UInt8) : deU8 (u8v x) = some x := by
  have := x.toNat_lt
  unfold deU8 u8v
  dsimp only
  rw [if_pos (by omega)]
  simp
theorem deU8_inv {v : Value} {x : UInt8} (h : deU8 v = some x) : v = u8v x := by
  unfold deU8 at h
  split at h
  · split at h
    · rename_i n hn
      cases h
      unfold u8v
      congr 1
      simp
      omega
    · cases h
  · cases h
def deAll : List Value → Option (List UInt8)
  | [] => some []
  | v :: vs => match deU8 v, deAll vs with
    | some x, some xs => some (x :: xs)
    | _, _ => none
theorem deAll_mk : ∀ l : List UInt8, deAll (l.map u8v) = some l
  | [] => rfl
  | x :: l => by simp [deAll, deU8_mk, deAll_mk l]
theorem deAll_inv : ∀ {vs : List Value} {l : List UInt8}, deAll vs = some l → vs = l.map u8v
  | [], l, h => by cases h; rfl
  | v :: vs, l, h => by
    unfold deAll at h
    split at h
    · rename_i x xs h1 h2
      cases h
      rw [deU8_inv h1, deAll_inv h2]
      rfl
    · cases h
/-- How a block reads. -/
def bkR (v : Value) : Option (DataW Bk × List MemPlace) :=
  match v with
  | .agg cs => match deAll cs.toList with
    | some l => if h : l.length = 512 then some (.held ⟨l, h⟩, []) else none
    | none => none
  | _ => none
theorem bkR_mk (b : Bk) : bkR (.agg b.v) = some (.held b, []) := by
  unfold bkR Bk.v
  simp [deAll_mk, b.h]
theorem bkR_inv {v : Value} {y : DataW Bk × List MemPlace} (h : bkR v = some y) : ∃ b : Bk, v = .agg b.v ∧ y = (.held b, []) := by
  unfold bkR at h
  split at h
  · rename_i cs
    split at h
    · rename_i l hl
      split at h
      · rename_i h5
        cases h
        refine ⟨⟨l, h5⟩, ?_, rfl⟩
        have := deAll_inv hl
        unfold Bk.v
        rw [← this]
      · cases h
    · cases h
  · cases h

/-- Block b of w is a map of at most c entries, of these blocks. -/
def Mp (w : World) (b c : Nat) (f : Nat → Option Bk) : Prop :=
  ∃ D : DataW Bk, w.ownsMap Try.prog 3 bkR b c D ∧ (∀ k : Nat, (k : Int) ≤ 9223372036854775807 → Maps.has D (.int .i64 k) = (f k).isSome ∧ ∀ z, D.atKey (.int .i64 k) z = match f k with | some x => .held x | none => z) ∧ ∀ n : Int, n < 0 → Maps.has D (.int .i64 n) = false

theorem Mp.lt {w : World} {b c : Nat} {f : Nat → Option Bk} (h : Mp w b c f) : b < w.heap.size := by obtain ⟨D, h, _⟩ := h; exact h.lt
theorem Mp.made (w : World) : Mp (w.alloc (.map #[] 0)) w.heap.size 0 no := ⟨.map [], World.ownsMap_made w _ _ _, fun k _ => ⟨rfl, fun z => rfl⟩, fun _ _ => rfl⟩
theorem Mp.mono {w : World} {b c c' : Nat} {f : Nat → Option Bk} (h : Mp w b c f) (hc : c ≤ c') : Mp w b c' f := by obtain ⟨D, h1, h2⟩ := h; exact ⟨D, h1.mono hc, h2⟩
theorem Mp.ext {w : World} {b c : Nat} {f g : Nat → Option Bk} (h : Mp w b c f) (he : ∀ k : Nat, (k : Int) ≤ 9223372036854775807 → f k = g k) : Mp w b c g := by
  obtain ⟨D, h1, h2, h3⟩ := h
  exact ⟨D, h1, fun k hk => by rw [← he k hk]; exact h2 k hk, h3⟩
theorem Kept.mp {S : Nat → Prop} {w w' : World} {b c : Nat} {f : Nat → Option Bk} (hk : Kept S w w') (h : Mp w b c f) (hs : ¬ S b) : Mp w' b c f := by obtain ⟨D, h1, h2⟩ := h; exact ⟨D, hk.map h1 hs, h2⟩
theorem Mp.new {w w' : World} {b c : Nat} {f : Nat → Option Bk} (h : Mp w b c f) (hg : w.grownBy w' none) : Mp w' b c f := (Kept.new (S := fun _ => False) hg).mp h (fun h => h)
/-- It is no block of cells. -/
theorem Mp.ne {w : World} {b c r : Nat} {f : Nat → Option Bk} {t : TypeId} {cs : Array Value} {fr : Nat × Nat} (h : Mp w b c f) (hb : w.heap[r]? = some (.cells cs t fr)) : b ≠ r := by
  obtain ⟨D, ⟨es, clock, h1, _⟩, _⟩ := h
  intro e
  rw [e, hb] at h1
  cases h1
theorem lit_ne {i k : Nat} (h : i ≠ k) : (Lit.int .i64 (i : Int)) ≠ .int .i64 (k : Int) := by
  intro e
  simp only [Lit.int.injEq, true_and] at e
  omega

section
variable {ops : Array Oper} {rest : List Oper} {o : Oper} {a : Act} {Q : Exit → Act → World → Prop} {w : World}
/-- 'v, ok := m[k]'. -/
theorem wpMpOk (hg : o.guard = none) (m x : Operand) (hop : o.op = Op.lookup 60 m x true) (b c : Nat) (f : Nat → Option Bk) (k : Nat) (hm : a.eval m = .map (some b)) (hx : a.eval x = .int .i64 (k : Int)) (hk : (k : Int) ≤ 9223372036854775807)
    (h : Mp w b c f) (hK : wpList Try.prog ops Q rest (a.put o.dst (.tuple #[.agg ((f k).getD Bk.zero).v, .bool (f k).isSome])) w) : wpList Try.prog ops Q (o :: rest) a w := by
  obtain ⟨D, h1, h2, _⟩ := h
  refine wpList_lookup_own_ok w hg m x _ hop 3 29 intK undM bkR (zeroB w) (.held Bk.zero) [] (bkR_mk _) b c D hm h1 _ _ hx (key_of k hk) ?_
  intro v ps hv
  obtain ⟨h3, h4⟩ := h2 k hk
  obtain ⟨y, rfl, hy⟩ := bkR_inv hv
  rw [h4, h3] at *
  cases hf : f k with
  | none => rw [hf] at hy hK; simp at hy; obtain ⟨rfl, _⟩ := hy; exact hK
  | some z => rw [hf] at hy hK; simp at hy; obtain ⟨rfl, _⟩ := hy; exact hK
/-- 'm[k]'. -/
theorem wpMpAt (hg : o.guard = none) (m x : Operand) (hop : o.op = Op.lookup 60 m x false) (b c : Nat) (f : Nat → Option Bk) (k : Nat) (hm : a.eval m = .map (some b)) (hx : a.eval x = .int .i64 (k : Int)) (hk : (k : Int) ≤ 9223372036854775807)
    (h : Mp w b c f) (hK : wpList Try.prog ops Q rest (a.put o.dst (.agg ((f k).getD Bk.zero).v)) w) : wpList Try.prog ops Q (o :: rest) a w := by
  obtain ⟨D, h1, h2, _⟩ := h
  refine wpList_plain hg fun K' hK' => ?_
  obtain ⟨v, ps, hrun, hv⟩ := h1.lookup intK undM (zeroB w) (bkR_mk _) (key_of k hk)
  obtain ⟨h3, h4⟩ := h2 k hk
  obtain ⟨y, rfl, hy⟩ := bkR_inv hv
  have e : y = (f k).getD Bk.zero := by
    rw [h4] at hy
    cases hf : f k with
    | none => rw [hf] at hy; simp at hy; exact hy.1.symm
    | some z => rw [hf] at hy; simp at hy; exact hy.1.symm
  subst e
  unfold Oper.wp
  simp [execOp, hop, hm, hx, hrun, Result.andThen]
  exact hK' _ _ hK
/-- 'm[k] = b'. -/
theorem Mp.put (k : Nat) (hk : (k : Int) ≤ 9223372036854775807) (x : Bk) {b c : Nat} {f : Nat → Option Bk} (h : Mp w b c f) (hc : c < maxLen) :
    ∃ w', (Instr.mapUpdate 60 (.map (some b)) (.int .i64 (k : Int)) (.agg x.v)).run Try.prog w = .ok () w' ∧ Mp w' b (c + 1) (upd f k x) ∧ w.grownBy w' (some b) := by
  obtain ⟨D, h1, h2, h5⟩ := h
  obtain ⟨w', hrun, r1, r2⟩ := h1.update intK undM hc (key_of k hk) (bkR_mk x)
  refine ⟨w', hrun, ⟨_, r1, fun i hi => ?_, fun n hn => (has_put_other (fun e => by simp only [Lit.int.injEq, true_and] at e; omega) _).trans (h5 n hn)⟩, r2⟩
  unfold upd
  by_cases e : i = k
  · subst e
    rw [if_pos rfl]
    exact ⟨has_put_same h1.isMap (by trivial) _, fun z => atKey_put_same h1.isMap (by trivial) _ _⟩
  · rw [if_neg e]
    obtain ⟨h3, h4⟩ := h2 i hi
    exact ⟨(has_put_other (lit_ne e) _).trans h3, fun z => (atKey_put_other (lit_ne e) _ _).trans (h4 z)⟩
theorem wpMpPut (hg : o.guard = none) (m x v : Operand) (hop : o.op = Op.mapUpdate 60 m x v) (b c : Nat) (f : Nat → Option Bk) (k : Nat) (y : Bk) (hm : a.eval m = .map (some b)) (hx : a.eval x = .int .i64 (k : Int)) (hv : a.eval v = .agg y.v)
    (hk : (k : Int) ≤ 9223372036854775807) (hc : c < maxLen) (h : Mp w b c f) (hK : ∀ w', Mp w' b (c + 1) (upd f k y) → w.grownBy w' (some b) → wpList Try.prog ops Q rest (a.put o.dst undef) w') : wpList Try.prog ops Q (o :: rest) a w := by
  obtain ⟨w', hrun, r1, r2⟩ := h.put k hk y hc
  refine wpList_plain hg fun K' hK' => ?_
  unfold Oper.wp
  simp [execOp, hop, hm, hx, hv, hrun, Result.andThen]
  exact hK' _ _ (hK w' r1 r2)
end
end Go.Proofs.Ytnnhnkpbiilooaa
