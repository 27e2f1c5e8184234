/- Tables that a call makes: a map from the numbers 0, 1, .. to lists of letters; what stays but for some blocks. -/
import Derived.Test.YtpklgcinijlmmaaArgA
import Derived.MapKept
namespace Go.Proofs.Ytpklgcinijlmmaa
open Go.RowKit

/-- All stays that was there, but for blocks of S. -/
structure KeepB (S : Nat → Prop) (w w' : World) : Prop where
  os : w'.os = w.os
  tape : w'.tape = w.tape
  output : w'.output = w.output
  size : w.heap.size ≤ w'.heap.size
  block : ∀ k, k < w.heap.size → ¬ S k → w'.heap[k]? = w.heap[k]?

section
variable {S : Nat → Prop} {w w' a b w0 : World}
theorem KeepB.refl (S : Nat → Prop) (w : World) : KeepB S w w := ⟨rfl, rfl, rfl, Nat.le_refl _, fun _ _ _ => rfl⟩
theorem KeepB.trans (h : KeepB S w a) (k : KeepB S a b) : KeepB S w b := ⟨k.os.trans h.os, k.tape.trans h.tape, k.output.trans h.output, Nat.le_trans h.size k.size, fun i hi hs => (k.block i (Nat.lt_of_lt_of_le hi h.size) hs).trans (h.block i hi hs)⟩
theorem KeepB.of {row : Option Nat} (h : w.grownBy w' row) (hr : ∀ k, row = some k → S k) : KeepB S w w' := ⟨h.os, h.tape, h.output, h.size, fun i hi hs => h.block i hi (fun e => hs (hr i e.symm))⟩
theorem KeepB.new (h : w.grownBy w' none) : KeepB S w w' := KeepB.of h (fun k e => by cases e)
theorem KeepB.grown (h : KeepB S w w') (hS : ∀ k, S k → w0.heap.size ≤ k) (h0 : w0.grownBy w none) : w0.grownBy w' none :=
  ⟨h.os.trans h0.os, h.tape.trans h0.tape, h.output.trans h0.output, Nat.le_trans h0.size h.size, fun i hi _ => (h.block i (Nat.lt_of_lt_of_le hi h0.size) (fun hs => by have := hS i hs; omega)).trans (h0.block i hi (by simp))⟩
theorem KeepB.blk {r : Nat} {t : TypeId} {xs : Array Value} (hk : KeepB S w w') (h : Blk w r t xs) (hs : ¬ S r) : Blk w' r t xs := by
  unfold Blk at *
  rw [hk.block r (Blk.lt h) hs]; exact h
theorem KeepB.cell {p : Addr} {x : Value} (hk : KeepB S w w') (h : w.cell? p = some x) (hs : ¬ S p.block) : w'.cell? p = some x :=
  (World.cell?_of_block (hk.block p.block (World.block_lt_of_cell? w p h) hs)).trans h
theorem KeepB.frozen {p : Addr} {x : Value} (hk : KeepB S w w') (h : w.cell? p = some x) (hs : ¬ S p.block) : w'.frozen? p = w.frozen? p :=
  World.frozen?_of_block (hk.block p.block (World.block_lt_of_cell? w p h) hs)
theorem KeepB.more {T : Nat → Prop} (h : KeepB S w w') (hT : ∀ k, S k → k < w.heap.size → T k) : KeepB T w w' := ⟨h.os, h.tape, h.output, h.size, fun i hi hs => h.block i hi (fun k => hs (hT i k hi))⟩
theorem Bts.keepAt {v : Value} {bs : List UInt8} (h : Bts w v bs) (hs : ∀ k, v.ownBlock = some k → w'.heap[k]? = w.heap[k]?) : Bts w' v bs := by
  rcases h with h | ⟨b, o, c, rfl, h1, h2, h3⟩ | h
  · exact .inl h
  · exact .inr (.inl ⟨b, o, c, rfl, h1, h2, fun i hi => (World.cell?_of_block (hs b rfl)).trans (h3 i hi)⟩)
  · exact .inr (.inr h)
theorem Bts.keep {v : Value} {bs : List UInt8} (h : Bts w v bs) (hk : KeepB S w w') (hs : ∀ k, v.ownBlock = some k → ¬ S k) : Bts w' v bs := by
  rcases h with h | ⟨b, o, c, rfl, h1, h2, h3⟩ | h
  · exact .inl h
  · exact .inr (.inl ⟨b, o, c, rfl, h1, h2, fun i hi => hk.cell (h3 i hi) (hs b rfl)⟩)
  · exact .inr (.inr h)
end

/-- The entries of a map from i, i + 1, .. to values, in the order in which they were put. -/
def ents : Nat → List Value → List MapEntry
  | _, [] => []
  | i, v :: vs => ⟨.int .i64 (i : Int), v, i⟩ :: ents (i + 1) vs
theorem ents_snoc (v : Value) : ∀ (vs : List Value) (i : Nat), ents i (vs ++ [v]) = ents i vs ++ [⟨.int .i64 ((i + vs.length : Nat) : Int), v, i + vs.length⟩]
  | [], i => rfl
  | u :: vs, i => by
    show _ :: ents (i + 1) (vs ++ [v]) = _ :: (ents (i + 1) vs ++ _)
    rw [ents_snoc v vs (i + 1), List.length_cons, show i + 1 + vs.length = i + (vs.length + 1) by omega]
theorem same_int (x y : Int) : Instr.sameNow (.int .i64) (.int .i64 x) (.int .i64 y) = some (x == y) := by
  show (if IntKind.i64 = IntKind.i64 then some (x == y) else none) = _
  rw [if_pos rfl]
theorem find_none (n : Int) : ∀ (vs : List Value) (i j : Nat), (∀ q, q < vs.length → n ≠ ((i + q : Nat) : Int)) → Instr.findNow (.int .i64) (.int .i64 n) (ents i vs) j = some none
  | [], _, _, _ => rfl
  | v :: vs, i, j, h => by
    have h0 := h 0 (by simp)
    rw [Nat.add_zero] at h0
    have e : Instr.sameNow (.int .i64) (.int .i64 n) (.int .i64 (i : Int)) = some false := by
      rw [same_int, beq_false_of_ne h0]
    unfold ents Instr.findNow
    dsimp only
    rw [e]
    exact find_none n vs (i + 1) (j + 1) (fun q hq => by
      have := h (q + 1) (by simp; omega)
      rw [show i + 1 + q = i + (q + 1) by omega]; exact this)
theorem find_some : ∀ (vs : List Value) (i j q : Nat) (h : q < vs.length), Instr.findNow (.int .i64) (.int .i64 ((i + q : Nat) : Int)) (ents i vs) j = some (some (j + q, vs[q]))
  | [], _, _, _, h => absurd h (by simp)
  | v :: vs, i, j, 0, _ => by
    have e : Instr.sameNow (.int .i64) (.int .i64 ((i + 0 : Nat) : Int)) (.int .i64 (i : Int)) = some true := by
      rw [same_int, Nat.add_zero, beq_self_eq_true]
    unfold ents Instr.findNow
    dsimp only
    rw [e]
    rfl
  | v :: vs, i, j, q + 1, h => by
    have e : Instr.sameNow (.int .i64) (.int .i64 ((i + (q + 1) : Nat) : Int)) (.int .i64 (i : Int)) = some false := by
      rw [same_int, beq_false_of_ne (by omega)]
    unfold ents Instr.findNow
    dsimp only
    rw [e]
    have := find_some vs (i + 1) (j + 1) q (by simpa using h)
    rw [show i + 1 + q = i + (q + 1) by omega, show j + 1 + q = j + (q + 1) by omega] at this
    exact this

/-- Block b is a map of the call's own that has the lists ls at 0, 1, .. -/
def Tab (W w : World) (b : Nat) (ls : List (List UInt8)) : Prop :=
  W.grownBy w none ∧ W.heap.size ≤ b ∧ ∃ vs : List Value, w.heap[b]? = some (.map (ents 0 vs).toArray vs.length) ∧ vs.length = ls.length ∧ ∀ i (h : i < vs.length) (h' : i < ls.length), Bts w vs[i] ls[i] ∧ ∀ k, vs[i].ownBlock = some k → W.heap.size ≤ k

theorem Tab.made (w : World) : Tab w (w.alloc (.map #[] 0)) w.heap.size [] :=
  ⟨World.grownBy_alloc _ _ _, Nat.le_refl _, [], heap_alloc_new w _, rfl, fun i h => absurd h (by simp)⟩

theorem Bts.keepMap {w w' : World} {v : Value} {bs : List UInt8} {b : Nat} {es : Array MapEntry} {c : Nat} (h : Bts w v bs) (hb : w.heap[b]? = some (.map es c)) (hg : w.grownBy w' (some b)) : Bts w' v bs := by
  rcases h with h | ⟨g, o, c, rfl, h1, h2, h3⟩ | h
  · exact .inl h
  · refine .inr (.inl ⟨g, o, c, rfl, h1, h2, fun i hi => hg.cell (h3 i hi) (fun e => ?_)⟩)
    have h4 := h3 i hi
    cases e
    simp [World.cell?, hb] at h4
  · exact .inr (.inr h)

/-- A list of letters, laid out. -/
theorem letters_bts (w : World) (bs : List UInt8) (t : TypeId) (h : bs.length ≤ maxLen) : Bts (w.alloc (.cells (bs.map u8v).toArray t)) (.slice (some ⟨w.heap.size, 0, none⟩) bs.length bs.length) bs :=
  .inr (.inl ⟨w.heap.size, 0, bs.length, rfl, Nat.le_refl _, h, fun i hi => by
    have hn := (Blk.made w t (bs.map u8v).toArray).cell (i := 0 + i) (x := u8v bs[i]) (by simp [hi])
    exact hn⟩)

/-- The letters of a list that is written out. -/
def lettersOf (parts : Array (Nat × Operand)) : List UInt8 := parts.toList.map fun p => match p.2 with
  | .const (.int _ n) => UInt8.ofNat n.toNat
  | _ => 0

section
variable {P : Program} {ops : Array Oper} {rest : List Oper} {o : Oper} {a : Act} {Q : Exit → Act → World → Prop} {t k e : TypeId}

/-- A list of letters is laid out. -/
theorem wpList_letters {W w : World} {b : Nat} {ls : List (List UInt8)} (hg : o.guard = none) (te : TypeId) (n : Nat) (parts : Array (Nat × Operand)) (hop : o.op = Op.buildSlice t n parts)
    (hrun : ∀ (a : Act) (w : World), (Instr.buildSlice t n (parts.map fun (i, x) => (i, a.eval x))).run P w = .ok (.slice (some ⟨w.heap.size, 0, none⟩) (lettersOf parts).length (lettersOf parts).length) (w.alloc (.cells ((lettersOf parts).map u8v).toArray te)))
    (hT : Tab W w b ls) (hl : (lettersOf parts).length ≤ maxLen)
    (hK : ∀ v w', Tab W w' b ls → Bts w' v (lettersOf parts) → (∀ k, v.ownBlock = some k → W.heap.size ≤ k) → wpList P ops Q rest (a.put o.dst v) w') : wpList P ops Q (o :: rest) a w := by
  generalize lettersOf parts = l at *
  obtain ⟨g0, hb, vs, h1, h2, h3⟩ := hT
  have ga := World.grownBy_alloc w (.cells (l.map u8v).toArray te) none
  have hl' := letters_bts w l te hl
  have lt : b < w.heap.size := (Array.getElem?_eq_some_iff.1 h1).1
  have h1a : (w.alloc (.cells (l.map u8v).toArray te)).heap[b]? = some (.map (ents 0 vs).toArray vs.length) := by rw [ga.block b lt (by simp)]; exact h1
  have hs0 := g0.size
  have := hK _ _ ⟨World.grownBy.trans g0 ga, hb, vs, h1a, h2, fun i h h' => ⟨(h3 i h h').1.new ga, (h3 i h h').2⟩⟩ hl' (fun k hk => by cases hk; exact hs0)
  refine wpList_plain hg fun K' hK' => ?_
  unfold Oper.wp
  simp only [execOp, hop, Sem.run_bind, hrun, Result.andThen_ok]
  exact hK' _ _ this

/-- A list of letters is put into the map at the next number. -/
theorem wpList_insert_tab {W w : World} (hg : o.guard = none) (m x v : Operand) (hop : o.op = Op.insert t m x v) (ht : P.underlying t = some (.map k e)) (hk : P.underlying k = some (.int .i64))
    (b : Nat) (ls : List (List UInt8)) (l : List UInt8) (u : Value) (hm : a.eval m = .map (some b)) (hx : a.eval x = .int .i64 (ls.length : Int)) (hv : a.eval v = u) (hT : Tab W w b ls)
    (hB : Bts w u l) (hO : ∀ k, u.ownBlock = some k → W.heap.size ≤ k)
    (hK : ∀ w', Tab W w' b (ls ++ [l]) → wpList P ops Q rest (a.put o.dst undef) w') : wpList P ops Q (o :: rest) a w := by
  obtain ⟨g0, hb, vs, h1, h2, h3⟩ := hT
  have hf := find_none (ls.length : Int) vs 0 0 (fun q hq => by omega)
  refine wpList_plain hg fun K' hK' => ?_
  have hs := MapKept.heap_set (o' := .map (ents 0 (vs ++ [u])).toArray (vs ++ [u]).length) h1
  have hrun : (Instr.mapUpdate t (.map (some b)) (.int .i64 (ls.length : Int)) u).run P w = .ok () { w with heap := w.heap.setIfInBounds b (.map (ents 0 (vs ++ [u])).toArray (vs ++ [u]).length) } := by
    have hck : (Instr.checkKey false 10000 k (.int .i64 (ls.length : Int))).run P w = .ok () w := MapKept.run_checkKey hk (by simp [MapKept.IsKey]) false 9999
    have e1 : ents 0 vs ++ [⟨.int .i64 (ls.length : Int), u, vs.length⟩] = ents 0 (vs ++ [u]) := by
      rw [ents_snoc, Nat.zero_add, h2]
    simp [Instr.mapUpdate, run_underlying ht, MapKept.run_getObj_map h1, hck, MapKept.run_findKey hk hf, MapKept.run_setObj_map _ h1, Result.andThen]
    rw [e1]
  have hs1 : ({ w with heap := w.heap.setIfInBounds b (.map (ents 0 (vs ++ [u])).toArray (vs ++ [u]).length) } : World).heap[b]? = some (.map (ents 0 (vs ++ [u])).toArray (vs ++ [u]).length) := hs.1
  have hgr : w.grownBy { w with heap := w.heap.setIfInBounds b (.map (ents 0 (vs ++ [u])).toArray (vs ++ [u]).length) } (some b) :=
    ⟨rfl, rfl, rfl, by simp, fun i hi hne => hs.2 i (fun e => hne (by rw [e]))⟩
  clear hs
  generalize ({ w with heap := w.heap.setIfInBounds b (.map (ents 0 (vs ++ [u])).toArray (vs ++ [u]).length) } : World) = w2 at *
  unfold Oper.wp
  simp [execOp, hop, hm, hx, hv, hrun, Result.andThen]
  refine hK' _ _ (hK w2 ⟨?_, hb, vs ++ [u], hs1, by simp [h2], fun i h h' => ?_⟩)
  · exact grown_own g0 hgr (fun n hn => by cases hn; exact hb)
  · by_cases hi : i < vs.length
    · rw [List.getElem_append_left hi, List.getElem_append_left (by omega)]
      exact ⟨(h3 i hi (by omega)).1.keepMap h1 hgr, (h3 i hi (by omega)).2⟩
    · have hi2 : i = vs.length := by simp at h; omega
      have f1 : (vs ++ [u])[i] = u := by simp [hi2]
      have f2 : (ls ++ [l])[i] = l := by simp [hi2, h2]
      rw [f1, f2]
      exact ⟨hB.keepMap h1 hgr, hO⟩

/-- The list at a number. -/
def rowAt (ls : List (List UInt8)) (n : Int) : List UInt8 := if 0 ≤ n ∧ n < (ls.length : Int) then ls.getD n.toNat [] else []

/-- 'v, ok := m[n]' of such a map. -/
theorem wpList_lookup_tab {W w : World} (hg : o.guard = none) (m x : Operand) (hop : o.op = Op.lookup t m x true) (ht : P.underlying t = some (.map k e)) (hk : P.underlying k = some (.int .i64)) (hz : ∀ w, (zeroValue e).run P w = .ok (.slice none 0 0) w)
    (b : Nat) (ls : List (List UInt8)) (n : Int) (is : Bool) (l : List UInt8) (hm : a.eval m = .map (some b)) (hx : a.eval x = .int .i64 n) (hT : Tab W w b ls) (his : decide (0 ≤ n ∧ n < (ls.length : Int)) = is) (hl : rowAt ls n = l)
    (hK : ∀ v, Bts w v l → (∀ k, v.ownBlock = some k → W.heap.size ≤ k) → wpList P ops Q rest (a.put o.dst (.tuple #[v, .bool is])) w) : wpList P ops Q (o :: rest) a w := by
  subst his hl
  obtain ⟨g0, hb, vs, h1, h2, h3⟩ := hT
  have hck : ∀ c, (Instr.checkKey c 10000 k (.int .i64 n)).run P w = .ok () w := fun c => MapKept.run_checkKey hk (by simp [MapKept.IsKey]) c 9999
  refine wpList_plain hg fun K' hK' => ?_
  by_cases hin : 0 ≤ n ∧ n < (ls.length : Int)
  · obtain ⟨q, rfl⟩ := Int.eq_ofNat_of_zero_le hin.1
    have hq : q < vs.length := by omega
    have hf := find_some vs 0 0 q hq
    rw [Nat.zero_add] at hf
    have hrun : (Instr.lookup t (.map (some b)) (.int .i64 (q : Int)) true).run P w = .ok (.tuple #[vs[q], .bool true]) w := by
      simp [Instr.lookup, run_underlying ht, MapKept.run_getObj_map h1, hck, MapKept.run_findKey hk hf, Result.andThen]
    have e1 : rowAt ls (q : Int) = ls[q]'(by omega) := by
      unfold rowAt
      rw [if_pos hin]
      simp [List.getD, show q < ls.length by omega]
    obtain ⟨k1, k2⟩ := h3 q hq (by omega)
    rw [← e1] at k1
    have := hK _ k1 k2
    rw [decide_eq_true hin] at this
    unfold Oper.wp
    simp [execOp, hop, hm, hx, hrun, Result.andThen]
    exact hK' _ _ this
  · have hf := find_none n vs 0 0 (fun q hq e => hin (by omega))
    have hrun : (Instr.lookup t (.map (some b)) (.int .i64 n) true).run P w = .ok (.tuple #[.slice none 0 0, .bool false]) w := by
      simp [Instr.lookup, run_underlying ht, MapKept.run_getObj_map h1, hck, MapKept.run_findKey hk hf, hz, Result.andThen]
    have e1 : rowAt ls n = [] := by unfold rowAt; rw [if_neg hin]
    have := hK (.slice none 0 0) (by rw [e1]; exact Bts.nil w) (fun k hk => by cases hk)
    rw [decide_eq_false hin] at this
    unfold Oper.wp
    simp [execOp, hop, hm, hx, hrun, Result.andThen]
    exact hK' _ _ this
end
end Go.Proofs.Ytpklgcinijlmmaa
