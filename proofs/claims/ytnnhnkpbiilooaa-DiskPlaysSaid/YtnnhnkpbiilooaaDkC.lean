/- Blocks by value: made, read, stored, compared, put into structs. -/
import Derived.Test.YtnnhnkpbiilooaaDkB
import Derived.OrdersHeld
namespace Go.Proofs.Ytnnhnkpbiilooaa
open Go.RowKit Go.Maps

section
variable {ops : Array Oper} {rest : List Oper} {o : Oper} {a : Act} {Q : Exit → Act → World → Prop} {w : World} {K : Act → World → Prop}

/-- A new block of cells. -/
structure NewC (w w' : World) (g : Nat) (t : TypeId) (cs : Array Value) : Prop where
  blk : Blk w' g t cs
  grown : w.grownBy w' none
  ge : w.heap.size ≤ g
theorem NewC.mk' (w : World) (t : TypeId) (cs : Array Value) : NewC w (w.alloc (.cells cs t)) w.heap.size t cs := ⟨Blk.made _ _ _, World.grownBy_alloc _ _ _, Nat.le_refl _⟩

theorem wpList_sure' (hw : Region.wanted o (yielded ops a.tmps) = true) (h : ∀ K : Act → World → Prop, (∀ a w, wpList Try.prog ops Q rest a w → K a w) → o.wp Try.prog a w K Q) : wpList Try.prog ops Q (o :: rest) a w :=
  wpList_step fun K hK => by
    rw [if_pos hw]
    exact h K hK

/-- 'var b api.Block'. -/
theorem wpAllocB (hg : o.guard = none) (hop : o.op = Op.alloc 29) (hK : ∀ g w', NewC w w' g 29 Bk.zero.v → wpList Try.prog ops Q rest (a.put o.dst (.pointer (some ⟨g, 0, none⟩))) w') : wpList Try.prog ops Q (o :: rest) a w := by
  have h := hK _ _ (NewC.mk' w 29 Bk.zero.v)
  refine wpList_plain hg fun K' hK' => ?_
  unfold Oper.wp
  simp [execOp, hop, Instr.alloc, zeroB, newVar, newRow, Value.cells, Result.andThen]
  exact hK' _ _ h
/-- A block in a box. -/
theorem wpBoxB (hg : o.guard = none) (x : Operand) (hop : o.op = Op.box 29 x) (b : Bk) (hx : a.eval x = .agg b.v) (hK : ∀ g w', NewC w w' g 29 b.v → wpList Try.prog ops Q rest (a.put o.dst (.pointer (some ⟨g, 0, none⟩))) w') : wpList Try.prog ops Q (o :: rest) a w := by
  have h := hK _ _ (NewC.mk' w 29 b.v)
  refine wpList_plain hg fun K' hK' => ?_
  unfold Oper.wp
  simp [execOp, hop, hx, Instr.box, newVar, newRow, Value.cells, Result.andThen]
  exact hK' _ _ h
/-- 'api.Block{}'. -/
theorem wpBuildB (hg : o.guard = none) (hop : o.op = Op.build 29 #[]) (hK : wpList Try.prog ops Q rest (a.put o.dst (.agg Bk.zero.v)) w) : wpList Try.prog ops Q (o :: rest) a w := by
  have hb : Try.prog.built 29 [] = some Bk.zero.v := by kernel_rfl
  have hr := run_build (P := Try.prog) w 29 #[] Bk.zero.v hb
  refine wpList_plain hg fun K' hK' => ?_
  unfold Oper.wp
  simp [execOp, hop, hr, Result.andThen]
  exact hK' _ _ hK
/-- A block is read out of a variable. -/
theorem wpLoadB (hw : Region.wanted o (yielded ops a.tmps) = true) (x : Operand) (hop : o.op = Op.load 29 x) (g : Nat) (b : Bk) (hx : a.eval x = .pointer (some ⟨g, 0, none⟩)) (hb : Blk w g 29 b.v)
    (hK : wpList Try.prog ops Q rest (a.put o.dst (.agg b.v)) w) : wpList Try.prog ops Q (o :: rest) a w :=
  wpList_sure' hw fun _ h => wp_load_row _ x hop g hx _ _ (0, 0) _ hb undB rfl (rowB b) (h _ _ hK)
/-- .. and stored in one. -/
theorem wpStoreB (hg : o.guard = none) (x y : Operand) (hop : o.op = Op.store 29 x y) (g : Nat) (b c : Bk) (hx : a.eval x = .pointer (some ⟨g, 0, none⟩)) (hy : a.eval y = .agg b.v) (hb : Blk w g 29 c.v)
    (hK : ∀ w', Blk w' g 29 b.v → w.grownBy w' (some g) → wpList Try.prog ops Q rest (a.put o.dst undef) w') : wpList Try.prog ops Q (o :: rest) a w := by
  have hB : Blk (w.setRow g b.v) g 29 b.v := setRow_heap w g _ _ _ _ hb
  have hG : w.grownBy (w.setRow g b.v) (some g) := ⟨rfl, rfl, rfl, by simp, fun k _ hk => setRow_other w g k _ (fun e => hk (by rw [e]))⟩
  exact wpList_plain hg fun _ h => wp_store_row _ x y hop g b.v hx hy _ c.v hb (rowB b) (by rw [b.size, c.size]) b.one (h _ _ (hK _ hB hG))
end

/-! Two blocks compared. -/
theorem part_u8 (l : List UInt8) (i : Nat) (h : i < l.length) (w : World) : (part 5 (l.map u8v).toArray i).run Try.prog w = .ok (u8v l[i]) w := by
  have hu := Try.underlying5
  have hs : (sizeOf 5).run Try.prog w = .ok 1 w := siz5 w
  have ha : (isAgg 5).run Try.prog w = .ok false w := by
    unfold isAgg
    rw [Sem.run_bind, run_underlying hu w]
    rfl
  unfold part
  simp [Sem.run_bind, ha, hs, Result.andThen, h]

theorem eq_u8 (d : Nat) (x y : UInt8) (w : World) : (Op.equalIn (d + 1) 5 (u8v x) (u8v y)).run Try.prog w = .ok (decide (x = y)) w := by
  unfold u8v
  rw [run_equalIn_int w d 5 .u8 .u8 _ _ Try.underlying5]
  congr 1
  by_cases h : x = y
  · subst h; simp
  · have h2 : ((x.toNat : Int)) ≠ (y.toNat : Int) := fun e => h (UInt8.toNat_inj.1 (by omega))
    rw [beq_false_of_ne h2, decide_eq_false h]
theorem eq_items (d : Nat) (p q : List UInt8) (w : World) : ∀ k s : Nat, s + k = p.length → s + k = q.length →
    (Op.eqItems (d + 1) 5 1 (p.map u8v).toArray (q.map u8v).toArray (List.range' s k)).run Try.prog w = .ok (decide (p.drop s = q.drop s)) w
  | 0, s, h1, h2 => by
    have e1 : p.drop s = [] := List.drop_eq_nil_of_le (by omega)
    have e2 : q.drop s = [] := List.drop_eq_nil_of_le (by omega)
    rw [e1, e2]
    simp [Op.eqItems]
  | k + 1, s, h1, h2 => by
    have ih := eq_items d p q w k (s + 1) (by omega) (by omega)
    have e1 : p.drop s = p[s]'(by omega) :: p.drop (s + 1) := (List.drop_eq_getElem_cons (by omega))
    have e2 : q.drop s = q[s]'(by omega) :: q.drop (s + 1) := (List.drop_eq_getElem_cons (by omega))
    have hd : decide (p.drop s = q.drop s) = (decide (p[s]'(by omega) = q[s]'(by omega)) && decide (p.drop (s + 1) = q.drop (s + 1))) := by
      rw [e1, e2]
      simp only [List.cons.injEq, Bool.decide_and]
    rw [hd, List.range'_succ]
    simp only [Op.eqItems, Nat.mul_one, Sem.run_bind, part_u8 p s (by omega) w, part_u8 q s (by omega) w, eq_u8, Result.andThen_ok]
    by_cases h : p[s]'(by omega) = q[s]'(by omega)
    · rw [decide_eq_true h]
      simp only [Bool.not_true, Bool.false_eq_true, if_false, ih, Bool.true_and]
    · rw [decide_eq_false h]
      simp
theorem eqlB (a b : Bk) (w : World) : (binOp .eql 29 (.agg a.v) (.agg b.v)).run Try.prog w = .ok (.bool (decide (a = b))) w := by
  obtain ⟨i, hi, _, hs, _⟩ := info_parts inf5
  have hc : Try.prog.cellsOf 5 = 1 := by kernel_rfl
  have h := run_equalIn_array (P := Try.prog) w 9999 (t := 29) (e := 5) a.v b.v undB hi
  have h2 := eq_items 9998 a.l b.l w 512 0 (by rw [a.h]) (by rw [b.h])
  rw [hc, List.range_eq_range'] at h
  have hD : decide (a.l = b.l) = decide (a = b) := by
    by_cases e : a = b
    · rw [decide_eq_true e, decide_eq_true (by rw [e])]
    · rw [decide_eq_false e, decide_eq_false (fun h => e (Bk.ext' h))]
  rw [List.drop_zero, List.drop_zero, hD] at h2
  have h3 : (Op.equalIn 10000 29 (.agg a.v) (.agg b.v)).run Try.prog w = .ok (decide (a = b)) w := h.trans h2
  simp [binOp, Op.equal, Op.maxDepth, h3, Result.andThen]
theorem neqB (a b : Bk) (w : World) : (binOp .neq 29 (.agg a.v) (.agg b.v)).run Try.prog w = .ok (.bool (decide (a ≠ b))) w := by
  obtain ⟨i, hi, _, hs, _⟩ := info_parts inf5
  have hc : Try.prog.cellsOf 5 = 1 := by kernel_rfl
  have h := run_equalIn_array (P := Try.prog) w 9999 (t := 29) (e := 5) a.v b.v undB hi
  have h2 := eq_items 9998 a.l b.l w 512 0 (by rw [a.h]) (by rw [b.h])
  rw [hc, List.range_eq_range'] at h
  have hD : decide (a.l = b.l) = decide (a = b) := by
    by_cases e : a = b
    · rw [decide_eq_true e, decide_eq_true (by rw [e])]
    · rw [decide_eq_false e, decide_eq_false (fun h => e (Bk.ext' h))]
  rw [List.drop_zero, List.drop_zero, hD] at h2
  have h3 : (Op.equalIn 10000 29 (.agg a.v) (.agg b.v)).run Try.prog w = .ok (decide (a = b)) w := h.trans h2
  simp [binOp, Op.equal, Op.maxDepth, h3, Result.andThen]
theorem gtyB : Try.prog.eqGuardType Try.prog.depth 29 = false := by kernel_rfl
section
variable {ops : Array Oper} {rest : List Oper} {o : Oper} {a : Act} {Q : Exit → Act → World → Prop} {w : World}
theorem wpEqlB (hw : Region.wanted o (yielded ops a.tmps) = true) (tt : TypeId) (x y : Operand) (hop : o.op = Op.binOp .eql 29 x y tt) (b c : Bk) (hx : a.eval x = .agg b.v) (hy : a.eval y = .agg c.v)
    (hK : wpList Try.prog ops Q rest (a.put o.dst (.bool (decide (b = c)))) w) : wpList Try.prog ops Q (o :: rest) a w := by
  refine wpList_sure' hw fun K' hK' => ?_
  have hgd : (eqGuard .eql 29 x y (.agg b.v) (.agg c.v)).run Try.prog w = .ok () w := run_eqGuard_agg (P := Try.prog) w .eql _ x y _ _ gtyB
  unfold Oper.wp
  simp [execOp, hop, hx, hy, eqlB, hgd, Result.andThen]
  exact hK' _ _ hK
theorem wpNeqB (hw : Region.wanted o (yielded ops a.tmps) = true) (tt : TypeId) (x y : Operand) (hop : o.op = Op.binOp .neq 29 x y tt) (b c : Bk) (hx : a.eval x = .agg b.v) (hy : a.eval y = .agg c.v)
    (hK : wpList Try.prog ops Q rest (a.put o.dst (.bool (decide (b ≠ c)))) w) : wpList Try.prog ops Q (o :: rest) a w := by
  refine wpList_sure' hw fun K' hK' => ?_
  have hgd : (eqGuard .neq 29 x y (.agg b.v) (.agg c.v)).run Try.prog w = .ok () w := run_eqGuard_agg (P := Try.prog) w .neq _ x y _ _ gtyB
  have hr := neqB b c w
  generalize decide (b ≠ c) = D at *
  unfold Oper.wp
  simp [execOp, hop, hx, hy, hr, hgd, Result.andThen]
  exact hK' _ _ hK
end

/-! A block in a struct. -/
theorem fold_fill : ∀ (l : List Value) (j off : Nat) (C : Array Value), off + j + l.length ≤ C.size →
    (l.zipIdx j).foldl (fun cs p => cs.setIfInBounds (off + p.2) p.1) C = (C.toList.take (off + j) ++ l ++ C.toList.drop (off + j + l.length)).toArray
  | [], j, off, C, h => by simp
  | x :: l, j, off, C, h => by
    have hl : off + (j + 1) + l.length ≤ (C.setIfInBounds (off + j) x).size := by simp at h ⊢; omega
    rw [List.zipIdx_cons, List.foldl_cons, fold_fill l (j + 1) off _ hl]
    congr 1
    simp only [List.length_cons] at h
    rw [Array.toList_setIfInBounds, show off + (j + 1) = off + j + 1 by omega, List.length_cons, show off + j + (l.length + 1) = off + j + 1 + l.length by omega]
    rw [List.drop_set_of_lt (by omega)]
    congr 1
    rw [List.take_succ_eq_append_getElem (by simp; omega)]
    simp
    rw [List.take_set_of_le (by omega)]
theorem fill_agg (place : Nat → Option (Nat × Nat)) (C v : Array Value) (i off : Nat) (rest : List (Nat × Value)) (hp : place i = some (off, v.size)) (h : off + v.size ≤ C.size) :
    Instr.fill place C ((i, .agg v) :: rest) = Instr.fill place ((C.toList.take off ++ v.toList ++ C.toList.drop (off + v.size)).toArray) rest := by
  have hf := fold_fill v.toList 0 off C (by simpa using h)
  have e : v.zipIdx.foldl (fun cs p => cs.setIfInBounds (off + p.2) p.1) C = (v.toList.zipIdx 0).foldl (fun cs p => cs.setIfInBounds (off + p.2) p.1) C := by
    rw [← Array.foldl_toList, Array.toList_zipIdx]
  have hc : (Value.agg v).cells = v := rfl
  rw [Instr.fill.eq_2, hp, hc]
  dsimp only
  have hn : ¬ ((decide (v.size ≠ v.size) || decide (off + v.size > C.size)) = true) := by simp; omega
  rw [if_neg hn, e, hf]
  simp
end Go.Proofs.Ytnnhnkpbiilooaa
