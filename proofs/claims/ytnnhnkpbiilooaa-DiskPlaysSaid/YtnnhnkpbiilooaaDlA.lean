/- The document's disk: its rows of writes; in memory. -/
import Derived.Test.YtnnhnkpbiilooaaDkV
namespace Go.Proofs.Ytnnhnkpbiilooaa
open Go.RowKit Go.Maps

/-- A write, and whether it is on the disk. -/
abbrev R3 := (Nat × Bk) × Bool
/-- Its cells. -/
def rC (p : R3) : List Value := wC p.1 ++ [.bool p.2]
theorem rC_len (p : R3) : (rC p).length = 514 := by simp [rC, wC_len]
theorem rC_one (p : R3) : ∀ u ∈ rC p, u.oneCell' = true := by
  intro u hu
  rcases List.mem_append.1 hu with hu | hu
  · exact wC_one p.1 u hu
  · simp at hu; subst hu; rfl
theorem rC_drop (p : R3) : (rC p).toArray.toList.drop 513 = [.bool p.2] := by
  unfold rC
  exact List.drop_left' (wC_len p.1)
theorem rC_set (p : Nat × Bk) : (rC (p, false)).set 513 (.bool true) = rC (p, true) := by
  unfold rC
  dsimp only
  have hl := wC_len p
  generalize wC p = l at *
  rw [List.set_append, if_neg (by omega), hl]
  rfl
theorem undR : Try.prog.underlying 72 = some (.slice 76) := by kernel_rfl
theorem undRs : Try.prog.underlying 76 = some (.struct (Try.prog.fieldsOf 76)) := by kernel_rfl
theorem infR : (Try.prog.info? 76).map (fun i => (i.zero, i.size, i.bytes)) = some (some (.agg (rC ((0, Bk.zero), false)).toArray), 514, 528) := by kernel_rfl
theorem plR : (Try.prog.fieldsOf 76).toList.mapM (fun f => (Try.prog.info? f.type).map fun i => (f.offset, i.size)) = some [(0, 1), (1, 512), (513, 1)] := by kernel_rfl

/-- Number and bytes, laid in a zero. -/
theorem fillR (k : Nat) (b : Bk) (rest : List (Nat × Value)) : Instr.fill (fun i => ([(0, 1), (1, 512), (513, 1)].toArray : Array (Nat × Nat))[i]?) (rC ((0, Bk.zero), false)).toArray ((0, .int .i64 (k : Int)) :: (1, .agg b.v) :: rest) = Instr.fill (fun i => ([(0, 1), (1, 512), (513, 1)].toArray : Array (Nat × Nat))[i]?) (rC ((k, b), false)).toArray rest := by
  rw [Instr.fill.eq_2]
  have h0 : ([(0, 1), (1, 512), (513, 1)].toArray : Array (Nat × Nat))[0]? = some (0, 1) := rfl
  rw [h0]
  dsimp only
  have hc : (Value.int .i64 (k : Int)).cells = #[.int .i64 (k : Int)] := rfl
  have hl : (rC ((0, Bk.zero), false)).toArray.size = 514 := rC_len ((0, Bk.zero), false)
  have hd : (rC ((0, Bk.zero), false)).toArray.toList.drop 513 = [.bool false] := rC_drop _
  rw [hc]
  generalize (rC ((0, Bk.zero), false)).toArray = Z at *
  have hn : ¬ ((decide ((#[Value.int .i64 (k : Int)] : Array Value).size ≠ 1) || decide (0 + (#[Value.int .i64 (k : Int)] : Array Value).size > Z.size)) = true) := by rw [hl]; exact Bool.false_ne_true
  rw [if_neg hn]
  have e1 : Array.foldl (fun cs (x : Value × Nat) => cs.setIfInBounds (0 + x.snd) x.fst) Z (#[Value.int .i64 (k : Int)] : Array Value).zipIdx = Z.setIfInBounds 0 (.int .i64 (k : Int)) := rfl
  rw [e1]
  have h2 : (Z.setIfInBounds 0 (.int .i64 (k : Int))).size = 514 := by simp [hl]
  have h3 : (Z.setIfInBounds 0 (.int .i64 (k : Int))).toList.take 1 = [.int .i64 (k : Int)] := by
    obtain ⟨l⟩ := Z
    cases l with
    | nil => simp at hl
    | cons x l => rfl
  have h4 : (Z.setIfInBounds 0 (.int .i64 (k : Int))).toList.drop 513 = [.bool false] := by
    rw [Array.toList_setIfInBounds, List.drop_set_of_lt (by omega)]
    exact hd
  generalize Z.setIfInBounds 0 (.int .i64 (k : Int)) = Y at *
  rw [fill_agg _ Y b.v 1 1 rest (by rw [b.size]; rfl) (by rw [b.size, h2]; omega)]
  rw [h3, show 1 + b.v.size = 513 by rw [b.size], h4]
  rfl
theorem builtR (k : Nat) (b : Bk) : Try.prog.built 76 [(0, .int .i64 (k : Int)), (1, .agg b.v)] = some (rC ((k, b), false)).toArray := by
  obtain ⟨i, hi, hz, _, _⟩ := info_parts infR
  unfold Program.built
  rw [hi, undRs]
  dsimp only
  rw [hz, plR]
  dsimp only
  have hcz : (Value.agg (rC ((0, Bk.zero), false)).toArray).cells = (rC ((0, Bk.zero), false)).toArray := rfl
  rw [hcz]
  refine (fillR k b []).trans ?_
  rw [Instr.fill.eq_1]
theorem builtR3 (k : Nat) (b : Bk) : Try.prog.built 76 [(0, .int .i64 (k : Int)), (1, .agg b.v), (2, .bool true)] = some (rC ((k, b), true)).toArray := by
  obtain ⟨i, hi, hz, _, _⟩ := info_parts infR
  unfold Program.built
  rw [hi, undRs]
  dsimp only
  rw [hz, plR]
  dsimp only
  have hcz : (Value.agg (rC ((0, Bk.zero), false)).toArray).cells = (rC ((0, Bk.zero), false)).toArray := rfl
  rw [hcz]
  refine (fillR k b [(2, .bool true)]).trans ?_
  have hl : (rC ((k, b), false)).toArray.size = 514 := rC_len _
  have hs : (rC ((k, b), false)).toArray.setIfInBounds 513 (.bool true) = (rC ((k, b), true)).toArray := by
    rw [List.setIfInBounds_toArray]
    congr 1
    exact rC_set (k, b)
  generalize (rC ((k, b), true)).toArray = X at *
  generalize (rC ((k, b), false)).toArray = Z at *
  rw [Instr.fill.eq_2]
  have h0 : ([(0, 1), (1, 512), (513, 1)].toArray : Array (Nat × Nat))[2]? = some (513, 1) := rfl
  rw [h0]
  dsimp only
  have hc : (Value.bool true).cells = #[.bool true] := rfl
  rw [hc]
  have hn : ¬ ((decide ((#[Value.bool true] : Array Value).size ≠ 1) || decide (513 + (#[Value.bool true] : Array Value).size > Z.size)) = true) := by rw [hl]; exact Bool.false_ne_true
  rw [if_neg hn]
  have e1 : Array.foldl (fun cs (x : Value × Nat) => cs.setIfInBounds (513 + x.snd) x.fst) Z (#[Value.bool true] : Array Value).zipIdx = Z.setIfInBounds 513 (.bool true) := rfl
  rw [e1, hs, Instr.fill.eq_1]
theorem run_sliceR (p : R3) (w : World) : (Instr.buildSlice 72 1 #[(0, .agg (rC p).toArray)]).run Try.prog w = .ok (.slice (some ⟨w.heap.size, 0, none⟩) 1 1) (w.alloc (.cells (rC p).toArray 76)) := by
  obtain ⟨i, hi, hz, hs, _⟩ := info_parts infR
  exact run_slice_one undR hi hz hs (by simp [rC_len]) (by omega) (by omega) _ (by simp [rC_len]) w
theorem run_noneR (w : World) : (Instr.buildSlice 72 0 #[]).run Try.prog w = .ok (.slice (some ⟨w.heap.size, 0, none⟩) 0 0) (w.alloc (.cells #[] 76)) := by
  obtain ⟨i, hi, _, _, _⟩ := info_parts infR
  exact run_slice_none undR hi w

/-- All writes, in their row. -/
def Rr (w : World) (base : Nat) (v : Value) (l : List R3) : Prop := RowOf w base 76 514 v (l.map rC)
theorem Rr.nil (w : World) (base : Nat) : Rr w base (.slice none 0 0) [] := RowOf.nil w base _ _
theorem Rr.append {w : World} {base : Nat} {v : Value} {l : List R3} (h : Rr w base v l) (p : R3) {g : Nat} (hr : Blk w g 76 (rC p).toArray) (hl : l.length ≤ 10000000000) (hb : base ≤ w.heap.size) (ty : TypeId) :
    ∃ v' w', (Builtin.append_ #[72, 72] ty #[v, .slice (some ⟨g, 0, none⟩) 1 1]).run Try.prog w = .ok v' w' ∧ Rr w' base v' (l ++ [p]) ∧ w.grownBy w' v.ownBlock ∧ (v'.ownBlock = v.ownBlock ∨ v'.ownBlock = some w.heap.size) ∧ ∃ a n c, v' = .slice a n c := by
  obtain ⟨i, hi, hz, hs, hy⟩ := info_parts infR
  have := RowOf.append undR hi hz hs hy (by simp [Value.cells, rC_len]) (by omega) h hr (rC_len p) (rC_one p) (by simp; omega) (by omega) hb ty
  unfold Rr
  rw [List.map_append]
  exact this
theorem Rr.clone {w : World} {base base0 : Nat} {v : Value} {l : List R3} (h : Rr w base0 v l) (hl : l.length ≤ 10000000000) {r : Nat} (hr : Blk w r 76 #[]) (hb : base ≤ r) (ty : TypeId) :
    ∃ v' w', (Builtin.append_ #[72, 72] ty #[.slice (some ⟨r, 0, none⟩) 0 0, v]).run Try.prog w = .ok v' w' ∧ Rr w' base v' l ∧ w.grownBy w' (some r) ∧ (v'.ownBlock = some r ∨ v'.ownBlock = some w.heap.size) ∧ ∃ a n c, v' = .slice a n c := by
  obtain ⟨i, hi, hz, hs, hy⟩ := info_parts infR
  exact RowOf.clone undR hi hz hs hy (by simp [Value.cells, rC_len]) (by omega) h (by simp; omega) (by omega) hr hb ty
theorem Rr.form {w : World} {base : Nat} {v : Value} {l : List R3} (h : Rr w base v l) : ∃ a c, v = .slice a l.length c ∧ l.length ≤ maxLen ∧ (0 < l.length → ∃ g, a = some ⟨g, 0, none⟩) := by
  rcases RowOf.form h with ⟨rfl, h2⟩ | ⟨g, c, rfl, _, _, h4, h5⟩
  · have : l = [] := by simpa using h2
    subst this
    exact ⟨none, 0, rfl, by simp, by simp⟩
  · rw [List.length_map] at *
    exact ⟨_, c, rfl, by omega, fun _ => ⟨g, rfl⟩⟩
def R3.zero : R3 := ((0, Bk.zero), false)
/-- A write in its row: where, what, and whether it is on the disk. -/
theorem Rr.at {w : World} {base g c : Nat} {n : Nat} {l : List R3} (h : Rr w base (.slice (some ⟨g, 0, none⟩) n c) l) (j : Nat) (hj : j < l.length) :
    w.cell? ⟨g, j * 514, none⟩ = some (.int .i64 ((l.getD j R3.zero).1.1 : Int)) ∧ w.rangeAt g (j * 514 + 1) ((l.getD j R3.zero).1.2.l.map u8v) ∧ w.cell? ⟨g, j * 514 + 513, none⟩ = some (.bool (l.getD j R3.zero).2) := by
  have := RowOf.at h j (by simpa using hj)
  rw [List.getElem_map] at this
  have e : l.getD j R3.zero = l[j] := by simp [List.getD, hj]
  rw [e]
  obtain ⟨h1, h2⟩ := range_left this
  obtain ⟨h3, h4⟩ := range_head h1
  rw [wC_len] at h2
  exact ⟨h3, h4, (range_head h2).1⟩

/-- A disk's writes: those on the disk, those that wait. -/
def rows (on wt : List (Nat × Bk)) : List R3 := on.map (·, true) ++ wt.map (·, false)
theorem rows_len (on wt : List (Nat × Bk)) : (rows on wt).length = on.length + wt.length := by simp [rows]
theorem rows_fst (on wt : List (Nat × Bk)) : (rows on wt).map (·.1) = on ++ wt := by simp [rows, Function.comp_def]
theorem rows_on {on wt : List (Nat × Bk)} {i : Nat} (h : i < on.length) : (rows on wt).getD i R3.zero = (on.getD i (0, Bk.zero), true) := by
  unfold rows
  simp [List.getD, List.getElem?_append_left, h]
theorem rows_wt {on wt : List (Nat × Bk)} {i : Nat} (h : on.length ≤ i) (h2 : i < on.length + wt.length) : (rows on wt).getD i R3.zero = (wt.getD (i - on.length) (0, Bk.zero), false) := by
  have h3 : i - on.length < wt.length := by omega
  unfold rows
  simp [List.getD, List.getElem?_append_right, h, h3]
theorem rows_snoc (on wt : List (Nat × Bk)) (x : Nat × Bk) : rows on (wt ++ [x]) = rows on wt ++ [(x, false)] := by simp [rows]
theorem rows_nil (on : List (Nat × Bk)) : rows on [] = on.map (·, true) := by simp [rows]

/-- The document's disk, in its block. -/
structure Rk (w : World) (q : Nat) (kv : Value) (s : DS) (on : List (Nat × Bk)) (lv : Value) : Prop where
  blk : Blk w q 74 #[.int .i64 (s.n : Int), lv, .int .i64 (s.lf : Int), kv, .bool s.dd]
  row : Rr w 0 lv (rows on s.wt)
  kp : BlsT w kv s.kp
  fl : s.fl = putL no on
  cnt : on.length + s.wt.length ≤ s.m
  dead : s.dd = true → s.wt = [] ∧ s.lf = 0 ∧ s.kp = []
  hl : (s.lf : Int) ≤ 9223372036854775807
  hn : s.n ≤ 8192
def RkE (w : World) (q : Nat) (kv : Value) (s : DS) : Prop := ∃ on lv, Rk w q kv s on lv

theorem Rr.lt {w : World} {base : Nat} {v : Value} {l : List R3} (h : Rr w base v l) {g : Nat} (hg : v.ownBlock = some g) : base ≤ g ∧ g < w.heap.size := RowOf.lt h hg
theorem Rk.nq {w : World} {q : Nat} {kv : Value} {s : DS} {on : List (Nat × Bk)} {lv : Value} (h : Rk w q kv s on lv) : (∀ k, lv.ownBlock = some k → k ≠ q) ∧ ∀ k, kv.ownBlock = some k → k ≠ q := by
  refine ⟨fun k e hk => ?_, fun k e hk => ?_⟩
  · subst hk
    obtain ⟨cs, hw⟩ := RowOf.kind h.row e
    exact Blk.ne (show Blk w k 76 cs from hw) h.blk (by decide) rfl
  · subst hk
    obtain ⟨cs, hw⟩ := h.kp.kind e
    exact Blk.ne (show Blk w k 4 cs from hw) h.blk (by decide) rfl
theorem Rk.keep {w w' : World} {q : Nat} {kv : Value} {s : DS} {on : List (Nat × Bk)} {lv : Value} {S : Nat → Prop} (h : Rk w q kv s on lv) (hk : Kept S w w') (h1 : ¬ S q) (h2 : ∀ k, lv.ownBlock = some k → ¬ S k) (h3 : ∀ k, kv.ownBlock = some k → ¬ S k) : Rk w' q kv s on lv :=
  ⟨hk.blk h.blk h1, hk.row h.row h2, hk.own h.kp h3, h.fl, h.cnt, h.dead, h.hl, h.hn⟩
theorem RkE.new {w w' : World} {q : Nat} {kv : Value} {s : DS} (h : RkE w q kv s) (hg : w.grownBy w' none) : RkE w' q kv s := by
  obtain ⟨on, lv, h⟩ := h
  exact ⟨on, lv, h.keep (S := fun _ => False) (Kept.new hg) (fun h => h) (fun _ _ h => h) (fun _ _ h => h)⟩
/-- A disk of the code is none of its blocks. -/
theorem RkE.disk {w w' : World} {q : Nat} {kv : Value} {s : DS} (h : RkE w q kv s) (hk : KeptD w w') : RkE w' q kv s := by
  obtain ⟨on, lv, h⟩ := h
  refine ⟨on, lv, h.keep hk (kind_cells h.blk (by decide) (by decide)) (fun k e => ?_) (fun k e => h.kp.off e)⟩
  obtain ⟨cs, hw⟩ := RowOf.kind h.row e
  exact kind_cells hw (by decide) (by decide)
/-- A block of another kind is written. -/
theorem RkE.own {w w' : World} {q : Nat} {kv : Value} {s : DS} (h : RkE w q kv s) {r : Nat} {cs : Array Value} (hb : Blk w r 4 cs) (hr : kv.ownBlock ≠ some r) (hg : w.grownBy w' (some r)) : RkE w' q kv s := by
  obtain ⟨on, lv, h⟩ := h
  refine ⟨on, lv, h.keep (S := (· = r)) (Kept.of hg (fun k e => .inl (by cases e; rfl))) (fun e => ?_) (fun k e hk => ?_) (fun k e hk => hr (hk ▸ e))⟩
  · subst e; exact Blk.ne hb h.blk (by decide) rfl
  · subst hk
    obtain ⟨cs, hw⟩ := RowOf.kind h.row e
    exact Blk.ne hb (show Blk w k 76 cs from hw) (by decide) rfl

/-- What a call of the document's leaves. -/
def DoesR (w : World) (q : Nat) (kv : Value) (s' : DS) (z : Int) (e : Ending) (w' : World) : Prop :=
  ∃ kv', e = .returned (.int .i64 z) ∧ RkE w' q kv' s' ∧ Kept (· = q) w w' ∧ ∀ k, kv'.ownBlock = some k → kv.ownBlock = some k ∨ w.heap.size ≤ k
theorem RkE.does {w : World} {q : Nat} {kv : Value} {s : DS} (h : RkE w q kv s) (z : Int) : DoesR w q kv s z (.returned (.int .i64 z)) w := ⟨kv, rfl, h, Kept.refl _ _, fun _ h => .inl h⟩

section
variable {ops : Array Oper} {rest : List Oper} {o : Oper} {a : Act} {Q : Exit → Act → World → Prop} {w : World} {K : Act → World → Prop} {S : World → Prop} {E : Prop}
theorem wpLoadMidB (hw : Region.wanted o (yielded ops a.tmps) = true) (x : Operand) (hop : o.op = Op.load 29 x) (g off : Nat) (b : Bk) (hx : a.eval x = .pointer (some ⟨g, off, none⟩)) (hr : w.rangeAt g off (b.l.map u8v))
    (hK : wpList Try.prog ops Q rest (a.put o.dst (.agg b.v)) w) : wpList Try.prog ops Q (o :: rest) a w := by
  refine wpList_sure' hw fun K' hK' => ?_
  have hrun : (execOp a.eval o).run Try.prog w = .ok (.value (.agg b.v)) w := by
    unfold execOp
    simp only [hop, hx, Instr.loadAt, Instr.sureAddr, Sem.run_bind, Sem.run_pure, Result.andThen_ok, run_loadVar_mid w g off _ _ _ hr undB rfl (by rw [List.length_map, b.h]; exact infB)]
    rfl
  unfold Oper.wp
  rw [hrun]
  exact hK' _ _ hK
theorem yieldsR (hw : Region.wanted o (yielded ops a.tmps) = true) (x y : Operand) (hop : o.op = Op.build 76 #[(0, x), (1, y)]) (k : Nat) (b : Bk) (hx : a.eval x = .int .i64 (k : Int)) (hy : a.eval y = .agg b.v) : YieldsIf Try.prog ops S o (.agg (rC ((k, b), false)).toArray) a :=
  .inl ⟨hw, fun w _ => by
    have hr := run_build w 76 _ _ (builtR k b)
    unfold execOp
    simp [hop, hx, hy, hr, Result.andThen]⟩
theorem yieldsR3 (hw : Region.wanted o (yielded ops a.tmps) = true) (x y z : Operand) (hop : o.op = Op.build 76 #[(0, x), (1, y), (2, z)]) (k : Nat) (b : Bk) (hx : a.eval x = .int .i64 (k : Int)) (hy : a.eval y = .agg b.v) (hz : a.eval z = .bool true) : YieldsIf Try.prog ops S o (.agg (rC ((k, b), true)).toArray) a :=
  .inl ⟨hw, fun w _ => by
    have hr := run_build w 76 _ _ (builtR3 k b)
    unfold execOp
    simp [hop, hx, hy, hz, hr, Result.andThen]⟩
theorem stepSliceR (hg : o.guard = none) (x : Operand) (hop : o.op = Op.buildSlice 72 1 #[(0, x)]) (q : R3) (hx : a.eval x = .agg (rC q).toArray)
    (h : ∀ g w', NewC w w' g 76 (rC q).toArray → K (a.put o.dst (.slice (some ⟨g, 0, none⟩) 1 1)) w') : if Region.wanted o (yielded ops a.tmps) = true then Oper.wp Try.prog o a w K Q else E := by
  rw [if_pos (by simp [Region.wanted, hg])]
  have hr := run_sliceR q w
  have := h _ _ (NewC.mk' w 76 (rC q).toArray)
  unfold Oper.wp
  simp [execOp, hop, hx, hr, Result.andThen]
  exact this
theorem stepNoneR (hg : o.guard = none) (hop : o.op = Op.buildSlice 72 0 #[])
    (h : ∀ g w', NewC w w' g 76 #[] → K (a.put o.dst (.slice (some ⟨g, 0, none⟩) 0 0)) w') : if Region.wanted o (yielded ops a.tmps) = true then Oper.wp Try.prog o a w K Q else E := by
  rw [if_pos (by simp [Region.wanted, hg])]
  have hr := run_noneR w
  have := h _ _ (NewC.mk' w 76 #[])
  unfold Oper.wp
  simp [execOp, hop, hr, Result.andThen]
  exact this
theorem stepAppR (hg : o.guard = none) (s x : Operand) (hop : o.op = .call { callee := .builtin .append, args := #[s, x], argTypes := #[72, 72] }) (base : Nat) (v : Value) (l : List R3) (q : R3) (g : Nat)
    (hs : a.eval s = v) (hx : a.eval x = .slice (some ⟨g, 0, none⟩) 1 1) (hv : Rr w base v l) (hb : Blk w g 76 (rC q).toArray) (hl : l.length ≤ 10000000000) (hbase : base ≤ w.heap.size)
    (h : ∀ a' n' c' w', Rr w' base (.slice a' n' c') (l ++ [q]) → w.grownBy w' v.ownBlock → K (a.put o.dst (.slice a' n' c')) w') : if Region.wanted o (yielded ops a.tmps) = true then Oper.wp Try.prog o a w K Q else E := by
  rw [if_pos (by simp [Region.wanted, hg])]
  obtain ⟨v', w', h1, h2, h3, h4, a', n', c', rfl⟩ := hv.append q hb hl hbase o.type
  exact Lib.wp_append_run w s x _ _ hop _ _ hs hx _ w' h1 (h a' n' c' w' h2 h3)
theorem stepCloneR (hg : o.guard = none) (s x : Operand) (hop : o.op = .call { callee := .builtin .append, args := #[s, x], argTypes := #[72, 72] }) (base base0 : Nat) (v : Value) (l : List R3) (r : Nat)
    (hs : a.eval s = .slice (some ⟨r, 0, none⟩) 0 0) (hx : a.eval x = v) (hv : Rr w base0 v l) (hb : Blk w r 76 #[]) (hl : l.length ≤ 10000000000) (hbase : base ≤ r)
    (h : ∀ a' n' c' w', Rr w' base (.slice a' n' c') l → w.grownBy w' (some r) → K (a.put o.dst (.slice a' n' c')) w') : if Region.wanted o (yielded ops a.tmps) = true then Oper.wp Try.prog o a w K Q else E := by
  rw [if_pos (by simp [Region.wanted, hg])]
  obtain ⟨v', w', h1, h2, h3, h4, a', n', c', rfl⟩ := hv.clone hl hb hbase o.type
  exact Lib.wp_append_run w s x _ _ hop _ _ hs hx _ w' h1 (h a' n' c' w' h2 h3)
end
end Go.Proofs.Ytnnhnkpbiilooaa
