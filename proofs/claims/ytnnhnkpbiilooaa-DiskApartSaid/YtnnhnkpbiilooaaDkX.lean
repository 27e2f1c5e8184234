/- disk: an array of blocks that a statement keeps. -/
import Derived.Test.YtnnhnkpbiilooaaDkV
namespace Go.Proofs.Ytnnhnkpbiilooaa
open Go.RowKit Go.Maps

/-- 64 blocks. -/
structure Br where
  l : List Bk
  h : l.length = 64
def Br.zero : Br := ⟨List.replicate 64 Bk.zero, List.length_replicate⟩
def Br.rows (b : Br) : List (List Value) := b.l.map fun x => x.l.map u8v
def Br.v (b : Br) : Array Value := b.rows.flatten.toArray
def Br.set (b : Br) (k : Nat) (x : Bk) : Br := ⟨b.l.set k x, by rw [List.length_set]; exact b.h⟩
def Br.at (b : Br) (k : Nat) : Bk := b.l.getD k Bk.zero
theorem Br.rows_len (b : Br) : ∀ r ∈ b.rows, r.length = 512 := by
  intro r hr
  obtain ⟨x, _, rfl⟩ := List.mem_map.1 hr
  rw [List.length_map, x.h]
theorem Br.rows_size (b : Br) : b.rows.length = 64 := by unfold Br.rows; rw [List.length_map]; exact b.h
theorem Br.size (b : Br) : b.v.size = 32768 := by
  unfold Br.v
  rw [List.size_toArray, flat_len b.rows b.rows_len, b.rows_size]
theorem Br.at_set (b : Br) (k i : Nat) (x : Bk) (hk : k < 64) : (b.set k x).at i = if i = k then x else b.at i := by
  have := b.h
  unfold Br.at Br.set
  simp only [List.getD, List.getElem?_set]
  by_cases e : i = k
  · subst e; simp [show i < b.l.length by omega]
  · rw [if_neg (fun h => e h.symm), if_neg e]
theorem Br.zero_at (i : Nat) : Br.zero.at i = Bk.zero := by
  unfold Br.at Br.zero
  rw [List.getD_eq_getElem?_getD, List.getElem?_replicate]
  split <;> rfl
theorem Br.row_at (b : Br) (k : Nat) (hk : k < 64) : b.rows[k]'(by rw [b.rows_size]; exact hk) = (b.at k).l.map u8v := by
  have := b.h
  unfold Br.rows Br.at
  rw [List.getElem_map, List.getD_eq_getElem?_getD, List.getElem?_eq_getElem (by omega)]
  rfl
/-- One of the blocks, where it lies. -/
theorem Br.range {w : World} {r : Nat} {t : TypeId} (b : Br) (h : Blk w r t b.v) (k : Nat) (hk : k < 64) : w.rangeAt r (k * 512) ((b.at k).l.map u8v) := fun j v hv => by
  have hj : j < 512 := by have := (List.getElem?_eq_some_iff.1 hv).1; rw [List.length_map, (b.at k).h] at this; exact this
  refine h.cell ?_
  have h1 := flat_at b.rows b.rows_len k (by rw [b.rows_size]; exact hk) j hj
  unfold Br.v
  rw [List.getElem?_toArray, h1, b.row_at k hk]
  exact hv
theorem Blk.there {w : World} {r : Nat} {t : TypeId} {cs : Array Value} (h : Blk w r t cs) (o n : Nat) (hn : o + n ≤ cs.size) : w.there r o n := fun j hj => by
  refine ⟨?_, h.frozen _⟩
  rw [h.cell (i := o + j) (Array.getElem?_eq_getElem (by omega))]
  rfl
theorem flat_set {n : Nat} : ∀ (rows : List (List Value)), (∀ r ∈ rows, r.length = n) → ∀ (k : Nat), k < rows.length → ∀ r : List Value, rows.flatten.take (k * n) ++ r ++ rows.flatten.drop (k * n + n) = (rows.set k r).flatten
  | [], _, k, hk, _ => absurd hk (by simp)
  | x :: rows, h, 0, _, r => by
    rw [Nat.zero_mul, Nat.zero_add, List.take_zero, List.flatten_cons, List.set_cons_zero, List.flatten_cons, List.nil_append]
    congr 1
    have := h x (by simp)
    rw [List.drop_append, this, Nat.sub_self, List.drop_zero, List.drop_eq_nil_of_le (by omega)]
    rfl
  | x :: rows, h, k + 1, hk, r => by
    have hx := h x (by simp)
    have ih := flat_set rows (fun y hy => h y (by simp [hy])) k (by simpa using hk) r
    rw [List.set_cons_succ, List.flatten_cons, List.flatten_cons, ← ih]
    rw [List.take_append, List.drop_append, hx, show (k + 1) * n - n = k * n by rw [Nat.add_mul]; omega, show (k + 1) * n + n - n = k * n + n by rw [Nat.add_mul]; omega]
    rw [List.take_of_length_le (by rw [hx, Nat.add_mul]; omega), List.drop_eq_nil_of_le (by rw [hx, Nat.add_mul]; omega)]
    simp
theorem setCells_row {r : Nat} {t : TypeId} : ∀ (vs : List Value) (o : Nat) (cs : Array Value) (w : World), Blk w r t cs → o + vs.length ≤ cs.size →
    Blk (w.setCells r o vs) r t (cs.toList.take o ++ vs ++ cs.toList.drop (o + vs.length)).toArray ∧ w.grownBy (w.setCells r o vs) (some r)
  | [], o, cs, w, h, hl => by
    rw [World.setCells]
    refine ⟨?_, World.grownBy.refl _ _⟩
    simpa using h
  | v :: vs, o, cs, w, h, hl => by
    simp only [List.length_cons] at hl
    have h1 := h.set o v
    have g1 := h.setG o v
    obtain ⟨k1, k2⟩ := setCells_row vs (o + 1) _ _ h1 (by simp; omega)
    rw [World.setCells]
    refine ⟨?_, g1.trans k2⟩
    have e : (cs.setIfInBounds o v).toList.take (o + 1) ++ vs ++ (cs.setIfInBounds o v).toList.drop (o + 1 + vs.length) = cs.toList.take o ++ (v :: vs) ++ cs.toList.drop (o + (vs.length + 1)) := by
      rw [Array.toList_setIfInBounds, List.drop_set_of_lt (by omega), show o + (vs.length + 1) = o + 1 + vs.length by omega]
      rw [List.take_succ_eq_append_getElem (by simp; omega)]
      simp
      rw [List.take_set_of_le (by omega)]
    rw [e] at k1
    exact k1
/-- One of them is another one. -/
theorem Br.put {w : World} {r : Nat} {t : TypeId} (b : Br) (h : Blk w r t b.v) (k : Nat) (hk : k < 64) (x : Bk) : Blk (w.setCells r (k * 512) x.v.toList) r t (b.set k x).v ∧ w.grownBy (w.setCells r (k * 512) x.v.toList) (some r) := by
  have hx : x.v.toList.length = 512 := by rw [Array.length_toList]; exact x.size
  obtain ⟨k1, k2⟩ := setCells_row x.v.toList (k * 512) b.v w h (by rw [hx, b.size]; omega)
  refine ⟨?_, k2⟩
  have e := flat_set b.rows b.rows_len k (by rw [b.rows_size]; exact hk) (x.l.map u8v)
  have e2 : (b.set k x).rows = b.rows.set k (x.l.map u8v) := by unfold Br.rows Br.set; rw [List.map_set]
  unfold Br.v at k1 ⊢
  rw [e2, ← e]
  rw [hx] at k1
  simpa [Bk.v] using k1

theorem undBr : Try.prog.underlying 57 = some (.array 64 29) := by kernel_rfl
/-- Noughts, as the program's types have them. -/
def zz0 : List Value := List.replicate 64 (.int .u8 0)
def zz1 : List Value := zz0.append zz0
def zz2 : List Value := zz1.append zz1
def zz3 : List Value := zz2.append zz2
def zz4 : List Value := zz3.append zz3
def zz5 : List Value := zz4.append zz4
def zz6 : List Value := zz5.append zz5
def zz7 : List Value := zz6.append zz6
def zz8 : List Value := zz7.append zz7
def zz9 : List Value := zz8.append zz8
theorem zz_app {n m : Nat} {l : List Value} {v : Value} (h : l = List.replicate n v) (hm : n + n = m) : l.append l = List.replicate m v := by
  subst h hm
  exact List.replicate_append_replicate
theorem zz0e : zz0 = List.replicate 64 (.int .u8 0) := rfl
theorem zz1e : zz1 = List.replicate 128 (.int .u8 0) := zz_app zz0e rfl
theorem zz2e : zz2 = List.replicate 256 (.int .u8 0) := zz_app zz1e rfl
theorem zz3e : zz3 = List.replicate 512 (.int .u8 0) := zz_app zz2e rfl
theorem zz4e : zz4 = List.replicate 1024 (.int .u8 0) := zz_app zz3e rfl
theorem zz5e : zz5 = List.replicate 2048 (.int .u8 0) := zz_app zz4e rfl
theorem zz6e : zz6 = List.replicate 4096 (.int .u8 0) := zz_app zz5e rfl
theorem zz7e : zz7 = List.replicate 8192 (.int .u8 0) := zz_app zz6e rfl
theorem zz8e : zz8 = List.replicate 16384 (.int .u8 0) := zz_app zz7e rfl
theorem zz9e : zz9 = List.replicate 32768 (.int .u8 0) := zz_app zz8e rfl
theorem Br.zero_v : Br.zero.v = zz9.toArray := by
  rw [zz9e]
  have h1 : Br.zero.rows = List.replicate 64 (List.replicate 512 (Value.int .u8 0)) := by
    unfold Br.rows Br.zero Bk.zero
    rw [List.map_replicate, List.map_replicate]
    rfl
  unfold Br.v
  rw [h1, List.flatten_replicate_replicate]
theorem zeroBr (w : World) : (zeroValue 57).run Try.prog w = .ok (.agg Br.zero.v) w := by
  rw [Br.zero_v]
  have h : (Try.prog.info? 57).map (·.zero) = some (some (.agg zz9.toArray)) := by kernel_rfl
  rcases hi : Try.prog.info? 57 with _ | i
  · simp [hi] at h
  · simp [hi] at h
    simp [zeroValue, typeInfo, hi, h]

/-- The array has what the blocks are. -/
def Holds (b : Br) (f : Nat → Option Bk) : Prop := ∀ i, i < 64 → (f i).getD Bk.zero = b.at i
theorem Holds.zero : Holds Br.zero no := fun i _ => by rw [Br.zero_at]; rfl
theorem Holds.put {b : Br} {f : Nat → Option Bk} (h : Holds b f) {k : Nat} (hk : k < 64) (x : Bk) : Holds (b.set k x) (upd f k x) := fun i hi => by
  rw [Br.at_set b k i x hk]
  unfold upd
  by_cases e : i = k
  · rw [if_pos e, if_pos e]; rfl
  · rw [if_neg e, if_neg e]; exact h i hi

section
variable {ops : Array Oper} {o : Oper} {a : Act} {Q : Exit → Act → World → Prop} {w : World} {K : Act → World → Prop} {S : World → Prop} {E : Prop}
theorem yieldsNeqB (hw : Region.wanted o (yielded ops a.tmps) = true) (tt : TypeId) (x y : Operand) (hop : o.op = Op.binOp .neq 29 x y tt) (b c : Bk) (hx : a.eval x = .agg b.v) (hy : a.eval y = .agg c.v) (D : Bool) (hD : decide (b ≠ c) = D) : YieldsIf Try.prog ops S o (.bool D) a :=
  .inl ⟨hw, fun w _ => by
    have hgd : (eqGuard .neq 29 x y (.agg b.v) (.agg c.v)).run Try.prog w = .ok () w := run_eqGuard_agg (P := Try.prog) w .neq _ x y _ _ gtyB
    have hr := neqB b c w
    rw [hD] at hr
    unfold execOp
    simp [hop, hx, hy, hr, hgd, Result.andThen]⟩
theorem stepStoreMid (hg : o.guard = none) (x y : Operand) (hop : o.op = Op.store 29 x y) (r : Nat) (t : TypeId) (k : Nat) (hk : k < 64) (b : Br) (c : Bk) (hx : a.eval x = .pointer (some ⟨r, k * 512, none⟩)) (hy : a.eval y = .agg c.v) (hb : Blk w r t b.v)
    (h : ∀ w', Blk w' r t (b.set k c).v → w.grownBy w' (some r) → K (a.put o.dst undef) w') : if Region.wanted o (yielded ops a.tmps) = true then Oper.wp Try.prog o a w K Q else E := by
  rw [if_pos (by simp [Region.wanted, hg])]
  obtain ⟨k1, k2⟩ := b.put hb k hk c
  exact wp_store_mid _ x y hop r (k * 512) c.v hx hy (hb.there _ _ (by rw [c.size, b.size]; omega)) (rowB c) c.one (h _ k1 k2)
end
end Go.Proofs.Ytnnhnkpbiilooaa
