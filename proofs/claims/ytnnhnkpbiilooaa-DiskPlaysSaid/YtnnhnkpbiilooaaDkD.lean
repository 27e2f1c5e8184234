/- Rows of structs in memory: built, appended to, read. -/
import Derived.Test.YtnnhnkpbiilooaaDkC
import Derived.Maps.AppendAt
namespace Go.Proofs.Ytnnhnkpbiilooaa
open Go.RowKit Go.Maps

section
variable {P : Program} {w w' : World} {e t : TypeId} {base size : Nat}

theorem flat_len : ∀ (rows : List (List Value)), (∀ r ∈ rows, r.length = size) → rows.flatten.length = rows.length * size
  | [], _ => by simp
  | r :: rows, h => by
    rw [List.flatten_cons, List.length_append, flat_len rows (fun r hr => h r (by simp [hr])), h r (by simp), List.length_cons, Nat.add_mul]
    omega
theorem flat_at : ∀ (rows : List (List Value)), (∀ r ∈ rows, r.length = size) → ∀ (j : Nat) (hj : j < rows.length) (i : Nat), i < size → rows.flatten[j * size + i]? = rows[j][i]?
  | [], _, j, hj, _, _ => absurd hj (by simp)
  | r :: rows, h, 0, _, i, hi => by
    rw [List.flatten_cons, Nat.zero_mul, Nat.zero_add, List.getElem?_append_left (by rw [h r (by simp)]; exact hi)]
    rfl
  | r :: rows, h, j + 1, hj, i, hi => by
    have h0 := h r (by simp)
    rw [List.flatten_cons, List.getElem?_append_right (by rw [h0, Nat.add_mul]; omega), h0, show (j + 1) * size + i - size = j * size + i by rw [Nat.add_mul]; omega]
    exact flat_at rows (fun r hr => h r (by simp [hr])) j (by simpa using hj) i hi

/-- A slice of the call's own of elements of several cells each. -/
def RowOf (w : World) (base : Nat) (e : TypeId) (size : Nat) (v : Value) (rows : List (List Value)) : Prop :=
  (∀ r ∈ rows, r.length = size) ∧ (∀ r ∈ rows, ∀ u ∈ r, u.oneCell' = true) ∧ w.ownsRow base e size v rows.length rows.flatten

theorem RowOf.nil (w : World) (base : Nat) (e : TypeId) (size : Nat) : RowOf w base e size (.slice none 0 0) [] := ⟨by simp, by simp, World.ownsRow_nil w base e size⟩
theorem RowOf.form {v : Value} {rows : List (List Value)} (h : RowOf w base e size v rows) : (v = .slice none 0 0 ∧ rows = []) ∨ ∃ g c, v = .slice (some ⟨g, 0, none⟩) rows.length c ∧ base ≤ g ∧ g < w.heap.size ∧ rows.length ≤ c ∧ c ≤ maxLen := by
  obtain ⟨_, _, _, ⟨rfl, h2⟩ | ⟨g, cap, cur, rfl, h3, h4, h5, h6, _⟩⟩ := h
  · exact .inl ⟨rfl, List.eq_nil_of_length_eq_zero h2⟩
  · exact .inr ⟨g, cap, rfl, h3, (Array.getElem?_eq_some_iff.1 h4).1, h5, h6⟩
theorem RowOf.kind {v : Value} {rows : List (List Value)} (h : RowOf w base e size v rows) {g : Nat} (hg : v.ownBlock = some g) : ∃ cs, w.heap[g]? = some (.cells cs e (0, 0)) := by
  obtain ⟨_, _, _, ⟨rfl, h2⟩ | ⟨g', cap, cur, rfl, h3, h4, _⟩⟩ := h
  · cases hg
  · cases hg; exact ⟨cur, h4⟩
theorem RowOf.lt {v : Value} {rows : List (List Value)} (h : RowOf w base e size v rows) {g : Nat} (hg : v.ownBlock = some g) : base ≤ g ∧ g < w.heap.size := World.ownsRow.lt h.2.2 g hg
theorem Kept.row {S : Nat → Prop} {v : Value} {rows : List (List Value)} (hk : Kept S w w') (h : RowOf w base e size v rows) (hs : ∀ k, v.ownBlock = some k → ¬ S k) : RowOf w' base e size v rows := ⟨h.1, h.2.1, hk.own h.2.2 hs⟩
theorem RowOf.new {v : Value} {rows : List (List Value)} (h : RowOf w base e size v rows) (hg : w.grownBy w' none) : RowOf w' base e size v rows := (Kept.new (S := fun _ => False) hg).row h (fun _ _ h => h)
theorem RowOf.based {b' : Nat} {v : Value} {rows : List (List Value)} (h : RowOf w base e size v rows) (hb : ∀ g, v.ownBlock = some g → b' ≤ g) : RowOf w b' e size v rows := by
  obtain ⟨h1, h2, h3, h4 | ⟨g, cap, cur, rfl, h5, h6⟩⟩ := h
  · exact ⟨h1, h2, h3, .inl h4⟩
  · exact ⟨h1, h2, h3, .inr ⟨g, cap, cur, rfl, hb g rfl, h6⟩⟩
/-- One of its elements. -/
theorem RowOf.at {g n c : Nat} {rows : List (List Value)} (h : RowOf w base e size (.slice (some ⟨g, 0, none⟩) n c) rows) (j : Nat) (hj : j < rows.length) : w.rangeAt g (j * size) rows[j] := fun i v hv => by
  have hi : i < size := by rw [← h.1 rows[j] (by simp)]; exact (List.getElem?_eq_some_iff.1 hv).1
  have := h.2.2.cells (g := g) rfl (j * size + i) v (by rw [flat_at rows h.1 j hj i hi]; exact hv)
  rw [Addr.add_mid, Nat.zero_add] at this
  exact this
theorem range_head {b o : Nat} {x : Value} {l : List Value} (h : w.rangeAt b o (x :: l)) : w.cell? ⟨b, o, none⟩ = some x ∧ w.rangeAt b (o + 1) l :=
  ⟨h 0 x rfl, fun j v hv => by rw [Nat.add_assoc, Nat.add_comm 1 j]; exact h (j + 1) v hv⟩
theorem range_left {b o : Nat} {l m : List Value} (h : w.rangeAt b o (l ++ m)) : w.rangeAt b o l ∧ w.rangeAt b (o + l.length) m :=
  ⟨fun j v hv => h j v (by rw [List.getElem?_append_left (List.getElem?_eq_some_iff.1 hv).1]; exact hv), fun j v hv => by rw [Nat.add_assoc]; exact h (l.length + j) v (by rw [List.getElem?_append_right (by omega)]; simpa using hv)⟩

/-- append(s, x): x of one element, laid in a block of its own. -/
theorem RowOf.append (ht : P.underlying t = some (.slice e)) {i : TypeInfo} {z : Value} {bytes : Nat} (hi : P.info? e = some i) (hz : i.zero = some z) (hsize : i.size = size) (hby : i.bytes = bytes) (hzs : z.cells.size = size) (hsz : 0 < size)
    {v : Value} {rows : List (List Value)} (h : RowOf w base e size v rows) {g : Nat} {r : List Value} (hr : Blk w g e r.toArray) (hrl : r.length = size) (hr1 : ∀ u ∈ r, u.oneCell' = true) (hl : rows.length + 1 ≤ 100000000000) (hb : bytes ≤ 1000) (hbase : base ≤ w.heap.size) (ty : TypeId) :
    ∃ v' w', (Builtin.append_ #[t, t] ty #[v, .slice (some ⟨g, 0, none⟩) 1 1]).run P w = .ok v' w' ∧ RowOf w' base e size v' (rows ++ [r]) ∧ w.grownBy w' v.ownBlock ∧ (v'.ownBlock = v.ownBlock ∨ v'.ownBlock = some w.heap.size) ∧ ∃ a n c, v' = .slice a n c := by
  obtain ⟨v', w', h1, h2, h3, h4, h5⟩ := run_append_own_at (P := P) w base t ty e i z size bytes ht hi hz hsize hby hzs hsz v rows.length rows.flatten h.2.2 ⟨g, 0, none⟩ 1 1 r (by omega)
    (fun j u hj => by rw [Addr.add_mid]; exact hr.cell (by simpa using hj)) hr1 (by unfold maxLen; omega) (by
      have := Nat.mul_le_mul hl hb
      omega) hbase
  have hrow : RowOf w' base e size v' (rows ++ [r]) := ⟨fun x hx => by
      rcases List.mem_append.1 hx with hx | hx
      · exact h.1 x hx
      · simp at hx; rw [hx]; exact hrl, fun x hx => by
      rcases List.mem_append.1 hx with hx | hx
      · exact h.2.1 x hx
      · simp at hx; rw [hx]; exact hr1, by rw [List.length_append, List.flatten_append]; simpa using h2⟩
  refine ⟨v', w', h1, hrow, h3, h5, ?_⟩
  rcases hrow.form with ⟨rfl, _⟩ | ⟨g', c, rfl, _⟩
  · exact ⟨_, _, _, rfl⟩
  · exact ⟨_, _, _, rfl⟩

/-- append(empty, s...): a copy. -/
theorem RowOf.clone (ht : P.underlying t = some (.slice e)) {i : TypeInfo} {z : Value} {bytes : Nat} (hi : P.info? e = some i) (hz : i.zero = some z) (hsize : i.size = size) (hby : i.bytes = bytes) (hzs : z.cells.size = size) (hsz : 0 < size)
    {v : Value} {base0 : Nat} {rows : List (List Value)} (h : RowOf w base0 e size v rows) (hl : rows.length ≤ 100000000000) (hb : bytes ≤ 1000) {r : Nat} (hr : Blk w r e #[]) (hbase : base ≤ r) (ty : TypeId) :
    ∃ v' w', (Builtin.append_ #[t, t] ty #[.slice (some ⟨r, 0, none⟩) 0 0, v]).run P w = .ok v' w' ∧ RowOf w' base e size v' rows ∧ w.grownBy w' (some r) ∧ (v'.ownBlock = some r ∨ v'.ownBlock = some w.heap.size) ∧ ∃ a n c, v' = .slice a n c := by
  have hown : w.ownsRow base e size (.slice (some ⟨r, 0, none⟩) 0 0) 0 [] := ⟨by simp, .inr ⟨r, 0, #[], rfl, hbase, hr, Nat.le_refl _, by unfold maxLen; omega, by simp, by simp⟩⟩
  have hlt := hr.lt
  rcases h.form with ⟨rfl, rfl⟩ | ⟨g, c, rfl, _⟩
  · refine ⟨.slice (some ⟨r, 0, none⟩) 0 0, w, ?_, ⟨by simp, by simp, hown⟩, World.grownBy.refl _ _, .inl rfl, ⟨_, _, _, rfl⟩⟩
    have hf : (Builtin.firstCells size 0 (.slice none 0 0)).run P w = .ok #[] w := run_firstCells_none w size 0 0 0
    simp [Builtin.append_, run_underlying ht, sizeOf, typeInfo, hi, hsize, Builtin.lenOf, hf, storeCells]
  · obtain ⟨v', w', h1, h2, h3, _, h5⟩ := run_append_own_at (P := P) w base t ty e i z size bytes ht hi hz hsize hby hzs hsz _ 0 [] hown ⟨g, 0, none⟩ rows.length c rows.flatten h.2.2.1
      (fun j u hj => by
        have := h.2.2.cells (g := g) rfl j u hj
        exact this) (fun u hu => by
        obtain ⟨x, hx, hux⟩ := List.mem_flatten.1 hu
        exact h.2.1 x hx u hux) (by unfold maxLen; omega) (by
        have := Nat.mul_le_mul hl hb
        rw [Nat.zero_add]
        omega) (by omega)
    have hrow : RowOf w' base e size v' rows := ⟨h.1, h.2.1, by simpa using h2⟩
    refine ⟨v', w', h1, hrow, h3, h5, ?_⟩
    rcases hrow.form with ⟨rfl, _⟩ | ⟨g', c, rfl, _⟩
    · exact ⟨_, _, _, rfl⟩
    · exact ⟨_, _, _, rfl⟩

/-- A struct in a slice of one. -/
theorem run_slice_one (ht : P.underlying t = some (.slice e)) {i : TypeInfo} {z : Array Value} (hi : P.info? e = some i) (hz : i.zero = some (.agg z)) (hsize : i.size = size) (hzs : z.size = size) (hsz : 0 < size) (hmax : size ≤ 16777216) (cs : Array Value) (hc : cs.size = size) (w : World) :
    (Instr.buildSlice t 1 #[(0, .agg cs)]).run P w = .ok (.slice (some ⟨w.heap.size, 0, none⟩) 1 1) (w.alloc (.cells cs e)) := by
  have hf : Instr.fill (fun i => some (i * size, size)) ((Array.range (1 * size)).map (z[· % z.size]!)) [(0, .agg cs)] = some cs := by
    rw [fill_agg _ _ cs 0 0 [] (by simp [hc]) (by simp [hc])]
    rw [Instr.fill.eq_1]
    congr 1
    have hd : List.drop (0 + cs.size) (Array.map (fun x => z[x % z.size]!) (Array.range (1 * size))).toList = [] := List.drop_eq_nil_of_le (by simp [hc])
    rw [hd]
    simp
  rw [Nat.one_mul] at hf
  have h0 : size ≠ 0 := by omega
  have hm : ¬ 16777216 < size := by omega
  simp [Instr.buildSlice, run_underlying ht, sizeOf, typeInfo, zeroValue, hi, hz, hsize, Value.cells, h0, hm, hf, newRow, Result.andThen]
theorem run_slice_none (ht : P.underlying t = some (.slice e)) {i : TypeInfo} (hi : P.info? e = some i) (w : World) :
    (Instr.buildSlice t 0 #[]).run P w = .ok (.slice (some ⟨w.heap.size, 0, none⟩) 0 0) (w.alloc (.cells #[] e)) := by
  simp [Instr.buildSlice, run_underlying ht, sizeOf, typeInfo, hi, Instr.fill, newRow, Result.andThen]
  have h : Array.range 0 = #[] := Array.eq_empty_of_size_eq_zero (by simp)
  rw [h, List.map_toArray]
  rfl
end
end Go.Proofs.Ytnnhnkpbiilooaa
