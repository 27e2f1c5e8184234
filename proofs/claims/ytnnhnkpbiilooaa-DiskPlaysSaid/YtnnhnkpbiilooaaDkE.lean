/- A disk in memory. -/
import Derived.Test.YtnnhnkpbiilooaaDkD
namespace Go.Proofs.Ytnnhnkpbiilooaa
open Go.RowKit Go.Maps

/-- A write's cells. -/
def wC (p : Nat × Bk) : List Value := .int .i64 (p.1 : Int) :: p.2.l.map u8v
theorem wC_len (p : Nat × Bk) : (wC p).length = 513 := by simp [wC, p.2.h]
theorem wC_one (p : Nat × Bk) : ∀ u ∈ wC p, u.oneCell' = true := by
  intro u hu
  rcases List.mem_cons.1 hu with rfl | hu
  · rfl
  · exact u8v_cell _ u hu
theorem undW : Try.prog.underlying 61 = some (.slice 67) := by kernel_rfl
theorem undWs : Try.prog.underlying 67 = some (.struct (Try.prog.fieldsOf 67)) := by kernel_rfl
theorem infW : (Try.prog.info? 67).map (fun i => (i.zero, i.size, i.bytes)) = some (some (.agg (wC (0, Bk.zero)).toArray), 513, 520) := by kernel_rfl
theorem plW : (Try.prog.fieldsOf 67).toList.mapM (fun f => (Try.prog.info? f.type).map fun i => (f.offset, i.size)) = some [(0, 1), (1, 512)] := by kernel_rfl

theorem builtW (k : Nat) (b : Bk) : Try.prog.built 67 [(0, .int .i64 (k : Int)), (1, .agg b.v)] = some (wC (k, b)).toArray := by
  obtain ⟨i, hi, hz, _, _⟩ := info_parts infW
  unfold Program.built
  rw [hi, undWs]
  dsimp only
  rw [hz, plW]
  dsimp only
  rw [Instr.fill.eq_2]
  have h0 : ([(0, 1), (1, 512)].toArray : Array (Nat × Nat))[0]? = some (0, 1) := rfl
  rw [h0]
  dsimp only
  have hc : (Value.int .i64 (k : Int)).cells = #[.int .i64 (k : Int)] := rfl
  have hcz : (Value.agg (wC (0, Bk.zero)).toArray).cells = (wC (0, Bk.zero)).toArray := rfl
  have hl : (wC (0, Bk.zero)).toArray.size = 513 := wC_len (0, Bk.zero)
  rw [hc, hcz]
  generalize (wC (0, Bk.zero)).toArray = Z at *
  have hn : ¬ ((decide ((#[Value.int .i64 (k : Int)] : Array Value).size ≠ 1) || decide (0 + (#[Value.int .i64 (k : Int)] : Array Value).size > Z.size)) = true) := by rw [hl]; exact Bool.false_ne_true
  rw [if_neg hn]
  have e1 : Array.foldl (fun cs (x : Value × Nat) => cs.setIfInBounds (0 + x.snd) x.fst) Z (#[Value.int .i64 (k : Int)] : Array Value).zipIdx = Z.setIfInBounds 0 (.int .i64 (k : Int)) := rfl
  rw [e1]
  have h2 : (Z.setIfInBounds 0 (.int .i64 (k : Int))).size = 513 := by simp [hl]
  have h3 : (Z.setIfInBounds 0 (.int .i64 (k : Int))).toList.take 1 = [.int .i64 (k : Int)] := by
    obtain ⟨l⟩ := Z
    cases l with
    | nil => simp at hl
    | cons x l => rfl
  generalize Z.setIfInBounds 0 (.int .i64 (k : Int)) = Y at *
  rw [fill_agg _ Y b.v 1 1 [] (by rw [b.size]; rfl) (by rw [b.size, h2]; omega)]
  rw [Instr.fill.eq_1, h3, List.drop_eq_nil_of_le (by rw [b.size]; simp; omega), List.append_nil]
  rfl

theorem run_builtW (k : Nat) (b : Bk) (w : World) : (Instr.build 67 #[(0, .int .i64 (k : Int)), (1, .agg b.v)]).run Try.prog w = .ok (.agg (wC (k, b)).toArray) w := run_build w _ _ _ (builtW k b)
theorem run_sliceW (p : Nat × Bk) (w : World) : (Instr.buildSlice 61 1 #[(0, .agg (wC p).toArray)]).run Try.prog w = .ok (.slice (some ⟨w.heap.size, 0, none⟩) 1 1) (w.alloc (.cells (wC p).toArray 67)) := by
  obtain ⟨i, hi, hz, hs, _⟩ := info_parts infW
  exact run_slice_one undW hi hz hs (by simp [wC_len]) (by omega) (by omega) _ (by simp [wC_len]) w

/-- The writes that wait. -/
def Wr (w : World) (base : Nat) (v : Value) (l : List (Nat × Bk)) : Prop := RowOf w base 67 513 v (l.map wC)
theorem Wr.nil (w : World) (base : Nat) : Wr w base (.slice none 0 0) [] := RowOf.nil w base _ _
theorem Wr.append {w : World} {base : Nat} {v : Value} {l : List (Nat × Bk)} (h : Wr w base v l) (p : Nat × Bk) {g : Nat} (hr : Blk w g 67 (wC p).toArray) (hl : l.length ≤ 10000000000) (hb : base ≤ w.heap.size) (ty : TypeId) :
    ∃ v' w', (Builtin.append_ #[61, 61] ty #[v, .slice (some ⟨g, 0, none⟩) 1 1]).run Try.prog w = .ok v' w' ∧ Wr w' base v' (l ++ [p]) ∧ w.grownBy w' v.ownBlock ∧ (v'.ownBlock = v.ownBlock ∨ v'.ownBlock = some w.heap.size) ∧ ∃ a n c, v' = .slice a n c := by
  obtain ⟨i, hi, hz, hs, hy⟩ := info_parts infW
  have := RowOf.append undW hi hz hs hy (by simp [Value.cells, wC_len]) (by omega) h hr (wC_len p) (wC_one p) (by simp; omega) (by omega) hb ty
  unfold Wr
  rw [List.map_append]
  exact this
theorem Wr.clone {w : World} {base base0 : Nat} {v : Value} {l : List (Nat × Bk)} (h : Wr w base0 v l) (hl : l.length ≤ 10000000000) {r : Nat} (hr : Blk w r 67 #[]) (hb : base ≤ r) (ty : TypeId) :
    ∃ v' w', (Builtin.append_ #[61, 61] ty #[.slice (some ⟨r, 0, none⟩) 0 0, v]).run Try.prog w = .ok v' w' ∧ Wr w' base v' l ∧ w.grownBy w' (some r) ∧ (v'.ownBlock = some r ∨ v'.ownBlock = some w.heap.size) ∧ ∃ a n c, v' = .slice a n c := by
  obtain ⟨i, hi, hz, hs, hy⟩ := info_parts infW
  exact RowOf.clone undW hi hz hs hy (by simp [Value.cells, wC_len]) (by omega) h (by simp; omega) (by omega) hr hb ty
theorem Wr.form {w : World} {base : Nat} {v : Value} {l : List (Nat × Bk)} (h : Wr w base v l) : ∃ a c, v = .slice a l.length c ∧ l.length ≤ maxLen ∧ (0 < l.length → ∃ g, a = some ⟨g, 0, none⟩) := by
  rcases RowOf.form h with ⟨rfl, h2⟩ | ⟨g, c, rfl, _, _, h4, h5⟩
  · have : l = [] := by simpa using h2
    subst this
    exact ⟨none, 0, rfl, by simp, by simp⟩
  · rw [List.length_map] at *
    exact ⟨_, c, rfl, by omega, fun _ => ⟨g, rfl⟩⟩
/-- A write in its row: where, and what. -/
theorem Wr.at {w : World} {base g c : Nat} {n : Nat} {l : List (Nat × Bk)} (h : Wr w base (.slice (some ⟨g, 0, none⟩) n c) l) (j : Nat) (hj : j < l.length) :
    w.cell? ⟨g, j * 513, none⟩ = some (.int .i64 ((l.getD j (0, Bk.zero)).1 : Int)) ∧ w.rangeAt g (j * 513 + 1) ((l.getD j (0, Bk.zero)).2.l.map u8v) := by
  have := RowOf.at h j (by simpa using hj)
  rw [List.getElem_map] at this
  have e : l.getD j (0, Bk.zero) = l[j] := by simp [List.getD, hj]
  rw [e]
  exact range_head this

/-- A slice of yes and no, whosoever's. -/
def Bls (w : World) (v : Value) (ks : List Bool) : Prop := Elems w v 1 ks.length (fun i => .bool (ks.getD i false))
/-- .. in a block of cells of such. -/
def BlsT (w : World) (v : Value) (ks : List Bool) : Prop := w.ownsRow 0 4 1 v ks.length (ks.map Value.bool)
theorem BlsT.bls {w : World} {v : Value} {ks : List Bool} (h : BlsT w v ks) : Bls w v ks := by
  have h0 := h
  obtain ⟨_, ⟨rfl, h2⟩ | ⟨g, cap, cur, rfl, _, hg, h3, h4, _⟩⟩ := h
  · exact .inl ⟨rfl, h2⟩
  · refine .inr (.inl ⟨g, 0, cap, rfl, h3, h4, fun i hi => ?_⟩)
    rw [Nat.mul_one] at hi
    have := World.ownsRow.cells h0 (g := g) rfl i (.bool (ks.getD i false)) (by simp [List.getElem?_map, List.getElem?_eq_getElem hi, List.getD])
    rw [Addr.add_mid] at this
    exact this
theorem BlsT.nil (w : World) : BlsT w (.slice none 0 0) [] := World.ownsRow_nil w 0 _ 1
theorem BlsT.kind {w : World} {v : Value} {ks : List Bool} (h : BlsT w v ks) {g : Nat} (hg : v.ownBlock = some g) : ∃ cs, w.heap[g]? = some (.cells cs 4 (0, 0)) := by
  obtain ⟨_, ⟨rfl, h2⟩ | ⟨g', cap, cur, rfl, h3, h4, _⟩⟩ := h
  · cases hg
  · cases hg; exact ⟨cur, h4⟩

/-- Where a disk's parts lie. -/
structure Foot where
  p : Nat
  m1 : Nat
  m2 : Nat
  wv : Value
  kv : Value
def Foot.has (F : Foot) (k : Nat) : Prop := k = F.p ∨ k = F.m1 ∨ k = F.m2 ∨ F.wv.ownBlock = some k

/-- A disk, in these blocks. -/
structure Dk (w : World) (base : Nat) (F : Foot) (s : DS) : Prop where
  kv : Blk w F.p 63 #[.int .i64 (s.n : Int), .map (some F.m1), F.wv, .map (some F.m2), .int .i64 (s.lf : Int), F.kv, .bool s.dd] ∧ BlsT w F.kv s.kp
  c : ∃ c, Mp w F.m1 c s.fl ∧ c + s.wt.length ≤ s.m
  nw : Mp w F.m2 s.wt.length (nwOf s.wt)
  wr : Wr w base F.wv s.wt
  ne : F.m1 ≠ F.m2
  bp : base ≤ F.p
  b1 : base ≤ F.m1
  b2 : base ≤ F.m2
  hn : s.n ≤ 8192
  hl : (s.lf : Int) ≤ 9223372036854775807
  wi : ∀ x ∈ s.wt, x.1 < s.n

theorem Dk.kvx {w : World} {base : Nat} {F : Foot} {s : DS} (h : Dk w base F s) : ∃ kv, F.kv = kv ∧ Blk w F.p 63 #[.int .i64 (s.n : Int), .map (some F.m1), F.wv, .map (some F.m2), .int .i64 (s.lf : Int), kv, .bool s.dd] ∧ BlsT w kv s.kp := ⟨_, rfl, h.kv⟩
/-- What a disk's blocks are. -/
def DKind (w : World) (k : Nat) : Prop := (∃ es c, w.heap[k]? = some (.map es c)) ∨ (∃ cs, w.heap[k]? = some (.cells cs 63 (0, 0))) ∨ ∃ cs, w.heap[k]? = some (.cells cs 67 (0, 0))

theorem Mp.kind {w : World} {b c : Nat} {f : Nat → Option Bk} (h : Mp w b c f) : ∃ es c, w.heap[b]? = some (.map es c) := by
  obtain ⟨D, ⟨es, clock, h1, _⟩, _⟩ := h
  exact ⟨es, clock, h1⟩
theorem Dk.kind {w : World} {base : Nat} {F : Foot} {s : DS} (h : Dk w base F s) {k : Nat} (hk : F.has k) : DKind w k := by
  rcases hk with rfl | rfl | rfl | hk
  · obtain ⟨h1, _⟩ := h.kv; exact .inr (.inl ⟨_, h1⟩)
  · obtain ⟨c, h1, _⟩ := h.c; exact .inl h1.kind
  · exact .inl h.nw.kind
  · exact .inr (.inr (RowOf.kind h.wr hk))
theorem Dk.from {w : World} {base : Nat} {F : Foot} {s : DS} (h : Dk w base F s) {k : Nat} (hk : F.has k) : base ≤ k ∧ k < w.heap.size := by
  rcases hk with rfl | rfl | rfl | hk
  · obtain ⟨h1, _⟩ := h.kv; exact ⟨h.bp, h1.lt⟩
  · obtain ⟨c, h1, _⟩ := h.c; exact ⟨h.b1, h1.lt⟩
  · exact ⟨h.b2, h.nw.lt⟩
  · exact RowOf.lt h.wr hk
theorem kind_cells {w : World} {k : Nat} {cs : Array Value} {t : TypeId} {fr : Nat × Nat} (h : w.heap[k]? = some (.cells cs t fr)) (h1 : t ≠ 63) (h2 : t ≠ 67) : ¬ DKind w k := by
  rintro (⟨_, _, e⟩ | ⟨_, e⟩ | ⟨_, e⟩) <;> rw [h] at e <;> cases e
  · exact h1 rfl
  · exact h2 rfl
theorem BlsT.off {w : World} {v : Value} {ks : List Bool} (h : BlsT w v ks) {k : Nat} (hk : v.ownBlock = some k) : ¬ DKind w k := by
  obtain ⟨cs, h⟩ := h.kind hk
  exact kind_cells h (by decide) (by decide)
/-- It stays what it is while none of its blocks is written. -/
theorem Dk.keep {w w' : World} {base : Nat} {F : Foot} {s : DS} {S : Nat → Prop} (h : Dk w base F s) (hk : Kept S w w') (hS : ∀ k, S k → DKind w k ∨ w.heap.size ≤ k) (hF : ∀ k, F.has k → ¬ S k) : Dk w' base F s := by
  obtain ⟨h1, h2⟩ := h.kv
  obtain ⟨c, h3, h4⟩ := h.c
  refine ⟨⟨hk.blk h1 (hF _ (.inl rfl)), hk.own h2 (fun k e hs => ?_)⟩, ⟨c, hk.mp h3 (hF _ (.inr (.inl rfl))), h4⟩, hk.mp h.nw (hF _ (.inr (.inr (.inl rfl)))), hk.row h.wr (fun k e => hF _ (.inr (.inr (.inr e)))), h.ne, h.bp, h.b1, h.b2, h.hn, h.hl, h.wi⟩
  rcases hS k hs with hs | hs
  · exact h2.off e hs
  · have := (World.ownsRow.lt h2 k e).2; omega
theorem Dk.new {w w' : World} {base : Nat} {F : Foot} {s : DS} (h : Dk w base F s) (hg : w.grownBy w' none) : Dk w' base F s := h.keep (S := fun _ => False) (Kept.new hg) (fun _ h => h.elim) (fun _ _ h => h)
end Go.Proofs.Ytnnhnkpbiilooaa
