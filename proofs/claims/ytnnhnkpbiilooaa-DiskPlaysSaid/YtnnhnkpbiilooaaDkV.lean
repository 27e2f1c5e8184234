/- disk: arrays of bytes that a statement keeps; yes and no that came in. -/
import Derived.Test.YtnnhnkpbiilooaaDkS
import Derived.Deep.Grids
import Derived.Deep.RegionHeld3
namespace Go.Proofs.Ytnnhnkpbiilooaa
open Go.RowKit Go.Maps

section
variable {ops : Array Oper} {rest : List Oper} {o : Oper} {a : Act} {Q : Exit → Act → World → Prop} {w : World} {t : TypeId}
/-- 'var x T' of an aggregate. -/
theorem wpAllocT {z : Array Value} (hz : ∀ w, (zeroValue t).run Try.prog w = .ok (.agg z) w) (hg : o.guard = none) (hop : o.op = Op.alloc t) (hK : ∀ g w', NewC w w' g t z → wpList Try.prog ops Q rest (a.put o.dst (.pointer (some ⟨g, 0, none⟩))) w') : wpList Try.prog ops Q (o :: rest) a w := by
  have h := hK _ _ (NewC.mk' w t z)
  refine wpList_plain hg fun K' hK' => ?_
  unfold Oper.wp
  simp [execOp, hop, Instr.alloc, hz, newVar, newRow, Value.cells, Result.andThen]
  exact hK' _ _ h
theorem wpStoreT (hg : o.guard = none) (x y : Operand) (hop : o.op = Op.store t x y) (g : Nat) (cs old : Array Value) (hx : a.eval x = .pointer (some ⟨g, 0, none⟩)) (hy : a.eval y = .agg cs) (hb : Blk w g t old) (hi : (Try.prog.info? t).map (·.size) = some cs.size) (h2 : old.size = cs.size) (h3 : cs.all (·.oneCell') = true)
    (hK : ∀ w', Blk w' g t cs → w.grownBy w' (some g) → wpList Try.prog ops Q rest (a.put o.dst undef) w') : wpList Try.prog ops Q (o :: rest) a w := by
  have hB : Blk (w.setRow g cs) g t cs := setRow_heap w g _ _ _ _ hb
  have hG : w.grownBy (w.setRow g cs) (some g) := ⟨rfl, rfl, rfl, by simp, fun k _ hk => setRow_other w g k _ (fun e => hk (by rw [e]))⟩
  exact wpList_plain hg fun _ h => wp_store_row _ x y hop g cs hx hy _ old hb hi h2 h3 (h _ _ (hK _ hB hG))
theorem wpLoadT {n : Nat} {e : TypeId} (hu : Try.prog.underlying t = some (.array n e)) (hg : o.guard = none) (x : Operand) (hop : o.op = Op.load t x) (g : Nat) (cs : Array Value) (hx : a.eval x = .pointer (some ⟨g, 0, none⟩)) (hb : Blk w g t cs) (hi : (Try.prog.info? t).map (·.size) = some cs.size)
    (hK : wpList Try.prog ops Q rest (a.put o.dst (.agg cs)) w) : wpList Try.prog ops Q (o :: rest) a w :=
  wpList_plain hg fun _ h => wp_load_row _ x hop g hx _ _ (0, 0) _ hb hu rfl hi (h _ _ hK)
end

/-- 64 bytes. -/
structure Ar where
  l : List UInt8
  h : l.length = 64
def Ar.zero : Ar := ⟨List.replicate 64 0, List.length_replicate⟩
def Ar.v (b : Ar) : Array Value := (b.l.map u8v).toArray
def Ar.set (b : Ar) (k : Nat) (x : UInt8) : Ar := ⟨b.l.set k x, by rw [List.length_set]; exact b.h⟩
def Ar.at (b : Ar) (k : Nat) : UInt8 := b.l.getD k 0
theorem Ar.size (b : Ar) : b.v.size = 64 := by simp [Ar.v, b.h]
theorem Ar.one (b : Ar) : b.v.all (·.oneCell') = true := Array.all_eq_true_iff_forall_mem.2 (fun v hv => u8v_cell b.l v (by simpa [Ar.v] using hv))
theorem Ar.get (b : Ar) (k : Nat) (hk : k < 64) : b.v[k]? = some (.int .u8 ((b.at k).toNat : Int)) := by
  have := b.h
  unfold Ar.v Ar.at
  simp [List.getD, show k < b.l.length by omega, u8v]
theorem Ar.put (b : Ar) (k : Nat) (x : UInt8) : b.v.setIfInBounds k (.int .u8 (x.toNat : Int)) = (b.set k x).v := set_u8v b.l k x
theorem Ar.at_set (b : Ar) (k i : Nat) (x : UInt8) (hk : k < 64) : (b.set k x).at i = if i = k then x else b.at i := by
  have := b.h
  unfold Ar.at Ar.set
  simp only [List.getD, List.getElem?_set]
  by_cases e : i = k
  · subst e; simp [show i < b.l.length by omega]
  · rw [if_neg (fun h => e h.symm), if_neg e]
theorem Ar.zero_at (i : Nat) : Ar.zero.at i = 0 := by
  unfold Ar.at Ar.zero
  rw [List.getD_eq_getElem?_getD, List.getElem?_replicate]
  split <;> rfl

theorem undA : Try.prog.underlying 53 = some (.array 64 5) := by kernel_rfl
theorem infA : (Try.prog.info? 53).map (·.size) = some 64 := by kernel_rfl
theorem rowA (b : Ar) : (Try.prog.info? 53).map (·.size) = some b.v.size := by rw [b.size]; exact infA
theorem zeroA (w : World) : (zeroValue 53).run Try.prog w = .ok (.agg Ar.zero.v) w := by
  have h : (Try.prog.info? 53).map (·.zero) = some (some (.agg Ar.zero.v)) := by kernel_rfl
  rcases hi : Try.prog.info? 53 with _ | i
  · simp [hi] at h
  · simp [hi] at h
    simp [zeroValue, typeInfo, hi, h]

/-- The array names each block's byte; 0: it was never written. -/
def Names (b : Ar) (f : Nat → Option Bk) : Prop := ∀ i, i < 64 → f i = if b.at i = 0 then none else some (Bk.of (b.at i))
theorem Names.zero : Names Ar.zero no := fun i _ => by rw [Ar.zero_at, if_pos rfl]; rfl
theorem Names.put {b : Ar} {f : Nat → Option Bk} (h : Names b f) {k : Nat} (hk : k < 64) {c : UInt8} (hc : c ≠ 0) : Names (b.set k c) (upd f k (Bk.of c)) := fun i hi => by
  rw [Ar.at_set b k i c hk]
  unfold upd
  by_cases e : i = k
  · rw [if_pos e, if_pos e, if_neg hc]
  · rw [if_neg e, if_neg e]; exact h i hi
theorem Names.want {b : Ar} {f : Nat → Option Bk} (h : Names b f) {i : Nat} (hi : i < 64) : (f i).getD Bk.zero = Bk.want (b.at i) := by
  rw [h i hi]
  unfold Bk.want
  split <;> rfl

theorem kept_step (l : List (Nat × Bk)) (ks : List Bool) (j : Nat) (hj : j < l.length) : kept (l.take (j + 1)) ks = if ks.getD j false then kept (l.take j) ks ++ [l.getD j (0, Bk.zero)] else kept (l.take j) ks := by
  induction l generalizing ks j with
  | nil => simp at hj
  | cons q l ih =>
    cases ks with
    | nil => simp [kept_nil]
    | cons b ks =>
      cases j with
      | zero => cases b <;> simp [kept]
      | succ j =>
        have := ih ks j (by simpa using hj)
        rw [List.take_succ_cons, List.take_succ_cons]
        simp only [kept, List.getD_cons_succ]
        rw [this]
        cases b <;> cases ks.getD j false <;> simp

/-- A slice of yes and no that came in. -/
theorem open_bls {H : Type} {enc : TypeId × Value → H} {P : Program} {t e : TypeId} (ht : P.underlying t = some (.slice e)) (he : P.underlying e = some .bool) (hc : P.cellsOf e = 1) {W : World} {base : Nat} {v : Value} {d : DataW H} {p : List MemPlace} (hval : Value.okWide P W .any base t v)
    (h : DataW.Trod enc P W 0 (fun _ => true) true t v d p) : ∃ ks, Bls W v ks := by
  obtain ⟨a1, len, cap, rfl⟩ := WideShapes.okWide_slice ht hval
  obtain ⟨fuel, hf⟩ := h
  rcases Deep.open_bools ht he hc hf with ⟨hcs, _⟩ | ⟨a, len', cap', B, hcs, _, hl, hm, hx, hcell⟩
  · simp [Value.cells] at hcs
    obtain ⟨rfl, rfl, rfl⟩ := hcs
    exact ⟨[], .inl ⟨rfl, rfl⟩⟩
  · simp [Value.cells] at hcs
    obtain ⟨rfl, rfl, rfl⟩ := hcs
    have hlen : ((List.range len).map B).length = len := by simp
    refine ⟨(List.range len).map B, ?_⟩
    by_cases h0 : cap = 0
    · obtain rfl : cap = 0 := h0
      obtain rfl : len = 0 := by omega
      exact .inr (.inr ⟨a, rfl, by simp⟩)
    · obtain ⟨ab, ao, spot⟩ := a
      have hspot : spot = none := by simpa [Addr.add] using World.cell?_spot (hcell 0 (by omega))
      subst hspot
      refine .inr (.inl ⟨ab, ao, cap, by rw [hlen], by rw [hlen]; exact hl, hm, fun i hi => ?_⟩)
      rw [hlen, Nat.mul_one] at hi
      have hcj := hcell i (by omega)
      rw [add_off] at hcj
      rw [hcj]
      simp [List.getD, hi]
end Go.Proofs.Ytnnhnkpbiilooaa
